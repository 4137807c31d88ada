/- Own texts, one behind the other (part 5). -/
import Derived.Test.YtgpaleifhcdjnaaGreatDoorBundleD
import Derived.Test.YtgpaleifhcdjnaaGreatDoorRows
import Derived.Test.YtgpaleifhcdjnaaGreatDoorCards
import Derived.Test.YtgpaleifhcdjnaaGreatDoorTie
import Derived.Deep.AppendLies
import Derived.Deep.RegionLaw
import Derived.Deep.DeepCutAuto
import Derived.RegionDies
/- Package scope: the resolver's rules. -/
namespace Go.Proofs.YtgpaleifhcdjnaaGreatDoor
open Go.RowKit

def plCells (x : Sc.Lit × Value) : List Value := [.int .i64 x.1.kind, .int .i64 x.1.op, .int .i64 x.1.pred, x.2]
def PLitsP (B : Nat) (w : World) (v : Value) (l : List Sc.Lit) : Prop := ∃ q : List (Sc.Lit × Value), q.map (·.1) = l ∧ RowP B w 84 4 v (q.map plCells) ∧ ∀ p, p ∈ q → PTermsP B w p.2 p.1.terms
theorem A_info84 : (Tryz.prog.info? 84).map (fun i => (i.zero, i.size, i.bytes)) = some (some (.agg #[.int .i64 0, .int .i64 0, .int .i64 0, .slice none 0 0]), 4, 48) := by kernel_rfl
theorem own_fr {B0 RV base k n : Nat} {w w' : World} {e : TypeId} {v : Value} {xs : List Value} (h : w.ownsRow base e k v n xs) (hf : FrL B0 RV w w') (hr : RV < base) (h3 : ¬ e = 3) (h9 : ¬ e = 9) : w'.ownsRow base e k v n xs :=
  ownsRow_same h fun g cur fz hb hh => hf.cel g cur e fz hh (by omega) h3 h9
theorem FrL.box {B0 RV b : Nat} {w w' : World} {cur : Array Value} {e : TypeId} {fz : Nat × Nat} (hf : FrL B0 RV w w') (hb : w.heap[b]? = some (.cells cur e fz)) (h1 : ¬ b = RV) (h3 : ¬ e = 3) (h9 : ¬ e = 9) : w'.heap[b]? = some (.cells cur e fz) := (hf.cel b cur e fz hb h1 h3 h9).trans hb
/-- A block of cells of another kind than the row that is appended to stands. -/
theorem grown_cells {w w' : World} {base k n b : Nat} {e e' : TypeId} {v : Value} {xs : List Value} {cur : Array Value} {fz : Nat × Nat} (hg : w.grownBy w' v.ownBlock) (ho : w.ownsRow base e k v n xs) (hb : w.heap[b]? = some (.cells cur e' fz)) (hne : ¬ e' = e) : w'.heap[b]? = some (.cells cur e' fz) :=
  (hg.block b (heap_lt hb) (fun hv => by
    rcases ho.2 with ⟨rfl, _⟩ | ⟨g, cap, cur', rfl, _, hbk, _⟩
    · cases hv
    · have hgg : b = g := by simpa [Value.ownBlock] using hv
      subst hgg
      rw [hbk] at hb
      injection hb with hb
      injection hb with _ q _
      exact hne q.symm)).trans hb
theorem grown_num {w w' : World} {base k n M : Nat} {e : TypeId} {v : Value} {xs : List Value} {ns : List (List UInt8)} (hg : w.grownBy w' v.ownBlock) (ho : w.ownsRow base e k v n xs) (h : NumAt w M ns) : NumAt w' M ns :=
  h.same (hg.block M h.lt (fun hv => by
    rcases ho.2 with ⟨rfl, _⟩ | ⟨g, cap, cur', rfl, _, hbk, _⟩
    · cases hv
    · have hgg : M = g := by simpa [Value.ownBlock] using hv
      subst hgg
      exact numAt_cells h hbk))
theorem RsI.app {B RV M : Nat} {st : Sc.St} {va vn vr : Value} {w w' : World} {base k n : Nat} {e : TypeId} {v : Value} {xs : List Value} (h : RsI B RV M st va vn vr w) (hg : w.grownBy w' v.ownBlock) (ho : w.ownsRow base e k v n xs) (h3 : ¬ e = 3) (h9 : ¬ e = 9) (h123 : ¬ e = 123) : RsI B RV M st va vn vr w' :=
  ⟨grown_cells hg ho h.box (fun q => h123 q.symm), ownsRow_same h.oa fun _ _ _ _ hh => (grown_cells hg ho hh (fun q => h3 q.symm)).trans hh.symm, ownsRow_same h.on fun _ _ _ _ hh => (grown_cells hg ho hh (fun q => h9 q.symm)).trans hh.symm, grown_num hg ho h.num, h.len, h.rb, h.mb, h.ne, Nat.le_trans h.sz hg.size⟩
theorem RowP.app {B base k n k2 : Nat} {w w' : World} {e e2 : TypeId} {v v2 : Value} {xs : List Value} {cs : List (List Value)} (h : RowP B w e2 k2 v2 cs) (hg : w.grownBy w' v.ownBlock) (ho : w.ownsRow base e k v n xs) (hne : ¬ e2 = e) : RowP B w' e2 k2 v2 cs :=
  RowP.keep (E := (· = e2)) h (fun b cur e' fz (he : e' = e2) _ hh => by subst he; exact (grown_cells hg ho hh hne).trans hh.symm) rfl
theorem FrL.app {B0 RV base k n : Nat} {w w1 w' : World} {e : TypeId} {v : Value} {xs : List Value} (h : FrL B0 RV w w1) (hg : w1.grownBy w' v.ownBlock) (ho : w1.ownsRow base e k v n xs) (hb : w.heap.size ≤ base) (h0 : B0 ≤ w.heap.size) : FrL B0 RV w w' := by
  have hne : ∀ i, i < w.heap.size → some i ≠ v.ownBlock := fun i hi he => by have := (ho.lt i he.symm).1; omega
  have hs := h.size
  exact ⟨hg.os.trans h.os, hg.tape.trans h.tape, hg.output.trans h.output, Nat.le_trans hs hg.size, fun k hk => (hg.block k (by omega) (hne k (by omega))).trans (h.low k hk), fun k cur e fz hh h1 h2 h3 => (hg.block k (by have := heap_lt hh; omega) (hne k (heap_lt hh))).trans (h.cel k cur e fz hh h1 h2 h3)⟩

abbrev froObj (r : Tr.Rule) (v u : Value) : Obj := .cells #[.int .i64 r.at_, .string ⟨r.name.toArray⟩, v, .int .i64 r.fold, u] 57
abbrev zroObj : Obj := .cells #[.int .i64 0, .slice none 0 0, .int .i64 0, .slice none 0 0, .int .i64 0] 67
/-- What stands while a rule is resolved. -/
structure RuI (B0 B RV M : Nat) (st : Sc.St) (vs : List (List UInt8)) (va vn vr : Value) (w : World) (fo : Obj) (k fold : Int) (vt vb : Value) (tl : List Sc.Term) (q : List (Sc.Lit × Value)) (wr : World) : Prop where
  rs : RsV B0 B RV M (w.heap.size + 1 + 1) st vs va vn vr wr
  fb : wr.heap[w.heap.size]? = some fo
  zb : wr.heap[w.heap.size + 1]? = some zroObj
  bx : wr.heap[w.heap.size + 1 + 1 + 1]? = some (.cells #[.int .i64 k, vt, .int .i64 fold, vb, .int .i64 0] 67 (0, 0))
  ow : wr.ownsRow (w.heap.size + 4) 84 4 vb q.length (q.map plCells).flatten
  ts : ∀ p, p ∈ q → PTermsP B wr p.2 p.1.terms
  tm : PTermsP B wr vt tl
  fr : FrL B0 RV w wr
  sz : w.heap.size + 4 ≤ wr.heap.size
section
variable {B0 B RV M : Nat} {st st1 : Sc.St} {vs vs1 : List (List UInt8)} {va vn va1 vn1 vr : Value} {w : World} {r : Tr.Rule} {fv fu : Value} {k fold : Int} {vt vb : Value} {tl : List Sc.Term} {q : List (Sc.Lit × Value)} {wr w2 : World}
theorem RuI.lit (h : RuI B0 B RV M st vs va vn vr w (froObj r fv fu) k fold vt vb tl q wr) (hR : RsV B0 B RV M (w.heap.size + 1 + 1) st1 vs1 va1 vn1 vr w2) (hf : FrL B0 RV wr w2) (hw : B ≤ w.heap.size) : RuI B0 B RV M st1 vs1 va1 vn1 vr w (froObj r fv fu) k fold vt vb tl q w2 := by
  have hrb := h.rs.rs.rb
  have hz2 := h.rs.z2
  exact ⟨hR, hf.box h.fb (by omega) (by decide) (by decide), hf.box h.zb (by omega) (by decide) (by decide), hf.box h.bx (by omega) (by decide) (by decide), own_fr h.ow hf (by omega) (by decide) (by decide), fun p hp => ⟨RowP.fr (h.ts p hp).1 hf hrb (by decide) (by decide), (h.ts p hp).2⟩, ⟨RowP.fr h.tm.1 hf hrb (by decide) (by decide), h.tm.2⟩, h.fr.trans hf, Nat.le_trans h.sz hf.size⟩
theorem RuI.below (h : RuI B0 B RV M st vs va vn vr w (froObj r fv fu) k fold vt vb tl q wr) (hb : Below wr.heap.size wr w2) (hw : B ≤ w.heap.size) (h0 : B0 ≤ B) : RuI B0 B RV M st vs va vn vr w (froObj r fv fu) k fold vt vb tl q w2 :=
  h.lit (h.rs.below hb) (FrL.of_below hb (by have := h.sz; omega)) hw
theorem RuI.cells (h : RuI B0 B RV M st vs va vn vr w (froObj r fv fu) k fold vt vb tl q wr) :
    wr.cell? ⟨w.heap.size + 1 + 1 + 1, 3, none⟩ = some vb ∧ wr.frozen? ⟨w.heap.size + 1 + 1 + 1, 3, none⟩ = false ∧ wr.cell? ⟨w.heap.size + 1 + 1 + 1, 1, none⟩ = some vt ∧ wr.frozen? ⟨w.heap.size + 1 + 1 + 1, 1, none⟩ = false ∧
    wr.cell? ⟨w.heap.size + 1 + 1 + 1, 4, none⟩ = some (.int .i64 0) ∧ wr.frozen? ⟨w.heap.size + 1 + 1 + 1, 4, none⟩ = false ∧ wr.cell? ⟨w.heap.size + 1 + 1 + 1, 0, none⟩ = some (.int .i64 k) ∧ wr.cell? ⟨w.heap.size + 1 + 1 + 1, 2, none⟩ = some (.int .i64 fold) :=
  ⟨by rw [Lib.cell_of_heap h.bx]; rfl, Lib.frozen_of_heap h.bx 3, by rw [Lib.cell_of_heap h.bx]; rfl, Lib.frozen_of_heap h.bx 1, by rw [Lib.cell_of_heap h.bx]; rfl, Lib.frozen_of_heap h.bx 4, by rw [Lib.cell_of_heap h.bx]; rfl, by rw [Lib.cell_of_heap h.bx]; rfl⟩
/-- One literal more: the row is grown, the rule's box is set. -/
theorem RuI.put {x : Sc.Lit} {xv vb2 : Value} (h : RuI B0 B RV M st vs va vn vr w (froObj r fv fu) k fold vt vb tl q wr) (hg : wr.grownBy w2 vb.ownBlock) (ho : w2.ownsRow (w.heap.size + 4) 84 4 vb2 (q.length + 1) ((q.map plCells).flatten ++ plCells (x, xv))) (hx : PTermsP B wr xv x.terms) (hw : B ≤ w.heap.size) (h0 : B0 ≤ B) :
    RuI B0 B RV M st vs va vn vr w (froObj r fv fu) k fold vt vb2 tl (q ++ [(x, xv)]) (w2.setCell ⟨w.heap.size + 1 + 1 + 1, 3, none⟩ vb2) := by
  have hrb := h.rs.rs.rb
  have hmb := h.rs.rs.mb
  have hz2 := h.rs.z2
  have hs := SetB.one (w.heap.size + 1 + 1 + 1) w2 3 vb2
  have hbx := grown_cells hg h.ow h.bx (by decide)
  have hR2 : RsV B0 B RV M (w.heap.size + 1 + 1) st vs va vn vr w2 := ⟨h.rs.rs.app hg h.ow (by decide) (by decide) (by decide), grown_num hg h.ow h.rs.vm, h.rs.z0, h.rs.z1, h.rs.z2, h.rs.z3⟩
  have keepT : ∀ v l, PTermsP B wr v l → PTermsP B (w2.setCell ⟨w.heap.size + 1 + 1 + 1, 3, none⟩ vb2) v l := fun v l hT => ⟨RowP.keep (E := (· = 130)) (RowP.app hT.1 hg h.ow (by decide)) (fun b cur e fz (he : e = 130) _ hh => hs.block b (fun hb => by
    subst hb
    subst he
    rw [hbx] at hh
    injection hh with hh
    injection hh with _ q _
    cases q)) rfl, hT.2⟩
  refine ⟨hR2.setB hs hbx (by omega) (by omega) (by decide) (by decide), (hs.block _ (by omega)).trans (grown_cells hg h.ow h.fb (by decide)), (hs.block _ (by omega)).trans (grown_cells hg h.ow h.zb (by decide)), ?_, ?_, ?_, keepT _ _ h.tm, (h.fr.app hg h.ow (by omega) (by omega)).setB hs (by omega) (by omega), by rw [hs.size]; exact Nat.le_trans h.sz hg.size⟩
  · rw [Lib.heap_setCell_same hbx]; rfl
  · have := ownsRow_setCell_below ho (a := ⟨w.heap.size + 1 + 1 + 1, 3, none⟩) (show w.heap.size + 1 + 1 + 1 < w.heap.size + 4 by omega) vb2
    simpa using this
  · intro p hp
    rcases List.mem_append.mp hp with hp | hp
    · exact keepT _ _ (h.ts p hp)
    · obtain rfl : p = (x, xv) := by simpa using hp
      exact keepT _ _ hx
theorem RuI.rebox {k2 : Int} {vt2 : Value} {tl2 : List Sc.Term} (h : RuI B0 B RV M st vs va vn vr w (froObj r fv fu) k fold vt vb tl q wr) (hs : SetB (w.heap.size + 1 + 1 + 1) wr w2) (hbx : w2.heap[w.heap.size + 1 + 1 + 1]? = some (.cells #[.int .i64 k2, vt2, .int .i64 fold, vb, .int .i64 0] 67 (0, 0))) (hT : PTermsP B wr vt2 tl2) (hw : B ≤ w.heap.size) (h0 : B0 ≤ B) :
    RuI B0 B RV M st vs va vn vr w (froObj r fv fu) k2 fold vt2 vb tl2 q w2 := by
  have hrb := h.rs.rs.rb
  have hmb := h.rs.rs.mb
  have hb := h.bx
  have keepT : ∀ v l, PTermsP B wr v l → PTermsP B w2 v l := fun v l hT => ⟨RowP.keep (E := (· = 130)) hT.1 (fun b cur e fz (he : e = 130) _ hh => hs.block b (fun hbb => by
    subst hbb
    subst he
    rw [hb] at hh
    injection hh with hh
    injection hh with _ q _
    cases q)) rfl, hT.2⟩
  exact ⟨h.rs.setB hs hb (by omega) (by omega) (by decide) (by decide), (hs.block _ (by omega)).trans h.fb, (hs.block _ (by omega)).trans h.zb, hbx, ownsRow_same h.ow fun g cur fz hbg _ => hs.block g (by omega), fun p hp => keepT _ _ (h.ts p hp), keepT _ _ hT, h.fr.setB hs (by omega) (by omega), by rw [hs.size]; exact h.sz⟩
theorem RuI.start (hI : RsI B RV M st va vn vr w) (h0 : B0 ≤ RV) (h1 : B0 ≤ M) (r : Tr.Rule) (fv fu : Value) (fold : Int) : RuI B0 B RV M st [] va vn vr w (froObj r fv fu) 0 fold (.slice none 0 0) (.slice none 0 0) [] [] ((((w.alloc (froObj r fv fu)).alloc zroObj).alloc (.map #[] 0)).alloc (.cells #[.int .i64 0, .slice none 0 0, .int .i64 fold, .slice none 0 0, .int .i64 0] 67)) := by
  have hrb := hI.rb
  have hmb := hI.mb
  have hsz := hI.sz
  have t2 := two_blocks (w := w) (o1 := froObj r fv fu) (o2 := zroObj) (Below.refl _ _)
  have s2 : ((w.alloc (froObj r fv fu)).alloc zroObj).heap.size = w.heap.size + 1 + 1 := by simp
  have b2 := below_two w (froObj r fv fu) zroObj
  have n3 := numAt_made ((w.alloc (froObj r fv fu)).alloc zroObj)
  rw [s2] at n3
  have b3 : Below _ ((w.alloc (froObj r fv fu)).alloc zroObj) (((w.alloc (froObj r fv fu)).alloc zroObj).alloc (.map #[] 0)) := (Below.refl _ _).alloc (Nat.le_refl _) _
  have b4 : Below _ (((w.alloc (froObj r fv fu)).alloc zroObj).alloc (.map #[] 0)) ((((w.alloc (froObj r fv fu)).alloc zroObj).alloc (.map #[] 0)).alloc (.cells #[.int .i64 0, .slice none 0 0, .int .i64 fold, .slice none 0 0, .int .i64 0] 67)) := (Below.refl _ _).alloc (Nat.le_refl _) _
  have e4 := heap_alloc_new (((w.alloc (froObj r fv fu)).alloc zroObj).alloc (.map #[] 0)) (.cells #[.int .i64 0, .slice none 0 0, .int .i64 fold, .slice none 0 0, .int .i64 0] 67)
  have s3 : (((w.alloc (froObj r fv fu)).alloc zroObj).alloc (.map #[] 0)).heap.size = w.heap.size + 1 + 1 + 1 := by simp
  rw [s3] at e4
  have b23 := b2.trans (b3.mono b2.size)
  have b24 := b23.trans (b4.mono b23.size)
  have up : ∀ (j : Nat) (x : Obj), ((w.alloc (froObj r fv fu)).alloc zroObj).heap[j]? = some x → ((((w.alloc (froObj r fv fu)).alloc zroObj).alloc (.map #[] 0)).alloc (.cells #[.int .i64 0, .slice none 0 0, .int .i64 fold, .slice none 0 0, .int .i64 0] 67)).heap[j]? = some x := fun j x hx => (b4.block j (Nat.lt_of_lt_of_le (heap_lt hx) b3.size)).trans ((b3.block j (heap_lt hx)).trans hx)
  refine ⟨⟨hI.below b24, n3.below b4, h0, h1, by omega, by omega⟩, up _ _ t2.1, up _ _ t2.2, e4, World.ownsRow_nil _ _ _ _, fun _ hp => absurd hp (by simp), ⟨⟨none, 0, rfl, .inl rfl⟩, capV_nil⟩, FrL.of_below b24 (by omega), by simp⟩
theorem predStep_len {a n : Int} {s : List UInt8} {k : Int} (h : Sc.predStep st a s n = .inr (k, st1)) : st1.names.length ≤ st.names.length + 1 := by
  unfold Sc.predStep at h
  split at h
  · injection h with h
    injection h with _ h
    subst h
    unfold Sc.St.with
    split
    · omega
    · simp
  · cases h
theorem varsGo_len : ∀ (l : List Tr.Term) (vs : List (List UInt8)), (Sc.varsGo l vs).length ≤ vs.length + l.length := by
  intro l
  induction l with
  | nil => intro vs; simp [Sc.varsGo]
  | cons t r ih =>
    intro vs
    have h := ih (Sc.varsStep vs t)
    have h2 : (Sc.varsStep vs t).length ≤ vs.length + 1 := by
      unfold Sc.varsStep Sc.more
      split
      · omega
      · split
        · omega
        · simp
    simp only [Sc.varsGo, List.length_cons]
    omega
theorem termsStep_len {a : Int} {l : List Tr.Term} {t : List Sc.Term} (h : Sc.termsStep vs a l = .inr (t, vs1)) : vs1.length ≤ vs.length + l.length := by
  unfold Sc.termsStep at h
  split at h
  · injection h with h
    injection h with _ h
    subst h
    exact varsGo_len l vs
  · cases h
theorem litStep_len {x : Tr.Lit} {y : Sc.Lit} (h : Sc.litStep st vs x = .inr (y, st1, vs1)) : st1.names.length ≤ st.names.length + 1 ∧ vs1.length ≤ vs.length + x.terms.length := by
  unfold Sc.litStep at h
  split at h
  · cases h
  · rename_i kk st2 h1
    split at h
    · cases h
    · rename_i l vs2 h2
      injection h with h
      injection h with _ h
      injection h with h3 h4
      subst h3 h4
      refine ⟨?_, termsStep_len h2⟩
      split at h1
      · exact predStep_len h1
      · injection h1 with h1
        injection h1 with _ h1
        subst h1
        omega
end

end Go.Proofs.YtgpaleifhcdjnaaGreatDoor

/- Package scope: the resolver's rules, walked. -/
namespace Go.Proofs.YtgpaleifhcdjnaaGreatDoor
open Go.RowKit

theorem low_size {w0 y : World} (hl : ∀ k, k < w0.heap.size → y.heap[k]? = w0.heap[k]?) : w0.heap.size ≤ y.heap.size := by
  rcases Nat.eq_zero_or_pos w0.heap.size with h | h
  · omega
  · have h1 := hl (w0.heap.size - 1) (by omega)
    have h2 : w0.heap[w0.heap.size - 1]? = some w0.heap[w0.heap.size - 1] := Array.getElem?_eq_getElem (by omega)
    have := heap_lt (h1.trans h2)
    omega
theorem low_below {w0 y : World} (hl : ∀ k, k < w0.heap.size → y.heap[k]? = w0.heap[k]?) : Below w0.heap.size w0 { w0 with heap := y.heap } := ⟨rfl, rfl, rfl, low_size hl, hl⟩
theorem termsV_low {w0 y : World} {v : Value} {l : List Tr.Term} (h : TermsV w0 v l) (hl : ∀ k, k < w0.heap.size → y.heap[k]? = w0.heap[k]?) : TermsV y v l := (show TermsV { w0 with heap := y.heap } v l from termsV_below h (low_below hl))
theorem cell_low {w0 y : World} {b o : Nat} {v : Value} (h : w0.cell? ⟨b, o, none⟩ = some v) (hl : ∀ k, k < w0.heap.size → y.heap[k]? = w0.heap[k]?) : y.cell? ⟨b, o, none⟩ = some v := (World.cell?_of_block (a := ⟨b, o, none⟩) (hl b (World.block_lt_of_cell? w0 _ h))).trans h
theorem lits_at {w : World} {ao : Option Addr} {l : List Tr.Lit} (h : LitsAt w ao l) (n : Nat) (hn : n < l.length) : ∃ b off, ao = some ⟨b, off, none⟩ ∧ LitIn w b (off + n * 5) (Tr.litD l n) := by
  rcases h with h | ⟨b, off, ha, hc⟩
  · rw [h] at hn; exact absurd hn (by simp)
  · exact ⟨b, off, ha, hc n hn⟩

def RuleR (B0 B RV M : Nat) (st : Sc.St) (vr : Value) (x : Tr.Rule) (w : World) (e : Ending) (w' : World) : Prop :=
  match Sc.ruleStep st x with
  | .inl y => e = gaveF y.1 y.2 ∧ FrL B0 RV w w'
  | .inr (y, st1) => ∃ va vn vt vb, e = .returned (pruleVal y vt vb) ∧ RsI B RV M st1 va vn vr w' ∧ PTermsP B w' vt y.terms ∧ PLitsP B w' vb y.body ∧ FrL B0 RV w w'
/-- Literals on, behind those that are done. -/
def litsOn (acc : List Sc.Lit) (l : List Tr.Lit) (st : Sc.St) (vs : List (List UInt8)) : Sc.Bad ⊕ (List Sc.Lit × Sc.St × List (List UInt8)) :=
  match Sc.litsGo l st vs with
  | .inl e => .inl e
  | .inr (ls, st2, vs2) => .inr (acc ++ ls, st2, vs2)
theorem litsOn_bad {acc : List Sc.Lit} {l : List Tr.Lit} {st : Sc.St} {vs : List (List UInt8)} {k : Nat} {e : Sc.Bad} (hk : k < l.length) (h : Sc.litStep st vs (Tr.litD l k) = .inl e) : litsOn acc (l.drop k) st vs = .inl e := by
  have hd : l.drop k = Tr.litD l k :: l.drop (k + 1) := by rw [List.drop_eq_getElem_cons hk]; simp [Tr.litD, List.getD_eq_getElem?_getD, hk]
  unfold litsOn
  rw [hd, Sc.litsGo, h]
theorem litsOn_step {acc : List Sc.Lit} {l : List Tr.Lit} {st st1 : Sc.St} {vs vs1 : List (List UInt8)} {k : Nat} {y : Sc.Lit} (hk : k < l.length) (h : Sc.litStep st vs (Tr.litD l k) = .inr (y, st1, vs1)) : litsOn acc (l.drop k) st vs = litsOn (acc ++ [y]) (l.drop (k + 1)) st1 vs1 := by
  have hd : l.drop k = Tr.litD l k :: l.drop (k + 1) := by rw [List.drop_eq_getElem_cons hk]; simp [Tr.litD, List.getD_eq_getElem?_getD, hk]
  unfold litsOn
  rw [hd, Sc.litsGo, h]
  rcases hh : Sc.litsGo (l.drop (k + 1)) st1 vs1 with e | x
  · simp only [hh]
  · simp only [hh, List.append_assoc, List.singleton_append]
theorem litsOn_nil (l : List Tr.Lit) (st : Sc.St) (vs : List (List UInt8)) : litsOn [] l st vs = Sc.litsGo l st vs := by
  unfold litsOn
  cases Sc.litsGo l st vs with
  | inl e => rfl
  | inr x => rfl
theorem RuI.fin {B0 B RV M : Nat} {st : Sc.St} {vs : List (List UInt8)} {va vn vr : Value} {w wr w8 w9 : World} {r : Tr.Rule} {fv fu : Value} {k fold : Int} {vt vb : Value} {tl : List Sc.Term} {q : List (Sc.Lit × Value)} (h : RuI B0 B RV M st vs va vn vr w (froObj r fv fu) k fold vt vb tl q wr) (h8 : SetB (w.heap.size + 1 + 1 + 1) wr w8) (h9 : SetB (w.heap.size + 1) w8 w9) (hw : B ≤ w.heap.size) (h0 : B0 ≤ B) :
    RsI B RV M st va vn vr w9 ∧ PTermsP B w9 vt tl ∧ PLitsP B w9 vb (q.map (·.1)) ∧ FrL B0 RV w w9 := by
  have hrb := h.rs.rs.rb
  have hmb := h.rs.rs.mb
  have hb := h.bx
  have hz8 : w8.heap[w.heap.size + 1]? = some zroObj := (h8.block _ (by omega)).trans h.zb
  have keepT : ∀ v l, PTermsP B wr v l → PTermsP B w9 v l := fun v l hT => ⟨RowP.keep (E := (· = 130)) (RowP.keep (E := (· = 130)) hT.1 (fun b cur e fz (he : e = 130) _ hh => h8.block b (fun hbb => by
    subst hbb
    subst he
    rw [hb] at hh
    injection hh with hh
    injection hh with _ q _
    cases q)) rfl) (fun b cur e fz (he : e = 130) _ hh => h9.block b (fun hbb => by
    subst hbb
    subst he
    rw [hz8] at hh
    injection hh with hh
    injection hh with _ q _
    cases q)) rfl, hT.2⟩
  refine ⟨((h.rs.setB h8 hb (by omega) (by omega) (by decide) (by decide)).setB h9 hz8 (by omega) (by omega) (by decide) (by decide)).rs, keepT _ _ h.tm, ⟨q, rfl, ?_, fun p hp => keepT _ _ (h.ts p hp)⟩, (h.fr.setB h8 (by omega) (by omega)).setB h9 (by omega) (by omega)⟩
  exact RowP.mono (rowP_own (k := 4) (cs := q.map plCells) (by intro c hc; obtain ⟨t, _, rfl⟩ := List.mem_map.mp hc; rfl) (by rw [List.length_map]; exact ownsRow_same h.ow fun g cur fz hbg _ => (h9.block g (by omega)).trans (h8.block g (by omega)))) (by omega)
theorem news_plit (w : World) (x : Sc.Lit) (v : Value) : ∀ j u, (plCells (x, v))[j]? = some u → (w.alloc (.cells #[.int .i64 x.kind, .int .i64 x.op, .int .i64 x.pred, v] 84)).cell? ((⟨w.heap.size, 0, none⟩ : Addr).add j) = some u := World.news_of_block (heap_alloc_new w _)
theorem one_plit (x : Sc.Lit) (ao : Option Addr) (n c : Nat) : ∀ u ∈ plCells (x, .slice ao n c), u.oneCell' = true := by intro u hu; simp [plCells] at hu; rcases hu with rfl | rfl | rfl | rfl <;> rfl
/-- A tree's rule that may be resolved. -/
structure TrFit (r : Tr.Rule) : Prop where
  nm : r.name.length ≤ 5000
  tn : r.terms.length ≤ 3
  tv : ∀ t, t ∈ r.terms → t.var.length ≤ 5000
  bn : r.body.length ≤ 4
  bl : ∀ i, i < r.body.length → (Tr.litD r.body i).name.length ≤ 5000 ∧ (Tr.litD r.body i).terms.length ≤ 3 ∧ ∀ t, t ∈ (Tr.litD r.body i).terms → t.var.length ≤ 5000

set_option maxRecDepth 100000 in
set_option maxHeartbeats 4000000 in
theorem ruleR_any (B0 B RV M : Nat) (st : Sc.St) (va vn vr : Value) (r : Tr.Rule) (v u : Value) (w : World) (hI : RsI B RV M st va vn vr w) (hz0 : B0 ≤ RV) (hz1 : B0 ≤ M)
    (w0 : World) (h00 : w0.heap.size = B0) (hlow : ∀ k, k < B0 → w.heap[k]? = w0.heap[k]?) (hV : TermsV w0 v r.terms) (hU : LitsV w0 u r.body) (hF : TrFit r) (hl2 : st.names.length ≤ 900) :
    Calls Tryz.prog 75 #[.pointer (some ⟨RV, 0, none⟩), ruleVal r v u] w (RuleR B0 B RV M st vr r w) := by
  obtain ⟨i0, hi, hy0, hy1, hy2⟩ := info_parts A_info84
  obtain ⟨at_, name, ts, fold, body⟩ := r
  have hmm := @run_makeMap Tryz.prog
  have hBw := hI.sz
  have hrb := hI.rb
  have hB0 : B0 ≤ B := by omega
  have hnl : name.length ≤ 5000 := hF.nm
  have ht3 : ts.length ≤ 3 := hF.tn
  have hb4 : body.length ≤ 4 := hF.bn
  have HTV : Hid (∀ t, t ∈ ts → t.var.length ≤ 5000) := hF.tv
  have HBL : Hid (∀ i, i < body.length → (Tr.litD body i).name.length ≤ 5000 ∧ (Tr.litD body i).terms.length ≤ 3 ∧ ∀ t, t ∈ (Tr.litD body i).terms → t.var.length ≤ 5000) := hF.bl
  subst h00
  have HV : Hid (∀ y : World, (∀ k, k < w0.heap.size → y.heap[k]? = w.heap[k]?) → TermsV y v ts) := fun y hy => termsV_low hV fun k hk => (hy k hk).trans (hlow k hk)
  have HLOW : Hid (∀ k, k < w0.heap.size → w.heap[k]? = w0.heap[k]?) := hlow
  obtain ⟨ao, cap, rfl, _⟩ := id hV
  obtain ⟨bo, cbp, rfl, hUA⟩ := id hU
  have hUA : LitsAt w0 bo body := hUA
  have hst := RuI.start hI hz0 hz1 ⟨at_, name, ts, fold, body⟩ (.slice ao ts.length cap) (.slice bo body.length cbp) fold
  have HP : Hid (∀ y, RsI B RV M st va vn vr y → Calls Tryz.prog 107 #[.pointer (some ⟨RV, 0, none⟩), .int .i64 at_, .string ⟨name.toArray⟩, .int .i64 (ts.length : Int)] y (PredEnd B RV M st vr at_ ts.length name y)) := fun y hy => pred_any B RV M st va vn vr at_ ts.length name y hy hnl (by omega)
  clear hI hF hV hU hlow
  go_enter Tryz.func75, Tryz.ntmps75
  go_wp2_with fail
  refine Calls.mono (HP.out _ hst.rs.rs) ?_
  intro e w4 hPE
  unfold PredEnd at hPE
  rcases hps : Sc.predStep st at_ name ts.length with y | ⟨k, st1⟩
  · rw [hps] at hPE
    obtain ⟨rfl, hf4⟩ := hPE
    have HFin : Hid (RuleR w0.heap.size B RV M st vr ⟨at_, name, ts, fold, body⟩ w (gaveF y.1 y.2) w4) := by
      show RuleR w0.heap.size B RV M st vr ⟨at_, name, ts, fold, body⟩ w _ _
      unfold RuleR Sc.ruleStep
      simp only [hps]
      exact ⟨by trivial, hst.fr.trans (FrL.of_pred hf4 hst.rs.rs.num hz0 hz1 hB0 (by have := hst.sz; omega))⟩
    go_wp2_with fail
    exact ⟨rfl, HFin.out⟩
  rw [hps] at hPE
  obtain ⟨va4, vn4, rfl, hI4, hf4⟩ := hPE
  have hsl := predStep_len hps
  have hR4 : RsV w0.heap.size B RV M (w.heap.size + 1 + 1) st1 [] va4 vn4 vr w4 := ⟨hI4, hst.rs.vm.pred hf4 (by omega) (by have := hst.rs.rs.mb; omega), hz0, hz1, hst.rs.z2, hst.rs.z3⟩
  have hL4 := hst.lit hR4 (FrL.of_pred hf4 hst.rs.rs.num hz0 hz1 hB0 (by have := hst.sz; omega)) hBw
  have hL5 : RuI w0.heap.size B RV M st1 [] va4 vn4 vr w (froObj ⟨at_, name, ts, fold, body⟩ (.slice ao ts.length cap) (.slice bo body.length cbp)) k fold (.slice none 0 0) (.slice none 0 0) [] [] (w4.setCell ⟨w.heap.size + 1 + 1 + 1, 0, none⟩ (.int .i64 k)) := hL4.rebox (SetB.one _ _ _ _) (by rw [Lib.heap_setCell_same hL4.bx]; rfl) ⟨⟨none, 0, rfl, .inl rfl⟩, capV_nil⟩ hBw hB0
  obtain ⟨_, _, _, _, _, _, x0, _⟩ := hL4.cells
  have xf0 : w4.frozen? ⟨w.heap.size + 1 + 1 + 1, 0, none⟩ = false := Lib.frozen_of_heap hL4.bx 0
  have m0 : (w4.setCell ⟨w.heap.size + 1 + 1 + 1, 0, none⟩ (.int .i64 k)).cell? ⟨w.heap.size, 0, none⟩ = some (.int .i64 at_) := by rw [Lib.cell_of_heap hL5.fb]; rfl
  have m2 : (w4.setCell ⟨w.heap.size + 1 + 1 + 1, 0, none⟩ (.int .i64 k)).cell? ⟨w.heap.size, 2, none⟩ = some (.slice ao ts.length cap) := by rw [Lib.cell_of_heap hL5.fb]; rfl
  clear hL4 hR4 hI4 hf4 hst HP
  go_wp2_with fail
  generalize w4.setCell ⟨w.heap.size + 1 + 1 + 1, 0, none⟩ (.int .i64 k) = w5 at *
  refine Calls.mono (termsR_any (w.heap.size + 1 + 1) [] at_ ts _ _ (HV.out _ hL5.fr.low) hL5.rs.vm HTV.out (by simp; omega)) ?_
  intro e w6 hTR
  unfold TermsR at hTR
  rcases hts : Sc.termsStep [] at_ ts with y | ⟨tl, vs1⟩
  · rw [hts] at hTR
    obtain ⟨rfl, hg6⟩ := hTR
    have HFin : Hid (RuleR w0.heap.size B RV M st vr ⟨at_, name, ts, fold, body⟩ w (gaveF y.1 y.2) w6) := by
      show RuleR w0.heap.size B RV M st vr ⟨at_, name, ts, fold, body⟩ w _ _
      unfold RuleR Sc.ruleStep
      simp only [hps, hts]
      exact ⟨by trivial, hL5.fr.trans (FrL.of_vars hg6 hL5.rs.vm (by omega) (by have := hL5.sz; omega))⟩
    go_wp2_with fail
    exact ⟨rfl, HFin.out⟩
  rw [hts] at hTR
  obtain ⟨v6, rfl, hown6, hn6, hg6⟩ := hTR
  obtain ⟨ao6, cap6, rfl⟩ := own_slice hown6
  have hvl := termsStep_len hts
  have hR6 : RsV w0.heap.size B RV M (w.heap.size + 1 + 1) st1 vs1 va4 vn4 vr w6 := ⟨hL5.rs.rs.vars hL5.rs.vm hg6 (by have := hL5.rs.rs.mb; omega), hn6, hz0, hz1, hL5.rs.z2, hL5.rs.z3⟩
  have hL6 := hL5.lit hR6 (FrL.of_vars hg6 hL5.rs.vm (by omega) (by have := hL5.sz; omega)) hBw
  have hT6 : PTermsP B w6 (.slice ao6 tl.length cap6) tl := ⟨RowP.mono (rowP_own (k := 2) (cs := tl.map ptCells) (by intro c hc; obtain ⟨t, _, rfl⟩ := List.mem_map.mp hc; rfl) (by rw [List.length_map]; exact hown6)) (by have := hL5.sz; omega), capV_own hown6⟩
  have hL7 : RuI w0.heap.size B RV M st1 vs1 va4 vn4 vr w (froObj ⟨at_, name, ts, fold, body⟩ (.slice ao ts.length cap) (.slice bo body.length cbp)) k fold (.slice ao6 tl.length cap6) (.slice none 0 0) tl [] (w6.setCell ⟨w.heap.size + 1 + 1 + 1, 1, none⟩ (.slice ao6 tl.length cap6)) := hL6.rebox (SetB.one _ _ _ _) (by rw [Lib.heap_setCell_same hL6.bx]; rfl) hT6 hBw hB0
  obtain ⟨_, _, x1, xf1, _⟩ := hL6.cells
  have m4 : (w6.setCell ⟨w.heap.size + 1 + 1 + 1, 1, none⟩ (.slice ao6 tl.length cap6)).cell? ⟨w.heap.size, 4, none⟩ = some (.slice bo body.length cbp) := by rw [Lib.cell_of_heap hL7.fb]; rfl
  have HRS : Hid (Sc.ruleStep st ⟨at_, name, ts, fold, body⟩ = match Sc.litsGo body st1 vs1 with | .inl e => .inl e | .inr (b, st2, vs2) => .inr (⟨k, tl, fold, b, vs2.length⟩, st2)) := by
    show _ = _
    unfold Sc.ruleStep
    simp only [hps, hts]
    rfl
  clear hL6 hR6 hT6 hown6 hn6 hg6 hL5 hps hts m0 m2 x0 xf0 HV HTV
  go_wp2_with fail
  generalize w6.setCell ⟨w.heap.size + 1 + 1 + 1, 1, none⟩ (.slice ao6 tl.length cap6) = w7 at *
  clear x1 xf1 m4
  go_loopw [33] (fun i wr => ∃ (j : Nat) (q : List (Sc.Lit × Value)) (st2 : Sc.St) (vs2 : List (List UInt8)) (va2 vn2 vb : Value), j ≤ body.length ∧ i = .int .i64 j ∧ RuI w0.heap.size B RV M st2 vs2 va2 vn2 vr w (froObj ⟨at_, name, ts, fold, body⟩ (.slice ao ts.length cap) (.slice bo body.length cbp)) k fold (.slice ao6 tl.length cap6) vb tl q wr ∧ litsOn (q.map (·.1)) (body.drop j) st2 vs2 = Sc.litsGo body st1 vs1 ∧ q.length ≤ j ∧ st2.names.length ≤ st1.names.length + j ∧ vs2.length ≤ vs1.length + 3 * j) (fun i _ => body.length - (intOf i).toNat)
  case atStart => exact ⟨0, [], st1, vs1, va4, vn4, _, Nat.zero_le _, rfl, hL7, litsOn_nil _ _ _, Nat.le_refl _, Nat.le_refl _, Nat.le_refl _⟩
  case round =>
    clear hL7
    obtain ⟨j, q, st2, vs2, va2, vn2, vb, hj, rfl, hI, hgo, hql, hsn, hvn⟩ := hrel
    have HGO : Hid _ := hgo
    clear hgo
    obtain ⟨aob, capb, rfl⟩ := own_slice hI.ow
    by_cases hjl : j < body.length
    · obtain ⟨b, off, rfl, p0, p1, p2, p3, lv, p4, hTv⟩ := lits_at hUA j hjl
      have hlw : ∀ k, k < w0.heap.size → wr.heap[k]? = w0.heap[k]? := fun k hk => (hI.fr.low k hk).trans (HLOW.out k hk)
      have q0 := cell_low p0 hlw
      have q1 := cell_low p1 hlw
      have q2 := cell_low p2 hlw
      have q3 := cell_low p3 hlw
      have q4 := cell_low p4 hlw
      have HTV : Hid (TermsV w0 lv (Tr.litD body j).terms) := hTv
      obtain ⟨at2, ct2, rfl, _⟩ := hTv
      obtain ⟨f1, f2, f3⟩ := HBL.out j hjl
      have HLI : Hid (∀ y, (∀ k, k < w0.heap.size → y.heap[k]? = wr.heap[k]?) → RsV w0.heap.size B RV M (w.heap.size + 1 + 1) st2 vs2 va2 vn2 vr y → Calls Tryz.prog 109 #[.pointer (some ⟨RV, 0, none⟩), litVal (Tr.litD body j) (.slice at2 (Tr.litD body j).terms.length ct2), .map (some (w.heap.size + 1 + 1))] y (LitR w0.heap.size B RV M (w.heap.size + 1 + 1) st2 vs2 vr (Tr.litD body j) y)) := fun y hy hRy =>
        litR_any w0.heap.size B RV M (w.heap.size + 1 + 1) st2 vs2 va2 vn2 vr _ _ y hRy (fun z hz => termsV_low HTV.out fun k hk => (hz k hk).trans ((hy k hk).trans (hlw k hk))) hB0 hRy.rs.sz f3 f1 (by simp at hvl; omega) (by omega)
      have HBD : Hid (∀ e, Sc.litStep st2 vs2 (Tr.litD body j) = .inl e → Sc.litsGo body st1 vs1 = .inl e) := fun e he => HGO.out.symm.trans (litsOn_bad hjl he)
      have HOK : Hid (∀ y st3 vs3, Sc.litStep st2 vs2 (Tr.litD body j) = .inr (y, st3, vs3) → litsOn (q.map (·.1) ++ [y]) (body.drop (j + 1)) st3 vs3 = Sc.litsGo body st1 vs1 ∧ st3.names.length ≤ st1.names.length + (j + 1) ∧ vs3.length ≤ vs1.length + 3 * (j + 1)) := fun y st3 vs3 he => ⟨(litsOn_step hjl he).symm.trans HGO.out, by have := (litStep_len he).1; omega, by have := (litStep_len he).2; omega⟩
      clear p0 p1 p2 p3 p4 hUA HGO
      generalize hx : Tr.litD body j = x at *
      clear hx
      go_upto_region 8 with fail
      have hba : Below wr.heap.size wr (wr.alloc (.cells #[.int .i64 x.kind, .int .i64 x.at_, .int .i64 x.op, .string ⟨x.name.toArray⟩, .slice at2 x.terms.length ct2] 61)) := (Below.refl _ _).alloc (Nat.le_refl _) _
      have hIa := hI.below hba hBw hB0
      have hlo := heap_alloc_new wr (.cells #[.int .i64 x.kind, .int .i64 x.at_, .int .i64 x.op, .string ⟨x.name.toArray⟩, .slice at2 x.terms.length ct2] 61)
      have l0 : (wr.alloc (.cells #[.int .i64 x.kind, .int .i64 x.at_, .int .i64 x.op, .string ⟨x.name.toArray⟩, .slice at2 x.terms.length ct2] 61)).cell? ⟨wr.heap.size, 0, none⟩ = some (.int .i64 x.kind) := by rw [Lib.cell_of_heap hlo]; rfl
      have l1 : (wr.alloc (.cells #[.int .i64 x.kind, .int .i64 x.at_, .int .i64 x.op, .string ⟨x.name.toArray⟩, .slice at2 x.terms.length ct2] 61)).cell? ⟨wr.heap.size, 1, none⟩ = some (.int .i64 x.at_) := by rw [Lib.cell_of_heap hlo]; rfl
      have l2 : (wr.alloc (.cells #[.int .i64 x.kind, .int .i64 x.at_, .int .i64 x.op, .string ⟨x.name.toArray⟩, .slice at2 x.terms.length ct2] 61)).cell? ⟨wr.heap.size, 2, none⟩ = some (.int .i64 x.op) := by rw [Lib.cell_of_heap hlo]; rfl
      have l3 : (wr.alloc (.cells #[.int .i64 x.kind, .int .i64 x.at_, .int .i64 x.op, .string ⟨x.name.toArray⟩, .slice at2 x.terms.length ct2] 61)).cell? ⟨wr.heap.size, 3, none⟩ = some (.string ⟨x.name.toArray⟩) := by rw [Lib.cell_of_heap hlo]; rfl
      have l4 : (wr.alloc (.cells #[.int .i64 x.kind, .int .i64 x.at_, .int .i64 x.op, .string ⟨x.name.toArray⟩, .slice at2 x.terms.length ct2] 61)).cell? ⟨wr.heap.size, 4, none⟩ = some (.slice at2 x.terms.length ct2) := by rw [Lib.cell_of_heap hlo]; rfl
      have HLA : Hid (∀ y, Below (wr.alloc (.cells #[.int .i64 x.kind, .int .i64 x.at_, .int .i64 x.op, .string ⟨x.name.toArray⟩, .slice at2 x.terms.length ct2] 61)).heap.size (wr.alloc (.cells #[.int .i64 x.kind, .int .i64 x.at_, .int .i64 x.op, .string ⟨x.name.toArray⟩, .slice at2 x.terms.length ct2] 61)) y → Calls Tryz.prog 109 #[.pointer (some ⟨RV, 0, none⟩), litVal x (.slice at2 x.terms.length ct2), .map (some (w.heap.size + 1 + 1))] y (LitR w0.heap.size B RV M (w.heap.size + 1 + 1) st2 vs2 vr x y)) := fun y hy => HLI.out y (fun i hi => (hy.block i (by have := hI.sz; simp; omega)).trans (hba.block i (by have := hI.sz; omega))) (hIa.rs.below hy)
      clear hI hlo hba hlw q0 q1 q2 q3 q4 HTV HLI f1 f2 f3 hUA
      generalize wr.alloc (.cells #[.int .i64 x.kind, .int .i64 x.at_, .int .i64 x.op, .string ⟨x.name.toArray⟩, .slice at2 x.terms.length ct2] 61) = wa at *
      obtain ⟨d3, df3, _⟩ := hIa.cells
      rcases hls : Sc.litStep st2 vs2 x with e0 | ⟨ly, st3, vs3⟩
      · have HN : Hid (∀ y, Below wa.heap.size wa y → Calls Tryz.prog 109 #[.pointer (some ⟨RV, 0, none⟩), litVal x (.slice at2 x.terms.length ct2), .map (some (w.heap.size + 1 + 1))] y fun e w' => e = gaveF e0.1 e0.2 ∧ RuleR w0.heap.size B RV M st vr ⟨at_, name, ts, fold, body⟩ w (gaveF e0.1 e0.2) w') := by
          intro y hy
          refine (HLA.out y hy).mono ?_
          intro e w' h
          unfold LitR at h
          rw [hls] at h
          refine ⟨h.1, ?_⟩
          unfold RuleR
          rw [HRS.out, HBD.out _ hls]
          exact ⟨rfl, (hIa.fr.trans (FrL.of_below hy (by have := hIa.sz; omega))).trans h.2⟩
        clear HLA HBD HOK HRS
        go_region_dies
        all_goals (refine Calls.mono (HN.out _ ⟨rfl, rfl, rfl, Nat.le_refl _, fun _ _ => rfl⟩) ?_)
        all_goals rintro e y2 ⟨rfl, hg2⟩
        all_goals exact ⟨rfl, hg2⟩
      · obtain ⟨hgo3, hs3, hv3⟩ := HOK.out _ _ _ hls
        have HGO3 : Hid _ := hgo3
        have HN : Hid (∀ y, Below wa.heap.size wa y → Calls Tryz.prog 109 #[.pointer (some ⟨RV, 0, none⟩), litVal x (.slice at2 x.terms.length ct2), .map (some (w.heap.size + 1 + 1))] y fun e w' => ∃ va3 vn3 aol capl, e = .returned (plitVal ly (.slice aol ly.terms.length capl)) ∧ RuI w0.heap.size B RV M st3 vs3 va3 vn3 vr w (froObj ⟨at_, name, ts, fold, body⟩ (.slice ao ts.length cap) (.slice (some ⟨b, off, none⟩) body.length cbp)) k fold (.slice ao6 tl.length cap6) (.slice aob q.length capb) tl q w' ∧ PTermsP B w' (.slice aol ly.terms.length capl) ly.terms) := by
          intro y hy
          refine (HLA.out y hy).mono ?_
          intro e w' h
          unfold LitR at h
          rw [hls] at h
          obtain ⟨va3, vn3, vt, he, hR, hT, hf⟩ := h
          have hI3 := (hIa.below hy hBw hB0).lit hR hf hBw
          obtain ⟨aol, capl, hv, _⟩ := id hT.1
          simp only [List.length_map] at hv
          subst hv
          exact ⟨va3, vn3, aol, capl, he, hI3, hT⟩
        clear HLA HBD HOK HRS hgo3 hls
        go_region_law (first
          | (go_simp; go_at_call 109; refine Calls.mono (HN.out _ ⟨rfl, rfl, rfl, Nat.le_refl _, fun _ _ => rfl⟩) ?_; rintro e y2 ⟨va3, vn3, aol, capl, rfl, hI2, hT2⟩; obtain ⟨e3, ef3, _⟩ := hI2.cells; have e3a : ∀ o, (y2.alloc o).cell? ⟨w.heap.size + 1 + 1 + 1, 3, none⟩ = some (.slice aob q.length capb) := fun o => cell_below ((Below.refl _ _).alloc (Nat.le_refl _) o) e3; have hsz := hI2.sz; dsimp only)
          | (refine step_append_lies _ rfl (.tmp 38) (.tmp 43) 65 rfl (w.heap.size + 4) 84 i0 _ 4 48 Tryz.underlying65 hi hy0 hy1 hy2 rfl (by decide) (.slice aob q.length capb) q.length _ ?hs (RuI.below hI2 ((Below.refl _ _).alloc (Nat.le_refl _) _) hBw hB0).ow ⟨y2.heap.size, 0, none⟩ 1 1 (plCells (ly, .slice aol ly.terms.length capl)) ?hx rfl ?hn ?ho ?hm ?h6 ?hb ?hB _ rfl ?_
             case hs => simp [Act.eval]
             case hx => simp [Act.eval]
             case hn => exact news_plit _ _ _
             case ho => exact one_plit _ _ _ _
             case hm => decide
             case h6 => (unfold maxLen; omega)
             case hb => omega
             case hB => (simp; omega)
             intro g capg y3 hown hgrow hat hlt
             have hI3 := RuI.put (RuI.below hI2 ((Below.refl _ _).alloc (Nat.le_refl _) _) hBw hB0) hgrow hown ⟨RowP.keep (E := (· = 130)) hT2.1 (fun b cur e fz _ _ hh => ((Below.refl _ _).alloc (Nat.le_refl _) _).block b (heap_lt hh)) rfl, hT2.2⟩ hBw hB0
             have hbx3 := grown_cells hgrow (RuI.below hI2 ((Below.refl _ _).alloc (Nat.le_refl _) _) hBw hB0).ow (RuI.below hI2 ((Below.refl _ _).alloc (Nat.le_refl _) _) hBw hB0).bx (by decide)
             have g3 : y3.cell? ⟨w.heap.size + 1 + 1 + 1, 3, none⟩ = some (.slice aob q.length capb) := by rw [Lib.cell_of_heap hbx3]; rfl
             have gf3 : y3.frozen? ⟨w.heap.size + 1 + 1 + 1, 3, none⟩ = false := Lib.frozen_of_heap hbx3 3))
        all_goals go_wp2_with fail
        all_goals go_roundw
        all_goals first
          | exact ⟨j + 1, q ++ [(ly, _)], st3, vs3, va3, vn3, _, by omega, by simp, hI3, by simpa using HGO3.out, by rw [List.length_append]; simp; omega, by omega, by omega⟩
          | omega
          | (show body.length - (j + 1) < body.length - j; omega)
          | (trace_state; fail)
    · have hje : j = body.length := by omega
      have hgo3 : Sc.litsGo body st1 vs1 = .inr (q.map (·.1), st2, vs2) := by
        rw [← HGO.out, hje]
        simp [litsOn, Sc.litsGo]
      have HFin : Hid (∀ w9, SetB (w.heap.size + 1) (wr.setCell ⟨w.heap.size + 1 + 1 + 1, 4, none⟩ (.int .i64 vs2.length)) w9 → RuleR w0.heap.size B RV M st vr ⟨at_, name, ts, fold, body⟩ w (.returned (pruleVal ⟨k, tl, fold, q.map (·.1), vs2.length⟩ (.slice ao6 tl.length cap6) (.slice aob q.length capb))) w9) := by
        intro w9 h9
        unfold RuleR
        rw [HRS.out, hgo3]
        obtain ⟨r1, r2, r3, r4⟩ := hI.fin (SetB.one _ _ _ _) h9 hBw hB0
        exact ⟨va2, vn2, _, _, rfl, r1, r2, r3, r4⟩
      obtain ⟨x3, xf3, x1, xf1, x4, xf4, x0, x2⟩ := hI.cells
      have o0 : wr.cell? ⟨w.heap.size + 1, 0, none⟩ = some (.int .i64 0) := by rw [Lib.cell_of_heap hI.zb]; rfl
      have o1 : wr.cell? ⟨w.heap.size + 1, 1, none⟩ = some (.slice none 0 0) := by rw [Lib.cell_of_heap hI.zb]; rfl
      have o2 : wr.cell? ⟨w.heap.size + 1, 2, none⟩ = some (.int .i64 0) := by rw [Lib.cell_of_heap hI.zb]; rfl
      have o3 : wr.cell? ⟨w.heap.size + 1, 3, none⟩ = some (.slice none 0 0) := by rw [Lib.cell_of_heap hI.zb]; rfl
      have o4 : wr.cell? ⟨w.heap.size + 1, 4, none⟩ = some (.int .i64 0) := by rw [Lib.cell_of_heap hI.zb]; rfl
      have of0 : wr.frozen? ⟨w.heap.size + 1, 0, none⟩ = false := Lib.frozen_of_heap hI.zb 0
      have of1 : wr.frozen? ⟨w.heap.size + 1, 1, none⟩ = false := Lib.frozen_of_heap hI.zb 1
      have of2 : wr.frozen? ⟨w.heap.size + 1, 2, none⟩ = false := Lib.frozen_of_heap hI.zb 2
      have of3 : wr.frozen? ⟨w.heap.size + 1, 3, none⟩ = false := Lib.frozen_of_heap hI.zb 3
      have of4 : wr.frozen? ⟨w.heap.size + 1, 4, none⟩ = false := Lib.frozen_of_heap hI.zb 4
      obtain ⟨D, hown, hN⟩ := hI.rs.vm
      have hszD := hN.size
      clear hI HGO HRS hN hgo3 hje HLOW hUA
      go_wp2_with (at_len; refine wpList_len_own _ rfl _ 115 rfl 9 3 Tryz.underlying115 _ (w.heap.size + 1 + 1) vs2.length D rfl hown ?_)
      refine bodyPost_ret (v := pruleVal ⟨k, tl, fold, q.map (·.1), vs2.length⟩ (.slice ao6 tl.length cap6) (.slice aob q.length capb)) (by simp [results, Tryz.results75, go_sem, o0, o1, o2, o3, o4]) rfl (HFin.out _ ?_)
      exact ((((SetB.one _ _ _ _).trans (SetB.one _ _ _ _)).trans (SetB.one _ _ _ _)).trans (SetB.one _ _ _ _)).trans (SetB.one _ _ _ _)

end Go.Proofs.YtgpaleifhcdjnaaGreatDoor

/- Package scope: resolve. -/
namespace Go.Proofs.YtgpaleifhcdjnaaGreatDoor
open Go.RowKit

theorem A_info67 : (Tryz.prog.info? 67).map (fun i => (i.zero, i.size, i.bytes)) = some (some (.agg #[.int .i64 0, .slice none 0 0, .int .i64 0, .slice none 0 0, .int .i64 0]), 5, 72) := by kernel_rfl
def prCells (x : Sc.Rule × Value × Value) : List Value := [.int .i64 x.1.pred, x.2.1, .int .i64 x.1.fold, x.2.2, .int .i64 x.1.vars]
abbrev zpObj : Obj := .cells #[.slice none 0 0, .slice none 0 0, .slice none 0 0] 26

theorem flat_one {α : Type} (f : α → Value) (l : List α) : (l.map fun x => [f x]).flatten = l.map f := by
  induction l with
  | nil => rfl
  | cons a r ih => simp only [List.map_cons, List.flatten_cons, ih, List.singleton_append]
theorem intsV_own {w : World} {B : Nat} {v : Value} {l : List Int} (h : w.ownsRow B 3 1 v l.length (intCells l)) : IntsV w v l := by
  obtain ⟨ao, cap, hv, h⟩ := row_get (cells := fun x => [Value.int .i64 x]) (l := l) (rowP_own (k := 1) (e := 3) (by intro c hc; obtain ⟨t, _, rfl⟩ := List.mem_map.mp hc; rfl) (by rw [List.length_map, flat_one]; exact h))
  refine ⟨ao, cap, hv, ?_⟩
  rcases h with h | ⟨b, rfl, hc⟩
  · exact .inl h
  · refine .inr ⟨b, 0, rfl, fun i hi => ?_⟩
    have hx : l[i]? = some (Sc.intD l i) := by simp [Sc.intD, hi]
    have := hc i _ hx 0 _ rfl
    simpa using this
theorem strsV_own {w : World} {B : Nat} {v : Value} {l : List (List UInt8)} (h : w.ownsRow B 9 1 v l.length (strCells l)) : StrsV w v l := by
  obtain ⟨ao, cap, hv, h⟩ := row_get (cells := fun x : List UInt8 => [Value.string ⟨x.toArray⟩]) (l := l) (rowP_own (k := 1) (e := 9) (by intro c hc; obtain ⟨t, _, rfl⟩ := List.mem_map.mp hc; rfl) (by rw [List.length_map, flat_one]; exact h))
  refine ⟨ao, cap, hv, ?_⟩
  rcases h with h | ⟨b, rfl, hc⟩
  · exact .inl h
  · refine .inr ⟨b, 0, rfl, fun i hi => ?_⟩
    have hx : l[i]? = some (Sc.strD l i) := by simp [Sc.strD, hi]
    have := hc i _ hx 0 _ rfl
    simpa using this
theorem PTermsP.toV {B : Nat} {w : World} {v : Value} {l : List Sc.Term} (h : PTermsP B w v l) : PTermsV w v l := by
  obtain ⟨ao, cap, hv, hr⟩ := row_get h.1
  obtain ⟨ao', n', cap', hv', hc'⟩ := h.2
  refine ⟨ao, cap, hv, ?_, ?_⟩
  · rw [hv] at hv'
    injection hv' with _ h2 h3
    omega
  rcases hr with h | ⟨b, rfl, hc⟩
  · exact .inl h
  · refine .inr ⟨b, 0, rfl, fun i hi => ?_⟩
    have hx : l[i]? = some (Sc.termD l i) := by simp [Sc.termD, hi]
    rw [Nat.zero_add]
    exact ⟨hc i _ hx 0 _ rfl, hc i _ hx 1 _ rfl⟩
theorem PLitsP.toV {B : Nat} {w : World} {v : Value} {l : List Sc.Lit} (h : PLitsP B w v l) : PLitsV w v l := by
  obtain ⟨q, rfl, h2, h3⟩ := h
  obtain ⟨ao, cap, hv, h⟩ := row_get h2
  refine ⟨ao, cap, by rw [hv, List.length_map], ?_⟩
  rcases h with h | ⟨b, rfl, hc⟩
  · exact .inl (by simp [h])
  · refine .inr ⟨b, 0, rfl, fun i hi => ?_⟩
    rw [List.length_map] at hi
    have hq : q[i]? = some q[i] := List.getElem?_eq_getElem hi
    have hx : Sc.litD (q.map (·.1)) i = q[i].1 := by simp [Sc.litD, hi]
    rw [Nat.zero_add, hx]
    exact ⟨hc i _ hq 0 _ rfl, hc i _ hq 1 _ rfl, hc i _ hq 2 _ rfl, q[i].2, hc i _ hq 3 _ rfl, (h3 _ (List.getElem_mem hi)).toV⟩
theorem prulesV_of {B : Nat} {w : World} {v : Value} {q : List (Sc.Rule × Value × Value)} (h2 : RowP B w 67 5 v (q.map prCells)) (h3 : ∀ p, p ∈ q → PTermsP B w p.2.1 p.1.terms ∧ PLitsP B w p.2.2 p.1.body) : PRulesV w v (q.map (·.1)) := by
  obtain ⟨ao, cap, hv, h⟩ := row_get h2
  refine ⟨ao, cap, by rw [hv, List.length_map], ?_⟩
  rcases h with h | ⟨b, rfl, hc⟩
  · exact .inl (by simp [h])
  · refine .inr ⟨b, 0, rfl, fun i hi => ?_⟩
    rw [List.length_map] at hi
    have hq : q[i]? = some q[i] := List.getElem?_eq_getElem hi
    have hx : Sc.ruleD (q.map (·.1)) i = q[i].1 := by simp [Sc.ruleD, hi]
    rw [Nat.zero_add, hx]
    have h4 := h3 _ (List.getElem_mem hi)
    exact ⟨hc i _ hq 0 _ rfl, ⟨q[i].2.1, hc i _ hq 1 _ rfl, h4.1.toV⟩, hc i _ hq 2 _ rfl, ⟨q[i].2.2, hc i _ hq 3 _ rfl, h4.2.toV⟩, hc i _ hq 4 _ rfl⟩
theorem PTermsP.keep {B : Nat} {w w' : World} {v : Value} {l : List Sc.Term} (h : PTermsP B w v l) (hk : Keeps B w w' (fun e => e = 130 ∨ e = 84)) : PTermsP B w' v l := ⟨h.1.keep hk (.inl rfl), h.2⟩
theorem PLitsP.keep {B : Nat} {w w' : World} {v : Value} {l : List Sc.Lit} (h : PLitsP B w v l) (hk : Keeps B w w' (fun e => e = 130 ∨ e = 84)) : PLitsP B w' v l := by
  obtain ⟨q, h1, h2, h3⟩ := h
  exact ⟨q, h1, h2.keep hk (.inr rfl), fun p hp => (h3 p hp).keep hk⟩
theorem keeps_fr {B0 RV B : Nat} {w w' : World} (hf : FrL B0 RV w w') (hr : RV < B) : Keeps B w w' (fun e => e = 130 ∨ e = 84) := fun b cur e fz he hb hh => hf.cel b cur e fz hh (by omega) (by rcases he with rfl | rfl <;> decide) (by rcases he with rfl | rfl <;> decide)
theorem keeps_app {B base n : Nat} {w w' : World} {v : Value} {xs : List Value} (hg : w.grownBy w' v.ownBlock) (ho : w.ownsRow base 67 5 v n xs) : Keeps B w w' (fun e => e = 130 ∨ e = 84) := fun b cur e fz he hb hh => (grown_cells hg ho hh (by rcases he with rfl | rfl <;> decide)).trans hh.symm
theorem keeps_setB {B b : Nat} {w w' : World} (hs : SetB b w w') (hb : b < B) : Keeps B w w' (fun e => e = 130 ∨ e = 84) := fun b' _ _ _ _ hB _ => hs.block b' (by omega)

/-- The blocks from K on that one has, the other has too. -/
def Agree (K : Nat) (u z : World) : Prop := ∀ k, K ≤ k → k < u.heap.size → z.heap[k]? = u.heap[k]?
/-- What stands while a tree is resolved. -/
structure RvI (w : World) (st : Sc.St) (va vn vr : Value) (q : List (Sc.Rule × Value × Value)) (wr : World) : Prop where
  rs : RsI (w.heap.size + 1 + 1 + 1 + 1) (w.heap.size + 1 + 1 + 1) (w.heap.size + 1 + 1) st va vn vr wr
  zb : wr.heap[w.heap.size + 1]? = some zpObj
  ow : wr.ownsRow (w.heap.size + 1 + 1 + 1 + 1) 67 5 vr q.length (q.map prCells).flatten
  ts : ∀ p, p ∈ q → PTermsP (w.heap.size + 1 + 1 + 1 + 1) wr p.2.1 p.1.terms ∧ PLitsP (w.heap.size + 1 + 1 + 1 + 1) wr p.2.2 p.1.body
  fr : FrL w.heap.size (w.heap.size + 1 + 1 + 1) w wr
section
variable {w wr w2 w9 : World} {st st1 : Sc.St} {va vn va1 vn1 vr vr2 : Value} {q : List (Sc.Rule × Value × Value)}
theorem RvI.rule (h : RvI w st va vn vr q wr) (hR : RsI (w.heap.size + 1 + 1 + 1 + 1) (w.heap.size + 1 + 1 + 1) (w.heap.size + 1 + 1) st1 va1 vn1 vr w2) (hf : FrL w.heap.size (w.heap.size + 1 + 1 + 1) wr w2) : RvI w st1 va1 vn1 vr q w2 :=
  ⟨hR, hf.box h.zb (by omega) (by decide) (by decide), own_fr h.ow hf (by omega) (by decide) (by decide), fun p hp => ⟨(h.ts p hp).1.keep (keeps_fr hf (by omega)), (h.ts p hp).2.keep (keeps_fr hf (by omega))⟩, h.fr.trans hf⟩
theorem RvI.below (h : RvI w st va vn vr q wr) (hb : Below wr.heap.size wr w2) : RvI w st va vn vr q w2 := h.rule (h.rs.below hb) (FrL.of_below hb (by have := h.rs.sz; omega))
theorem RvI.put {x : Sc.Rule} {vt vb : Value} (h : RvI w st va vn vr q wr) (hg : wr.grownBy w2 vr.ownBlock) (ho : w2.ownsRow (w.heap.size + 1 + 1 + 1 + 1) 67 5 vr2 (q.length + 1) ((q.map prCells).flatten ++ prCells (x, vt, vb))) (hx : PTermsP (w.heap.size + 1 + 1 + 1 + 1) wr vt x.terms) (hy : PLitsP (w.heap.size + 1 + 1 + 1 + 1) wr vb x.body) :
    RvI w st va vn vr2 (q ++ [(x, vt, vb)]) (w2.setCell ⟨w.heap.size + 1 + 1 + 1, 2, none⟩ vr2) := by
  have hs := SetB.one (w.heap.size + 1 + 1 + 1) w2 2 vr2
  have hR2 := h.rs.app hg h.ow (by decide) (by decide) (by decide)
  have hk : Keeps (w.heap.size + 1 + 1 + 1 + 1) wr (w2.setCell ⟨w.heap.size + 1 + 1 + 1, 2, none⟩ vr2) (fun e => e = 130 ∨ e = 84) := (keeps_app hg h.ow).trans (keeps_setB hs (by omega))
  refine ⟨⟨by rw [Lib.heap_setCell_same hR2.box]; rfl, ownsRow_same hR2.oa fun g _ _ hb _ => hs.block g (by omega), ownsRow_same hR2.on fun g _ _ hb _ => hs.block g (by omega), hR2.num.same (hs.block _ (by omega)), hR2.len, hR2.rb, hR2.mb, hR2.ne, by rw [hs.size]; exact hR2.sz⟩, (hs.block _ (by omega)).trans (grown_cells hg h.ow h.zb (by decide)), ?_, ?_, (h.fr.app hg h.ow (by omega) (Nat.le_refl _)).setB hs (by omega) (Nat.le_refl _)⟩
  · have := ownsRow_same ho fun g _ _ hb _ => hs.block g (show ¬ g = w.heap.size + 1 + 1 + 1 by omega)
    simpa using this
  · intro p hp
    rcases List.mem_append.mp hp with hp | hp
    · exact ⟨(h.ts p hp).1.keep hk, (h.ts p hp).2.keep hk⟩
    · obtain rfl : p = (x, vt, vb) := by simpa using hp
      exact ⟨hx.keep hk, hy.keep hk⟩
theorem RvI.prog (h : RvI w st va vn vr q wr) (hs : SetB (w.heap.size + 1) wr w9) : (∀ z, Agree w.heap.size w9 z → ProgV z va vn vr ⟨st.arity, st.names, q.map (·.1)⟩) ∧ Below w.heap.size w w9 ∧ st.arity.length = st.names.length := by
  refine ⟨fun z hz => ?_, ?_, h.rs.len⟩
  · have hag : ∀ g cur e fz, w.heap.size + 1 + 1 + 1 + 1 ≤ g → wr.heap[g]? = some (.cells cur e fz) → z.heap[g]? = wr.heap[g]? := fun g _ _ _ hb hh => (hz g (by omega) (by rw [hs.size]; exact heap_lt hh)).trans (hs.block g (by omega))
    have hk : Keeps (w.heap.size + 1 + 1 + 1 + 1) wr z (fun e => e = 130 ∨ e = 84) := fun b cur e fz _ hb hh => hag b cur e fz hb hh
    exact ⟨intsV_own (ownsRow_same h.rs.oa fun g cur fz hb hh => hag g cur _ fz hb hh), strsV_own (ownsRow_same h.rs.on fun g cur fz hb hh => hag g cur _ fz hb hh), prulesV_of (B := w.heap.size + 1 + 1 + 1 + 1) (rowP_own (k := 5) (by intro c hc; obtain ⟨t, _, rfl⟩ := List.mem_map.mp hc; rfl) (by rw [List.length_map]; exact ownsRow_same h.ow fun g cur fz hb hh => hag g cur _ fz hb hh)) fun p hp => ⟨(h.ts p hp).1.keep hk, (h.ts p hp).2.keep hk⟩⟩
  · have hf := h.fr.setB hs (by omega) (Nat.le_refl _)
    exact ⟨hf.os, hf.tape, hf.output, hf.size, hf.low⟩
theorem RvI.start (w : World) (o : Obj) : RvI w ⟨[], []⟩ (.slice none 0 0) (.slice none 0 0) (.slice none 0 0) [] ((((w.alloc o).alloc (.cells #[.slice none 0 0, .slice none 0 0, .slice none 0 0] 26)).alloc (.map #[] 0)).alloc (.cells #[.slice none 0 0, .slice none 0 0, .slice none 0 0, .map (some (w.heap.size + 1 + 1))] 123)) := by
  have t2 := two_blocks (w := w) (o1 := o) (o2 := (.cells #[.slice none 0 0, .slice none 0 0, .slice none 0 0] 26)) (Below.refl _ _)
  have s2 : ((w.alloc o).alloc (.cells #[.slice none 0 0, .slice none 0 0, .slice none 0 0] 26)).heap.size = w.heap.size + 1 + 1 := by simp
  have b2 := below_two w o (.cells #[.slice none 0 0, .slice none 0 0, .slice none 0 0] 26)
  have n3 := numAt_made ((w.alloc o).alloc (.cells #[.slice none 0 0, .slice none 0 0, .slice none 0 0] 26))
  rw [s2] at n3
  have b3 : Below _ ((w.alloc o).alloc (.cells #[.slice none 0 0, .slice none 0 0, .slice none 0 0] 26)) (((w.alloc o).alloc (.cells #[.slice none 0 0, .slice none 0 0, .slice none 0 0] 26)).alloc (.map #[] 0)) := (Below.refl _ _).alloc (Nat.le_refl _) _
  have b4 : Below _ (((w.alloc o).alloc (.cells #[.slice none 0 0, .slice none 0 0, .slice none 0 0] 26)).alloc (.map #[] 0)) ((((w.alloc o).alloc (.cells #[.slice none 0 0, .slice none 0 0, .slice none 0 0] 26)).alloc (.map #[] 0)).alloc (.cells #[.slice none 0 0, .slice none 0 0, .slice none 0 0, .map (some (w.heap.size + 1 + 1))] 123)) := (Below.refl _ _).alloc (Nat.le_refl _) _
  have e4 := heap_alloc_new (((w.alloc o).alloc (.cells #[.slice none 0 0, .slice none 0 0, .slice none 0 0] 26)).alloc (.map #[] 0)) (.cells #[.slice none 0 0, .slice none 0 0, .slice none 0 0, .map (some (w.heap.size + 1 + 1))] 123)
  have s3 : (((w.alloc o).alloc (.cells #[.slice none 0 0, .slice none 0 0, .slice none 0 0] 26)).alloc (.map #[] 0)).heap.size = w.heap.size + 1 + 1 + 1 := by simp
  rw [s3] at e4
  have b23 := b2.trans (b3.mono b2.size)
  have b24 := b23.trans (b4.mono b23.size)
  exact ⟨⟨e4, World.ownsRow_nil _ _ _ _, World.ownsRow_nil _ _ _ _, n3.below b4, rfl, by omega, by omega, by omega, by simp⟩, (b4.block _ (Nat.lt_of_lt_of_le (heap_lt t2.2) b3.size)).trans ((b3.block _ (heap_lt t2.2)).trans t2.2), World.ownsRow_nil _ _ _ _, fun _ hp => absurd hp (by simp), FrL.of_below b24 (Nat.le_refl _)⟩
theorem litsGo_len : ∀ (l : List Tr.Lit) (st : Sc.St) (vs : List (List UInt8)) (b : List Sc.Lit) (st2 : Sc.St) (vs2 : List (List UInt8)), Sc.litsGo l st vs = .inr (b, st2, vs2) → st2.names.length ≤ st.names.length + l.length := by
  intro l
  induction l with
  | nil =>
    intro st vs b st2 vs2 h
    simp only [Sc.litsGo] at h
    injection h with h
    injection h with _ h
    injection h with h _
    subst h
    simp
  | cons x r ih =>
    intro st vs b st2 vs2 h
    simp only [Sc.litsGo] at h
    rcases hs : Sc.litStep st vs x with e | ⟨y, st1, vs1⟩
    · rw [hs] at h; cases h
    rw [hs] at h
    simp only at h
    rcases hg : Sc.litsGo r st1 vs1 with e | ⟨b', st3, vs3⟩
    · rw [hg] at h; cases h
    rw [hg] at h
    simp only at h
    injection h with h
    injection h with _ h
    injection h with h _
    subst h
    have h1 := ih _ _ _ _ _ hg
    have h2 := (litStep_len hs).1
    simp only [List.length_cons]
    omega
theorem ruleStep_len {x : Tr.Rule} {y : Sc.Rule} (h : Sc.ruleStep st x = .inr (y, st1)) : st1.names.length ≤ st.names.length + 1 + x.body.length := by
  unfold Sc.ruleStep at h
  rcases hp : Sc.predStep st x.at_ x.name x.terms.length with e | ⟨k, s1⟩
  · rw [hp] at h; cases h
  rw [hp] at h
  simp only at h
  rcases ht : Sc.termsStep [] x.at_ x.terms with e | ⟨tl, vs⟩
  · rw [ht] at h; cases h
  rw [ht] at h
  simp only at h
  rcases hg : Sc.litsGo x.body s1 vs with e | ⟨b, s2, vs2⟩
  · rw [hg] at h; cases h
  rw [hg] at h
  simp only at h
  injection h with h
  injection h with _ h
  subst h
  have h1 := litsGo_len _ _ _ _ _ _ hg
  have h2 := predStep_len hp
  omega
end
/-- Rules on, behind those that are done. -/
def rulesOn (acc : List Sc.Rule) (l : List Tr.Rule) (st : Sc.St) : Sc.Bad ⊕ (List Sc.Rule × Sc.St) :=
  match Sc.rulesGo l st with
  | .inl e => .inl e
  | .inr (ls, st2) => .inr (acc ++ ls, st2)
theorem rulesOn_bad {acc : List Sc.Rule} {l : List Tr.Rule} {st : Sc.St} {k : Nat} {e : Sc.Bad} (hk : k < l.length) (h : Sc.ruleStep st (Tr.ruleD l k) = .inl e) : rulesOn acc (l.drop k) st = .inl e := by
  have hd : l.drop k = Tr.ruleD l k :: l.drop (k + 1) := by rw [List.drop_eq_getElem_cons hk]; simp [Tr.ruleD, List.getD_eq_getElem?_getD, hk]
  unfold rulesOn
  rw [hd, Sc.rulesGo, h]
theorem rulesOn_step {acc : List Sc.Rule} {l : List Tr.Rule} {st st1 : Sc.St} {k : Nat} {y : Sc.Rule} (hk : k < l.length) (h : Sc.ruleStep st (Tr.ruleD l k) = .inr (y, st1)) : rulesOn acc (l.drop k) st = rulesOn (acc ++ [y]) (l.drop (k + 1)) st1 := by
  have hd : l.drop k = Tr.ruleD l k :: l.drop (k + 1) := by rw [List.drop_eq_getElem_cons hk]; simp [Tr.ruleD, List.getD_eq_getElem?_getD, hk]
  unfold rulesOn
  rw [hd, Sc.rulesGo, h]
  rcases hh : Sc.rulesGo (l.drop (k + 1)) st1 with e | x
  · simp only [hh]
  · simp only [hh, List.append_assoc, List.singleton_append]
theorem rulesOn_nil (l : List Tr.Rule) (st : Sc.St) : rulesOn [] l st = Sc.rulesGo l st := by
  unfold rulesOn
  cases Sc.rulesGo l st with
  | inl e => rfl
  | inr x => rfl
theorem news_prule (w : World) (x : Sc.Rule) (v u : Value) : ∀ j z, (prCells (x, v, u))[j]? = some z → (w.alloc (.cells #[.int .i64 x.pred, v, .int .i64 x.fold, u, .int .i64 x.vars] 67)).cell? ((⟨w.heap.size, 0, none⟩ : Addr).add j) = some z := World.news_of_block (heap_alloc_new w _)
theorem one_prule (x : Sc.Rule) (ao bo : Option Addr) (n c n2 c2 : Nat) : ∀ u ∈ prCells (x, .slice ao n c, .slice bo n2 c2), u.oneCell' = true := by intro u hu; simp [prCells] at hu; rcases hu with rfl | rfl | rfl | rfl | rfl <;> rfl
theorem rules_at {w : World} {ao : Option Addr} {l : List Tr.Rule} (h : RulesAt w ao l) (n : Nat) (hn : n < l.length) : ∃ b off, ao = some ⟨b, off, none⟩ ∧ RuleIn w b (off + n * 5) (Tr.ruleD l n) := by
  rcases h with h | ⟨b, off, ha, hc⟩
  · rw [h] at hn; exact absurd hn (by simp)
  · exact ⟨b, off, ha, hc n hn⟩

def ResR (l : List Tr.Rule) (w : World) (e : Ending) (w' : World) : Prop :=
  match Sc.resolve l with
  | .inl y => e = gaveF y.1 y.2 ∧ Below w.heap.size w w'
  | .inr p => ∃ va vn vr, e = .returned (progVal va vn vr) ∧ (∀ z, Agree w.heap.size w' z → ProgV z va vn vr p) ∧ Below w.heap.size w w' ∧ p.arity.length = p.names.length

set_option maxRecDepth 100000 in
set_option maxHeartbeats 4000000 in
theorem resolveR_any (l : List Tr.Rule) (v : Value) (w : World) (hV : RulesV w v l) (hn : l.length ≤ 12) (hF : ∀ i, i < l.length → TrFit (Tr.ruleD l i)) :
    Calls Tryz.prog 42 #[treeVal v] w (ResR l w) := by
  obtain ⟨i0, hi, hy0, hy1, hy2⟩ := info_parts A_info67
  have hmm := @run_makeMap Tryz.prog
  obtain ⟨ao, cap, rfl, hA⟩ := hV
  have HF : Hid (∀ i, i < l.length → TrFit (Tr.ruleD l i)) := hF
  have HA : Hid (RulesAt w ao l) := hA
  have HRS : Hid (Sc.resolve l = match Sc.rulesGo l ⟨[], []⟩ with | .inl e => .inl e | .inr (rs, st) => .inr ⟨st.arity, st.names, rs⟩) := rfl
  have hst := RvI.start w (.cells #[.slice ao l.length cap] 36)
  clear hF hA
  go_enter Tryz.func42, Tryz.ntmps42
  go_wp2_with fail
  generalize ((((w.alloc (.cells #[.slice ao l.length cap] 36)).alloc (.cells #[.slice none 0 0, .slice none 0 0, .slice none 0 0] 26)).alloc (.map #[] 0)).alloc (.cells #[.slice none 0 0, .slice none 0 0, .slice none 0 0, .map (some (w.heap.size + 1 + 1))] 123)) = w4 at *
  go_loopw [12] (fun i wr => ∃ (j : Nat) (q : List (Sc.Rule × Value × Value)) (st : Sc.St) (va vn vr : Value), j ≤ l.length ∧ i = .int .i64 j ∧ RvI w st va vn vr q wr ∧ rulesOn (q.map (·.1)) (l.drop j) st = Sc.rulesGo l ⟨[], []⟩ ∧ q.length ≤ j ∧ st.names.length ≤ 5 * j) (fun i _ => l.length - (intOf i).toNat)
  case atStart => exact ⟨0, [], ⟨[], []⟩, _, _, _, Nat.zero_le _, rfl, hst, rulesOn_nil _ _, Nat.le_refl _, Nat.zero_le _⟩
  case round =>
    clear hst
    obtain ⟨j, q, st, va, vn, vr, hj, rfl, hI, hgo, hql, hsn⟩ := hrel
    have HGO : Hid _ := hgo
    clear hgo
    obtain ⟨aor, capr, rfl⟩ := own_slice hI.ow
    obtain ⟨aoa, capa, rfl⟩ := own_slice hI.rs.oa
    obtain ⟨aon, capn, rfl⟩ := own_slice hI.rs.on
    by_cases hjl : j < l.length
    · obtain ⟨b, off, rfl, p0, p1, ⟨tv, p2, hTv⟩, p3, lv, p4, hLv⟩ := rules_at HA.out j hjl
      have q0 := cell_low p0 hI.fr.low
      have q1 := cell_low p1 hI.fr.low
      have q2 := cell_low p2 hI.fr.low
      have q3 := cell_low p3 hI.fr.low
      have q4 := cell_low p4 hI.fr.low
      have hfit := HF.out j hjl
      have hbody : (Tr.ruleD l j).body.length ≤ 4 := hfit.bn
      have HTV : Hid (TermsV w tv (Tr.ruleD l j).terms) := hTv
      have HLV : Hid (LitsV w lv (Tr.ruleD l j).body) := hLv
      have HFT : Hid (TrFit (Tr.ruleD l j)) := hfit
      obtain ⟨at2, ct2, rfl, _⟩ := hTv
      obtain ⟨ab2, cb2, rfl, _⟩ := hLv
      have HBD : Hid (∀ e, Sc.ruleStep st (Tr.ruleD l j) = .inl e → Sc.rulesGo l ⟨[], []⟩ = .inl e) := fun e he => HGO.out.symm.trans (rulesOn_bad hjl he)
      have HOK : Hid (∀ y st3, Sc.ruleStep st (Tr.ruleD l j) = .inr (y, st3) → rulesOn (q.map (·.1) ++ [y]) (l.drop (j + 1)) st3 = Sc.rulesGo l ⟨[], []⟩ ∧ st3.names.length ≤ 5 * (j + 1)) := fun y st3 he => ⟨(rulesOn_step hjl he).symm.trans HGO.out, by have := ruleStep_len he; omega⟩
      clear p0 p1 p2 p3 p4 HGO hfit hbody
      generalize hx : Tr.ruleD l j = x at *
      clear hx
      go_upto_region 5 with fail
      have hba : Below wr.heap.size wr (wr.alloc (.cells #[.int .i64 x.at_, .string ⟨x.name.toArray⟩, .slice at2 x.terms.length ct2, .int .i64 x.fold, .slice ab2 x.body.length cb2] 57)) := (Below.refl _ _).alloc (Nat.le_refl _) _
      have hIa := hI.below hba
      have hlo := heap_alloc_new wr (.cells #[.int .i64 x.at_, .string ⟨x.name.toArray⟩, .slice at2 x.terms.length ct2, .int .i64 x.fold, .slice ab2 x.body.length cb2] 57)
      have l0 : (wr.alloc (.cells #[.int .i64 x.at_, .string ⟨x.name.toArray⟩, .slice at2 x.terms.length ct2, .int .i64 x.fold, .slice ab2 x.body.length cb2] 57)).cell? ⟨wr.heap.size, 0, none⟩ = some (.int .i64 x.at_) := by rw [Lib.cell_of_heap hlo]; rfl
      have l1 : (wr.alloc (.cells #[.int .i64 x.at_, .string ⟨x.name.toArray⟩, .slice at2 x.terms.length ct2, .int .i64 x.fold, .slice ab2 x.body.length cb2] 57)).cell? ⟨wr.heap.size, 1, none⟩ = some (.string ⟨x.name.toArray⟩) := by rw [Lib.cell_of_heap hlo]; rfl
      have l2 : (wr.alloc (.cells #[.int .i64 x.at_, .string ⟨x.name.toArray⟩, .slice at2 x.terms.length ct2, .int .i64 x.fold, .slice ab2 x.body.length cb2] 57)).cell? ⟨wr.heap.size, 2, none⟩ = some (.slice at2 x.terms.length ct2) := by rw [Lib.cell_of_heap hlo]; rfl
      have l3 : (wr.alloc (.cells #[.int .i64 x.at_, .string ⟨x.name.toArray⟩, .slice at2 x.terms.length ct2, .int .i64 x.fold, .slice ab2 x.body.length cb2] 57)).cell? ⟨wr.heap.size, 3, none⟩ = some (.int .i64 x.fold) := by rw [Lib.cell_of_heap hlo]; rfl
      have l4 : (wr.alloc (.cells #[.int .i64 x.at_, .string ⟨x.name.toArray⟩, .slice at2 x.terms.length ct2, .int .i64 x.fold, .slice ab2 x.body.length cb2] 57)).cell? ⟨wr.heap.size, 4, none⟩ = some (.slice ab2 x.body.length cb2) := by rw [Lib.cell_of_heap hlo]; rfl
      clear hI hlo hba q0 q1 q2 q3 q4
      generalize wr.alloc (.cells #[.int .i64 x.at_, .string ⟨x.name.toArray⟩, .slice at2 x.terms.length ct2, .int .i64 x.fold, .slice ab2 x.body.length cb2] 57) = wa at *
      have HLA : Hid (∀ y, Below wa.heap.size wa y → Calls Tryz.prog 75 #[.pointer (some ⟨w.heap.size + 1 + 1 + 1, 0, none⟩), ruleVal x (.slice at2 x.terms.length ct2) (.slice ab2 x.body.length cb2)] y (RuleR w.heap.size (w.heap.size + 1 + 1 + 1 + 1) (w.heap.size + 1 + 1 + 1) (w.heap.size + 1 + 1) st (.slice aor q.length capr) x y)) := fun y hy =>
        ruleR_any w.heap.size (w.heap.size + 1 + 1 + 1 + 1) (w.heap.size + 1 + 1 + 1) (w.heap.size + 1 + 1) st _ _ _ x _ _ y (hIa.rs.below hy) (by omega) (by omega) w rfl (fun k hk => (hy.block k (by have := hIa.rs.sz; omega)).trans (hIa.fr.low k hk)) HTV.out HLV.out HFT.out (by omega)
      have d2 : wa.cell? ⟨w.heap.size + 1 + 1 + 1, 2, none⟩ = some (.slice aor q.length capr) := by rw [Lib.cell_of_heap hIa.rs.box]; rfl
      rcases hls : Sc.ruleStep st x with e0 | ⟨ly, st3⟩
      · have HN : Hid (∀ y, Below wa.heap.size wa y → Calls Tryz.prog 75 #[.pointer (some ⟨w.heap.size + 1 + 1 + 1, 0, none⟩), ruleVal x (.slice at2 x.terms.length ct2) (.slice ab2 x.body.length cb2)] y fun e w' => e = gaveF e0.1 e0.2 ∧ ResR l w (gaveF e0.1 e0.2) w') := by
          intro y hy
          refine (HLA.out y hy).mono ?_
          intro e w' h
          unfold RuleR at h
          rw [hls] at h
          refine ⟨h.1, ?_⟩
          unfold ResR
          rw [HRS.out, HBD.out _ hls]
          have hf := (hIa.fr.trans (FrL.of_below hy (by have := hIa.rs.sz; omega))).trans h.2
          exact ⟨rfl, hf.os, hf.tape, hf.output, hf.size, hf.low⟩
        clear HLA HBD HOK HRS
        go_region_dies
        all_goals (refine Calls.mono (HN.out _ ⟨rfl, rfl, rfl, Nat.le_refl _, fun _ _ => rfl⟩) ?_)
        all_goals rintro e y2 ⟨rfl, hg2⟩
        all_goals exact ⟨rfl, hg2⟩
      · obtain ⟨hgo3, hs3⟩ := HOK.out _ _ hls
        have HGO3 : Hid _ := hgo3
        have HN : Hid (∀ y, Below wa.heap.size wa y → Calls Tryz.prog 75 #[.pointer (some ⟨w.heap.size + 1 + 1 + 1, 0, none⟩), ruleVal x (.slice at2 x.terms.length ct2) (.slice ab2 x.body.length cb2)] y fun e w' => ∃ va3 vn3 aol capl abl cabl, e = .returned (pruleVal ly (.slice aol ly.terms.length capl) (.slice abl ly.body.length cabl)) ∧ RvI w st3 va3 vn3 (.slice aor q.length capr) q w' ∧ PTermsP (w.heap.size + 1 + 1 + 1 + 1) w' (.slice aol ly.terms.length capl) ly.terms ∧ PLitsP (w.heap.size + 1 + 1 + 1 + 1) w' (.slice abl ly.body.length cabl) ly.body) := by
          intro y hy
          refine (HLA.out y hy).mono ?_
          intro e w' h
          unfold RuleR at h
          rw [hls] at h
          obtain ⟨va3, vn3, vt, vb, he, hR, hT, hL, hf⟩ := h
          have hI3 := (hIa.below hy).rule hR hf
          obtain ⟨aol, capl, hv, _⟩ := id hT.1
          obtain ⟨abl, cabl, hv2, _⟩ := id hL.toV
          simp only [List.length_map] at hv
          subst hv
          subst hv2
          exact ⟨va3, vn3, aol, capl, abl, cabl, he, hI3, hT, hL⟩
        clear HLA HBD HOK HRS hgo3 hls
        go_region_law (first
          | (go_simp; go_at_call 75; refine Calls.mono (HN.out _ ⟨rfl, rfl, rfl, Nat.le_refl _, fun _ _ => rfl⟩) ?_; rintro e y2 ⟨va3, vn3, aol, capl, abl, cabl, rfl, hI2, hT2, hL2⟩; have e3 : y2.cell? ⟨w.heap.size + 1 + 1 + 1, 2, none⟩ = some (.slice aor q.length capr) := (by rw [Lib.cell_of_heap hI2.rs.box]; rfl); have e3a : ∀ o, (y2.alloc o).cell? ⟨w.heap.size + 1 + 1 + 1, 2, none⟩ = some (.slice aor q.length capr) := fun o => cell_below ((Below.refl _ _).alloc (Nat.le_refl _) o) e3; have hsz := hI2.rs.sz; dsimp only)
          | (refine step_append_lies _ rfl (.tmp 21) (.tmp 25) 24 rfl (w.heap.size + 1 + 1 + 1 + 1) 67 i0 _ 5 72 Tryz.underlying24 hi hy0 hy1 hy2 rfl (by decide) (.slice aor q.length capr) q.length _ ?hs (RvI.below hI2 ((Below.refl _ _).alloc (Nat.le_refl _) _)).ow ⟨y2.heap.size, 0, none⟩ 1 1 (prCells (ly, .slice aol ly.terms.length capl, .slice abl ly.body.length cabl)) ?hx rfl ?hn ?ho ?hm ?h6 ?hb ?hB _ rfl ?_
             case hs => simp [Act.eval]
             case hx => simp [Act.eval]
             case hn => exact news_prule _ _ _ _
             case ho => exact one_prule _ _ _ _ _ _ _
             case hm => decide
             case h6 => (unfold maxLen; omega)
             case hb => omega
             case hB => (simp; omega)
             intro g capg y3 hown hgrow hat hlt
             have hI3 := RvI.put (RvI.below hI2 ((Below.refl _ _).alloc (Nat.le_refl _) _)) hgrow hown (hT2.keep (keeps_below _ ((Below.refl _ _).alloc (Nat.le_refl _) _))) (hL2.keep (keeps_below _ ((Below.refl _ _).alloc (Nat.le_refl _) _)))
             have hbx3 := grown_cells hgrow (RvI.below hI2 ((Below.refl _ _).alloc (Nat.le_refl _) _)).ow (RvI.below hI2 ((Below.refl _ _).alloc (Nat.le_refl _) _)).rs.box (by decide)
             have g3 : y3.cell? ⟨w.heap.size + 1 + 1 + 1, 2, none⟩ = some (.slice aor q.length capr) := by rw [Lib.cell_of_heap hbx3]; rfl
             have gf3 : y3.frozen? ⟨w.heap.size + 1 + 1 + 1, 2, none⟩ = false := Lib.frozen_of_heap hbx3 2))
        all_goals go_wp2_with fail
        all_goals go_roundw
        all_goals first
          | exact ⟨j + 1, q ++ [(ly, _, _)], st3, va3, vn3, _, by omega, by simp, hI3, by simpa using HGO3.out, by rw [List.length_append]; simp; omega, by omega⟩
          | omega
          | (show l.length - (j + 1) < l.length - j; omega)
    · have hje : j = l.length := by omega
      have hgo3 : Sc.rulesGo l ⟨[], []⟩ = .inr (q.map (·.1), st) := by
        rw [← HGO.out, hje]
        simp [rulesOn, Sc.rulesGo]
      have HFin : Hid (∀ w9, SetB (w.heap.size + 1) wr w9 → ResR l w (.returned (progVal (.slice aoa st.arity.length capa) (.slice aon st.names.length capn) (.slice aor q.length capr))) w9) := by
        intro w9 h9
        unfold ResR
        rw [HRS.out, hgo3]
        exact ⟨_, _, _, rfl, hI.prog h9⟩
      have x0 : wr.cell? ⟨w.heap.size + 1 + 1 + 1, 0, none⟩ = some (.slice aoa st.arity.length capa) := by rw [Lib.cell_of_heap hI.rs.box]; rfl
      have x1 : wr.cell? ⟨w.heap.size + 1 + 1 + 1, 1, none⟩ = some (.slice aon st.names.length capn) := by rw [Lib.cell_of_heap hI.rs.box]; rfl
      have x2 : wr.cell? ⟨w.heap.size + 1 + 1 + 1, 2, none⟩ = some (.slice aor q.length capr) := by rw [Lib.cell_of_heap hI.rs.box]; rfl
      have o0 : wr.cell? ⟨w.heap.size + 1, 0, none⟩ = some (.slice none 0 0) := by rw [Lib.cell_of_heap hI.zb]; rfl
      have o1 : wr.cell? ⟨w.heap.size + 1, 1, none⟩ = some (.slice none 0 0) := by rw [Lib.cell_of_heap hI.zb]; rfl
      have o2 : wr.cell? ⟨w.heap.size + 1, 2, none⟩ = some (.slice none 0 0) := by rw [Lib.cell_of_heap hI.zb]; rfl
      have of0 : wr.frozen? ⟨w.heap.size + 1, 0, none⟩ = false := Lib.frozen_of_heap hI.zb 0
      have of1 : wr.frozen? ⟨w.heap.size + 1, 1, none⟩ = false := Lib.frozen_of_heap hI.zb 1
      have of2 : wr.frozen? ⟨w.heap.size + 1, 2, none⟩ = false := Lib.frozen_of_heap hI.zb 2
      clear hI HGO HRS hgo3 hje
      go_wp2_with fail
      refine bodyPost_ret (v := progVal (.slice aoa st.arity.length capa) (.slice aon st.names.length capn) (.slice aor q.length capr)) (by simp [results, Tryz.results42, go_sem, o0, o1, o2]) rfl (HFin.out _ ?_)
      exact ((SetB.one _ _ _ _).trans (SetB.one _ _ _ _)).trans (SetB.one _ _ _ _)

end Go.Proofs.YtgpaleifhcdjnaaGreatDoor

/- Package scope: lengths of what is resolved, and that what is refused has a reason. -/
namespace Go.Proofs.YtgpaleifhcdjnaaGreatDoor

theorem termsGo_length : ∀ (l : List Tr.Term) (vs : List (List UInt8)), (Sc.termsGo l vs).length = l.length := by
  intro l
  induction l with
  | nil => intro vs; rfl
  | cons t r ih => intro vs; simp [Sc.termsGo, ih]
theorem termsStep_ok {vs vs1 : List (List UInt8)} {a : Int} {l : List Tr.Term} {t : List Sc.Term} (h : Sc.termsStep vs a l = .inr (t, vs1)) : t.length = l.length := by
  unfold Sc.termsStep at h
  split at h
  · injection h with h
    injection h with h _
    rw [← h, termsGo_length]
  · cases h
theorem termsStep_bad {vs : List (List UInt8)} {a : Int} {l : List Tr.Term} {e : Sc.Bad} (h : Sc.termsStep vs a l = .inl e) : ¬ e.2 = 0 := by
  unfold Sc.termsStep at h
  split at h
  · cases h
  · injection h with h
    rw [← h]
    show ¬ (3 : Int) = 0
    decide
theorem predStep_bad {st : Sc.St} {a n : Int} {s : List UInt8} {e : Sc.Bad} (h : Sc.predStep st a s n = .inl e) : ¬ e.2 = 0 := by
  unfold Sc.predStep at h
  split at h
  · cases h
  · injection h with h
    rw [← h]
    show ¬ (1 : Int) = 0
    decide
theorem litStep_bad {st : Sc.St} {vs : List (List UInt8)} {x : Tr.Lit} {e : Sc.Bad} (h : Sc.litStep st vs x = .inl e) : ¬ e.2 = 0 := by
  unfold Sc.litStep at h
  rcases hp : (if x.kind = 1 ∨ x.kind = 2 then Sc.predStep st x.at_ x.name x.terms.length else .inr (0, st)) with y | ⟨k, st1⟩
  · rw [hp] at h
    simp only at h
    injection h with h
    subst h
    split at hp
    · exact predStep_bad hp
    · cases hp
  · rw [hp] at h
    simp only at h
    rcases ht : Sc.termsStep vs x.at_ x.terms with y | ⟨l, vs1⟩
    · rw [ht] at h
      simp only at h
      injection h with h
      subst h
      exact termsStep_bad ht
    · rw [ht] at h; cases h
theorem litStep_ok {st st2 : Sc.St} {vs vs2 : List (List UInt8)} {x : Tr.Lit} {y : Sc.Lit} (h : Sc.litStep st vs x = .inr (y, st2, vs2)) : y.terms.length = x.terms.length := by
  unfold Sc.litStep at h
  rcases hp : (if x.kind = 1 ∨ x.kind = 2 then Sc.predStep st x.at_ x.name x.terms.length else .inr (0, st)) with e | ⟨k, st1⟩
  · rw [hp] at h; cases h
  · rw [hp] at h
    simp only at h
    rcases ht : Sc.termsStep vs x.at_ x.terms with e | ⟨l, vs1⟩
    · rw [ht] at h; cases h
    · rw [ht] at h
      simp only at h
      injection h with h
      injection h with h _
      rw [← h]
      exact termsStep_ok ht
theorem litsGo_bad : ∀ (l : List Tr.Lit) (st : Sc.St) (vs : List (List UInt8)) (e : Sc.Bad), Sc.litsGo l st vs = .inl e → ¬ e.2 = 0 := by
  intro l
  induction l with
  | nil => intro st vs e h; cases h
  | cons x r ih =>
    intro st vs e h
    simp only [Sc.litsGo] at h
    rcases hs : Sc.litStep st vs x with y | ⟨y, st1, vs1⟩
    · rw [hs] at h
      simp only at h
      injection h with h
      subst h
      exact litStep_bad hs
    · rw [hs] at h
      simp only at h
      rcases hg : Sc.litsGo r st1 vs1 with z | ⟨b', st3, vs3⟩
      · rw [hg] at h
        simp only at h
        injection h with h
        subst h
        exact ih _ _ _ hg
      · rw [hg] at h; cases h
theorem litsGo_ok (K : Nat) : ∀ (l : List Tr.Lit) (st : Sc.St) (vs : List (List UInt8)) (b : List Sc.Lit) (st2 : Sc.St) (vs2 : List (List UInt8)), Sc.litsGo l st vs = .inr (b, st2, vs2) → (∀ x, x ∈ l → x.terms.length ≤ K) → b.length = l.length ∧ ∀ y, y ∈ b → y.terms.length ≤ K := by
  intro l
  induction l with
  | nil =>
    intro st vs b st2 vs2 h _
    simp only [Sc.litsGo] at h
    injection h with h
    injection h with h _
    subst h
    exact ⟨rfl, fun _ hy => absurd hy (by simp)⟩
  | cons x r ih =>
    intro st vs b st2 vs2 h hK
    simp only [Sc.litsGo] at h
    rcases hs : Sc.litStep st vs x with e | ⟨y, st1, vs1⟩
    · rw [hs] at h; cases h
    rw [hs] at h
    simp only at h
    rcases hg : Sc.litsGo r st1 vs1 with e | ⟨b', st3, vs3⟩
    · rw [hg] at h; cases h
    rw [hg] at h
    simp only at h
    injection h with h
    injection h with h _
    subst h
    obtain ⟨h1, h2⟩ := ih _ _ _ _ _ hg (fun x hx => hK x (List.mem_cons_of_mem _ hx))
    refine ⟨by simp [h1], fun z hz => ?_⟩
    rcases List.mem_cons.mp hz with rfl | hz
    · rw [litStep_ok hs]; exact hK x List.mem_cons_self
    · exact h2 z hz
theorem ruleStep_bad {st : Sc.St} {x : Tr.Rule} {e : Sc.Bad} (h : Sc.ruleStep st x = .inl e) : ¬ e.2 = 0 := by
  unfold Sc.ruleStep at h
  rcases hp : Sc.predStep st x.at_ x.name x.terms.length with y | ⟨k, s1⟩
  · rw [hp] at h
    simp only at h
    injection h with h
    subst h
    exact predStep_bad hp
  rw [hp] at h
  simp only at h
  rcases ht : Sc.termsStep [] x.at_ x.terms with y | ⟨tl, vs⟩
  · rw [ht] at h
    simp only at h
    injection h with h
    subst h
    exact termsStep_bad ht
  rw [ht] at h
  simp only at h
  rcases hg : Sc.litsGo x.body s1 vs with y | ⟨b, s2, vs2⟩
  · rw [hg] at h
    simp only at h
    injection h with h
    subst h
    exact litsGo_bad _ _ _ _ hg
  · rw [hg] at h; cases h
theorem ruleStep_ok {st st1 : Sc.St} {x : Tr.Rule} {y : Sc.Rule} {K : Nat} (h : Sc.ruleStep st x = .inr (y, st1)) (hK : ∀ z, z ∈ x.body → z.terms.length ≤ K) : y.terms.length = x.terms.length ∧ y.body.length = x.body.length ∧ ∀ z, z ∈ y.body → z.terms.length ≤ K := by
  unfold Sc.ruleStep at h
  rcases hp : Sc.predStep st x.at_ x.name x.terms.length with e | ⟨k, s1⟩
  · rw [hp] at h; cases h
  rw [hp] at h
  simp only at h
  rcases ht : Sc.termsStep [] x.at_ x.terms with e | ⟨tl, vs⟩
  · rw [ht] at h; cases h
  rw [ht] at h
  simp only at h
  rcases hg : Sc.litsGo x.body s1 vs with e | ⟨b, s2, vs2⟩
  · rw [hg] at h; cases h
  rw [hg] at h
  simp only at h
  injection h with h
  injection h with h _
  subst h
  have := litsGo_ok K _ _ _ _ _ _ hg hK
  exact ⟨termsStep_ok ht, this.1, this.2⟩
theorem rulesGo_bad : ∀ (l : List Tr.Rule) (st : Sc.St) (e : Sc.Bad), Sc.rulesGo l st = .inl e → ¬ e.2 = 0 := by
  intro l
  induction l with
  | nil => intro st e h; cases h
  | cons x r ih =>
    intro st e h
    simp only [Sc.rulesGo] at h
    rcases hs : Sc.ruleStep st x with y | ⟨y, st1⟩
    · rw [hs] at h
      simp only at h
      injection h with h
      subst h
      exact ruleStep_bad hs
    · rw [hs] at h
      simp only at h
      rcases hg : Sc.rulesGo r st1 with z | ⟨b', st3⟩
      · rw [hg] at h
        simp only at h
        injection h with h
        subst h
        exact ih _ _ hg
      · rw [hg] at h; cases h
/-- A rule that is not too long. -/
def Short (r : Tr.Rule) : Prop := r.terms.length ≤ 3 ∧ r.body.length ≤ 4 ∧ ∀ z, z ∈ r.body → z.terms.length ≤ 3
theorem rulesGo_ok : ∀ (l : List Tr.Rule) (st : Sc.St) (b : List Sc.Rule) (st2 : Sc.St), Sc.rulesGo l st = .inr (b, st2) → (∀ x, x ∈ l → Short x) → b.length = l.length ∧ (∀ y, y ∈ b → RuleFit y) ∧ st2.names.length ≤ st.names.length + 5 * l.length := by
  intro l
  induction l with
  | nil =>
    intro st b st2 h _
    simp only [Sc.rulesGo] at h
    injection h with h
    injection h with h h2
    subst h
    subst h2
    exact ⟨rfl, fun _ hy => absurd hy (by simp), by simp⟩
  | cons x r ih =>
    intro st b st2 h hK
    simp only [Sc.rulesGo] at h
    rcases hs : Sc.ruleStep st x with e | ⟨y, st1⟩
    · rw [hs] at h; cases h
    rw [hs] at h
    simp only at h
    rcases hg : Sc.rulesGo r st1 with e | ⟨b', st3⟩
    · rw [hg] at h; cases h
    rw [hg] at h
    simp only at h
    injection h with h
    injection h with h h3
    subst h
    subst h3
    obtain ⟨h1, h2, h4⟩ := ih _ _ _ hg (fun x hx => hK x (List.mem_cons_of_mem _ hx))
    obtain ⟨k1, k2, k3⟩ := hK x List.mem_cons_self
    have hl := ruleStep_len hs
    refine ⟨by simp [h1], fun z hz => ?_, by simp only [List.length_cons]; omega⟩
    rcases List.mem_cons.mp hz with rfl | hz
    · obtain ⟨a, b, c⟩ := ruleStep_ok hs k3
      refine ⟨by omega, by omega, fun i hi => ?_⟩
      have : Sc.litD z.body i ∈ z.body := by simp [Sc.litD, hi]
      have := c _ this
      show _ ≤ _
      omega
    · exact h2 z hz
/-- A tree's strings are no longer than a text. -/
def TrNames (l : List Tr.Rule) : Prop := ∀ r, r ∈ l → r.name.length ≤ 5000 ∧ (∀ t, t ∈ r.terms → t.var.length ≤ 5000) ∧ ∀ x, x ∈ r.body → x.name.length ≤ 5000 ∧ ∀ t, t ∈ x.terms → t.var.length ≤ 5000
theorem check_short {l : List Tr.Rule} (h : Tr.check l = 0) : l.length ≤ 12 ∧ ∀ r, r ∈ l → Short r := by
  unfold Tr.check at h
  cases hm : Tr.many l
  · unfold Tr.many at hm
    simp only [Bool.or_eq_false_iff, decide_eq_false_iff_not, List.any_eq_false] at hm
    refine ⟨by omega, fun r hr => ?_⟩
    have := hm.2 r hr
    unfold Tr.ruleMany Tr.litsMany at this
    simp at this
    exact ⟨by omega, by omega, fun z hz => by have := this.2 z hz; omega⟩
  · rw [hm] at h
    simp at h
theorem trFit_of {l : List Tr.Rule} (h : Tr.check l = 0) (hN : TrNames l) : ∀ i, i < l.length → TrFit (Tr.ruleD l i) := by
  intro i hi
  have hm : Tr.ruleD l i ∈ l := by simp [Tr.ruleD, hi]
  obtain ⟨n1, n2, n3⟩ := hN _ hm
  obtain ⟨s1, s2, s3⟩ := (check_short h).2 _ hm
  refine ⟨n1, s1, n2, s2, fun j hj => ?_⟩
  have hx : Tr.litD (Tr.ruleD l i).body j ∈ (Tr.ruleD l i).body := by simp [Tr.litD, hj]
  exact ⟨(n3 _ hx).1, s3 _ hx, (n3 _ hx).2⟩

end Go.Proofs.YtgpaleifhcdjnaaGreatDoor

/- The parser's literals that are reckoned. -/
namespace Go.Proofs.YtgpaleifhcdjnaaGreatDoor
open Go.RowKit

abbrev litZero : Obj := .cells #[.int .i64 0, .int .i64 0, .int .i64 0, .string ⟨#[]⟩, .slice none 0 0] 61
/-- A literal under way: block N: the result's; N + 1: the literal's. -/
structure RInv (w wr : World) (P : Nat) (L : List Tk.Tok) (en : Int) (r : List Tk.Tok) (k at_ op : Int) (v : Value) (acc : List Tr.Term) : Prop where
  went : Went w wr P L en r
  res : wr.heap[w.heap.size]? = some litZero
  lit : wr.heap[w.heap.size + 1]? = some (.cells #[.int .i64 k, .int .i64 at_, .int .i64 op, .string ⟨#[]⟩, v] 61)
  own : wr.ownsRow (w.heap.size + 2) 59 2 v acc.length (acc.map termCells).flatten
  lt : P < w.heap.size

theorem RInv.sz {w wr : World} {P : Nat} {L : List Tk.Tok} {en : Int} {r : List Tk.Tok} {k at_ op : Int} {v : Value} {acc : List Tr.Term} (h : RInv w wr P L en r k at_ op v acc) : w.heap.size + 2 ≤ wr.heap.size := heap_lt h.lit
theorem RInv.start {w : World} {P : Nat} {L : List Tk.Tok} {en : Int} {r : List Tk.Tok} (hA : At w P L en r) (at_ : Int) :
    RInv w ((w.alloc litZero).alloc (.cells #[.int .i64 3, .int .i64 at_, .int .i64 0, .string ⟨#[]⟩, .slice none 0 0] 61)) P L en r 3 at_ 0 (.slice none 0 0) [] where
  went := Went.alloc (Went.alloc ⟨grownBy_of_below (Below.refl _ _) _, hA⟩ _) _
  res := (heap_alloc_old _ _ (by simp)).trans (heap_alloc_new w _)
  lit := by have := heap_alloc_new (w.alloc litZero) (.cells #[.int .i64 3, .int .i64 at_, .int .i64 0, .string ⟨#[]⟩, .slice none 0 0] 61); simpa using this
  own := World.ownsRow_nil _ _ _ _
  lt := hA.lt
theorem RInv.on {w wr w' : World} {P : Nat} {L : List Tk.Tok} {en : Int} {r r' : List Tk.Tok} {k at_ op : Int} {v : Value} {acc : List Tr.Term} (h : RInv w wr P L en r k at_ op v acc) (hW : Went wr w' P L en r') : RInv w w' P L en r' k at_ op v acc where
  went := Went.trans h.went hW
  res := (hW.1.block _ (heap_lt h.res) (by have := h.lt; intro e; injection e; omega)).trans h.res
  lit := (hW.1.block _ (heap_lt h.lit) (by have := h.lt; intro e; injection e; omega)).trans h.lit
  own := ownsRow_grown h.own hW.1 (by have := h.lt; omega)
  lt := h.lt
theorem RInv.below {w wr w' : World} {P : Nat} {L : List Tk.Tok} {en : Int} {r : List Tk.Tok} {k at_ op : Int} {v : Value} {acc : List Tr.Term} (h : RInv w wr P L en r k at_ op v acc) (hb : Below wr.heap.size wr w') : RInv w w' P L en r k at_ op v acc :=
  h.on ⟨grownBy_of_below hb _, h.went.2.below hb⟩
theorem RInv.on2 {w wr wr' w' : World} {P : Nat} {L : List Tk.Tok} {en : Int} {r r' : List Tk.Tok} {k at_ op : Int} {v : Value} {acc : List Tr.Term} (h : RInv w wr P L en r k at_ op v acc) (hW : Went wr' w' P L en r') (hb : Below wr.heap.size wr wr') : RInv w w' P L en r' k at_ op v acc :=
  (h.below hb).on hW
/-- The cells. -/
theorem RInv.cells {w wr : World} {P : Nat} {L : List Tk.Tok} {en : Int} {r : List Tk.Tok} {k at_ op : Int} {v : Value} {acc : List Tr.Term} (h : RInv w wr P L en r k at_ op v acc) :
    wr.cell? ⟨w.heap.size + 1, 0, none⟩ = some (.int .i64 k) ∧ wr.cell? ⟨w.heap.size + 1, 1, none⟩ = some (.int .i64 at_) ∧ wr.cell? ⟨w.heap.size + 1, 2, none⟩ = some (.int .i64 op) ∧ wr.cell? ⟨w.heap.size + 1, 3, none⟩ = some (.string ⟨#[]⟩) ∧
      wr.cell? ⟨w.heap.size + 1, 4, none⟩ = some v ∧ (∀ o, wr.frozen? ⟨w.heap.size + 1, o, none⟩ = false) ∧ (∀ o, wr.frozen? ⟨w.heap.size, o, none⟩ = false) :=
  ⟨by rw [Lib.cell_of_heap h.lit]; rfl, by rw [Lib.cell_of_heap h.lit]; rfl, by rw [Lib.cell_of_heap h.lit]; rfl, by rw [Lib.cell_of_heap h.lit]; rfl, by rw [Lib.cell_of_heap h.lit]; rfl, fun o => by simp [World.frozen?, h.lit], fun o => by simp [World.frozen?, h.res]⟩

theorem RInv.app {w wr w3 : World} {P : Nat} {L : List Tk.Tok} {en : Int} {r : List Tk.Tok} {k at_ op : Int} {v : Value} {acc : List Tr.Term} (h : RInv w wr P L en r k at_ op v acc) (hg : wr.grownBy w3 v.ownBlock) :
    w3.heap[w.heap.size]? = some litZero ∧ w3.heap[w.heap.size + 1]? = some (.cells #[.int .i64 k, .int .i64 at_, .int .i64 op, .string ⟨#[]⟩, v] 61) ∧ w3.cell? ⟨w.heap.size + 1, 4, none⟩ = some v ∧ w3.frozen? ⟨w.heap.size + 1, 4, none⟩ = false := by
  have hs := h.sz
  have hne : ∀ i, i < w.heap.size + 2 → some i ≠ v.ownBlock := fun i hi he => by have := (h.own.lt i he.symm).1; omega
  have e1 := (hg.block _ (heap_lt h.res) (hne _ (by omega))).trans h.res
  have e2 := (hg.block _ (heap_lt h.lit) (hne _ (by omega))).trans h.lit
  exact ⟨e1, e2, by rw [Lib.cell_of_heap e2]; rfl, by simp [World.frozen?, e2]⟩
theorem RInv.put {w wr w3 : World} {P : Nat} {L : List Tk.Tok} {en : Int} {r : List Tk.Tok} {k at_ op : Int} {v v' : Value} {acc : List Tr.Term} {t : Tr.Term} (h : RInv w wr P L en r k at_ op v acc) (hg : wr.grownBy w3 v.ownBlock)
    (hown : w3.ownsRow (w.heap.size + 2) 59 2 v' (acc.length + 1) ((acc.map termCells).flatten ++ termCells t)) : RInv w (w3.setCell ⟨w.heap.size + 1, 4, none⟩ v') P L en r k at_ op v' (acc ++ [t]) where
  went := (Went.own h.went hg h.own (by omega) h.lt).set h.lt (by omega) _ _
  res := (Below.heap_setCell _ _ _ _ (show ¬ w.heap.size = w.heap.size + 1 by omega)).trans (h.app hg).1
  lit := by
    have := (h.app hg).2.1
    simp [World.setCell, Array.getElem?_modify, this]
  own := ownsRow_setCell_below (by simpa using hown) (by simp) _
  lt := h.lt

theorem news_term (w : World) (t : Tr.Term) : ∀ j u, (termCells t)[j]? = some u → (w.alloc (.cells #[.string ⟨t.var.toArray⟩, .int .i64 t.n] 59)).cell? ((⟨w.heap.size, 0, none⟩ : Addr).add j) = some u := World.news_of_block (heap_alloc_new w _)
theorem one_term (t : Tr.Term) : ∀ u ∈ termCells t, u.oneCell' = true := by intro u hu; simp [termCells] at hu; rcases hu with rfl | rfl <;> rfl

theorem RInv.setOp {w wr : World} {P : Nat} {L : List Tk.Tok} {en : Int} {r : List Tk.Tok} {k at_ op : Int} {v : Value} {acc : List Tr.Term} (h : RInv w wr P L en r k at_ op v acc) (o : Int) : RInv w (wr.setCell ⟨w.heap.size + 1, 2, none⟩ (.int .i64 o)) P L en r k at_ o v acc where
  went := h.went.set h.lt (by omega) _ _
  res := (Below.heap_setCell _ _ _ _ (show ¬ w.heap.size = w.heap.size + 1 by omega)).trans h.res
  lit := by
    have := h.lit
    simp [World.setCell, Array.getElem?_modify, this]
  own := ownsRow_setCell_below h.own (by simp) _
  lt := h.lt
theorem RInv.setKind {w wr : World} {P : Nat} {L : List Tk.Tok} {en : Int} {r : List Tk.Tok} {k at_ op : Int} {v : Value} {acc : List Tr.Term} (h : RInv w wr P L en r k at_ op v acc) (o : Int) : RInv w (wr.setCell ⟨w.heap.size + 1, 0, none⟩ (.int .i64 o)) P L en r o at_ op v acc where
  went := h.went.set h.lt (by omega) _ _
  res := (Below.heap_setCell _ _ _ _ (show ¬ w.heap.size = w.heap.size + 1 by omega)).trans h.res
  lit := by
    have := h.lit
    simp [World.setCell, Array.getElem?_modify, this]
  own := ownsRow_setCell_below h.own (by simp) _
  lt := h.lt
theorem RInv.rcells {w wr : World} {P : Nat} {L : List Tk.Tok} {en : Int} {r : List Tk.Tok} {k at_ op : Int} {v : Value} {acc : List Tr.Term} (h : RInv w wr P L en r k at_ op v acc) :
    wr.cell? ⟨w.heap.size, 0, none⟩ = some (.int .i64 0) ∧ wr.cell? ⟨w.heap.size, 1, none⟩ = some (.int .i64 0) ∧ wr.cell? ⟨w.heap.size, 2, none⟩ = some (.int .i64 0) ∧ wr.cell? ⟨w.heap.size, 3, none⟩ = some (.string ⟨#[]⟩) ∧
      wr.cell? ⟨w.heap.size, 4, none⟩ = some (.slice none 0 0) :=
  ⟨by rw [Lib.cell_of_heap h.res]; rfl, by rw [Lib.cell_of_heap h.res]; rfl, by rw [Lib.cell_of_heap h.res]; rfl, by rw [Lib.cell_of_heap h.res]; rfl, by rw [Lib.cell_of_heap h.res]; rfl⟩
theorem gone {w wr wr' w' : World} {P : Nat} (h : w.grownBy wr (some P)) (hg : wr'.grownBy w' (some P)) (hb : Below wr.heap.size wr wr') : w.grownBy w' (some P) := grownBy_trans (ground h hb) hg
/-- What literal and reckoning leave. -/
def LitEnd (P : Nat) (L : List Tk.Tok) (en : Int) (w : World) (x : Int ⊕ (Tr.Lit × List Tk.Tok)) (e : Ending) (w' : World) : Prop := match x with
  | .inl a => e = gaveP a ∧ w.grownBy w' (some P)
  | .inr x => ∃ v, e = .returned (litVal x.1 v) ∧ TermsP w.heap.size w' v x.1.terms ∧ Went w w' P L en x.2
/-- The literal, copied to the result. -/
theorem RInv.out {w wr : World} {P : Nat} {L : List Tk.Tok} {en : Int} {r : List Tk.Tok} {k at_ op : Int} {v : Value} {acc : List Tr.Term} (h : RInv w wr P L en r k at_ op v acc) (a b c d e : Value) :
    TermsP w.heap.size (((((wr.setCell ⟨w.heap.size, 0, none⟩ a).setCell ⟨w.heap.size, 1, none⟩ b).setCell ⟨w.heap.size, 2, none⟩ c).setCell ⟨w.heap.size, 3, none⟩ d).setCell ⟨w.heap.size, 4, none⟩ e) v acc ∧
      Went w (((((wr.setCell ⟨w.heap.size, 0, none⟩ a).setCell ⟨w.heap.size, 1, none⟩ b).setCell ⟨w.heap.size, 2, none⟩ c).setCell ⟨w.heap.size, 3, none⟩ d).setCell ⟨w.heap.size, 4, none⟩ e) P L en r := by
  have h0 : TermsP (w.heap.size + 2) wr v acc := rowP_own (by intro c hc; simp at hc; obtain ⟨t, _, rfl⟩ := hc; rfl) (by rw [List.length_map]; exact h.own)
  refine ⟨?_, ((((h.went.set h.lt (Nat.le_refl _) _ _).set h.lt (Nat.le_refl _) _ _).set h.lt (Nat.le_refl _) _ _).set h.lt (Nat.le_refl _) _ _).set h.lt (Nat.le_refl _) _ _⟩
  exact (((((h0.keep (keeps_set _ (by omega) _ _)).keep (keeps_set _ (by omega) _ _)).keep (keeps_set _ (by omega) _ _)).keep (keeps_set _ (by omega) _ _)).keep (keeps_set _ (by omega) _ _)).mono (by omega)

set_option maxRecDepth 100000 in
set_option maxHeartbeats 4000000 in
theorem reckon_any (at_ : Int) (P : Nat) (L : List Tk.Tok) (en : Int) (r : List Tk.Tok) (w : World) (hA : At w P L en r) :
    Calls Tryz.prog 153 #[.pointer (some ⟨P, 0, none⟩), .int .i64 at_] w (LitEnd P L en w (Pr.reckon at_ en r)) := by
  obtain ⟨i0, hi, hz0, hz1, hz2⟩ := info_parts A_info71
  have hI := RInv.start hA at_
  have HQ : Hid (∀ X, Pr.reckon at_ en r = X → ∀ e w', LitEnd P L en w X e w' → LitEnd P L en w (Pr.reckon at_ en r) e w') := by rintro X rfl e w' h; exact h
  generalize LitEnd P L en w (Pr.reckon at_ en r) = Q at HQ ⊢
  cases h1 : Pr.term en r with
  | inl a =>
    have hX' : Pr.reckon at_ en r = .inl a := by rw [Pr.reckon, h1]
    have hX : Hid _ := hX'
    clear hX'
    have HN : Hid (∀ w1, At w1 P L en r → _) := fun w1 h => term_no P L en r w1 h a h1
    go_enter Tryz.func153, Tryz.ntmps153
    go_upto_region 2 with fail
    generalize (w.alloc litZero).alloc (.cells #[.int .i64 3, .int .i64 at_, .int .i64 0, .string ⟨#[]⟩, .slice none 0 0] 61) = w0 at *
    obtain ⟨c0, c1, c2, c3, c4, f1, f0⟩ := hI.cells
    go_region_dies
    all_goals (refine Calls.mono (HN.out _ (At.keep hI.went.2 (fun _ _ => rfl))) ?_)
    all_goals rintro e y2 ⟨rfl, hg2⟩
    all_goals exact ⟨rfl, HQ.out _ hX.out _ _ ⟨rfl, gone hI.went.1 hg2 ⟨rfl, rfl, rfl, Nat.le_refl _, fun _ _ => rfl⟩⟩⟩
  | inr x1 =>
    obtain ⟨t1, r1⟩ := x1
    have HT1 : Hid (∀ w1, At w1 P L en r → _) := fun w1 h => term_yes P L en r w1 h t1 r1 h1
    by_cases hop : Pr.opOf (Pr.hd en r1).text = 0
    · have hX' : Pr.reckon at_ en r = .inl (Pr.hd en r1).at_ := by
        have : Pr.op en r1 = .inl (Pr.hd en r1).at_ := by simp [Pr.op, hop]
        simp only [Pr.reckon, h1, this]
      have hX : Hid _ := hX'
      clear hX'
      have HN : Hid (∀ w1, At w1 P L en r1 → _) := fun w1 h => op_no P L en r1 w1 h hop
      generalize Pr.hd en r1 = x at *
      go_enter Tryz.func153, Tryz.ntmps153
      go_upto_region 2 with fail
      generalize (w.alloc litZero).alloc (.cells #[.int .i64 3, .int .i64 at_, .int .i64 0, .string ⟨#[]⟩, .slice none 0 0] 61) = w0 at *
      obtain ⟨c0, c1, c2, c3, c4, f1, f0⟩ := hI.cells
      go_cut [] (fun wx => ∃ v, RInv w wx P L en r1 3 at_ 0 v [t1])
      case first =>
        go_region_law (first
          | (go_simp; go_at_call 152; refine Calls.mono (HT1.out _ (At.keep hI.went.2 (fun _ _ => rfl))) ?_; rintro e y2 ⟨rfl, hW2⟩; have hI2 := RInv.on2 hI hW2 ⟨rfl, rfl, rfl, Nat.le_refl _, fun _ _ => rfl⟩; obtain ⟨d0, d1, d2, d3, d4, g1, g0⟩ := hI2.cells; have hsz := hI2.sz; have hsz1 : w.heap.size + 1 < y2.heap.size := hsz; dsimp only)
          | (refine step_append_lies _ rfl (.tmp 9) (.tmp 12) 54 rfl (w.heap.size + 2) 59 i0 _ 2 24 Tryz.underlying54 hi hz0 hz1 hz2 rfl (by decide) (.slice none 0 0) 0 _ ?hs (RInv.below hI2 ((Below.refl _ _).alloc (Nat.le_refl _) _)).own ⟨y2.heap.size, 0, none⟩ 1 1 (termCells t1) ?hx rfl ?hn ?ho ?hm ?h6 ?hb ?hB _ rfl ?_
             case hs => simp [Act.eval]
             case hx => simp [Act.eval]
             case hn => exact news_term _ _
             case ho => exact one_term _
             case hm => decide
             case h6 => decide
             case hb => decide
             case hB => (simp; omega)
             intro g cap y3 hown hgrow hat hlt
             have hI3 := RInv.put (t := t1) (RInv.below hI2 ((Below.refl _ _).alloc (Nat.le_refl _) _)) hgrow hown
             obtain ⟨_, _, e4, ef⟩ := RInv.app (RInv.below hI2 ((Below.refl _ _).alloc (Nat.le_refl _) _)) hgrow))
        all_goals (go_wp2_with fail; go_meet)
        all_goals exact ⟨_, hI3⟩
      case rest =>
        obtain ⟨va, hIa⟩ := hcut
        obtain ⟨aoa, capa, rfl⟩ := own_slice hIa.own
        go_wp2_with fail
        refine Calls.mono (HN.out _ hIa.went.2) ?_
        rintro e y2 ⟨rfl, hb2⟩
        exact ⟨rfl, HQ.out _ hX.out _ _ ⟨rfl, ground hIa.went.1 hb2⟩⟩
    · have hO : Pr.op en r1 = .inr (Pr.opOf (Pr.hd en r1).text, r1.tail) := by simp [Pr.op, hop]
      have HO : Hid (∀ w1, At w1 P L en r1 → _) := fun w1 h => op_yes P L en r1 w1 h hop
      generalize Pr.opOf (Pr.hd en r1).text = o at hO HO
      clear hop
      have hX0' : Pr.reckon at_ en r = match Pr.term en r1.tail with
          | .inl p => .inl p
          | .inr b => if Tr.between o 5 7 then Pr.calcLit at_ o t1 b.1 en b.2 else .inr (⟨3, at_, o, [], [t1, b.1]⟩, b.2) := by
        simp only [Pr.reckon, h1, hO]
        cases Pr.term en r1.tail <;> rfl
      have hX0 : Hid _ := hX0'
      clear hX0'
      go_enter Tryz.func153, Tryz.ntmps153
      go_upto_region 2 with fail
      generalize (w.alloc litZero).alloc (.cells #[.int .i64 3, .int .i64 at_, .int .i64 0, .string ⟨#[]⟩, .slice none 0 0] 61) = w0 at *
      obtain ⟨c0, c1, c2, c3, c4, f1, f0⟩ := hI.cells
      go_cut [] (fun wx => ∃ v, RInv w wx P L en r1 3 at_ 0 v [t1])
      case first =>
        go_region_law (first
          | (go_simp; go_at_call 152; refine Calls.mono (HT1.out _ (At.keep hI.went.2 (fun _ _ => rfl))) ?_; rintro e y2 ⟨rfl, hW2⟩; have hI2 := RInv.on2 hI hW2 ⟨rfl, rfl, rfl, Nat.le_refl _, fun _ _ => rfl⟩; obtain ⟨d0, d1, d2, d3, d4, g1, g0⟩ := hI2.cells; have hsz := hI2.sz; have hsz1 : w.heap.size + 1 < y2.heap.size := hsz; dsimp only)
          | (refine step_append_lies _ rfl (.tmp 9) (.tmp 12) 54 rfl (w.heap.size + 2) 59 i0 _ 2 24 Tryz.underlying54 hi hz0 hz1 hz2 rfl (by decide) (.slice none 0 0) 0 _ ?hs (RInv.below hI2 ((Below.refl _ _).alloc (Nat.le_refl _) _)).own ⟨y2.heap.size, 0, none⟩ 1 1 (termCells t1) ?hx rfl ?hn ?ho ?hm ?h6 ?hb ?hB _ rfl ?_
             case hs => simp [Act.eval]
             case hx => simp [Act.eval]
             case hn => exact news_term _ _
             case ho => exact one_term _
             case hm => decide
             case h6 => decide
             case hb => decide
             case hB => (simp; omega)
             intro g cap y3 hown hgrow hat hlt
             have hI3 := RInv.put (t := t1) (RInv.below hI2 ((Below.refl _ _).alloc (Nat.le_refl _) _)) hgrow hown
             obtain ⟨_, _, e4, ef⟩ := RInv.app (RInv.below hI2 ((Below.refl _ _).alloc (Nat.le_refl _) _)) hgrow))
        all_goals (go_wp2_with fail; go_meet)
        all_goals exact ⟨_, hI3⟩
      case rest =>
        obtain ⟨va, hIa⟩ := hcut
        obtain ⟨aoa, capa, rfl⟩ := own_slice hIa.own
        obtain ⟨c0, c1, c2, c3, c4, f1, f0⟩ := hIa.cells
        clear hI
        go_wp2_with fail
        refine Calls.mono (HO.out _ hIa.went.2) ?_
        rintro e w2 ⟨rfl, hW2⟩
        have hIb := (hIa.on hW2)
        obtain ⟨c0, c1, c2, c3, c4, f1, f0⟩ := hIb.cells
        have hIc := hIb.setOp o
        go_upto_region 4 with fail
        generalize w2.setCell ⟨w.heap.size + 1, 2, none⟩ (.int .i64 o) = w3 at *
        clear c0 c1 c2 c3 c4 f1 f0 hIa hIb
        obtain ⟨c0, c1, c2, c3, c4, f1, f0⟩ := hIc.cells
        generalize r1.tail = r2 at *
        cases h2 : Pr.term en r2 with
        | inl a =>
          have hX' : Pr.reckon at_ en r = .inl a := by rw [hX0.out, h2]
          have hX : Hid _ := hX'
          clear hX'
          have HN : Hid (∀ w1, At w1 P L en r2 → _) := fun w1 h => term_no P L en r2 w1 h a h2
          go_region_dies
          all_goals (refine Calls.mono (HN.out _ (At.keep hIc.went.2 (fun _ _ => rfl))) ?_)
          all_goals rintro e y2 ⟨rfl, hg2⟩
          all_goals exact ⟨rfl, HQ.out _ hX.out _ _ ⟨rfl, gone hIc.went.1 hg2 ⟨rfl, rfl, rfl, Nat.le_refl _, fun _ _ => rfl⟩⟩⟩
        | inr x2 =>
          obtain ⟨t2, r3⟩ := x2
          have hX1' : Pr.reckon at_ en r = if Tr.between o 5 7 then Pr.calcLit at_ o t1 t2 en r3 else .inr (⟨3, at_, o, [], [t1, t2]⟩, r3) := by rw [hX0.out, h2]
          have hX1 : Hid _ := hX1'
          clear hX1'
          have HT2 : Hid (∀ w1, At w1 P L en r2 → _) := fun w1 h => term_yes P L en r2 w1 h t2 r3 h2
          go_cut [] (fun wx => ∃ v, RInv w wx P L en r3 3 at_ o v [t1, t2])
          case first =>
            go_region_law (first
              | (go_simp; go_at_call 152; refine Calls.mono (HT2.out _ (At.keep hIc.went.2 (fun _ _ => rfl))) ?_; rintro e y2 ⟨rfl, hW2⟩; have hI2 := RInv.on2 hIc hW2 ⟨rfl, rfl, rfl, Nat.le_refl _, fun _ _ => rfl⟩; obtain ⟨d0, d1, d2, d3, d4, g1, g0⟩ := hI2.cells; have hsz := hI2.sz; have hsz1 : w.heap.size + 1 < y2.heap.size := hsz; dsimp only)
              | (refine step_append_lies _ rfl (.tmp 19) (.tmp 22) 54 rfl (w.heap.size + 2) 59 i0 _ 2 24 Tryz.underlying54 hi hz0 hz1 hz2 rfl (by decide) (.slice aoa 1 capa) 1 _ ?hs (RInv.below hI2 ((Below.refl _ _).alloc (Nat.le_refl _) _)).own ⟨y2.heap.size, 0, none⟩ 1 1 (termCells t2) ?hx rfl ?hn ?ho ?hm ?h6 ?hb ?hB _ rfl ?_
                 case hs => simp [Act.eval]
                 case hx => simp [Act.eval]
                 case hn => exact news_term _ _
                 case ho => exact one_term _
                 case hm => decide
                 case h6 => decide
                 case hb => decide
                 case hB => (simp; omega)
                 intro g cap y3 hown hgrow hat hlt
                 have hI3 := RInv.put (t := t2) (RInv.below hI2 ((Below.refl _ _).alloc (Nat.le_refl _) _)) hgrow hown
                 obtain ⟨_, _, e4, ef⟩ := RInv.app (RInv.below hI2 ((Below.refl _ _).alloc (Nat.le_refl _) _)) hgrow))
            all_goals (go_wp2_with fail; go_meet)
            all_goals exact ⟨_, hI3⟩
          case rest =>
            obtain ⟨vd, hId⟩ := hcut
            obtain ⟨aod, capd, rfl⟩ := own_slice hId.own
            clear c0 c1 c2 c3 c4 f1 f0 hIc
            obtain ⟨c0, c1, c2, c3, c4, f1, f0⟩ := hId.cells
            clear HT1 HO HT2 hX0
            go_wp2_with fail
            refine (isCalc_any o _).mono ?_
            rintro e w5 ⟨rfl, rfl⟩
            cases hb : Tr.between o 5 7
            · have hX : Pr.reckon at_ en r = .inr (⟨3, at_, o, [], [t1, t2]⟩, r3) := by rw [hX1.out, hb]; rfl
              have HF : Hid (∀ e w', _ → Q e w') := fun e w' h => HQ.out _ hX e w' h
              clear hX hX1 HQ
              obtain ⟨x0, x1, x2, x3, x4⟩ := hId.rcells
              go_wp2
              exact bodyPost_ret (v := litVal ⟨3, at_, o, [], [t1, t2]⟩ (.slice aod 2 capd)) (by simp [results, Tryz.results153, go_sem, x0, x1, x2, x3, x4]) rfl (HF.out _ _ ⟨_, rfl, hId.out _ _ _ _ _⟩)
            · have hIe := hId.setKind 4
              go_wp2_with fail
              cases hm : Pr.isText en r3 [61]
              · have hX' : Pr.reckon at_ en r = .inl (Pr.hd en r3).at_ := by
                  have : Pr.must [61] en r3 = .inl (Pr.hd en r3).at_ := by unfold Pr.must; unfold Pr.isText at hm; rw [hm]; rfl
                  rw [hX1.out, hb]
                  simp only [if_true, Pr.calcLit, this]
                have HF : Hid (∀ e w', _ → Q e w') := fun e w' h => HQ.out _ hX' e w' h
                clear hX' hX1 HQ
                refine (must_no [61] P L en r3 _ hIe.went.2 hm).mono ?_
                rintro e y2 ⟨rfl, hb2⟩
                exact ⟨rfl, HF.out _ _ ⟨rfl, ground hIe.went.1 hb2⟩⟩
              · have hX2' : Pr.reckon at_ en r = match Pr.term en r3.tail with
                    | .inl p => .inl p
                    | .inr z => .inr (⟨4, at_, o, [], [t1, t2, z.1]⟩, z.2) := by
                  have : Pr.must [61] en r3 = .inr r3.tail := by unfold Pr.must; unfold Pr.isText at hm; rw [hm]; rfl
                  rw [hX1.out, hb]
                  simp only [if_true, Pr.calcLit, this]
                  cases Pr.term en r3.tail <;> rfl
                have hX2 : Hid _ := hX2'
                clear hX2'
                refine (must_yes [61] P L en r3 _ hIe.went.2 (by simp) hm).mono ?_
                rintro e w6 ⟨rfl, hW6⟩
                have hIf := hIe.on hW6
                clear c0 c1 c2 c3 c4 f1 f0 hId hIe hW6 hX1
                generalize r3.tail = r4 at *
                obtain ⟨c0, c1, c2, c3, c4, f1, f0⟩ := hIf.cells
                go_upto_region 8 with fail
                cases h3 : Pr.term en r4 with
                | inl a =>
                  have hX' : Pr.reckon at_ en r = .inl a := by rw [hX2.out, h3]
                  have hX : Hid _ := hX'
                  clear hX'
                  have HN : Hid (∀ w1, At w1 P L en r4 → _) := fun w1 h => term_no P L en r4 w1 h a h3
                  go_region_dies
                  all_goals (refine Calls.mono (HN.out _ (At.keep hIf.went.2 (fun _ _ => rfl))) ?_)
                  all_goals rintro e y2 ⟨rfl, hg2⟩
                  all_goals exact ⟨rfl, HQ.out _ hX.out _ _ ⟨rfl, gone hIf.went.1 hg2 ⟨rfl, rfl, rfl, Nat.le_refl _, fun _ _ => rfl⟩⟩⟩
                | inr x3 =>
                  obtain ⟨t3, r5⟩ := x3
                  have hX' : Pr.reckon at_ en r = .inr (⟨4, at_, o, [], [t1, t2, t3]⟩, r5) := by rw [hX2.out, h3]
                  have HF : Hid (∀ e w', _ → Q e w') := fun e w' h => HQ.out _ hX' e w' h
                  clear hX' hX2 HQ
                  have HT3 : Hid (∀ w1, At w1 P L en r4 → _) := fun w1 h => term_yes P L en r4 w1 h t3 r5 h3
                  go_cut [] (fun wx => ∃ v, RInv w wx P L en r5 4 at_ o v [t1, t2, t3])
                  case first =>
                    go_region_law (first
                      | (go_simp; go_at_call 152; refine Calls.mono (HT3.out _ (At.keep hIf.went.2 (fun _ _ => rfl))) ?_; rintro e y2 ⟨rfl, hW2⟩; have hI2 := RInv.on2 hIf hW2 ⟨rfl, rfl, rfl, Nat.le_refl _, fun _ _ => rfl⟩; obtain ⟨d0, d1, d2, d3, d4, g1, g0⟩ := hI2.cells; have hsz := hI2.sz; have hsz1 : w.heap.size + 1 < y2.heap.size := hsz; dsimp only)
                      | (refine step_append_lies _ rfl (.tmp 32) (.tmp 35) 54 rfl (w.heap.size + 2) 59 i0 _ 2 24 Tryz.underlying54 hi hz0 hz1 hz2 rfl (by decide) (.slice aod 2 capd) 2 _ ?hs (RInv.below hI2 ((Below.refl _ _).alloc (Nat.le_refl _) _)).own ⟨y2.heap.size, 0, none⟩ 1 1 (termCells t3) ?hx rfl ?hn ?ho ?hm ?h6 ?hb ?hB _ rfl ?_
                         case hs => simp [Act.eval]
                         case hx => simp [Act.eval]
                         case hn => exact news_term _ _
                         case ho => exact one_term _
                         case hm => decide
                         case h6 => decide
                         case hb => decide
                         case hB => (simp; omega)
                         intro g cap y3 hown hgrow hat hlt
                         have hI3 := RInv.put (t := t3) (RInv.below hI2 ((Below.refl _ _).alloc (Nat.le_refl _) _)) hgrow hown
                         obtain ⟨_, _, e4, ef⟩ := RInv.app (RInv.below hI2 ((Below.refl _ _).alloc (Nat.le_refl _) _)) hgrow))
                    all_goals (go_wp2_with fail; go_meet)
                    all_goals exact ⟨_, hI3⟩
                  case rest =>
                    obtain ⟨vg, hIg⟩ := hcut
                    obtain ⟨aog, capg, rfl⟩ := own_slice hIg.own
                    clear c0 c1 c2 c3 c4 f1 f0 hIf
                    obtain ⟨c0, c1, c2, c3, c4, f1, f0⟩ := hIg.cells
                    obtain ⟨x0, x1, x2, x3, x4⟩ := hIg.rcells
                    go_wp2
                    exact bodyPost_ret (v := litVal ⟨4, at_, o, [], [t1, t2, t3]⟩ (.slice aog 3 capg)) (by simp [results, Tryz.results153, go_sem, x0, x1, x2, x3, x4]) rfl (HF.out _ _ ⟨_, rfl, hIg.out _ _ _ _ _⟩)

end Go.Proofs.YtgpaleifhcdjnaaGreatDoor

/- The parser's literals. -/
namespace Go.Proofs.YtgpaleifhcdjnaaGreatDoor
open Go.RowKit

/-- A literal with a name under way: its block is B. -/
structure LInv (w wr : World) (B P : Nat) (L : List Tk.Tok) (en : Int) (r : List Tk.Tok) (k at_ : Int) (nm : List UInt8) : Prop where
  went : Went w wr P L en r
  res : wr.heap[w.heap.size]? = some litZero
  lit : wr.heap[B]? = some (.cells #[.int .i64 k, .int .i64 at_, .int .i64 0, .string ⟨nm.toArray⟩, .slice none 0 0] 61)
  lt : P < w.heap.size
  ltB : w.heap.size < B
theorem LInv.start {w w1 : World} {P : Nat} {L : List Tk.Tok} {en : Int} {r : List Tk.Tok} (hA : At w P L en r) (hb : Below (w.alloc litZero).heap.size (w.alloc litZero) w1) (at_ : Int) :
    LInv w (w1.alloc (.cells #[.int .i64 0, .int .i64 at_, .int .i64 0, .string ⟨#[]⟩, .slice none 0 0] 61)) w1.heap.size P L en r 0 at_ [] where
  went := (Went.behind ((Below.refl _ _).alloc (Nat.le_refl _) _) ⟨grownBy_of_below hb _, (hA.below ((Below.refl _ _).alloc (Nat.le_refl _) _)).below hb⟩).alloc _
  res := by
    have h1 : w1.heap[w.heap.size]? = some litZero := (hb.block _ (by simp)).trans (heap_alloc_new w _)
    exact (((Below.refl _ _).alloc (Nat.le_refl _) _).block _ (heap_lt h1)).trans h1
  lit := heap_alloc_new w1 _
  lt := hA.lt
  ltB := by have := hb.size; simp at this; omega
theorem LInv.on {w wr w' : World} {B P : Nat} {L : List Tk.Tok} {en : Int} {r r' : List Tk.Tok} {k at_ : Int} {nm : List UInt8} (h : LInv w wr B P L en r k at_ nm) (hW : Went wr w' P L en r') : LInv w w' B P L en r' k at_ nm where
  went := Went.trans h.went hW
  res := (hW.1.block _ (heap_lt h.res) (by have := h.lt; intro e; injection e; omega)).trans h.res
  lit := (hW.1.block _ (heap_lt h.lit) (by have := h.lt; have := h.ltB; intro e; injection e; omega)).trans h.lit
  lt := h.lt
  ltB := h.ltB
theorem LInv.below {w wr w' : World} {B P : Nat} {L : List Tk.Tok} {en : Int} {r : List Tk.Tok} {k at_ : Int} {nm : List UInt8} (h : LInv w wr B P L en r k at_ nm) (hb : Below wr.heap.size wr w') : LInv w w' B P L en r k at_ nm :=
  h.on ⟨grownBy_of_below hb _, h.went.2.below hb⟩
theorem LInv.cells {w wr : World} {B P : Nat} {L : List Tk.Tok} {en : Int} {r : List Tk.Tok} {k at_ : Int} {nm : List UInt8} (h : LInv w wr B P L en r k at_ nm) :
    wr.cell? ⟨B, 0, none⟩ = some (.int .i64 k) ∧ wr.cell? ⟨B, 1, none⟩ = some (.int .i64 at_) ∧ wr.cell? ⟨B, 2, none⟩ = some (.int .i64 0) ∧ wr.cell? ⟨B, 3, none⟩ = some (.string ⟨nm.toArray⟩) ∧
      wr.cell? ⟨B, 4, none⟩ = some (.slice none 0 0) ∧ (∀ o, wr.frozen? ⟨B, o, none⟩ = false) ∧ (∀ o, wr.frozen? ⟨w.heap.size, o, none⟩ = false) :=
  ⟨by rw [Lib.cell_of_heap h.lit]; rfl, by rw [Lib.cell_of_heap h.lit]; rfl, by rw [Lib.cell_of_heap h.lit]; rfl, by rw [Lib.cell_of_heap h.lit]; rfl, by rw [Lib.cell_of_heap h.lit]; rfl, fun o => by simp [World.frozen?, h.lit], fun o => by simp [World.frozen?, h.res]⟩
theorem LInv.rcells {w wr : World} {B P : Nat} {L : List Tk.Tok} {en : Int} {r : List Tk.Tok} {k at_ : Int} {nm : List UInt8} (h : LInv w wr B P L en r k at_ nm) :
    wr.cell? ⟨w.heap.size, 0, none⟩ = some (.int .i64 0) ∧ wr.cell? ⟨w.heap.size, 1, none⟩ = some (.int .i64 0) ∧ wr.cell? ⟨w.heap.size, 2, none⟩ = some (.int .i64 0) ∧ wr.cell? ⟨w.heap.size, 3, none⟩ = some (.string ⟨#[]⟩) ∧
      wr.cell? ⟨w.heap.size, 4, none⟩ = some (.slice none 0 0) :=
  ⟨by rw [Lib.cell_of_heap h.res]; rfl, by rw [Lib.cell_of_heap h.res]; rfl, by rw [Lib.cell_of_heap h.res]; rfl, by rw [Lib.cell_of_heap h.res]; rfl, by rw [Lib.cell_of_heap h.res]; rfl⟩
theorem LInv.setKind {w wr : World} {B P : Nat} {L : List Tk.Tok} {en : Int} {r : List Tk.Tok} {k at_ : Int} {nm : List UInt8} (h : LInv w wr B P L en r k at_ nm) (o : Int) : LInv w (wr.setCell ⟨B, 0, none⟩ (.int .i64 o)) B P L en r o at_ nm where
  went := h.went.set h.lt (Nat.le_of_lt h.ltB) _ _
  res := (Below.heap_setCell _ _ _ _ (show ¬ w.heap.size = B by have := h.ltB; omega)).trans h.res
  lit := by
    have := h.lit
    simp [World.setCell, Array.getElem?_modify, this]
  lt := h.lt
  ltB := h.ltB
theorem LInv.setName {w wr : World} {B P : Nat} {L : List Tk.Tok} {en : Int} {r : List Tk.Tok} {k at_ : Int} {nm : List UInt8} (h : LInv w wr B P L en r k at_ nm) (s : List UInt8) : LInv w (wr.setCell ⟨B, 3, none⟩ (.string ⟨s.toArray⟩)) B P L en r k at_ s where
  went := h.went.set h.lt (Nat.le_of_lt h.ltB) _ _
  res := (Below.heap_setCell _ _ _ _ (show ¬ w.heap.size = B by have := h.ltB; omega)).trans h.res
  lit := by
    have := h.lit
    simp [World.setCell, Array.getElem?_modify, this]
  lt := h.lt
  ltB := h.ltB
theorem Went.put5 {w wr : World} {P : Nat} {L : List Tk.Tok} {en : Int} {r : List Tk.Tok} (h : Went w wr P L en r) (hlt : P < w.heap.size) (a b c d e : Value) :
    Went w (((((wr.setCell ⟨w.heap.size, 0, none⟩ a).setCell ⟨w.heap.size, 1, none⟩ b).setCell ⟨w.heap.size, 2, none⟩ c).setCell ⟨w.heap.size, 3, none⟩ d).setCell ⟨w.heap.size, 4, none⟩ e) P L en r :=
  ((((h.set hlt (Nat.le_refl _) _ _).set hlt (Nat.le_refl _) _ _).set hlt (Nat.le_refl _) _ _).set hlt (Nat.le_refl _) _ _).set hlt (Nat.le_refl _) _ _
theorem keeps5 {w wr : World} {B' : Nat} (hB : w.heap.size < B') (E : TypeId → Prop) (a b c d e : Value) :
    Keeps B' wr (((((wr.setCell ⟨w.heap.size, 0, none⟩ a).setCell ⟨w.heap.size, 1, none⟩ b).setCell ⟨w.heap.size, 2, none⟩ c).setCell ⟨w.heap.size, 3, none⟩ d).setCell ⟨w.heap.size, 4, none⟩ e) E :=
  ((((keeps_set E hB _ _).trans (keeps_set E hB _ _)).trans (keeps_set E hB _ _)).trans (keeps_set E hB _ _)).trans (keeps_set E hB _ _)

set_option maxRecDepth 100000 in
set_option maxHeartbeats 4000000 in
theorem lit_reck (P : Nat) (L : List Tk.Tok) (en : Int) (r : List Tk.Tok) (w : World) (hA : At w P L en r) (h1 : Pr.isText en r [110, 111, 116] = false) (h2 : ((Pr.hd en r).kind == 1) = false) :
    Calls Tryz.prog 129 #[.pointer (some ⟨P, 0, none⟩)] w (LitEnd P L en w (Pr.lit en r)) := by
  have hX : Pr.lit en r = Pr.reckon (Pr.hd en r).at_ en r := by simp [Pr.lit, h1, h2]
  rw [hX]
  have hpk : Hid _ := peekAt P L en r w hA
  have HR : Hid (∀ at_ w1, At w1 P L en r → Calls Tryz.prog 153 #[.pointer (some ⟨P, 0, none⟩), .int .i64 at_] w1 (LitEnd P L en w1 (Pr.reckon at_ en r))) := fun at_ w1 h => reckon_any at_ P L en r w1 h
  generalize Pr.hd en r = x at *
  generalize hY : Pr.reckon x.at_ en r = Y
  go_enter Tryz.func129, Tryz.ntmps129
  go_wp2_with fail
  refine Calls.mono (hpk.out _ ((Below.refl _ _).alloc (Nat.le_refl _) _)) ?_
  rintro e w1 ⟨rfl, hb0⟩
  have hI := LInv.start hA hb0 x.at_
  go_wp2_with fail
  simp only [fld1]
  go_wp2_with fail
  refine (take_no [110, 111, 116] P L en r _ hI.went.2 h1).mono ?_
  rintro e w2 ⟨rfl, hb2⟩
  have hI2 := hI.below hb2
  have hlt2 := hI2.ltB
  obtain ⟨c0, c1, c2, c3, c4, f1, f0⟩ := hI2.cells
  go_wp2_with fail
  have hbw : Below w.heap.size w w2 := ((((Below.refl _ _).alloc (Nat.le_refl _) _).trans (hb0.mono (by simp))).alloc (by have := hb0.size; simp at this; omega) _).trans (hb2.mono (by have := hb0.size; simp at this; simp; omega))
  refine Calls.mono (hpk.out _ hbw) ?_
  rintro e w3 ⟨rfl, hb3⟩
  have hI3 := hI2.below hb3
  obtain ⟨c0, c1, c2, c3, c4, f1, f0⟩ := hI3.cells
  clear hpk hI hI2
  go_wp2_with fail
  simp only [fld0]
  go_wp2_with fail
  refine Calls.mono (HR.out _ _ hI3.went.2) ?_
  rw [hY]
  have hlt := hI3.lt
  cases Y with
  | inl a =>
    rintro e w4 ⟨rfl, hg4⟩
    exact ⟨rfl, rfl, grownBy_trans hI3.went.1 hg4⟩
  | inr y =>
    rintro e w4 ⟨v, rfl, hT, hW4⟩
    have hI4 := hI3.on hW4
    have hsz : w.heap.size < w3.heap.size := heap_lt hI3.res
    obtain ⟨x0, x1, x2, x3, x4⟩ := hI4.rcells
    obtain ⟨c0, c1, c2, c3, c4, f1, f0⟩ := hI4.cells
    obtain ⟨ao, cap, hv, hT'⟩ := hT
    have hT := (show TermsP w3.heap.size w4 v y.1.terms from ⟨ao, cap, hv, hT'⟩)
    subst hv
    go_wp2
    exact bodyPost_ret (v := litVal y.1 _) (by simp [results, Tryz.results129, go_sem, x0, x1, x2, x3, x4]) rfl ⟨_, rfl, (hT.keep (keeps5 hsz _ _ _ _ _ _)).mono (Nat.le_of_lt hsz), hI4.went.put5 hlt _ _ _ _ _⟩

end Go.Proofs.YtgpaleifhcdjnaaGreatDoor

/- The parser's literals with a name. -/
namespace Go.Proofs.YtgpaleifhcdjnaaGreatDoor
open Go.RowKit

set_option maxRecDepth 100000 in
set_option maxHeartbeats 4000000 in
theorem lit_not (P : Nat) (L : List Tk.Tok) (en : Int) (r : List Tk.Tok) (w : World) (hA : At w P L en r) (h1 : Pr.isText en r [110, 111, 116] = true) :
    Calls Tryz.prog 129 #[.pointer (some ⟨P, 0, none⟩)] w (LitEnd P L en w (Pr.lit en r)) := by
  have hX : Pr.lit en r = Pr.atom 2 (Pr.hd en r).at_ en r.tail := by simp [Pr.lit, h1]
  have HQ : Hid (∀ X, Pr.atom 2 (Pr.hd en r).at_ en r.tail = X → ∀ e w', LitEnd P L en w X e w' → LitEnd P L en w (Pr.lit en r) e w') := by rintro X rfl e w' h; rw [hX]; exact h
  generalize LitEnd P L en w (Pr.lit en r) = Q at HQ ⊢
  clear hX
  have hpk : Hid _ := peekAt P L en r w hA
  have HM : Hid (∀ w1, At w1 P L en r → _) := fun w1 h => take_yes [110, 111, 116] P L en r w1 h (by simp) h1
  generalize Pr.hd en r = x at *
  generalize r.tail = r0 at *
  go_enter Tryz.func129, Tryz.ntmps129
  go_wp2_with fail
  refine Calls.mono (hpk.out _ ((Below.refl _ _).alloc (Nat.le_refl _) _)) ?_
  rintro e w1 ⟨rfl, hb0⟩
  have hI := LInv.start hA hb0 x.at_
  go_wp2_with fail
  simp only [fld1]
  go_wp2_with fail
  refine Calls.mono (HM.out _ hI.went.2) ?_
  rintro e w2 ⟨rfl, hW2⟩
  have hI2 := hI.on hW2
  obtain ⟨c0, c1, c2, c3, c4, f1, f0⟩ := hI2.cells
  have hI3 := hI2.setKind 2
  clear hI hpk HM hb0 hA h1
  cases hn : (((Pr.hd en r0).kind == 1) && !Tr.isWord (Pr.hd en r0).text)
  · have hN : Pr.name en r0 = .inl (Pr.hd en r0).at_ := by unfold Pr.name; rw [hn]; rfl
    have HF : Hid (∀ e w', LitEnd P L en w (.inl (Pr.hd en r0).at_) e w' → Q e w') := fun e w' h => HQ.out _ (by simp only [Pr.atom, hN]) e w' h
    go_wp2_with fail
    refine (name_no P L en r0 _ hI3.went.2 hn).mono ?_
    rintro e w5 ⟨rfl, hb5⟩
    exact ⟨rfl, HF.out _ _ ⟨rfl, ground hI3.went.1 hb5⟩⟩
  · have hN : Pr.name en r0 = .inr ((Pr.hd en r0).text, r0.tail) := by unfold Pr.name; rw [hn]; rfl
    have HN : Hid (∀ w1, At w1 P L en r0 → _) := fun w1 h => name_yes P L en r0 w1 h hn
    have HA : Hid (∀ X, (match Pr.terms false en r0.tail with
        | .inl a => Sum.inl a
        | .inr y => .inr ((⟨2, x.at_, 0, (Pr.hd en r0).text, y.1.1⟩ : Tr.Lit), y.2)) = X → ∀ e w', LitEnd P L en w X e w' → Q e w') := by
      intro X hX e w' h
      refine HQ.out X ?_ e w' h
      rw [← hX]
      simp only [Pr.atom, hN]
      cases Pr.terms false en r0.tail <;> rfl
    have HT : Hid (∀ w1, At w1 P L en r0.tail → _) := fun w1 h => terms_any false P L en r0.tail w1 h
    unfold TermsEnd at HT
    generalize (Pr.hd en r0).text = nm at *
    clear hN hn HQ
    go_wp2_with fail
    refine Calls.mono (HN.out _ hI3.went.2) ?_
    rintro e w5 ⟨rfl, hW5⟩
    have hI5 := hI3.on hW5
    have hI6 := hI5.setName nm
    obtain ⟨c0, c1, c2, c3, c4, f1, f0⟩ := hI5.cells
    go_wp2_with fail
    refine Calls.mono (HT.out _ hI6.went.2) ?_
    have hlt := hI6.lt
    have hltB := hI6.ltB
    have hltB' : w1.heap.size < (w5.setCell ⟨w1.heap.size, 3, none⟩ (.string ⟨nm.toArray⟩)).heap.size := heap_lt hI6.lit
    generalize w5.setCell ⟨w1.heap.size, 3, none⟩ (.string ⟨nm.toArray⟩) = w6 at *
    clear c0 c1 c2 c3 c4 f1 f0 hI5 hW5 HN HT
    cases hY : Pr.terms false en r0.tail with
    | inl a =>
      have HF : Hid (∀ e w', LitEnd P L en w (.inl a) e w' → Q e w') := fun e w' h => HA.out _ (by rw [hY]) e w' h
      rintro e w7 ⟨rfl, hg7⟩
      exact ⟨rfl, HF.out _ _ ⟨rfl, grownBy_trans hI6.went.1 hg7⟩⟩
    | inr y =>
      have HF : Hid (∀ e w', LitEnd P L en w (.inr (⟨2, x.at_, 0, nm, y.1.1⟩, y.2)) e w' → Q e w') := fun e w' h => HA.out _ (by rw [hY]) e w' h
      clear HA
      rintro e w7 ⟨v, rfl, hT, hW7⟩
      have hI7 := hI6.on hW7
      obtain ⟨x0, x1, x2, x3, x4⟩ := hI7.rcells
      obtain ⟨c0, c1, c2, c3, c4, f1, f0⟩ := hI7.cells
      obtain ⟨ao, cap, hv, hT'⟩ := hT
      have hT := (show TermsP w6.heap.size w7 v y.1.1 from ⟨ao, cap, hv, hT'⟩)
      subst hv
      go_wp2
      exact bodyPost_ret (v := litVal ⟨2, x.at_, 0, nm, y.1.1⟩ _) (by simp [results, Tryz.results129, go_sem, x0, x1, x2, x3, x4]) rfl (HF.out _ _ ⟨_, rfl, (((hT.keep (keeps_set _ hltB' _ _)).keep (keeps5 (Nat.lt_trans hltB hltB') _ _ _ _ _ _)).mono (Nat.le_of_lt (Nat.lt_trans hltB hltB'))), (hI7.went.set hlt (Nat.le_of_lt hltB) _ _).put5 hlt _ _ _ _ _⟩)

set_option maxRecDepth 100000 in
set_option maxHeartbeats 4000000 in
theorem lit_yes (P : Nat) (L : List Tk.Tok) (en : Int) (r : List Tk.Tok) (w : World) (hA : At w P L en r) (h1 : Pr.isText en r [110, 111, 116] = false) (h2 : ((Pr.hd en r).kind == 1) = true) :
    Calls Tryz.prog 129 #[.pointer (some ⟨P, 0, none⟩)] w (LitEnd P L en w (Pr.lit en r)) := by
  have hX : Pr.lit en r = Pr.atom 1 (Pr.hd en r).at_ en r := by simp [Pr.lit, h1, h2]
  have HQ : Hid (∀ X, Pr.atom 1 (Pr.hd en r).at_ en r = X → ∀ e w', LitEnd P L en w X e w' → LitEnd P L en w (Pr.lit en r) e w') := by rintro X rfl e w' h; rw [hX]; exact h
  generalize LitEnd P L en w (Pr.lit en r) = Q at HQ ⊢
  clear hX
  have hpk : Hid _ := peekAt P L en r w hA
  have HM : Hid (∀ w1, At w1 P L en r → _) := fun w1 h => take_no [110, 111, 116] P L en r w1 h h1
  generalize hx : Pr.hd en r = x at HQ hpk h2
  have HX : Hid (Pr.hd en r = x) := hx
  clear hx
  go_enter Tryz.func129, Tryz.ntmps129
  go_wp2_with fail
  refine Calls.mono (hpk.out _ ((Below.refl _ _).alloc (Nat.le_refl _) _)) ?_
  rintro e w1 ⟨rfl, hb0⟩
  have hI := LInv.start hA hb0 x.at_
  go_wp2_with fail
  simp only [fld1]
  go_wp2_with fail
  refine Calls.mono (HM.out _ hI.went.2) ?_
  rintro e w2 ⟨rfl, hb2⟩
  have hI2 := hI.below hb2
  go_wp2_with fail
  have hbw : Below w.heap.size w w2 := ((((Below.refl _ _).alloc (Nat.le_refl _) _).trans (hb0.mono (by simp))).alloc (by have := hb0.size; simp at this; omega) _).trans (hb2.mono (by have := hb0.size; simp at this; simp; omega))
  refine Calls.mono (hpk.out _ hbw) ?_
  rintro e w3 ⟨rfl, hb3⟩
  have hI3 := hI2.below hb3
  obtain ⟨c0, c1, c2, c3, c4, f1, f0⟩ := hI3.cells
  have hI4 := hI3.setKind 1
  clear hI hI2 hpk HM hb0 hA h1 hb2 hbw
  go_wp2_with fail
  simp only [fld0]
  cases hn : (((Pr.hd en r).kind == 1) && !Tr.isWord (Pr.hd en r).text)
  · have hN : Pr.name en r = .inl (Pr.hd en r).at_ := by unfold Pr.name; rw [hn]; rfl
    have HF : Hid (∀ e w', LitEnd P L en w (.inl (Pr.hd en r).at_) e w' → Q e w') := fun e w' h => HQ.out _ (by simp only [Pr.atom, hN]) e w' h
    go_wp2_with fail
    refine (name_no P L en r _ hI4.went.2 hn).mono ?_
    rintro e w5 ⟨rfl, hb5⟩
    exact ⟨rfl, HF.out _ _ ⟨rfl, ground hI4.went.1 hb5⟩⟩
  · have hN : Pr.name en r = .inr ((Pr.hd en r).text, r.tail) := by unfold Pr.name; rw [hn]; rfl
    have HN : Hid (∀ w1, At w1 P L en r → _) := fun w1 h => name_yes P L en r w1 h hn
    have HA : Hid (∀ X, (match Pr.terms false en r.tail with
        | .inl a => Sum.inl a
        | .inr y => .inr ((⟨1, x.at_, 0, (Pr.hd en r).text, y.1.1⟩ : Tr.Lit), y.2)) = X → ∀ e w', LitEnd P L en w X e w' → Q e w') := by
      intro X hX e w' h
      refine HQ.out X ?_ e w' h
      rw [← hX]
      simp only [Pr.atom, hN]
      cases Pr.terms false en r.tail <;> rfl
    have HT : Hid (∀ w1, At w1 P L en r.tail → _) := fun w1 h => terms_any false P L en r.tail w1 h
    unfold TermsEnd at HT
    generalize (Pr.hd en r).text = nm at *
    clear hN hn HQ
    go_wp2_with fail
    refine Calls.mono (HN.out _ hI4.went.2) ?_
    rintro e w5 ⟨rfl, hW5⟩
    have hI5 := hI4.on hW5
    have hI6 := hI5.setName nm
    obtain ⟨c0, c1, c2, c3, c4, f1, f0⟩ := hI5.cells
    go_wp2_with fail
    refine Calls.mono (HT.out _ hI6.went.2) ?_
    have hlt := hI6.lt
    have hltB := hI6.ltB
    have hltB' : w1.heap.size < (w5.setCell ⟨w1.heap.size, 3, none⟩ (.string ⟨nm.toArray⟩)).heap.size := heap_lt hI6.lit
    generalize w5.setCell ⟨w1.heap.size, 3, none⟩ (.string ⟨nm.toArray⟩) = w6 at *
    clear c0 c1 c2 c3 c4 f1 f0 hI5 hW5 HN HT
    cases hY : Pr.terms false en r.tail with
    | inl a =>
      have HF : Hid (∀ e w', LitEnd P L en w (.inl a) e w' → Q e w') := fun e w' h => HA.out _ (by rw [hY]) e w' h
      rintro e w7 ⟨rfl, hg7⟩
      exact ⟨rfl, HF.out _ _ ⟨rfl, grownBy_trans hI6.went.1 hg7⟩⟩
    | inr y =>
      have HF : Hid (∀ e w', LitEnd P L en w (.inr (⟨1, x.at_, 0, nm, y.1.1⟩, y.2)) e w' → Q e w') := fun e w' h => HA.out _ (by rw [hY]) e w' h
      clear HA
      rintro e w7 ⟨v, rfl, hT, hW7⟩
      have hI7 := hI6.on hW7
      obtain ⟨x0, x1, x2, x3, x4⟩ := hI7.rcells
      obtain ⟨c0, c1, c2, c3, c4, f1, f0⟩ := hI7.cells
      obtain ⟨ao, cap, hv, hT'⟩ := hT
      have hT := (show TermsP w6.heap.size w7 v y.1.1 from ⟨ao, cap, hv, hT'⟩)
      subst hv
      go_wp2
      exact bodyPost_ret (v := litVal ⟨1, x.at_, 0, nm, y.1.1⟩ _) (by simp [results, Tryz.results129, go_sem, x0, x1, x2, x3, x4]) rfl (HF.out _ _ ⟨_, rfl, (((hT.keep (keeps_set _ hltB' _ _)).keep (keeps5 (Nat.lt_trans hltB hltB') _ _ _ _ _ _)).mono (Nat.le_of_lt (Nat.lt_trans hltB hltB'))), (hI7.went.set hlt (Nat.le_of_lt hltB) _ _).put5 hlt _ _ _ _ _⟩)

theorem lit_any (P : Nat) (L : List Tk.Tok) (en : Int) (r : List Tk.Tok) (w : World) (hA : At w P L en r) :
    Calls Tryz.prog 129 #[.pointer (some ⟨P, 0, none⟩)] w (LitEnd P L en w (Pr.lit en r)) := by
  cases h1 : Pr.isText en r [110, 111, 116]
  · cases h2 : ((Pr.hd en r).kind == 1)
    · exact lit_reck P L en r w hA h1 h2
    · exact lit_yes P L en r w hA h1 h2
  · exact lit_not P L en r w hA h1

end Go.Proofs.YtgpaleifhcdjnaaGreatDoor

/- What is parsed is shorter behind. -/
namespace Go.Proofs.YtgpaleifhcdjnaaGreatDoor
open Go.RowKit

theorem name_len {en : Int} {r : List Tk.Tok} {x : List UInt8 × List Tk.Tok} (h : Pr.name en r = .inr x) : x.2.length < r.length := by
  unfold Pr.name at h
  cases hk : (((Pr.hd en r).kind == 1) && !Tr.isWord (Pr.hd en r).text)
  · rw [hk] at h; simp at h
  · rw [hk] at h
    simp only [if_true, Sum.inr.injEq] at h
    subst h
    exact kind_len (en := en) (k := 1) (by decide) (by revert hk; cases ((Pr.hd en r).kind == 1) <;> simp)
theorem op_len {en : Int} {r : List Tk.Tok} {x : Int × List Tk.Tok} (h : Pr.op en r = .inr x) : x.2.length < r.length := by
  unfold Pr.op at h
  cases r with
  | nil => simp [Pr.hd, Pr.opOf] at h
  | cons a r =>
    split at h
    · simp only [Sum.inr.injEq] at h; subst h; simp
    · simp at h
theorem more_len (may : Bool) (en : Int) : ∀ (f : Nat) (acc : List Tr.Term) (r : List Tk.Tok) (x : (List Tr.Term × Int) × List Tk.Tok), Pr.more may en f acc r = .inr x → x.2.length < r.length := by
  intro f
  induction f with
  | zero => intro acc r x h; simp [Pr.more] at h
  | succ f ih =>
    intro acc r x h
    cases hT : Pr.term en (Pr.foldMay may en r).2 with
    | inl a => simp [Pr.more, hT] at h
    | inr y =>
      have hl := Nat.lt_of_lt_of_le (term_len hT) (fold_len may en r)
      rw [more_step may en f acc r y.1 y.2 (by rw [hT])] at h
      split at h
      · have := ih _ _ _ h
        have h2 : y.2.tail.length ≤ y.2.length := by simp
        omega
      · simp only [Sum.inr.injEq] at h
        subst h
        exact hl
theorem terms_len {may : Bool} {en : Int} {r : List Tk.Tok} {x : (List Tr.Term × Int) × List Tk.Tok} (h : Pr.terms may en r = .inr x) : x.2.length < r.length := by
  unfold Pr.terms at h
  cases hm : Pr.must [40] en r with
  | inl a => rw [hm] at h; simp at h
  | inr r1 =>
    rw [hm] at h
    have h1 := must_len (by simp) hm
    simp only at h
    unfold Pr.inside at h
    split at h
    · simp only [Sum.inr.injEq] at h
      subst h
      have : r1.tail.length ≤ r1.length := by simp
      exact Nat.lt_of_le_of_lt this h1
    · cases hM : Pr.more may en (r1.length + 1) [] r1 with
      | inl a => rw [hM] at h; simp at h
      | inr y =>
        rw [hM] at h
        have h2 := more_len _ _ _ _ _ _ hM
        simp only at h
        cases hm2 : Pr.must [41] en y.2 with
        | inl a => rw [hm2] at h; simp at h
        | inr r3 =>
          rw [hm2] at h
          have h3 := must_len (by simp) hm2
          simp only [Sum.inr.injEq] at h
          subst h
          show r3.length < r.length
          omega
theorem atom_len {k at_ en : Int} {r : List Tk.Tok} {x : Tr.Lit × List Tk.Tok} (h : Pr.atom k at_ en r = .inr x) : x.2.length < r.length := by
  unfold Pr.atom at h
  cases hn : Pr.name en r with
  | inl a => rw [hn] at h; simp at h
  | inr y =>
    rw [hn] at h
    have h1 := name_len hn
    simp only at h
    cases ht : Pr.terms false en y.2 with
    | inl a => rw [ht] at h; simp at h
    | inr z =>
      rw [ht] at h
      have h2 := terms_len ht
      simp only [Sum.inr.injEq] at h
      subst h
      show z.2.length < r.length
      omega
theorem reckon_len {at_ en : Int} {r : List Tk.Tok} {x : Tr.Lit × List Tk.Tok} (h : Pr.reckon at_ en r = .inr x) : x.2.length < r.length := by
  unfold Pr.reckon at h
  cases h1 : Pr.term en r with
  | inl a => rw [h1] at h; simp at h
  | inr a =>
    rw [h1] at h
    have l1 := term_len h1
    simp only at h
    cases h2 : Pr.op en a.2 with
    | inl a => rw [h2] at h; simp at h
    | inr o =>
      rw [h2] at h
      have l2 := op_len h2
      simp only at h
      cases h3 : Pr.term en o.2 with
      | inl a => rw [h3] at h; simp at h
      | inr b =>
        rw [h3] at h
        have l3 := term_len h3
        simp only at h
        split at h
        · unfold Pr.calcLit at h
          cases h4 : Pr.must [61] en b.2 with
          | inl a => rw [h4] at h; simp at h
          | inr r4 =>
            rw [h4] at h
            have l4 := must_len (by simp) h4
            simp only at h
            cases h5 : Pr.term en r4 with
            | inl a => rw [h5] at h; simp at h
            | inr z =>
              rw [h5] at h
              have l5 := term_len h5
              simp only [Sum.inr.injEq] at h
              subst h
              show z.2.length < r.length
              omega
        · simp only [Sum.inr.injEq] at h
          subst h
          show b.2.length < r.length
          omega
theorem lit_len {en : Int} {r : List Tk.Tok} {x : Tr.Lit × List Tk.Tok} (h : Pr.lit en r = .inr x) : x.2.length < r.length := by
  unfold Pr.lit at h
  split at h
  · have := atom_len h
    have h2 : r.tail.length ≤ r.length := by simp
    omega
  · split at h
    · exact atom_len h
    · exact reckon_len h

/-- Behind a literal of a body. -/
def Pr.after (en : Int) (f : Nat) (acc : List Tr.Lit) (r : List Tk.Tok) : Int ⊕ (List Tr.Lit × List Tk.Tok) := if Pr.isText en r [44] then Pr.lits en f acc r.tail else .inr (acc, r)
theorem lits_yes {en : Int} {f : Nat} {acc : List Tr.Lit} {r : List Tk.Tok} {x : Tr.Lit × List Tk.Tok} (h : Pr.lit en r = .inr x) : Pr.lits en (f + 1) acc r = Pr.after en f (acc ++ [x.1]) x.2 := by
  rw [Pr.lits, h]; rfl
theorem lits_no {en : Int} {f : Nat} {acc : List Tr.Lit} {r : List Tk.Tok} {a : Int} (h : Pr.lit en r = .inl a) : Pr.lits en (f + 1) acc r = .inl a := by
  rw [Pr.lits, h]

/-- A rule under way: its block is B. -/
abbrev ruleZero : Obj := .cells #[.int .i64 0, .string ⟨#[]⟩, .slice none 0 0, .int .i64 0, .slice none 0 0] 57
structure UInv (w wr : World) (B P : Nat) (L : List Tk.Tok) (en : Int) (r : List Tk.Tok) (at_ : Int) (nm : List UInt8) (tv : Value) (ts : List Tr.Term) (fo : Int) (bv : Value) (q : List (Tr.Lit × Value)) : Prop where
  went : Went w wr P L en r
  res : wr.heap[w.heap.size]? = some ruleZero
  rul : wr.heap[B]? = some (.cells #[.int .i64 at_, .string ⟨nm.toArray⟩, tv, .int .i64 fo, bv] 57)
  trm : TermsP (B + 1) wr tv ts
  own : wr.ownsRow (B + 1) 61 5 bv q.length (q.map litCells).flatten
  lts : ∀ p, p ∈ q → TermsP (B + 1) wr p.2 p.1.terms
  lt : P < w.heap.size
  ltB : w.heap.size < B

section
variable {w wr w' : World} {B P : Nat} {L : List Tk.Tok} {en : Int} {r r' : List Tk.Tok} {at_ : Int} {nm : List UInt8} {tv : Value} {ts : List Tr.Term} {fo : Int} {bv : Value} {q : List (Tr.Lit × Value)}
theorem UInv.start {w1 : World} (hA : At w P L en r) (hb : Below (w.alloc ruleZero).heap.size (w.alloc ruleZero) w1) (at_ : Int) :
    UInv w (w1.alloc (.cells #[.int .i64 at_, .string ⟨#[]⟩, .slice none 0 0, .int .i64 0, .slice none 0 0] 57)) w1.heap.size P L en r at_ [] (.slice none 0 0) [] 0 (.slice none 0 0) [] where
  went := (Went.behind ((Below.refl _ _).alloc (Nat.le_refl _) _) ⟨grownBy_of_below hb _, (hA.below ((Below.refl _ _).alloc (Nat.le_refl _) _)).below hb⟩).alloc _
  res := by
    have h1 : w1.heap[w.heap.size]? = some ruleZero := (hb.block _ (by simp)).trans (heap_alloc_new w _)
    exact (((Below.refl _ _).alloc (Nat.le_refl _) _).block _ (heap_lt h1)).trans h1
  rul := heap_alloc_new w1 _
  trm := ⟨none, 0, rfl, .inl rfl⟩
  own := World.ownsRow_nil _ _ _ _
  lts := fun p hp => absurd hp (by simp)
  lt := hA.lt
  ltB := by have := hb.size; simp at this; omega
theorem UInv.on (h : UInv w wr B P L en r at_ nm tv ts fo bv q) (hW : Went wr w' P L en r') : UInv w w' B P L en r' at_ nm tv ts fo bv q := by
  have h1 := h.lt
  have h2 := h.ltB
  exact { went := Went.trans h.went hW
          res := (hW.1.block _ (heap_lt h.res) (by intro e; injection e; omega)).trans h.res
          rul := (hW.1.block _ (heap_lt h.rul) (by intro e; injection e; omega)).trans h.rul
          trm := h.trm.keep (keeps_grown _ hW.1 (by omega))
          own := ownsRow_grown h.own hW.1 (by omega)
          lts := fun p hp => (h.lts p hp).keep (keeps_grown _ hW.1 (by omega))
          lt := h1
          ltB := h2 }
theorem UInv.below (h : UInv w wr B P L en r at_ nm tv ts fo bv q) (hb : Below wr.heap.size wr w') : UInv w w' B P L en r at_ nm tv ts fo bv q := h.on ⟨grownBy_of_below hb _, h.went.2.below hb⟩
theorem UInv.on2 {wr' : World} (h : UInv w wr B P L en r at_ nm tv ts fo bv q) (hW : Went wr' w' P L en r') (hb : Below wr.heap.size wr wr') : UInv w w' B P L en r' at_ nm tv ts fo bv q := (h.below hb).on hW
theorem UInv.sz (h : UInv w wr B P L en r at_ nm tv ts fo bv q) : B < wr.heap.size := heap_lt h.rul
theorem UInv.cells (h : UInv w wr B P L en r at_ nm tv ts fo bv q) :
    wr.cell? ⟨B, 0, none⟩ = some (.int .i64 at_) ∧ wr.cell? ⟨B, 1, none⟩ = some (.string ⟨nm.toArray⟩) ∧ wr.cell? ⟨B, 2, none⟩ = some tv ∧ wr.cell? ⟨B, 3, none⟩ = some (.int .i64 fo) ∧
      wr.cell? ⟨B, 4, none⟩ = some bv ∧ (∀ o, wr.frozen? ⟨B, o, none⟩ = false) ∧ (∀ o, wr.frozen? ⟨w.heap.size, o, none⟩ = false) :=
  ⟨by rw [Lib.cell_of_heap h.rul]; rfl, by rw [Lib.cell_of_heap h.rul]; rfl, by rw [Lib.cell_of_heap h.rul]; rfl, by rw [Lib.cell_of_heap h.rul]; rfl, by rw [Lib.cell_of_heap h.rul]; rfl, fun o => by simp [World.frozen?, h.rul], fun o => by simp [World.frozen?, h.res]⟩
theorem UInv.rcells (h : UInv w wr B P L en r at_ nm tv ts fo bv q) :
    wr.cell? ⟨w.heap.size, 0, none⟩ = some (.int .i64 0) ∧ wr.cell? ⟨w.heap.size, 1, none⟩ = some (.string ⟨#[]⟩) ∧ wr.cell? ⟨w.heap.size, 2, none⟩ = some (.slice none 0 0) ∧ wr.cell? ⟨w.heap.size, 3, none⟩ = some (.int .i64 0) ∧
      wr.cell? ⟨w.heap.size, 4, none⟩ = some (.slice none 0 0) :=
  ⟨by rw [Lib.cell_of_heap h.res]; rfl, by rw [Lib.cell_of_heap h.res]; rfl, by rw [Lib.cell_of_heap h.res]; rfl, by rw [Lib.cell_of_heap h.res]; rfl, by rw [Lib.cell_of_heap h.res]; rfl⟩
theorem UInv.setName (h : UInv w wr B P L en r at_ nm tv ts fo bv q) (s : List UInt8) : UInv w (wr.setCell ⟨B, 1, none⟩ (.string ⟨s.toArray⟩)) B P L en r at_ s tv ts fo bv q where
  went := h.went.set h.lt (Nat.le_of_lt h.ltB) _ _
  res := (Below.heap_setCell _ _ _ _ (show ¬ w.heap.size = B by have := h.ltB; omega)).trans h.res
  rul := by
    have := h.rul
    simp [World.setCell, Array.getElem?_modify, this]
  trm := h.trm.keep (keeps_set _ (by omega) _ _)
  own := ownsRow_setCell_below h.own (by simp) _
  lts := fun p hp => (h.lts p hp).keep (keeps_set _ (by omega) _ _)
  lt := h.lt
  ltB := h.ltB
theorem UInv.setTerms (h : UInv w wr B P L en r at_ nm tv ts fo bv q) {v : Value} {l : List Tr.Term} (hT : TermsP (B + 1) wr v l) (f : Int) : UInv w ((wr.setCell ⟨B, 2, none⟩ v).setCell ⟨B, 3, none⟩ (.int .i64 f)) B P L en r at_ nm v l f bv q where
  went := (h.went.set h.lt (Nat.le_of_lt h.ltB) _ _).set h.lt (Nat.le_of_lt h.ltB) _ _
  res := (Below.heap_setCell _ _ _ _ (show ¬ w.heap.size = B by have := h.ltB; omega)).trans ((Below.heap_setCell _ _ _ _ (show ¬ w.heap.size = B by have := h.ltB; omega)).trans h.res)
  rul := by
    have := h.rul
    simp [World.setCell, Array.getElem?_modify, this]
  trm := (hT.keep (keeps_set _ (by omega) _ _)).keep (keeps_set _ (by omega) _ _)
  own := ownsRow_setCell_below (ownsRow_setCell_below h.own (by simp) _) (by simp) _
  lts := fun p hp => ((h.lts p hp).keep (keeps_set _ (by omega) _ _)).keep (keeps_set _ (by omega) _ _)
  lt := h.lt
  ltB := h.ltB
theorem UInv.app {w3 : World} (h : UInv w wr B P L en r at_ nm tv ts fo bv q) (hg : wr.grownBy w3 bv.ownBlock) :
    w3.heap[w.heap.size]? = some ruleZero ∧ w3.heap[B]? = some (.cells #[.int .i64 at_, .string ⟨nm.toArray⟩, tv, .int .i64 fo, bv] 57) ∧ w3.cell? ⟨B, 4, none⟩ = some bv ∧ w3.frozen? ⟨B, 4, none⟩ = false := by
  have hB := h.ltB
  have hne : ∀ i, i < B + 1 → some i ≠ bv.ownBlock := fun i hi he => by have := (h.own.lt i he.symm).1; omega
  have e1 := (hg.block _ (heap_lt h.res) (hne _ (by omega))).trans h.res
  have e2 := (hg.block _ (heap_lt h.rul) (hne _ (by omega))).trans h.rul
  exact ⟨e1, e2, by rw [Lib.cell_of_heap e2]; rfl, by simp [World.frozen?, e2]⟩
theorem UInv.put {w3 : World} {bv' : Value} {p : Tr.Lit × Value} (h : UInv w wr B P L en r at_ nm tv ts fo bv q) (hg : wr.grownBy w3 bv.ownBlock) (hT : TermsP (B + 1) wr p.2 p.1.terms)
    (hown : w3.ownsRow (B + 1) 61 5 bv' (q.length + 1) ((q.map litCells).flatten ++ litCells p)) : UInv w (w3.setCell ⟨B, 4, none⟩ bv') B P L en r at_ nm tv ts fo bv' (q ++ [p]) := by
  have hB := h.ltB
  have hk : Keeps (B + 1) wr w3 (· = 59) := keeps_own hg h.own (by decide)
  exact { went := (Went.own h.went hg h.own (by omega) h.lt).set h.lt (by omega) _ _
          res := (Below.heap_setCell _ _ _ _ (show ¬ w.heap.size = B by omega)).trans (h.app hg).1
          rul := by
            have := (h.app hg).2.1
            simp [World.setCell, Array.getElem?_modify, this]
          trm := (h.trm.keep hk).keep (keeps_set _ (by omega) _ _)
          own := ownsRow_setCell_below (by simpa using hown) (by simp) _
          lts := by
            intro p' hp'
            rw [List.mem_append, List.mem_singleton] at hp'
            rcases hp' with hp' | rfl
            · exact ((h.lts p' hp').keep hk).keep (keeps_set _ (by omega) _ _)
            · exact (hT.keep hk).keep (keeps_set _ (by omega) _ _)
          lt := h.lt
          ltB := hB }
end

end Go.Proofs.YtgpaleifhcdjnaaGreatDoor

