/- Own texts, one behind the other (part 7). -/
import Derived.Test.YtgpaleifhcdjnaaGreatDoorBundleF
import Derived.Test.YtgpaleifhcdjnaaGreatDoorRows
import Derived.Test.YtgpaleifhcdjnaaGreatDoorCards
import Derived.Test.YtgpaleifhcdjnaaGreatDoorTie
/- The document's scope: terms, walked. -/
namespace Go.Proofs.YtgpaleifhcdjnaaGreatDoor
open Go.RowKit

/-- A round under way: the term's box T. -/
structure TQ (B0 B X : Nat) (st : Sc.St) (vs : List (List UInt8)) (va vn vr vv : Value) (E : Int × Int) (w : World) (T : Nat) (x y : Int) (v : Value) (n : Nat) (xs : List Value) (z : World) : Prop where
  rq : RqI B X st vs va vn vr vv E.1 E.2 z
  fr : FrL B0 X w z
  ow : z.ownsRow w.heap.size 130 2 v n xs
  bx : z.heap[T]? = some (.cells #[.int .i64 x, .int .i64 y] 130 (0, 0))
  lt : ∀ g, v.ownBlock = some g → g < T
  tw : w.heap.size ≤ T
section
variable {B0 B X : Nat} {st : Sc.St} {vs : List (List UInt8)} {va vn vr vv : Value} {E : Int × Int} {w : World} {T : Nat} {x y : Int} {v : Value} {n : Nat} {xs : List Value} {z z2 : World}
theorem TQ.below (h : TQ B0 B X st vs va vn vr vv E w T x y v n xs z) (hb : Below z.heap.size z z2) (h0 : B0 ≤ w.heap.size) : TQ B0 B X st vs va vn vr vv E w T x y v n xs z2 :=
  ⟨h.rq.below hb, h.fr.trans (FrL.of_below hb (Nat.le_trans h0 h.fr.size)), ownsRow_below h.ow hb, (hb.block _ (heap_lt h.bx)).trans h.bx, h.lt, h.tw⟩
theorem TQ.wrong {a e : Int} (h : TQ B0 B X st vs va vn vr vv E w T x y v n xs z) (hs : SetB X z z2) (hb : z2.heap[X]? = some (.cells #[va, vn, vr, vv, .int .i64 a, .int .i64 e] 80 (0, 0))) (hB : B ≤ w.heap.size) (h0 : B0 ≤ X) : TQ B0 B X st vs va vn vr vv (a, e) w T x y v n xs z2 :=
  ⟨h.rq.setX hs hb, h.fr.setX hs h0, ownsRow_same h.ow fun g _ _ hg _ => hs.block g (by have := h.rq.xb; omega), (hs.block _ (by have := h.rq.xb; have := h.tw; omega)).trans h.bx, h.lt, h.tw⟩
theorem TQ.setT {x2 : Int} (h : TQ B0 B X st vs va vn vr vv E w T x y v n xs z) (hB : B ≤ w.heap.size) (h0 : B0 ≤ X) : TQ B0 B X st vs va vn vr vv E w T x2 y v n xs (z.setCell ⟨T, 0, none⟩ (.int .i64 x2)) := by
  have hs := SetB.one T z 0 (.int .i64 x2)
  have hxb := h.rq.xb
  have htw := h.tw
  exact ⟨h.rq.setT hs h.bx (by omega) (by decide) (by decide), h.fr.setB hs htw (by omega), own_alone h.ow fun g hg => hs.block g (by have := h.lt g hg; omega), by rw [Lib.heap_setCell_same h.bx]; rfl, h.lt, htw⟩
theorem TQ.var {name : List UInt8} {g cap : Nat} (h : TQ B0 B X st vs va vn vr vv E w T x y v n xs z) (hg : z.grownBy z2 vv.ownBlock) (ho : z2.ownsRow B 9 1 (.slice (some ⟨g, 0, none⟩) (vs.length + 1) cap) (vs.length + 1) (strCells vs ++ [.string ⟨name.toArray⟩])) (hat : vv.ownBlock = some g ∨ g = z.heap.size) (hB : B ≤ w.heap.size) (h0 : B0 ≤ X) :
    TQ B0 B X st (vs ++ [name]) va vn vr (.slice (some ⟨g, 0, none⟩) (vs.length + 1) cap) E w T x y v n xs (z2.setCell ⟨X, 3, none⟩ (.slice (some ⟨g, 0, none⟩) (vs.length + 1) cap)) := by
  have hs := SetB.one X z2 3 (.slice (some ⟨g, 0, none⟩) (vs.length + 1) cap)
  have hxb := h.rq.xb
  have htw := h.tw
  exact ⟨h.rq.var hg ho hat, (h.fr.trans (FrL.rows hg h.rq.ov (.inr rfl) (by omega) h.rq.sz)).setX hs h0, ownsRow_same (ownsRow_same h.ow fun g' cur fz _ hh => (grown_cells hg h.rq.ov hh (by decide)).trans hh.symm) fun g' _ _ hg' _ => hs.block g' (by omega), (hs.block _ (by omega)).trans (grown_cells hg h.rq.ov h.bx (by decide)), h.lt, htw⟩
theorem TQ.out (h : TQ B0 B X st vs va vn vr vv E w T x y v n xs z) (hg : z.grownBy z2 v.ownBlock) (h0 : B0 ≤ w.heap.size) : RqI B X st vs va vn vr vv E.1 E.2 z2 ∧ FrL B0 X w z2 := ⟨h.rq.app hg h.ow (by decide) (by decide) (by decide), h.fr.app hg h.ow (Nat.le_refl _) h0⟩
theorem TQ.cells (h : TQ B0 B X st vs va vn vr vv E w T x y v n xs z) : z.cell? ⟨T, 0, none⟩ = some (.int .i64 x) ∧ z.cell? ⟨T, 1, none⟩ = some (.int .i64 y) ∧ z.frozen? ⟨T, 0, none⟩ = false ∧ z.cell? ⟨X, 3, none⟩ = some vv ∧ z.frozen? ⟨X, 3, none⟩ = false :=
  ⟨by rw [Lib.cell_of_heap h.bx]; rfl, by rw [Lib.cell_of_heap h.bx]; rfl, Lib.frozen_of_heap h.bx 0, by rw [Lib.cell_of_heap h.rq.box]; rfl, Lib.frozen_of_heap h.rq.box 3⟩
end

def TermsQ (B0 B X : Nat) (st : Sc.St) (vs : List (List UInt8)) (va vn vr : Value) (E : Int × Int) (at_ : Int) (l : List Tr.Term) (w : World) (e : Ending) (w' : World) : Prop :=
  ∃ vo vv, e = .returned vo ∧ w'.ownsRow w.heap.size 130 2 vo (Sc.termsGo l vs).length ((Sc.termsGo l vs).map ptCells).flatten ∧ RqI B X st (Sc.varsGo l vs) va vn vr vv (Sc.errsGo at_ l E).1 (Sc.errsGo at_ l E).2 w' ∧ FrL B0 X w w'

set_option maxRecDepth 100000 in
set_option maxHeartbeats 2000000 in
theorem termsQ_any (B0 B X : Nat) (st : Sc.St) (vs : List (List UInt8)) (va vn vr vv : Value) (E : Int × Int) (at_ : Int) (l : List Tr.Term) (v : Value) (w0 w : World) (hI : RqI B X st vs va vn vr vv E.1 E.2 w) (hB0 : B0 ≤ X) (h00 : w0.heap.size = B0) (hlow : ∀ k, k < B0 → w.heap[k]? = w0.heap[k]?) (hV : TermsV w0 v l) (hz : ∀ t, t ∈ l → t.var.isEmpty = false → t.n = 0) (hl : vs.length + l.length ≤ 1000) :
    Calls Tryz.prog 45 #[.pointer (some ⟨X, 0, none⟩), .int .i64 at_, v] w (TermsQ B0 B X st vs va vn vr E at_ l w) := by
  obtain ⟨i0, hi, hz0, hz1, hz2⟩ := info_parts A_info130
  obtain ⟨j0, hj, hy0, hy1, hy2⟩ := info_parts A_info9
  obtain ⟨ao, cap, rfl, hA⟩ := hV
  have HZ : Hid (∀ t, t ∈ l → t.var.isEmpty = false → t.n = 0) := hz
  have HLOW : Hid (∀ k, k < B0 → w.heap[k]? = w0.heap[k]?) := hlow
  have hxb := hI.xb
  have hBw := hI.sz
  have hll : l.length ≤ 1000 := by omega
  clear hz hlow
  subst h00
  go_enter Tryz.func45, Tryz.ntmps45
  go_wp2_with fail
  go_loopw [7, 8] (fun v i wr => ∃ (k : Nat) (acc : List Sc.Term) (vs1 : List (List UInt8)) (vv1 : Value) (E1 : Int × Int), k ≤ l.length ∧ i = .int .i64 k ∧ wr.ownsRow w.heap.size 130 2 v acc.length (acc.map ptCells).flatten ∧ RqI B X st vs1 va vn vr vv1 E1.1 E1.2 wr ∧ FrL w0.heap.size X w wr ∧ acc.length = k ∧ acc ++ Sc.termsGo (l.drop k) vs1 = Sc.termsGo l vs ∧ Sc.varsGo (l.drop k) vs1 = Sc.varsGo l vs ∧ Sc.errsGo at_ (l.drop k) E1 = Sc.errsGo at_ l E ∧ vs1.length ≤ vs.length + k) (fun _ i _ => l.length - (intOf i).toNat)
  case atStart => exact ⟨0, [], vs, vv, E, Nat.zero_le _, rfl, World.ownsRow_nil _ _ _ _, hI, FrL.of_below (Below.refl _ _) (by omega), rfl, rfl, rfl, rfl, Nat.le_refl _⟩
  case round =>
    clear hI
    obtain ⟨k, acc, vs1, vv1, E1, hk, rfl, hown, hI, hf, hak, hT, hVs, hE, hvl⟩ := hrel
    subst hak
    have HTT : Hid _ := hT
    have HVV : Hid _ := hVs
    have HEE : Hid _ := hE
    clear hT hVs hE
    obtain ⟨ao7, cap7, rfl⟩ := own_slice hown
    obtain ⟨aov, capv, rfl⟩ := own_slice hI.ov
    have hwsz := hf.size
    by_cases hlt : acc.length < l.length
    · rcases hA with rfl | ⟨b, off, rfl, hA⟩
      · exact absurd hlt (by simp)
      obtain ⟨p0, p1⟩ := hA acc.length hlt
      have hlw : ∀ k, k < w0.heap.size → wr.heap[k]? = w0.heap[k]? := fun k hk => (hf.low k hk).trans (HLOW.out k hk)
      have HQ0 : Hid (∀ y : World, (∀ k, k < w0.heap.size → y.heap[k]? = w.heap[k]?) → y.cell? ⟨b, off + acc.length * 2, none⟩ = some (.string ⟨(Tr.termD l acc.length).var.toArray⟩) ∧ y.cell? ⟨b, off + acc.length * 2 + 1, none⟩ = some (.int .i64 (Tr.termD l acc.length).n)) := fun y hy => ⟨cell_low p0 fun k hk => (hy k hk).trans (HLOW.out k hk), cell_low p1 fun k hk => (hy k hk).trans (HLOW.out k hk)⟩
      have hmem : Tr.termD l acc.length ∈ l := by unfold Tr.termD; rw [List.getD_eq_getElem?_getD, List.getElem?_eq_getElem hlt]; exact List.getElem_mem hlt
      have HZ2 : Hid ((Tr.termD l acc.length).var.isEmpty = false → (Tr.termD l acc.length).n = 0) := HZ.out _ hmem
      have HT2 : Hid (acc ++ (Sc.termStep vs1 (Tr.termD l acc.length) :: Sc.termsGo (l.drop (acc.length + 1)) (Sc.varsStep vs1 (Tr.termD l acc.length))) = Sc.termsGo l vs) := by show _ = _; rw [← termsGo_drop l acc.length hlt]; exact HTT.out
      have HV2 : Hid (Sc.varsGo (l.drop (acc.length + 1)) (Sc.varsStep vs1 (Tr.termD l acc.length)) = Sc.varsGo l vs) := by show _ = _; rw [← varsGo_drop l acc.length hlt]; exact HVV.out
      have HE2 : Hid (Sc.errsGo at_ (l.drop (acc.length + 1)) (if Sc.isNum (Tr.termD l acc.length).n then E1 else Sc.wrongQ at_ 3 E1) = Sc.errsGo at_ l E) := by show _ = _; rw [← errsGo_drop at_ l acc.length hlt]; exact HEE.out
      clear p0 p1 hA HTT HVV HEE hmem hlw
      generalize Tr.termD l acc.length = x at *
      obtain ⟨q0, q1⟩ := HQ0.out _ hf.low
      go_upto_region 6 with fail
      have hba : Below wr.heap.size wr (wr.alloc (.cells #[.int .i64 (-1), .int .i64 x.n] 130)) := (Below.refl _ _).alloc (Nat.le_refl _) _
      have hTa : TQ w0.heap.size B X st vs1 va vn vr (.slice aov vs1.length capv) E1 w wr.heap.size (-1) x.n (.slice ao7 acc.length cap7) acc.length (acc.map ptCells).flatten (wr.alloc (.cells #[.int .i64 (-1), .int .i64 x.n] 130)) :=
        ⟨hI.below hba, hf.trans (FrL.of_below hba (by omega)), ownsRow_below hown hba, heap_alloc_new wr (.cells #[.int .i64 (-1), .int .i64 x.n] 130), fun g hg => (hown.lt g hg).2, hwsz⟩
      clear hI hf hown hba q0 q1
      generalize wr.alloc (.cells #[.int .i64 (-1), .int .i64 x.n] 130) = wa at *
      generalize wr.heap.size = T at *
      obtain ⟨d0, d1, df0, _, _⟩ := hTa.cells
      cases hnum : Sc.isNum x.n
      · rw [hnum, if_neg (by simp)] at HE2
        go_wp2_with fail
        refine Calls.mono (refNum_any _ _) ?_
        rintro e y ⟨he, rfl⟩
        rw [hnum] at he
        subst he
        go_wp2_with fail
        refine Calls.mono (Wrong_any X _ _ _ _ _ _ at_ 3 _ hTa.rq.box) ?_
        rintro e wb ⟨rfl, hs2, hb2⟩
        obtain ⟨E2, hE2⟩ : ∃ E2, E2 = Sc.wrongQ at_ 3 E1 := ⟨_, rfl⟩
        have hTb : TQ w0.heap.size B X st vs1 va vn vr (.slice aov vs1.length capv) E2 w T (-1) x.n (.slice ao7 acc.length cap7) acc.length (acc.map ptCells).flatten wb := by rw [hE2]; exact hTa.wrong hs2 hb2 hBw hB0
        rw [← hE2] at HE2
        clear hTa hs2 hb2 d0 d1 df0 hE2
        go_upto_region 8 with fail
        obtain ⟨q0, q1⟩ := HQ0.out _ hTb.fr.low
        cases hx : x.var.isEmpty
        · have hn0 := HZ2.out hx
          rw [hn0] at hTb q1
          have hstep : Sc.termStep vs1 x = ⟨(vs1.idxOf x.var : Int), 0⟩ := by unfold Sc.termStep; rw [hx]; rfl
          have hvst : Sc.varsStep vs1 x = if vs1.contains x.var then vs1 else vs1 ++ [x.var] := by unfold Sc.varsStep; rw [hx]; rfl
          have HS : Hid (∀ y, Below wb.heap.size wb y → StrsV y (.slice aov vs1.length capv) vs1) := fun y hy => strsV_own (ownsRow_below hTb.rq.ov hy)
          rw [hstep] at HT2
          clear hstep hn0 HZ2
          obtain ⟨d0, d1, df0, d3, df3⟩ := hTb.cells
          go_upto_region 9 with fail
          go_region_law (go_simp; go_at_call 77; refine Calls.mono (placeOf_any vs1 x.var _ _ (HS.out _ ⟨rfl, rfl, rfl, Nat.le_refl _, fun _ _ => rfl⟩) (by omega)) ?_; rintro e y2 ⟨rfl, hby0⟩; have hby : Below wb.heap.size wb y2 := ⟨hby0.os, hby0.tape, hby0.output, hby0.size, hby0.block⟩; clear hby0; have hT2 := TQ.below hTb hby (by omega); obtain ⟨f0, f1, ff0, f3, ff3⟩ := hT2.cells; dsimp only)
          all_goals
            have hT3 := TQ.setT (x2 := (vs1.idxOf x.var : Int)) hT2 hBw hB0
            clear hT2 hTb hby f0 f1 ff0 f3 ff3 d0 d1 df0 d3 df3 q0 q1 HS
            go_upto_region 10 with fail
            generalize y2.setCell ⟨T, 0, none⟩ (.int .i64 (vs1.idxOf x.var : Int)) = wc at *
            obtain ⟨f0, f1, ff0, f3, ff3⟩ := hT3.cells
            go_region_held3 (fun y => y.cell? ⟨T, 0, none⟩ = some (.int .i64 (vs1.idxOf x.var : Int)) ∧ y.cell? ⟨X, 3, none⟩ = some (.slice aov vs1.length capv)) (go_keep) (fail)
            have hT4 := TQ.below hT3 (Below.refl _ _).drew (by omega)
            clear hT3 f0 f1 ff0 f3 ff3
            generalize wc.drew = wd at *
            obtain ⟨f0, f1, ff0, f3, ff3⟩ := hT4.cells
            cases hc : vs1.contains x.var
            · have hidx : vs1.idxOf x.var = vs1.length := idx_none (by simpa using hc)
              rw [hc] at hvst
              rw [hvst] at HT2 HV2
              rw [hidx] at hT4 f0 HT2 ⊢
              have g1 : ((vs1.length : Int) == (vs1.length : Int)) = true := by simp
              obtain ⟨q0, _⟩ := HQ0.out _ hT4.fr.low
              clear hvst hidx hc
              have e3a : ∀ o, (wd.alloc o).cell? ⟨X, 3, none⟩ = some (.slice aov vs1.length capv) := fun o => cell_below ((Below.refl _ _).alloc (Nat.le_refl _) o) f3
              have q0a : ∀ o, (wd.alloc o).cell? ⟨b, off + acc.length * 2, none⟩ = some (.string ⟨x.var.toArray⟩) := fun o => cell_below ((Below.refl _ _).alloc (Nat.le_refl _) o) q0
              have hTe := TQ.below hT4 ((Below.refl _ _).alloc (Nat.le_refl _) (.cells #[.string ⟨x.var.toArray⟩] 9)) (by omega)
              have hszd := hT4.rq.sz
              have hvl1 : vs1.length ≤ 1000 := by omega
              go_upto_region 11 with fail
              go_region_law (first | (
                refine step_append_lies _ rfl (.tmp 58) (.tmp 64) 23 rfl B 9 j0 _ 1 16 Tryz.underlying23 hj hy0 hy1 hy2 rfl (by decide) (.slice aov vs1.length capv) vs1.length _ ?hs hTe.rq.ov ⟨wd.heap.size, 0, none⟩ 1 1 [.string ⟨x.var.toArray⟩] ?hx rfl ?hn ?ho ?hm ?h6 ?hb ?hB _ rfl ?_
                case hs => simp [Act.eval]
                case hx => simp [Act.eval]
                case hn => exact World.news_of_block (heap_alloc_new _ _)
                case ho => (intro u hu; simp at hu; subst hu; rfl)
                case hm => decide
                case h6 => (unfold maxLen; omega)
                case hb => omega
                case hB => (simp; omega)
                intro g capg y3 hown hgrow0 hat hlt
                have hgrow : (wd.alloc (.cells #[.string ⟨x.var.toArray⟩] 9)).grownBy y3 (Value.slice aov vs1.length capv).ownBlock := ⟨hgrow0.os, hgrow0.tape, hgrow0.output, hgrow0.size, hgrow0.block⟩
                clear hgrow0
                have hbx := (hgrow.block X (by have := hTe.rq.sz; omega) (own_ne hTe.rq.ov hxb)).trans hTe.rq.box
                have g3 : y3.cell? ⟨X, 3, none⟩ = some (.slice aov vs1.length capv) := (by rw [Lib.cell_of_heap hbx]; rfl)
                have gf3 : y3.frozen? ⟨X, 3, none⟩ = false := Lib.frozen_of_heap hbx 3))
              all_goals
                have hT5 := TQ.var hTe hgrow hown (hat.imp id (fun h => h.trans (by simp))) hBw hB0
                clear hown hgrow hat hlt hbx g3 gf3 hTe hT4 e3a q0a f0 f1 ff0 f3 ff3 q0
                go_upto_region 12 with fail
                generalize y3.setCell ⟨X, 3, none⟩ (.slice (some ⟨g, 0, none⟩) (vs1.length + 1) capg) = we at *
                obtain ⟨f0, f1, ff0, f3, ff3⟩ := hT5.cells
                go_wp2_with (at_builtin; refine wpList_append_own _ rfl (.tmp 68) (.tmp 70) 64 rfl w.heap.size 130 i0 _ 2 16 Tryz.underlying64 hi hz0 hz1 hz2 rfl (by decide) _ _ _ rfl (hT5.ow.alloc _) ⟨we.heap.size, 0, none⟩ 1 1 (ptCells ⟨(vs1.length : Int), 0⟩) rfl rfl ?c1 ?c2 ?c3 ?c4 ?c5 ?_)
                case c1 =>
                  intro j u hj
                  match j, hj with
                  | 0, hj => simp [ptCells] at hj; subst hj; simp [Addr.add, go_sem]
                  | 1, hj => simp [ptCells] at hj; subst hj; simp [Addr.add, go_sem]
                case c2 => exact pt_news _
                case c3 => unfold maxLen; omega
                case c4 => omega
                case c5 => have := hT5.fr.size; simp; omega
                intro v' w4 hown4 hgrow4 _
                have hT9 := TQ.below hT5 ((Below.refl _ _).alloc (Nat.le_refl _) (.cells #[.int .i64 (vs1.length : Int), .int .i64 0] 130)) (by omega)
                obtain ⟨hI5, hf5⟩ := hT9.out hgrow4 (by omega)
                have hown5 : w4.ownsRow w.heap.size 130 2 v' (acc ++ [(⟨(vs1.length : Int), 0⟩ : Sc.Term)]).length ((acc ++ [(⟨(vs1.length : Int), 0⟩ : Sc.Term)]).map ptCells).flatten := by
                  rw [pt_flat, List.length_append]; exact hown4
                have HT3 : Hid ((acc ++ [(⟨(vs1.length : Int), 0⟩ : Sc.Term)]) ++ Sc.termsGo (l.drop (acc.length + 1)) (vs1 ++ [x.var]) = Sc.termsGo l vs) := by show _ = _; rw [List.append_assoc]; exact HT2.out
                clear hown4 hgrow4 hT9 hT5 HT2
                go_wp2_with fail
                go_roundw
                case rel => exact ⟨acc.length + 1, acc ++ [⟨(vs1.length : Int), 0⟩], (vs1 ++ [x.var]), _, E2, by omega, by go_num, hown5, hI5, hf5, by rw [List.length_append]; rfl, HT3.out, HV2.out, HE2.out, by rw [List.length_append]; simp; omega⟩
                case measure => simp [intOf]; omega
            · have hidx := idx_lt hc
              rw [hc, if_pos rfl] at hvst
              rw [hvst] at HT2 HV2
              have g1 : ((vs1.idxOf x.var : Int) == (vs1.length : Int)) = false := by simp; omega
              have g1' : (vs1.idxOf x.var == vs1.length) = false := by simp; omega
              clear hvst hc
              generalize vs1.idxOf x.var = ix at *
              go_wp2_with (at_builtin; refine wpList_append_own _ rfl (.tmp 68) (.tmp 70) 64 rfl w.heap.size 130 i0 _ 2 16 Tryz.underlying64 hi hz0 hz1 hz2 rfl (by decide) _ _ _ rfl (hT4.ow.alloc _) ⟨wd.heap.size, 0, none⟩ 1 1 (ptCells ⟨(ix : Int), 0⟩) rfl rfl ?c1 ?c2 ?c3 ?c4 ?c5 ?_)
              case c1 =>
                intro j u hj
                match j, hj with
                | 0, hj => simp [ptCells] at hj; subst hj; simp [Addr.add, go_sem]
                | 1, hj => simp [ptCells] at hj; subst hj; simp [Addr.add, go_sem]
              case c2 => exact pt_news _
              case c3 => unfold maxLen; omega
              case c4 => omega
              case c5 => have := hT4.fr.size; simp; omega
              intro v' w4 hown4 hgrow4 _
              have hT9 := TQ.below hT4 ((Below.refl _ _).alloc (Nat.le_refl _) (.cells #[.int .i64 (ix : Int), .int .i64 0] 130)) (by omega)
              obtain ⟨hI5, hf5⟩ := hT9.out hgrow4 (by omega)
              have hown5 : w4.ownsRow w.heap.size 130 2 v' (acc ++ [(⟨(ix : Int), 0⟩ : Sc.Term)]).length ((acc ++ [(⟨(ix : Int), 0⟩ : Sc.Term)]).map ptCells).flatten := by
                rw [pt_flat, List.length_append]; exact hown4
              have HT3 : Hid ((acc ++ [(⟨(ix : Int), 0⟩ : Sc.Term)]) ++ Sc.termsGo (l.drop (acc.length + 1)) vs1 = Sc.termsGo l vs) := by show _ = _; rw [List.append_assoc]; exact HT2.out
              clear hown4 hgrow4 hT9 hT4 HT2
              go_wp2_with fail
              go_roundw
              case rel => exact ⟨acc.length + 1, acc ++ [⟨(ix : Int), 0⟩], vs1, _, E2, by omega, by go_num, hown5, hI5, hf5, by rw [List.length_append]; rfl, HT3.out, HV2.out, HE2.out, by omega⟩
              case measure => simp [intOf]; omega
        · have hstep : Sc.termStep vs1 x = ⟨-1, x.n⟩ := by unfold Sc.termStep; rw [hx]; rfl
          have hvst : Sc.varsStep vs1 x = vs1 := by unfold Sc.varsStep; rw [hx]; rfl
          rw [hstep, hvst] at HT2
          rw [hvst] at HV2
          clear hstep hvst
          obtain ⟨d0, d1, df0, d3, df3⟩ := hTb.cells
          go_wp2_with (at_builtin; refine wpList_append_own _ rfl (.tmp 68) (.tmp 70) 64 rfl w.heap.size 130 i0 _ 2 16 Tryz.underlying64 hi hz0 hz1 hz2 rfl (by decide) _ _ _ rfl (hTb.ow.alloc _) ⟨wb.heap.size, 0, none⟩ 1 1 (ptCells ⟨(-1), x.n⟩) rfl rfl ?c1 ?c2 ?c3 ?c4 ?c5 ?_)
          case c1 =>
            intro j u hj
            match j, hj with
            | 0, hj => simp [ptCells] at hj; subst hj; simp [Addr.add, go_sem]
            | 1, hj => simp [ptCells] at hj; subst hj; simp [Addr.add, go_sem]
          case c2 => exact pt_news _
          case c3 => unfold maxLen; omega
          case c4 => omega
          case c5 => have := hTb.fr.size; simp; omega
          intro v' w4 hown4 hgrow4 _
          have hT9 := TQ.below hTb ((Below.refl _ _).alloc (Nat.le_refl _) (.cells #[.int .i64 (-1), .int .i64 x.n] 130)) (by omega)
          obtain ⟨hI5, hf5⟩ := hT9.out hgrow4 (by omega)
          have hown5 : w4.ownsRow w.heap.size 130 2 v' (acc ++ [(⟨-1, x.n⟩ : Sc.Term)]).length ((acc ++ [(⟨-1, x.n⟩ : Sc.Term)]).map ptCells).flatten := by
            rw [pt_flat, List.length_append]; exact hown4
          have HT3 : Hid ((acc ++ [(⟨-1, x.n⟩ : Sc.Term)]) ++ Sc.termsGo (l.drop (acc.length + 1)) vs1 = Sc.termsGo l vs) := by show _ = _; rw [List.append_assoc]; exact HT2.out
          clear hown4 hgrow4 hT9 hTb HT2
          go_wp2_with fail
          go_roundw
          case rel => exact ⟨acc.length + 1, acc ++ [⟨-1, x.n⟩], vs1, _, E2, by omega, by go_num, hown5, hI5, hf5, by rw [List.length_append]; rfl, HT3.out, HV2.out, HE2.out, by omega⟩
          case measure => simp [intOf]; omega
      · rw [hnum, if_pos rfl] at HE2
        go_wp2_with fail
        refine Calls.mono (refNum_any _ _) ?_
        rintro e wb ⟨he, hwb⟩
        rw [hnum] at he
        subst he
        obtain ⟨E2, hE2⟩ : ∃ E2, E2 = E1 := ⟨_, rfl⟩
        have hTb : TQ w0.heap.size B X st vs1 va vn vr (.slice aov vs1.length capv) E2 w T (-1) x.n (.slice ao7 acc.length cap7) acc.length (acc.map ptCells).flatten wb := by rw [hE2, hwb]; exact hTa
        rw [← hE2] at HE2
        clear hTa d0 d1 df0 hE2 hwb
        go_upto_region 8 with fail
        obtain ⟨q0, q1⟩ := HQ0.out _ hTb.fr.low
        cases hx : x.var.isEmpty
        · have hn0 := HZ2.out hx
          rw [hn0] at hTb q1
          have hstep : Sc.termStep vs1 x = ⟨(vs1.idxOf x.var : Int), 0⟩ := by unfold Sc.termStep; rw [hx]; rfl
          have hvst : Sc.varsStep vs1 x = if vs1.contains x.var then vs1 else vs1 ++ [x.var] := by unfold Sc.varsStep; rw [hx]; rfl
          have HS : Hid (∀ y, Below wb.heap.size wb y → StrsV y (.slice aov vs1.length capv) vs1) := fun y hy => strsV_own (ownsRow_below hTb.rq.ov hy)
          rw [hstep] at HT2
          clear hstep hn0 HZ2
          obtain ⟨d0, d1, df0, d3, df3⟩ := hTb.cells
          go_upto_region 9 with fail
          go_region_law (go_simp; go_at_call 77; refine Calls.mono (placeOf_any vs1 x.var _ _ (HS.out _ ⟨rfl, rfl, rfl, Nat.le_refl _, fun _ _ => rfl⟩) (by omega)) ?_; rintro e y2 ⟨rfl, hby0⟩; have hby : Below wb.heap.size wb y2 := ⟨hby0.os, hby0.tape, hby0.output, hby0.size, hby0.block⟩; clear hby0; have hT2 := TQ.below hTb hby (by omega); obtain ⟨f0, f1, ff0, f3, ff3⟩ := hT2.cells; dsimp only)
          all_goals
            have hT3 := TQ.setT (x2 := (vs1.idxOf x.var : Int)) hT2 hBw hB0
            clear hT2 hTb hby f0 f1 ff0 f3 ff3 d0 d1 df0 d3 df3 q0 q1 HS
            go_upto_region 10 with fail
            generalize y2.setCell ⟨T, 0, none⟩ (.int .i64 (vs1.idxOf x.var : Int)) = wc at *
            obtain ⟨f0, f1, ff0, f3, ff3⟩ := hT3.cells
            go_region_held3 (fun y => y.cell? ⟨T, 0, none⟩ = some (.int .i64 (vs1.idxOf x.var : Int)) ∧ y.cell? ⟨X, 3, none⟩ = some (.slice aov vs1.length capv)) (go_keep) (fail)
            have hT4 := TQ.below hT3 (Below.refl _ _).drew (by omega)
            clear hT3 f0 f1 ff0 f3 ff3
            generalize wc.drew = wd at *
            obtain ⟨f0, f1, ff0, f3, ff3⟩ := hT4.cells
            cases hc : vs1.contains x.var
            · have hidx : vs1.idxOf x.var = vs1.length := idx_none (by simpa using hc)
              rw [hc] at hvst
              rw [hvst] at HT2 HV2
              rw [hidx] at hT4 f0 HT2 ⊢
              have g1 : ((vs1.length : Int) == (vs1.length : Int)) = true := by simp
              obtain ⟨q0, _⟩ := HQ0.out _ hT4.fr.low
              clear hvst hidx hc
              have e3a : ∀ o, (wd.alloc o).cell? ⟨X, 3, none⟩ = some (.slice aov vs1.length capv) := fun o => cell_below ((Below.refl _ _).alloc (Nat.le_refl _) o) f3
              have q0a : ∀ o, (wd.alloc o).cell? ⟨b, off + acc.length * 2, none⟩ = some (.string ⟨x.var.toArray⟩) := fun o => cell_below ((Below.refl _ _).alloc (Nat.le_refl _) o) q0
              have hTe := TQ.below hT4 ((Below.refl _ _).alloc (Nat.le_refl _) (.cells #[.string ⟨x.var.toArray⟩] 9)) (by omega)
              have hszd := hT4.rq.sz
              have hvl1 : vs1.length ≤ 1000 := by omega
              go_upto_region 11 with fail
              go_region_law (first | (
                refine step_append_lies _ rfl (.tmp 58) (.tmp 64) 23 rfl B 9 j0 _ 1 16 Tryz.underlying23 hj hy0 hy1 hy2 rfl (by decide) (.slice aov vs1.length capv) vs1.length _ ?hs hTe.rq.ov ⟨wd.heap.size, 0, none⟩ 1 1 [.string ⟨x.var.toArray⟩] ?hx rfl ?hn ?ho ?hm ?h6 ?hb ?hB _ rfl ?_
                case hs => simp [Act.eval]
                case hx => simp [Act.eval]
                case hn => exact World.news_of_block (heap_alloc_new _ _)
                case ho => (intro u hu; simp at hu; subst hu; rfl)
                case hm => decide
                case h6 => (unfold maxLen; omega)
                case hb => omega
                case hB => (simp; omega)
                intro g capg y3 hown hgrow0 hat hlt
                have hgrow : (wd.alloc (.cells #[.string ⟨x.var.toArray⟩] 9)).grownBy y3 (Value.slice aov vs1.length capv).ownBlock := ⟨hgrow0.os, hgrow0.tape, hgrow0.output, hgrow0.size, hgrow0.block⟩
                clear hgrow0
                have hbx := (hgrow.block X (by have := hTe.rq.sz; omega) (own_ne hTe.rq.ov hxb)).trans hTe.rq.box
                have g3 : y3.cell? ⟨X, 3, none⟩ = some (.slice aov vs1.length capv) := (by rw [Lib.cell_of_heap hbx]; rfl)
                have gf3 : y3.frozen? ⟨X, 3, none⟩ = false := Lib.frozen_of_heap hbx 3))
              all_goals
                have hT5 := TQ.var hTe hgrow hown (hat.imp id (fun h => h.trans (by simp))) hBw hB0
                clear hown hgrow hat hlt hbx g3 gf3 hTe hT4 e3a q0a f0 f1 ff0 f3 ff3 q0
                go_upto_region 12 with fail
                generalize y3.setCell ⟨X, 3, none⟩ (.slice (some ⟨g, 0, none⟩) (vs1.length + 1) capg) = we at *
                obtain ⟨f0, f1, ff0, f3, ff3⟩ := hT5.cells
                go_wp2_with (at_builtin; refine wpList_append_own _ rfl (.tmp 68) (.tmp 70) 64 rfl w.heap.size 130 i0 _ 2 16 Tryz.underlying64 hi hz0 hz1 hz2 rfl (by decide) _ _ _ rfl (hT5.ow.alloc _) ⟨we.heap.size, 0, none⟩ 1 1 (ptCells ⟨(vs1.length : Int), 0⟩) rfl rfl ?c1 ?c2 ?c3 ?c4 ?c5 ?_)
                case c1 =>
                  intro j u hj
                  match j, hj with
                  | 0, hj => simp [ptCells] at hj; subst hj; simp [Addr.add, go_sem]
                  | 1, hj => simp [ptCells] at hj; subst hj; simp [Addr.add, go_sem]
                case c2 => exact pt_news _
                case c3 => unfold maxLen; omega
                case c4 => omega
                case c5 => have := hT5.fr.size; simp; omega
                intro v' w4 hown4 hgrow4 _
                have hT9 := TQ.below hT5 ((Below.refl _ _).alloc (Nat.le_refl _) (.cells #[.int .i64 (vs1.length : Int), .int .i64 0] 130)) (by omega)
                obtain ⟨hI5, hf5⟩ := hT9.out hgrow4 (by omega)
                have hown5 : w4.ownsRow w.heap.size 130 2 v' (acc ++ [(⟨(vs1.length : Int), 0⟩ : Sc.Term)]).length ((acc ++ [(⟨(vs1.length : Int), 0⟩ : Sc.Term)]).map ptCells).flatten := by
                  rw [pt_flat, List.length_append]; exact hown4
                have HT3 : Hid ((acc ++ [(⟨(vs1.length : Int), 0⟩ : Sc.Term)]) ++ Sc.termsGo (l.drop (acc.length + 1)) (vs1 ++ [x.var]) = Sc.termsGo l vs) := by show _ = _; rw [List.append_assoc]; exact HT2.out
                clear hown4 hgrow4 hT9 hT5 HT2
                go_wp2_with fail
                go_roundw
                case rel => exact ⟨acc.length + 1, acc ++ [⟨(vs1.length : Int), 0⟩], (vs1 ++ [x.var]), _, E2, by omega, by go_num, hown5, hI5, hf5, by rw [List.length_append]; rfl, HT3.out, HV2.out, HE2.out, by rw [List.length_append]; simp; omega⟩
                case measure => simp [intOf]; omega
            · have hidx := idx_lt hc
              rw [hc, if_pos rfl] at hvst
              rw [hvst] at HT2 HV2
              have g1 : ((vs1.idxOf x.var : Int) == (vs1.length : Int)) = false := by simp; omega
              have g1' : (vs1.idxOf x.var == vs1.length) = false := by simp; omega
              clear hvst hc
              generalize vs1.idxOf x.var = ix at *
              go_wp2_with (at_builtin; refine wpList_append_own _ rfl (.tmp 68) (.tmp 70) 64 rfl w.heap.size 130 i0 _ 2 16 Tryz.underlying64 hi hz0 hz1 hz2 rfl (by decide) _ _ _ rfl (hT4.ow.alloc _) ⟨wd.heap.size, 0, none⟩ 1 1 (ptCells ⟨(ix : Int), 0⟩) rfl rfl ?c1 ?c2 ?c3 ?c4 ?c5 ?_)
              case c1 =>
                intro j u hj
                match j, hj with
                | 0, hj => simp [ptCells] at hj; subst hj; simp [Addr.add, go_sem]
                | 1, hj => simp [ptCells] at hj; subst hj; simp [Addr.add, go_sem]
              case c2 => exact pt_news _
              case c3 => unfold maxLen; omega
              case c4 => omega
              case c5 => have := hT4.fr.size; simp; omega
              intro v' w4 hown4 hgrow4 _
              have hT9 := TQ.below hT4 ((Below.refl _ _).alloc (Nat.le_refl _) (.cells #[.int .i64 (ix : Int), .int .i64 0] 130)) (by omega)
              obtain ⟨hI5, hf5⟩ := hT9.out hgrow4 (by omega)
              have hown5 : w4.ownsRow w.heap.size 130 2 v' (acc ++ [(⟨(ix : Int), 0⟩ : Sc.Term)]).length ((acc ++ [(⟨(ix : Int), 0⟩ : Sc.Term)]).map ptCells).flatten := by
                rw [pt_flat, List.length_append]; exact hown4
              have HT3 : Hid ((acc ++ [(⟨(ix : Int), 0⟩ : Sc.Term)]) ++ Sc.termsGo (l.drop (acc.length + 1)) vs1 = Sc.termsGo l vs) := by show _ = _; rw [List.append_assoc]; exact HT2.out
              clear hown4 hgrow4 hT9 hT4 HT2
              go_wp2_with fail
              go_roundw
              case rel => exact ⟨acc.length + 1, acc ++ [⟨(ix : Int), 0⟩], vs1, _, E2, by omega, by go_num, hown5, hI5, hf5, by rw [List.length_append]; rfl, HT3.out, HV2.out, HE2.out, by omega⟩
              case measure => simp [intOf]; omega
        · have hstep : Sc.termStep vs1 x = ⟨-1, x.n⟩ := by unfold Sc.termStep; rw [hx]; rfl
          have hvst : Sc.varsStep vs1 x = vs1 := by unfold Sc.varsStep; rw [hx]; rfl
          rw [hstep, hvst] at HT2
          rw [hvst] at HV2
          clear hstep hvst
          obtain ⟨d0, d1, df0, d3, df3⟩ := hTb.cells
          go_wp2_with (at_builtin; refine wpList_append_own _ rfl (.tmp 68) (.tmp 70) 64 rfl w.heap.size 130 i0 _ 2 16 Tryz.underlying64 hi hz0 hz1 hz2 rfl (by decide) _ _ _ rfl (hTb.ow.alloc _) ⟨wb.heap.size, 0, none⟩ 1 1 (ptCells ⟨(-1), x.n⟩) rfl rfl ?c1 ?c2 ?c3 ?c4 ?c5 ?_)
          case c1 =>
            intro j u hj
            match j, hj with
            | 0, hj => simp [ptCells] at hj; subst hj; simp [Addr.add, go_sem]
            | 1, hj => simp [ptCells] at hj; subst hj; simp [Addr.add, go_sem]
          case c2 => exact pt_news _
          case c3 => unfold maxLen; omega
          case c4 => omega
          case c5 => have := hTb.fr.size; simp; omega
          intro v' w4 hown4 hgrow4 _
          have hT9 := TQ.below hTb ((Below.refl _ _).alloc (Nat.le_refl _) (.cells #[.int .i64 (-1), .int .i64 x.n] 130)) (by omega)
          obtain ⟨hI5, hf5⟩ := hT9.out hgrow4 (by omega)
          have hown5 : w4.ownsRow w.heap.size 130 2 v' (acc ++ [(⟨-1, x.n⟩ : Sc.Term)]).length ((acc ++ [(⟨-1, x.n⟩ : Sc.Term)]).map ptCells).flatten := by
            rw [pt_flat, List.length_append]; exact hown4
          have HT3 : Hid ((acc ++ [(⟨-1, x.n⟩ : Sc.Term)]) ++ Sc.termsGo (l.drop (acc.length + 1)) vs1 = Sc.termsGo l vs) := by show _ = _; rw [List.append_assoc]; exact HT2.out
          clear hown4 hgrow4 hT9 hTb HT2
          go_wp2_with fail
          go_roundw
          case rel => exact ⟨acc.length + 1, acc ++ [⟨-1, x.n⟩], vs1, _, E2, by omega, by go_num, hown5, hI5, hf5, by rw [List.length_append]; rfl, HT3.out, HV2.out, HE2.out, by omega⟩
          case measure => simp [intOf]; omega
    · have hacc : acc = Sc.termsGo l vs := by
        have := HTT.out
        rw [List.drop_of_length_le (by omega), Sc.termsGo, List.append_nil] at this
        exact this
      have hvv : vs1 = Sc.varsGo l vs := by
        have := HVV.out
        rw [List.drop_of_length_le (by omega), Sc.varsGo] at this
        exact this
      have hee : E1 = Sc.errsGo at_ l E := by
        have := HEE.out
        rw [List.drop_of_length_le (by omega), Sc.errsGo] at this
        exact this
      subst hacc hvv hee
      have HX : Hid (TermsQ w0.heap.size B X st vs va vn vr E at_ l w (.returned (.slice ao7 (Sc.termsGo l vs).length cap7)) wr) := ⟨_, _, rfl, hown, hI, hf⟩
      clear HTT HVV HEE hown hI hf hA
      go_wp2_with fail
      go_ret
      exact HX.out

end Go.Proofs.YtgpaleifhcdjnaaGreatDoor

/- The document's resolver, plain: it keeps the first error beside its state. -/
namespace Go.Proofs.YtgpaleifhcdjnaaGreatDoor
namespace Sc

def predE (st : St) (at_ : Int) (name : List UInt8) (n : Int) (E : Int × Int) : Int × Int :=
  if intD (st.with name n).arity (st.names.idxOf name) = n then E else wrongQ at_ 1 E
structure Qs where
  st : St
  vs : List (List UInt8)
  E : Int × Int
def litK (x : Tr.Lit) (q : Qs) : Int := if x.kind ≤ 2 then (q.st.names.idxOf x.name : Int) else 0
def litSt (x : Tr.Lit) (st : St) : St := if x.kind ≤ 2 then st.with x.name x.terms.length else st
def litE1 (x : Tr.Lit) (q : Qs) : Int × Int := if x.kind ≤ 2 then predE q.st x.at_ x.name x.terms.length q.E else q.E
def litQ (x : Tr.Lit) (q : Qs) : Lit := ⟨x.kind, x.op, litK x q, termsGo x.terms q.vs⟩
def litN (x : Tr.Lit) (q : Qs) : Qs := ⟨litSt x q.st, varsGo x.terms q.vs, errsGo x.at_ x.terms (litE1 x q)⟩
def litsQ : List Tr.Lit → Qs → List Lit
  | [], _ => []
  | x :: r, q => litQ x q :: litsQ r (litN x q)
def litsN : List Tr.Lit → Qs → Qs
  | [], q => q
  | x :: r, q => litsN r (litN x q)
def ruleB (r : Tr.Rule) (st : St) (E : Int × Int) : Qs :=
  ⟨st.with r.name r.terms.length, varsGo r.terms [], errsGo r.at_ r.terms (predE st r.at_ r.name r.terms.length E)⟩
def ruleQ (r : Tr.Rule) (st : St) (E : Int × Int) : Rule :=
  ⟨(st.names.idxOf r.name : Int), termsGo r.terms [], r.fold, litsQ r.body (ruleB r st E), (litsN r.body (ruleB r st E)).vs.length⟩
def ruleN (r : Tr.Rule) (st : St) (E : Int × Int) : Qs := litsN r.body (ruleB r st E)
def rulesQ : List Tr.Rule → St → Int × Int → List Rule × St × (Int × Int)
  | [], st, E => ([], st, E)
  | r :: l, st, E => if E.2 = 0 then (ruleQ r st E :: (rulesQ l (ruleN r st E).st (ruleN r st E).E).1, (rulesQ l (ruleN r st E).st (ruleN r st E).E).2) else ([], st, E)

theorem wrongQ_set (a c : Int) (E : Int × Int) (h : ¬ E.2 = 0) : wrongQ a c E = E := by
  unfold wrongQ
  rw [if_neg h, if_neg h]
theorem wrongQ_new (a c : Int) (E : Int × Int) (h : E.2 = 0) : wrongQ a c E = (a, c) := by
  unfold wrongQ
  rw [if_pos h, if_pos h]
theorem errsGo_set (a : Int) (l : List Tr.Term) (E : Int × Int) (h : ¬ E.2 = 0) : errsGo a l E = E := by
  rw [errsGo_eq]
  split
  · rfl
  · exact wrongQ_set _ _ _ h
theorem predE_set (st : St) (a n : Int) (s : List UInt8) (E : Int × Int) (h : ¬ E.2 = 0) : predE st a s n E = E := by
  unfold predE
  split
  · rfl
  · exact wrongQ_set _ _ _ h
theorem litN_set (x : Tr.Lit) (q : Qs) (h : ¬ q.E.2 = 0) : (litN x q).E = q.E := by
  have h1 : litE1 x q = q.E := by
    unfold litE1
    split
    · exact predE_set _ _ _ _ _ h
    · rfl
  show errsGo x.at_ x.terms (litE1 x q) = q.E
  rw [h1]
  exact errsGo_set _ _ _ h
theorem litsN_set : ∀ (l : List Tr.Lit) (q : Qs), ¬ q.E.2 = 0 → (litsN l q).E = q.E := by
  intro l
  induction l with
  | nil => intro q _; rfl
  | cons x r ih =>
    intro q h
    have h1 := litN_set x q h
    show (litsN r (litN x q)).E = q.E
    rw [ih _ (by rw [h1]; exact h), h1]
theorem litStep_Q (x : Tr.Lit) (st : St) (vs : List (List UInt8)) (E : Int × Int) (h0 : E.2 = 0) (h1 : 1 ≤ x.kind) :
    match litStep st vs x with
    | .inl e => (litN x ⟨st, vs, E⟩).E = e ∧ ¬ e.2 = 0
    | .inr (y, st1, vs1) => litQ x ⟨st, vs, E⟩ = y ∧ litN x ⟨st, vs, E⟩ = ⟨st1, vs1, E⟩ := by
  have hE : (litN x ⟨st, vs, E⟩).E = errsGo x.at_ x.terms (litE1 x ⟨st, vs, E⟩) := rfl
  unfold litStep
  by_cases hk : x.kind = 1 ∨ x.kind = 2
  · have hk2 : x.kind ≤ 2 := by omega
    have hE1 : litE1 x ⟨st, vs, E⟩ = predE st x.at_ x.name x.terms.length E := if_pos hk2
    rw [if_pos hk]
    unfold predStep
    by_cases hp : intD (st.with x.name x.terms.length).arity (st.names.idxOf x.name) = x.terms.length
    · rw [if_pos hp]
      have hE2 : predE st x.at_ x.name x.terms.length E = E := if_pos hp
      rw [hE1, hE2, errsGo_eq] at hE
      unfold termsStep
      cases hn : numsOk x.terms
      · rw [hn, if_neg (by simp), wrongQ_new _ _ _ h0] at hE
        simp only [if_neg (show ¬ false = true by simp)]
        exact ⟨hE, by show ¬ (3 : Int) = 0; decide⟩
      · rw [hn, if_pos rfl] at hE
        simp only [if_pos]
        refine ⟨?_, ?_⟩
        · unfold litQ litK
          rw [if_pos hk2]
        · unfold litN litSt
          rw [hE1, hE2, if_pos hk2, errsGo_eq, hn, if_pos rfl]
    · rw [if_neg hp]
      have hE2 : predE st x.at_ x.name x.terms.length E = (x.at_, 1) := by
        unfold predE
        rw [if_neg hp, wrongQ_new _ _ _ h0]
      rw [hE1, hE2, errsGo_set _ _ _ (by show ¬ (1 : Int) = 0; decide)] at hE
      exact ⟨hE, by show ¬ (1 : Int) = 0; decide⟩
  · have hk2 : ¬ x.kind ≤ 2 := by omega
    have hE1 : litE1 x ⟨st, vs, E⟩ = E := if_neg hk2
    rw [if_neg hk]
    rw [hE1, errsGo_eq] at hE
    simp only
    unfold termsStep
    cases hn : numsOk x.terms
    · rw [hn, if_neg (by simp), wrongQ_new _ _ _ h0] at hE
      simp only [if_neg (show ¬ false = true by simp)]
      exact ⟨hE, by show ¬ (3 : Int) = 0; decide⟩
    · rw [hn, if_pos rfl] at hE
      simp only [if_pos]
      refine ⟨?_, ?_⟩
      · unfold litQ litK
        rw [if_neg hk2]
      · unfold litN litSt
        rw [hE1, if_neg hk2, errsGo_eq, hn, if_pos rfl]
theorem litsGo_Q : ∀ (l : List Tr.Lit) (st : St) (vs : List (List UInt8)) (E : Int × Int), E.2 = 0 → (∀ x, x ∈ l → 1 ≤ x.kind) →
    match litsGo l st vs with
    | .inl e => (litsN l ⟨st, vs, E⟩).E = e ∧ ¬ e.2 = 0
    | .inr (y, st1, vs1) => litsQ l ⟨st, vs, E⟩ = y ∧ litsN l ⟨st, vs, E⟩ = ⟨st1, vs1, E⟩ := by
  intro l
  induction l with
  | nil => intro st vs E _ _; exact ⟨rfl, rfl⟩
  | cons x r ih =>
    intro st vs E h0 hk
    have h1 := litStep_Q x st vs E h0 (hk x (by simp))
    simp only [litsGo]
    rcases hs : litStep st vs x with e | ⟨y, st1, vs1⟩
    · rw [hs] at h1
      simp only at h1 ⊢
      refine ⟨?_, h1.2⟩
      show (litsN r (litN x ⟨st, vs, E⟩)).E = e
      rw [litsN_set _ _ (by rw [h1.1]; exact h1.2), h1.1]
    · rw [hs] at h1
      simp only at h1 ⊢
      have h2 := ih st1 vs1 E h0 (fun z hz => hk z (by simp [hz]))
      rcases hg : litsGo r st1 vs1 with e | ⟨ys, st2, vs2⟩
      · rw [hg] at h2
        simp only at h2 ⊢
        refine ⟨?_, h2.2⟩
        show (litsN r (litN x ⟨st, vs, E⟩)).E = e
        rw [h1.2]
        exact h2.1
      · rw [hg] at h2
        simp only at h2 ⊢
        refine ⟨?_, ?_⟩
        · show litQ x ⟨st, vs, E⟩ :: litsQ r (litN x ⟨st, vs, E⟩) = y :: ys
          rw [h1.1, h1.2, h2.1]
        · show litsN r (litN x ⟨st, vs, E⟩) = _
          rw [h1.2]
          exact h2.2
theorem ruleStep_Q (r : Tr.Rule) (st : St) (E : Int × Int) (h0 : E.2 = 0) (hk : ∀ x, x ∈ r.body → 1 ≤ x.kind) :
    match ruleStep st r with
    | .inl e => (ruleN r st E).E = e ∧ ¬ e.2 = 0
    | .inr (y, st1) => ruleQ r st E = y ∧ (ruleN r st E).st = st1 ∧ (ruleN r st E).E = E := by
  unfold ruleStep predStep
  by_cases hp : intD (st.with r.name r.terms.length).arity (st.names.idxOf r.name) = r.terms.length
  · rw [if_pos hp]
    have hE2 : predE st r.at_ r.name r.terms.length E = E := if_pos hp
    simp only
    unfold termsStep
    cases hn : numsOk r.terms
    · simp only [if_neg (show ¬ false = true by simp)]
      have hB : (ruleB r st E).E = (r.at_, 3) := by
        show errsGo r.at_ r.terms (predE st r.at_ r.name r.terms.length E) = _
        rw [hE2, errsGo_eq, hn, if_neg (by simp), wrongQ_new _ _ _ h0]
      refine ⟨?_, by show ¬ (3 : Int) = 0; decide⟩
      show (litsN r.body (ruleB r st E)).E = _
      rw [litsN_set _ _ (by rw [hB]; show ¬ (3 : Int) = 0; decide), hB]
    · simp only [if_pos]
      have hB : ruleB r st E = ⟨st.with r.name r.terms.length, varsGo r.terms [], E⟩ := by
        unfold ruleB
        rw [hE2, errsGo_eq, hn, if_pos rfl]
      have h2 := litsGo_Q r.body (st.with r.name r.terms.length) (varsGo r.terms []) E h0 hk
      rw [← hB] at h2
      rcases hg : litsGo r.body (st.with r.name r.terms.length) (varsGo r.terms []) with e | ⟨ys, st2, vs2⟩
      · rw [hg] at h2
        simp only at h2 ⊢
        exact h2
      · rw [hg] at h2
        simp only at h2 ⊢
        unfold ruleQ ruleN
        rw [h2.1, h2.2]
        exact ⟨rfl, rfl, rfl⟩
  · rw [if_neg hp]
    have hE2 : predE st r.at_ r.name r.terms.length E = (r.at_, 1) := by
      unfold predE
      rw [if_neg hp, wrongQ_new _ _ _ h0]
    have hB : (ruleB r st E).E = (r.at_, 1) := by
      show errsGo r.at_ r.terms (predE st r.at_ r.name r.terms.length E) = _
      rw [hE2, errsGo_set _ _ _ (by show ¬ (1 : Int) = 0; decide)]
    refine ⟨?_, by show ¬ (1 : Int) = 0; decide⟩
    show (litsN r.body (ruleB r st E)).E = _
    rw [litsN_set _ _ (by rw [hB]; show ¬ (1 : Int) = 0; decide), hB]
theorem rulesQ_set (l : List Tr.Rule) (st : St) (E : Int × Int) (h : ¬ E.2 = 0) : (rulesQ l st E) = ([], st, E) := by
  cases l with
  | nil => rfl
  | cons r l => exact if_neg h
theorem rulesGo_Q : ∀ (l : List Tr.Rule) (st : St) (E : Int × Int), E.2 = 0 → (∀ r, r ∈ l → ∀ x, x ∈ r.body → 1 ≤ x.kind) →
    match rulesGo l st with
    | .inl e => (rulesQ l st E).2.2 = e ∧ ¬ e.2 = 0
    | .inr (y, st1) => rulesQ l st E = (y, st1, E) := by
  intro l
  induction l with
  | nil => intro st E _ _; rfl
  | cons r l ih =>
    intro st E h0 hk
    have h1 := ruleStep_Q r st E h0 (hk r (by simp))
    have hR : rulesQ (r :: l) st E = (ruleQ r st E :: (rulesQ l (ruleN r st E).st (ruleN r st E).E).1, (rulesQ l (ruleN r st E).st (ruleN r st E).E).2) := if_pos h0
    rw [hR]
    simp only [rulesGo]
    rcases hs : ruleStep st r with e | ⟨y, st1⟩
    · rw [hs] at h1
      simp only at h1 ⊢
      refine ⟨?_, h1.2⟩
      rw [rulesQ_set _ _ _ (by rw [h1.1]; exact h1.2)]
      exact h1.1
    · rw [hs] at h1
      simp only at h1 ⊢
      obtain ⟨h2, h3, h4⟩ := h1
      rw [h2, h3, h4]
      have h5 := ih st1 E h0 (fun z hz => hk z (by simp [hz]))
      rcases hg : rulesGo l st1 with e | ⟨ys, st2⟩
      · rw [hg] at h5
        simp only at h5 ⊢
        exact h5
      · rw [hg] at h5
        simp only at h5 ⊢
        rw [h5]
/-- What the document's resolver has at last, of a tree that Check passes. -/
theorem resolve_Q (l : List Tr.Rule) (hk : ∀ r, r ∈ l → ∀ x, x ∈ r.body → 1 ≤ x.kind) :
    match resolve l with
    | .inl e => (rulesQ l ⟨[], []⟩ (0, 0)).2.2 = e ∧ ¬ e.2 = 0
    | .inr p => (rulesQ l ⟨[], []⟩ (0, 0)).2.2 = (0, 0) ∧ p = ⟨(rulesQ l ⟨[], []⟩ (0, 0)).2.1.arity, (rulesQ l ⟨[], []⟩ (0, 0)).2.1.names, (rulesQ l ⟨[], []⟩ (0, 0)).1⟩ := by
  have h := rulesGo_Q l ⟨[], []⟩ (0, 0) rfl hk
  unfold resolve
  rcases hg : rulesGo l ⟨[], []⟩ with e | ⟨ys, st2⟩
  · rw [hg] at h
    exact h
  · rw [hg] at h
    simp only at h ⊢
    rw [h]
    exact ⟨rfl, rfl⟩
end Sc

end Go.Proofs.YtgpaleifhcdjnaaGreatDoor

/- The document's resolver: what stands while a rule is resolved. -/
namespace Go.Proofs.YtgpaleifhcdjnaaGreatDoor
open Go.RowKit

/-- While a rule is resolved: the rule's box R (of the tree), the box Y (of the program). -/
structure RuQ (B0 B X : Nat) (wr : World) (s : Sc.Qs) (va vn vr vv : Value) (fo : Array Value) (R Y : Nat) (k fold : Int) (vt vb : Value) (tl : List Sc.Term) (q : List (Sc.Lit × Value)) (z : World) : Prop where
  rq : RqI B X s.st s.vs va vn vr vv s.E.1 s.E.2 z
  fb : z.heap[R]? = some (.cells fo 57 (0, 0))
  bx : z.heap[Y]? = some (.cells #[.int .i64 k, vt, .int .i64 fold, vb, .int .i64 0] 67 (0, 0))
  ow : z.ownsRow (Y + 1) 84 4 vb q.length (q.map plCells).flatten
  ts : ∀ p, p ∈ q → PTermsP B z p.2 p.1.terms
  tm : PTermsP B z vt tl
  fr : FrL B0 X wr z
  rr : wr.heap.size ≤ R
  yy : wr.heap.size ≤ Y
  ne : ¬ R = Y
  bw : B ≤ wr.heap.size
  b0 : B0 ≤ X
section
variable {B0 B X : Nat} {wr : World} {s s2 : Sc.Qs} {va vn vr vv va2 vn2 vv2 : Value} {fo : Array Value} {R Y : Nat} {k fold : Int} {vt vb : Value} {tl : List Sc.Term} {q : List (Sc.Lit × Value)} {z z2 : World}
theorem RuQ.step (h : RuQ B0 B X wr s va vn vr vv fo R Y k fold vt vb tl q z) (hq : RqI B X s2.st s2.vs va2 vn2 vr vv2 s2.E.1 s2.E.2 z2) (hf : FrL B0 X z z2) : RuQ B0 B X wr s2 va2 vn2 vr vv2 fo R Y k fold vt vb tl q z2 := by
  have hxb := h.rq.xb
  have h1 := h.rr
  have h2 := h.yy
  have h3 := h.bw
  exact ⟨hq, hf.box h.fb (by omega) (by decide) (by decide), hf.box h.bx (by omega) (by decide) (by decide), own_fr h.ow hf (by omega) (by decide) (by decide), fun p hp => ⟨RowP.fr (h.ts p hp).1 hf hxb (by decide) (by decide), (h.ts p hp).2⟩, ⟨RowP.fr h.tm.1 hf hxb (by decide) (by decide), h.tm.2⟩, h.fr.trans hf, h1, h2, h.ne, h3, h.b0⟩
theorem RuQ.below (h : RuQ B0 B X wr s va vn vr vv fo R Y k fold vt vb tl q z) (hb : Below z.heap.size z z2) : RuQ B0 B X wr s va vn vr vv fo R Y k fold vt vb tl q z2 :=
  h.step (h.rq.below hb) (FrL.of_below hb (by have := h.rq.sz; have := h.rq.xb; have := h.b0; omega))
theorem RuQ.keepT {b : Nat} {cur : Array Value} {e : TypeId} {fz : Nat × Nat} (hs : SetB b z z2) (hb : z.heap[b]? = some (.cells cur e fz)) (h130 : ¬ e = 130) {v : Value} {l : List Sc.Term} (hT : PTermsP B z v l) : PTermsP B z2 v l :=
  ⟨RowP.keep (E := (· = 130)) hT.1 (fun b' cur' e' fz' (he : e' = 130) _ hh => hs.block b' (fun hbb => by
    subst hbb
    subst he
    rw [hb] at hh
    injection hh with hh
    injection hh with _ q _
    exact h130 q)) rfl, hT.2⟩
theorem RuQ.rebox {k2 : Int} {vt2 : Value} {tl2 : List Sc.Term} (h : RuQ B0 B X wr s va vn vr vv fo R Y k fold vt vb tl q z) (hs : SetB Y z z2) (hbx : z2.heap[Y]? = some (.cells #[.int .i64 k2, vt2, .int .i64 fold, vb, .int .i64 0] 67 (0, 0))) (hT : PTermsP B z vt2 tl2) :
    RuQ B0 B X wr s va vn vr vv fo R Y k2 fold vt2 vb tl2 q z2 := by
  have hxb := h.rq.xb
  have h1 := h.rr
  have h2 := h.yy
  have h3 := h.bw
  have h4 := h.ne
  have h5 := h.b0
  exact ⟨h.rq.setT hs h.bx (by omega) (by decide) (by decide), (hs.block _ h4).trans h.fb, hbx, ownsRow_same h.ow fun g _ _ hg _ => hs.block g (by omega), fun p hp => RuQ.keepT hs h.bx (by decide) (h.ts p hp), RuQ.keepT hs h.bx (by decide) hT, h.fr.setB hs h2 (by omega), h1, h2, h4, h3, h5⟩
/-- The literal's box is set. -/
theorem RuQ.setZ {Z : Nat} {cur : Array Value} (h : RuQ B0 B X wr s va vn vr vv fo R Y k fold vt vb tl q z) (hs : SetB Z z z2) (hz : z.heap[Z]? = some (.cells cur 84 (0, 0))) (hlt : ∀ g, vb.ownBlock = some g → g < Z) (hZ : wr.heap.size ≤ Z) :
    RuQ B0 B X wr s va vn vr vv fo R Y k fold vt vb tl q z2 := by
  have hxb := h.rq.xb
  have h1 := h.rr
  have h2 := h.yy
  have h3 := h.bw
  have h5 := h.b0
  have hRZ : ¬ R = Z := fun e => by
    have := h.fb
    rw [e, hz] at this
    injection this with this
    injection this with _ q _
    cases q
  have hYZ : ¬ Y = Z := fun e => by
    have := h.bx
    rw [e, hz] at this
    injection this with this
    injection this with _ q _
    cases q
  exact ⟨h.rq.setT hs hz (by omega) (by decide) (by decide), (hs.block _ hRZ).trans h.fb, (hs.block _ hYZ).trans h.bx, own_alone h.ow fun g hg => hs.block g (by have := hlt g hg; omega), fun p hp => RuQ.keepT hs hz (by decide) (h.ts p hp), RuQ.keepT hs hz (by decide) h.tm, h.fr.setB hs hZ (by omega), h1, h2, h.ne, h3, h5⟩
/-- One literal more: the row is grown, the rule's box is set. -/
theorem RuQ.put {x : Sc.Lit} {xv vb2 : Value} (h : RuQ B0 B X wr s va vn vr vv fo R Y k fold vt vb tl q z) (hg : z.grownBy z2 vb.ownBlock) (ho : z2.ownsRow (Y + 1) 84 4 vb2 (q.length + 1) ((q.map plCells).flatten ++ plCells (x, xv))) (hx : PTermsP B z xv x.terms) :
    RuQ B0 B X wr s va vn vr vv fo R Y k fold vt vb2 tl (q ++ [(x, xv)]) (z2.setCell ⟨Y, 3, none⟩ vb2) := by
  have hxb := h.rq.xb
  have h1 := h.rr
  have h2 := h.yy
  have h3 := h.bw
  have h5 := h.b0
  have hs := SetB.one Y z2 3 vb2
  have hbx := grown_cells hg h.ow h.bx (by decide)
  have hq2 := h.rq.app hg h.ow (by decide) (by decide) (by decide)
  have keepT : ∀ v l, PTermsP B z v l → PTermsP B (z2.setCell ⟨Y, 3, none⟩ vb2) v l := fun v l hT => RuQ.keepT hs hbx (by decide) ⟨RowP.app hT.1 hg h.ow (by decide), hT.2⟩
  refine ⟨hq2.setT hs hbx (by omega) (by decide) (by decide), (hs.block _ h.ne).trans (grown_cells hg h.ow h.fb (by decide)), by rw [Lib.heap_setCell_same hbx]; rfl, ?_, ?_, keepT _ _ h.tm, (h.fr.app hg h.ow (by omega) (by omega)).setB hs h2 (by omega), h1, h2, h.ne, h3, h5⟩
  · have := ownsRow_setCell_below ho (a := ⟨Y, 3, none⟩) (show Y < Y + 1 by omega) vb2
    simpa using this
  · intro p hp
    rcases List.mem_append.mp hp with hp | hp
    · exact keepT _ _ (h.ts p hp)
    · obtain rfl : p = (x, xv) := by simpa using hp
      exact keepT _ _ hx
theorem RuQ.cells (h : RuQ B0 B X wr s va vn vr vv fo R Y k fold vt vb tl q z) :
    z.cell? ⟨Y, 0, none⟩ = some (.int .i64 k) ∧ z.cell? ⟨Y, 1, none⟩ = some vt ∧ z.cell? ⟨Y, 2, none⟩ = some (.int .i64 fold) ∧ z.cell? ⟨Y, 3, none⟩ = some vb ∧ z.cell? ⟨Y, 4, none⟩ = some (.int .i64 0) ∧
    z.frozen? ⟨Y, 0, none⟩ = false ∧ z.frozen? ⟨Y, 1, none⟩ = false ∧ z.frozen? ⟨Y, 3, none⟩ = false ∧ z.frozen? ⟨Y, 4, none⟩ = false :=
  ⟨by rw [Lib.cell_of_heap h.bx]; rfl, by rw [Lib.cell_of_heap h.bx]; rfl, by rw [Lib.cell_of_heap h.bx]; rfl, by rw [Lib.cell_of_heap h.bx]; rfl, by rw [Lib.cell_of_heap h.bx]; rfl, Lib.frozen_of_heap h.bx 0, Lib.frozen_of_heap h.bx 1, Lib.frozen_of_heap h.bx 3, Lib.frozen_of_heap h.bx 4⟩
/-- The variables are none again. -/
theorem RqI.clear {st : Sc.St} {vs : List (List UInt8)} {a0 e0 : Int} (h : RqI B X st vs va vn vr vv a0 e0 z) : RqI B X st [] va vn vr (.slice none 0 0) a0 e0 (z.setCell ⟨X, 3, none⟩ (.slice none 0 0)) := by
  have hs := SetB.one X z 3 (.slice none 0 0)
  have hxb := h.xb
  exact ⟨by rw [Lib.heap_setCell_same h.box]; rfl, ownsRow_same h.oa fun g _ _ hg _ => hs.block g (by omega), ownsRow_same h.on fun g _ _ hg _ => hs.block g (by omega), World.ownsRow_nil _ _ _ _, fun g _ hv => (by cases hv), hxb, by rw [hs.size]; exact h.sz⟩
theorem RuQ.fin (h : RuQ B0 B X wr s va vn vr vv fo R Y k fold vt vb tl q z) (hs : SetB Y z z2) : RqI B X s.st s.vs va vn vr vv s.E.1 s.E.2 z2 ∧ PTermsP B z2 vt tl ∧ PLitsP B z2 vb (q.map (·.1)) ∧ FrL B0 X wr z2 := by
  have hxb := h.rq.xb
  have h2 := h.yy
  have h3 := h.bw
  have h5 := h.b0
  have ho2 := ownsRow_same h.ow fun g _ _ hg _ => hs.block g (show ¬ g = Y by omega)
  exact ⟨h.rq.setT hs h.bx (by omega) (by decide) (by decide), RuQ.keepT hs h.bx (by decide) h.tm, ⟨q, rfl, RowP.mono (rowP_own (k := 4) (by intro c hc; obtain ⟨t, _, rfl⟩ := List.mem_map.mp hc; rfl) (by rw [List.length_map]; exact ho2)) (by omega), fun p hp => RuQ.keepT hs h.bx (by decide) (h.ts p hp)⟩, h.fr.setB hs h2 (by omega)⟩
end

/-- What stands while a tree is resolved: the tree's box T, the result's box P, the scope's box X. -/
structure RoQ (B X T P : Nat) (tv : Value) (w : World) (st : Sc.St) (vs : List (List UInt8)) (E : Int × Int) (va vn vr vv : Value) (q : List (Sc.Rule × Value × Value)) (wr : World) : Prop where
  rq : RqI B X st vs va vn vr vv E.1 E.2 wr
  tb : wr.heap[T]? = some (.cells #[tv] 36)
  pb : wr.heap[P]? = some zpObj
  ow : wr.ownsRow B 67 5 vr q.length (q.map prCells).flatten
  ts : ∀ p, p ∈ q → PTermsP B wr p.2.1 p.1.terms ∧ PLitsP B wr p.2.2 p.1.body
  fr : FrL w.heap.size X w wr
  tx : T < X
  px : P < X
  wt : w.heap.size ≤ T
  wp : w.heap.size ≤ P
section
variable {B X T P : Nat} {tv : Value} {w : World} {st st2 : Sc.St} {vs vs2 : List (List UInt8)} {E E2 : Int × Int} {va vn vr vv va2 vn2 vr2 vv2 : Value} {q : List (Sc.Rule × Value × Value)} {wr z z2 : World}
theorem RoQ.step (h : RoQ B X T P tv w st vs E va vn vr vv q wr) (hq : RqI B X st2 vs2 va2 vn2 vr vv2 E2.1 E2.2 z) (hf : FrL w.heap.size X wr z) : RoQ B X T P tv w st2 vs2 E2 va2 vn2 vr vv2 q z := by
  have hxb := h.rq.xb
  have h1 := h.tx
  have h2 := h.px
  exact ⟨hq, hf.box h.tb (by omega) (by decide) (by decide), hf.box h.pb (by omega) (by decide) (by decide), own_fr h.ow hf hxb (by decide) (by decide), fun p hp => ⟨(h.ts p hp).1.keep (keeps_fr hf hxb), (h.ts p hp).2.keep (keeps_fr hf hxb)⟩, h.fr.trans hf, h1, h2, h.wt, h.wp⟩
theorem RoQ.below (h : RoQ B X T P tv w st vs E va vn vr vv q wr) (hb : Below wr.heap.size wr z) : RoQ B X T P tv w st vs E va vn vr vv q z :=
  h.step (h.rq.below hb) (FrL.of_below hb h.fr.size)
theorem RqI.setR {a0 e0 : Int} (h : RqI B X st vs va vn vr vv a0 e0 z) (hb : X < B) : RqI B X st vs va vn vr2 vv a0 e0 (z.setCell ⟨X, 2, none⟩ vr2) := by
  have hs := SetB.one X z 2 vr2
  exact ⟨by rw [Lib.heap_setCell_same h.box]; rfl, ownsRow_same h.oa fun g _ _ hg _ => hs.block g (by omega), ownsRow_same h.on fun g _ _ hg _ => hs.block g (by omega), ownsRow_same h.ov fun g _ _ hg _ => hs.block g (by omega), h.nv, hb, by rw [hs.size]; exact h.sz⟩
theorem RoQ.put {x : Sc.Rule} {vt vb : Value} (h : RoQ B X T P tv w st vs E va vn vr vv q z) (hg : z.grownBy z2 vr.ownBlock) (ho : z2.ownsRow B 67 5 vr2 (q.length + 1) ((q.map prCells).flatten ++ prCells (x, vt, vb))) (hx : PTermsP B z vt x.terms) (hy : PLitsP B z vb x.body) :
    RoQ B X T P tv w st vs E va vn vr2 vv (q ++ [(x, vt, vb)]) (z2.setCell ⟨X, 2, none⟩ vr2) := by
  have hxb := h.rq.xb
  have h1 := h.tx
  have h2 := h.px
  have h3 := h.wt
  have hs := SetB.one X z2 2 vr2
  have hR2 := h.rq.app hg h.ow (by decide) (by decide) (by decide)
  have hk : Keeps B z (z2.setCell ⟨X, 2, none⟩ vr2) (fun e => e = 130 ∨ e = 84) := (keeps_app hg h.ow).trans (keeps_setB hs hxb)
  refine ⟨hR2.setR hxb, (hs.block _ (by omega)).trans (grown_cells hg h.ow h.tb (by decide)), (hs.block _ (by omega)).trans (grown_cells hg h.ow h.pb (by decide)), ?_, ?_, (h.fr.app hg h.ow (by omega) (Nat.le_refl _)).setB hs (by omega) (Nat.le_refl _), h1, h2, h3, h.wp⟩
  · have := ownsRow_same ho fun g _ _ hb _ => hs.block g (show ¬ g = X by omega)
    simpa using this
  · intro p hp
    rcases List.mem_append.mp hp with hp | hp
    · exact ⟨(h.ts p hp).1.keep hk, (h.ts p hp).2.keep hk⟩
    · obtain rfl : p = (x, vt, vb) := by simpa using hp
      exact ⟨hx.keep hk, hy.keep hk⟩
theorem RoQ.prog (h : RoQ B X T P tv w st vs E va vn vr vv q wr) (hs : ∀ g, B ≤ g → g < wr.heap.size → z.heap[g]? = wr.heap[g]?) : ProgV z va vn vr ⟨st.arity, st.names, q.map (·.1)⟩ := by
  have hag : ∀ g cur e fz, B ≤ g → wr.heap[g]? = some (.cells cur e fz) → z.heap[g]? = wr.heap[g]? := fun g _ _ _ hb hh => hs g hb (heap_lt hh)
  have hk : Keeps B wr z (fun e => e = 130 ∨ e = 84) := fun b cur e fz _ hb hh => hag b cur e fz hb hh
  exact ⟨intsV_own (ownsRow_same h.rq.oa fun g cur fz hb hh => hag g cur _ fz hb hh), strsV_own (ownsRow_same h.rq.on fun g cur fz hb hh => hag g cur _ fz hb hh), prulesV_of (B := B) (rowP_own (k := 5) (by intro c hc; obtain ⟨t, _, rfl⟩ := List.mem_map.mp hc; rfl) (by rw [List.length_map]; exact ownsRow_same h.ow fun g cur fz hb hh => hag g cur _ fz hb hh)) fun p hp => ⟨(h.ts p hp).1.keep hk, (h.ts p hp).2.keep hk⟩⟩
end

end Go.Proofs.YtgpaleifhcdjnaaGreatDoor

/- The document's resolver, plain: lengths, and what Check of a tree gives. -/
namespace Go.Proofs.YtgpaleifhcdjnaaGreatDoor
namespace Sc

def onQ (acc : List Rule) (r : List Rule × St × (Int × Int)) : List Rule × St × (Int × Int) := (acc ++ r.1, r.2)
theorem onQ_nil (r : List Rule × St × (Int × Int)) : onQ [] r = r := rfl
theorem onQ_step {acc : List Rule} {l : List Tr.Rule} {st : St} {E : Int × Int} {k : Nat} (hk : k < l.length) (h : E.2 = 0) :
    onQ acc (rulesQ (l.drop k) st E) = onQ (acc ++ [ruleQ (Tr.ruleD l k) st E]) (rulesQ (l.drop (k + 1)) (ruleN (Tr.ruleD l k) st E).st (ruleN (Tr.ruleD l k) st E).E) := by
  have hd : l.drop k = Tr.ruleD l k :: l.drop (k + 1) := by rw [List.drop_eq_getElem_cons hk]; simp [Tr.ruleD, List.getD_eq_getElem?_getD, hk]
  rw [hd]
  unfold onQ
  simp only [rulesQ, if_pos h, List.append_assoc, List.singleton_append]
theorem onQ_end {acc : List Rule} {l : List Tr.Rule} {st : St} {E : Int × Int} {k : Nat} (h : ¬ k < l.length ∨ ¬ E.2 = 0) : onQ acc (rulesQ (l.drop k) st E) = (acc, st, E) := by
  rcases h with h | h
  · rw [List.drop_of_length_le (by omega)]
    simp [rulesQ, onQ]
  · rw [rulesQ_set _ _ _ h]
    simp [onQ]
theorem litsQ_drop (l : List Tr.Lit) (k : Nat) (hk : k < l.length) (q : Qs) : litsQ (l.drop k) q = litQ (Tr.litD l k) q :: litsQ (l.drop (k + 1)) (litN (Tr.litD l k) q) := by
  have hd : l.drop k = Tr.litD l k :: l.drop (k + 1) := by rw [List.drop_eq_getElem_cons hk]; simp [Tr.litD, List.getD_eq_getElem?_getD, hk]
  rw [hd, litsQ]
theorem litsN_drop (l : List Tr.Lit) (k : Nat) (hk : k < l.length) (q : Qs) : litsN (l.drop k) q = litsN (l.drop (k + 1)) (litN (Tr.litD l k) q) := by
  have hd : l.drop k = Tr.litD l k :: l.drop (k + 1) := by rw [List.drop_eq_getElem_cons hk]; simp [Tr.litD, List.getD_eq_getElem?_getD, hk]
  rw [hd, litsN]
theorem with_len (st : St) (s : List UInt8) (n : Int) : (st.with s n).names.length ≤ st.names.length + 1 := by
  unfold St.with
  split
  · omega
  · simp
theorem with_eq (st : St) (s : List UInt8) (n : Int) (h : st.arity.length = st.names.length) : (st.with s n).arity.length = (st.with s n).names.length := by
  unfold St.with
  split
  · exact h
  · simp [h]
theorem litSt_len (x : Tr.Lit) (st : St) : (litSt x st).names.length ≤ st.names.length + 1 := by
  unfold litSt
  split
  · exact with_len _ _ _
  · omega
theorem litSt_eq (x : Tr.Lit) (st : St) (h : st.arity.length = st.names.length) : (litSt x st).arity.length = (litSt x st).names.length := by
  unfold litSt
  split
  · exact with_eq _ _ _ h
  · exact h
structure QFit (r : Tr.Rule) : Prop where
  tn : r.terms.length ≤ 3
  tz : ∀ t, t ∈ r.terms → t.var.isEmpty = false → t.n = 0
  bn : r.body.length ≤ 4
  bl : ∀ i, i < r.body.length → 1 ≤ (Tr.litD r.body i).kind ∧ (Tr.litD r.body i).terms.length ≤ 3 ∧ ∀ t, t ∈ (Tr.litD r.body i).terms → t.var.isEmpty = false → t.n = 0
theorem termsOk_zero {l : List Tr.Term} (h : Tr.termsOk l = true) : ∀ t, t ∈ l → t.var.isEmpty = false → t.n = 0 := by
  intro t ht hv
  have h1 := List.all_eq_true.mp h t ht
  unfold Tr.termOk at h1
  rw [hv, if_neg (by simp)] at h1
  have h2 := (Bool.and_eq_true _ _ ▸ h1).1
  simpa using h2
theorem check_ok {l : List Tr.Rule} (h : Tr.check l = 0) : Tr.many l = false ∧ l.all Tr.ruleOk = true := by
  unfold Tr.check at h
  cases hm : Tr.many l
  · rw [hm, if_neg (by simp)] at h
    cases ha : l.all Tr.ruleOk
    · rw [ha, if_neg (by simp)] at h
      exact absurd h (by decide)
    · exact ⟨rfl, rfl⟩
  · rw [hm, if_pos rfl] at h
    exact absurd h (by decide)
theorem lit_kind {x : Tr.Lit} (h : Tr.litOk x = true) : 1 ≤ x.kind := by
  unfold Tr.litOk at h
  have h2 := (Bool.and_eq_true _ _ ▸ h).2
  by_cases h3 : x.kind = 1 ∨ x.kind = 2
  · omega
  · rw [if_neg h3] at h2
    by_cases h4 : x.kind = 3
    · omega
    · rw [if_neg h4] at h2
      by_cases h5 : x.kind = 4
      · omega
      · rw [if_neg h5] at h2
        cases h2
theorem rule_parts {r : Tr.Rule} (h : Tr.ruleOk r = true) : Tr.termsOk r.terms = true ∧ Tr.litsOk r.body = true := by
  unfold Tr.ruleOk at h
  simp only [Bool.and_eq_true] at h
  exact ⟨h.1.1.2, h.2⟩
theorem lit_terms {x : Tr.Lit} (h : Tr.litOk x = true) : Tr.termsOk x.terms = true := by
  unfold Tr.litOk at h
  exact (Bool.and_eq_true _ _ ▸ h).1
theorem many_parts {r : Tr.Rule} (h : Tr.ruleMany r = false) : r.body.length ≤ 4 ∧ r.terms.length ≤ 3 ∧ ∀ x, x ∈ r.body → x.terms.length ≤ 3 := by
  unfold Tr.ruleMany at h
  simp only [Bool.or_eq_false_iff, decide_eq_false_iff_not] at h
  refine ⟨by omega, by omega, fun x hx => ?_⟩
  have h2 := h.2
  unfold Tr.litsMany at h2
  rw [List.any_eq_false] at h2
  have := h2 x hx
  simp at this
  omega
theorem qfit_of {l : List Tr.Rule} (h : Tr.check l = 0) : l.length ≤ 12 ∧ ∀ r, r ∈ l → QFit r ∧ ∀ x, x ∈ r.body → 1 ≤ x.kind := by
  obtain ⟨hm, ha⟩ := check_ok h
  unfold Tr.many at hm
  simp only [Bool.or_eq_false_iff, decide_eq_false_iff_not] at hm
  refine ⟨by omega, fun r hr => ?_⟩
  have hok := List.all_eq_true.mp ha r hr
  have hrm : Tr.ruleMany r = false := by
    have := List.any_eq_false.mp hm.2 r hr
    simpa using this
  obtain ⟨m1, m2, m3⟩ := many_parts hrm
  obtain ⟨k1, k2⟩ := rule_parts hok
  have hk : ∀ x, x ∈ r.body → Tr.litOk x = true := fun x hx => List.all_eq_true.mp k2 x hx
  refine ⟨⟨m2, termsOk_zero k1, m1, fun i hi => ?_⟩, fun x hx => lit_kind (hk x hx)⟩
  have hx : Tr.litD r.body i ∈ r.body := by simp [Tr.litD, hi]
  exact ⟨lit_kind (hk _ hx), m3 _ hx, termsOk_zero (lit_terms (hk _ hx))⟩
end Sc

end Go.Proofs.YtgpaleifhcdjnaaGreatDoor

/- The document's answer: is a text just one token of a kind? -/
namespace Go.Proofs.YtgpaleifhcdjnaaGreatDoor
open Go.RowKit

set_option maxRecDepth 100000 in
set_option maxHeartbeats 400000 in
theorem refTok_empty (k : Int) (w : World) : Calls Tryz.prog 63 #[.int .i64 k, .string ⟨#[]⟩] w fun e w' => e = .returned (.bool false) ∧ w' = w := by
  go_enter Tryz.func63, Tryz.ntmps63
  go_wp2_with fail
  go_ret
  exact ⟨rfl, rfl⟩

set_option maxRecDepth 100000 in
set_option maxHeartbeats 400000 in
theorem refTok_long (k : Int) (s : ByteArray) (w : World) (h0 : s.toList.isEmpty = false) (hs : 5000 < s.size) : Calls Tryz.prog 63 #[.int .i64 k, .string s] w fun e w' => e = .returned (.bool false) ∧ w' = w := by
  go_enter Tryz.func63, Tryz.ntmps63
  go_wp2_with fail
  go_ret
  exact ⟨rfl, rfl⟩

set_option maxRecDepth 100000 in
set_option maxHeartbeats 400000 in
theorem refTok_zero (s : ByteArray) (w : World) (h0 : s.toList.isEmpty = false) (hs : s.size ≤ 5000) : Calls Tryz.prog 63 #[.int .i64 0, .string s] w fun e w' => e = .returned (.bool false) ∧ w' = w := by
  have hd : decide ((5000 : Int) < (s.size : Int)) = false := by simp; omega
  go_enter Tryz.func63, Tryz.ntmps63
  go_wp2_with fail
  go_ret
  exact ⟨rfl, rfl⟩

set_option maxRecDepth 100000 in
set_option maxHeartbeats 1000000 in
theorem refTok_off (s : ByteArray) (w : World) (h0 : s.toList.isEmpty = false) (hs : s.size ≤ 5000) (hpos : 0 < s.size) (k K : Int) (hk : (k == 0) = false) (g1 : (K == k) = false) (hR : refKind s.data.toList = K) :
    Calls Tryz.prog 63 #[.int .i64 k, .string s] w fun e w' => e = .returned (.bool false) ∧ w' = w := by
  have hd5 : decide ((5000 : Int) < (s.size : Int)) = false := by simp; omega
  have HA : Hid (Calls Tryz.prog 86 #[.string s, .int .i64 0] w fun e w' => e = .returned (.tuple #[.int .i64 K, .int .i64 (Tk.lenOf s.data.toList : Nat)]) ∧ w' = w) := by
    have h := refAt_any s 0 w (by omega) hpos
    rw [List.drop_zero, hR] at h
    exact h
  clear hR
  go_enter Tryz.func63, Tryz.ntmps63
  go_wp2_with fail
  refine Calls.mono HA.out ?_
  rintro e w1 ⟨rfl, rfl⟩
  go_wp2_with fail
  go_ret
  exact ⟨rfl, rfl⟩

set_option maxRecDepth 100000 in
set_option maxHeartbeats 1000000 in
theorem refTok_part (s : ByteArray) (w : World) (h0 : s.toList.isEmpty = false) (hs : s.size ≤ 5000) (hpos : 0 < s.size) (k K : Int) (hk : (k == 0) = false) (g1 : (K == k) = true) (g2 : ((Tk.lenOf s.data.toList : Int) == (s.size : Int)) = false) (hR : refKind s.data.toList = K) :
    Calls Tryz.prog 63 #[.int .i64 k, .string s] w fun e w' => e = .returned (.bool false) ∧ w' = w := by
  have hd5 : decide ((5000 : Int) < (s.size : Int)) = false := by simp; omega
  have HA : Hid (Calls Tryz.prog 86 #[.string s, .int .i64 0] w fun e w' => e = .returned (.tuple #[.int .i64 K, .int .i64 (Tk.lenOf s.data.toList : Nat)]) ∧ w' = w) := by
    have h := refAt_any s 0 w (by omega) hpos
    rw [List.drop_zero, hR] at h
    exact h
  clear hR
  go_enter Tryz.func63, Tryz.ntmps63
  go_wp2_with fail
  refine Calls.mono HA.out ?_
  rintro e w1 ⟨rfl, rfl⟩
  go_wp2_with fail
  go_ret
  exact ⟨rfl, rfl⟩

set_option maxRecDepth 100000 in
set_option maxHeartbeats 1000000 in
theorem refTok_long1 (s : ByteArray) (w : World) (h0 : s.toList.isEmpty = false) (hs : s.size ≤ 5000) (hpos : 0 < s.size) (g2 : ((Tk.lenOf s.data.toList : Int) == (s.size : Int)) = true) (hl : 12 < Tk.lenOf s.data.toList) (hR : refKind s.data.toList = 1) :
    Calls Tryz.prog 63 #[.int .i64 1, .string s] w fun e w' => e = .returned (.bool false) ∧ w' = w := by
  have hd5 : decide ((5000 : Int) < (s.size : Int)) = false := by simp; omega
  have HA : Hid (Calls Tryz.prog 86 #[.string s, .int .i64 0] w fun e w' => e = .returned (.tuple #[.int .i64 1, .int .i64 (Tk.lenOf s.data.toList : Nat)]) ∧ w' = w) := by
    have h := refAt_any s 0 w (by omega) hpos
    rw [List.drop_zero, hR] at h
    exact h
  clear hR
  have hd12 : decide ((12 : Int) < ((Tk.lenOf s.data.toList : Nat) : Int)) = true := by simp; omega
  go_enter Tryz.func63, Tryz.ntmps63
  go_wp2_with fail
  refine Calls.mono HA.out ?_
  rintro e w1 ⟨rfl, rfl⟩
  go_wp2_with fail
  go_ret
  exact ⟨rfl, rfl⟩

set_option maxRecDepth 100000 in
set_option maxHeartbeats 1000000 in
theorem refTok_yes1 (s : ByteArray) (w : World) (h0 : s.toList.isEmpty = false) (hs : s.size ≤ 5000) (hpos : 0 < s.size) (g2 : ((Tk.lenOf s.data.toList : Int) == (s.size : Int)) = true) (hl : Tk.lenOf s.data.toList ≤ 12) (hR : refKind s.data.toList = 1) :
    Calls Tryz.prog 63 #[.int .i64 1, .string s] w fun e w' => e = .returned (.bool true) ∧ w' = w := by
  have hd5 : decide ((5000 : Int) < (s.size : Int)) = false := by simp; omega
  have HA : Hid (Calls Tryz.prog 86 #[.string s, .int .i64 0] w fun e w' => e = .returned (.tuple #[.int .i64 1, .int .i64 (Tk.lenOf s.data.toList : Nat)]) ∧ w' = w) := by
    have h := refAt_any s 0 w (by omega) hpos
    rw [List.drop_zero, hR] at h
    exact h
  clear hR
  have hd12 : decide ((12 : Int) < ((Tk.lenOf s.data.toList : Nat) : Int)) = false := by simp; omega
  go_enter Tryz.func63, Tryz.ntmps63
  go_wp2_with fail
  refine Calls.mono HA.out ?_
  rintro e w1 ⟨rfl, rfl⟩
  go_wp2_with fail
  go_ret
  exact ⟨rfl, rfl⟩

set_option maxRecDepth 100000 in
set_option maxHeartbeats 1000000 in
theorem refTok_long2 (s : ByteArray) (w : World) (h0 : s.toList.isEmpty = false) (hs : s.size ≤ 5000) (hpos : 0 < s.size) (g2 : ((Tk.lenOf s.data.toList : Int) == (s.size : Int)) = true) (hl : 12 < Tk.lenOf s.data.toList) (hR : refKind s.data.toList = 2) :
    Calls Tryz.prog 63 #[.int .i64 2, .string s] w fun e w' => e = .returned (.bool false) ∧ w' = w := by
  have hd5 : decide ((5000 : Int) < (s.size : Int)) = false := by simp; omega
  have HA : Hid (Calls Tryz.prog 86 #[.string s, .int .i64 0] w fun e w' => e = .returned (.tuple #[.int .i64 2, .int .i64 (Tk.lenOf s.data.toList : Nat)]) ∧ w' = w) := by
    have h := refAt_any s 0 w (by omega) hpos
    rw [List.drop_zero, hR] at h
    exact h
  clear hR
  have hd12 : decide ((12 : Int) < ((Tk.lenOf s.data.toList : Nat) : Int)) = true := by simp; omega
  go_enter Tryz.func63, Tryz.ntmps63
  go_wp2_with fail
  refine Calls.mono HA.out ?_
  rintro e w1 ⟨rfl, rfl⟩
  go_wp2_with fail
  go_ret
  exact ⟨rfl, rfl⟩

set_option maxRecDepth 100000 in
set_option maxHeartbeats 1000000 in
theorem refTok_yes2 (s : ByteArray) (w : World) (h0 : s.toList.isEmpty = false) (hs : s.size ≤ 5000) (hpos : 0 < s.size) (g2 : ((Tk.lenOf s.data.toList : Int) == (s.size : Int)) = true) (hl : Tk.lenOf s.data.toList ≤ 12) (hR : refKind s.data.toList = 2) :
    Calls Tryz.prog 63 #[.int .i64 2, .string s] w fun e w' => e = .returned (.bool true) ∧ w' = w := by
  have hd5 : decide ((5000 : Int) < (s.size : Int)) = false := by simp; omega
  have HA : Hid (Calls Tryz.prog 86 #[.string s, .int .i64 0] w fun e w' => e = .returned (.tuple #[.int .i64 2, .int .i64 (Tk.lenOf s.data.toList : Nat)]) ∧ w' = w) := by
    have h := refAt_any s 0 w (by omega) hpos
    rw [List.drop_zero, hR] at h
    exact h
  clear hR
  have hd12 : decide ((12 : Int) < ((Tk.lenOf s.data.toList : Nat) : Int)) = false := by simp; omega
  go_enter Tryz.func63, Tryz.ntmps63
  go_wp2_with fail
  refine Calls.mono HA.out ?_
  rintro e w1 ⟨rfl, rfl⟩
  go_wp2_with fail
  go_ret
  exact ⟨rfl, rfl⟩

set_option maxRecDepth 100000 in
set_option maxHeartbeats 1000000 in
theorem refTok_long3 (s : ByteArray) (w : World) (h0 : s.toList.isEmpty = false) (hs : s.size ≤ 5000) (hpos : 0 < s.size) (g2 : ((Tk.lenOf s.data.toList : Int) == (s.size : Int)) = true) (hl : 7 < Tk.lenOf s.data.toList) (hR : refKind s.data.toList = 3) :
    Calls Tryz.prog 63 #[.int .i64 3, .string s] w fun e w' => e = .returned (.bool false) ∧ w' = w := by
  have hd5 : decide ((5000 : Int) < (s.size : Int)) = false := by simp; omega
  have HA : Hid (Calls Tryz.prog 86 #[.string s, .int .i64 0] w fun e w' => e = .returned (.tuple #[.int .i64 3, .int .i64 (Tk.lenOf s.data.toList : Nat)]) ∧ w' = w) := by
    have h := refAt_any s 0 w (by omega) hpos
    rw [List.drop_zero, hR] at h
    exact h
  clear hR
  have hd7 : decide ((7 : Int) < ((Tk.lenOf s.data.toList : Nat) : Int)) = true := by simp; omega
  go_enter Tryz.func63, Tryz.ntmps63
  go_wp2_with fail
  refine Calls.mono HA.out ?_
  rintro e w1 ⟨rfl, rfl⟩
  go_wp2_with fail
  go_ret
  exact ⟨rfl, rfl⟩

set_option maxRecDepth 100000 in
set_option maxHeartbeats 1000000 in
theorem refTok_form3 (s : ByteArray) (w : World) (h0 : s.toList.isEmpty = false) (hs : s.size ≤ 5000) (hpos : 0 < s.size) (g2 : ((Tk.lenOf s.data.toList : Int) == (s.size : Int)) = true) (hl : Tk.lenOf s.data.toList ≤ 7) (hl1 : 1 < Tk.lenOf s.data.toList) (h48 : ((s[0].toNat : Int) == 48) = true) (hR : refKind s.data.toList = 3) :
    Calls Tryz.prog 63 #[.int .i64 3, .string s] w fun e w' => e = .returned (.bool false) ∧ w' = w := by
  have hd5 : decide ((5000 : Int) < (s.size : Int)) = false := by simp; omega
  have HA : Hid (Calls Tryz.prog 86 #[.string s, .int .i64 0] w fun e w' => e = .returned (.tuple #[.int .i64 3, .int .i64 (Tk.lenOf s.data.toList : Nat)]) ∧ w' = w) := by
    have h := refAt_any s 0 w (by omega) hpos
    rw [List.drop_zero, hR] at h
    exact h
  clear hR
  have hd7 : decide ((7 : Int) < ((Tk.lenOf s.data.toList : Nat) : Int)) = false := by simp; omega
  have hd1 : decide ((1 : Int) < ((Tk.lenOf s.data.toList : Nat) : Int)) = true := by simp; omega
  go_enter Tryz.func63, Tryz.ntmps63
  go_wp2_with fail
  refine Calls.mono HA.out ?_
  rintro e w1 ⟨rfl, rfl⟩
  go_wp2_with fail
  go_ret
  exact ⟨rfl, rfl⟩

set_option maxRecDepth 100000 in
set_option maxHeartbeats 1000000 in
theorem refTok_yes3a (s : ByteArray) (w : World) (h0 : s.toList.isEmpty = false) (hs : s.size ≤ 5000) (hpos : 0 < s.size) (g2 : ((Tk.lenOf s.data.toList : Int) == (s.size : Int)) = true) (hl1 : Tk.lenOf s.data.toList ≤ 1) (hR : refKind s.data.toList = 3) :
    Calls Tryz.prog 63 #[.int .i64 3, .string s] w fun e w' => e = .returned (.bool true) ∧ w' = w := by
  have hd5 : decide ((5000 : Int) < (s.size : Int)) = false := by simp; omega
  have HA : Hid (Calls Tryz.prog 86 #[.string s, .int .i64 0] w fun e w' => e = .returned (.tuple #[.int .i64 3, .int .i64 (Tk.lenOf s.data.toList : Nat)]) ∧ w' = w) := by
    have h := refAt_any s 0 w (by omega) hpos
    rw [List.drop_zero, hR] at h
    exact h
  clear hR
  have hd7 : decide ((7 : Int) < ((Tk.lenOf s.data.toList : Nat) : Int)) = false := by simp; omega
  have hd1 : decide ((1 : Int) < ((Tk.lenOf s.data.toList : Nat) : Int)) = false := by simp; omega
  go_enter Tryz.func63, Tryz.ntmps63
  go_wp2_with fail
  refine Calls.mono HA.out ?_
  rintro e w1 ⟨rfl, rfl⟩
  go_wp2_with fail
  go_ret
  exact ⟨rfl, rfl⟩

set_option maxRecDepth 100000 in
set_option maxHeartbeats 1000000 in
theorem refTok_yes3b (s : ByteArray) (w : World) (h0 : s.toList.isEmpty = false) (hs : s.size ≤ 5000) (hpos : 0 < s.size) (g2 : ((Tk.lenOf s.data.toList : Int) == (s.size : Int)) = true) (hl : Tk.lenOf s.data.toList ≤ 7) (hl1 : 1 < Tk.lenOf s.data.toList) (h48 : ((s[0].toNat : Int) == 48) = false) (hR : refKind s.data.toList = 3) :
    Calls Tryz.prog 63 #[.int .i64 3, .string s] w fun e w' => e = .returned (.bool true) ∧ w' = w := by
  have hd5 : decide ((5000 : Int) < (s.size : Int)) = false := by simp; omega
  have HA : Hid (Calls Tryz.prog 86 #[.string s, .int .i64 0] w fun e w' => e = .returned (.tuple #[.int .i64 3, .int .i64 (Tk.lenOf s.data.toList : Nat)]) ∧ w' = w) := by
    have h := refAt_any s 0 w (by omega) hpos
    rw [List.drop_zero, hR] at h
    exact h
  clear hR
  have hd7 : decide ((7 : Int) < ((Tk.lenOf s.data.toList : Nat) : Int)) = false := by simp; omega
  have hd1 : decide ((1 : Int) < ((Tk.lenOf s.data.toList : Nat) : Int)) = true := by simp; omega
  go_enter Tryz.func63, Tryz.ntmps63
  go_wp2_with fail
  refine Calls.mono HA.out ?_
  rintro e w1 ⟨rfl, rfl⟩
  go_wp2_with fail
  go_ret
  exact ⟨rfl, rfl⟩

set_option maxRecDepth 100000 in
set_option maxHeartbeats 1000000 in
theorem refTok_yes4 (s : ByteArray) (w : World) (h0 : s.toList.isEmpty = false) (hs : s.size ≤ 5000) (hpos : 0 < s.size) (g2 : ((Tk.lenOf s.data.toList : Int) == (s.size : Int)) = true) (hR : refKind s.data.toList = 4) :
    Calls Tryz.prog 63 #[.int .i64 4, .string s] w fun e w' => e = .returned (.bool true) ∧ w' = w := by
  have hd5 : decide ((5000 : Int) < (s.size : Int)) = false := by simp; omega
  have HA : Hid (Calls Tryz.prog 86 #[.string s, .int .i64 0] w fun e w' => e = .returned (.tuple #[.int .i64 4, .int .i64 (Tk.lenOf s.data.toList : Nat)]) ∧ w' = w) := by
    have h := refAt_any s 0 w (by omega) hpos
    rw [List.drop_zero, hR] at h
    exact h
  clear hR
  go_enter Tryz.func63, Tryz.ntmps63
  go_wp2_with fail
  refine Calls.mono HA.out ?_
  rintro e w1 ⟨rfl, rfl⟩
  go_wp2_with fail
  go_ret
  exact ⟨rfl, rfl⟩

/-- IsToken, whatever it is handed. -/
theorem refTok_any (k : Int) (s : ByteArray) (w : World) : Calls Tryz.prog 63 #[.int .i64 k, .string s] w fun e w' => e = .returned (.bool (Tk.isTok k s.data.toList)) ∧ w' = w := by
  have hsz : s.data.toList.length = s.size := by simp
  by_cases hpos : 0 < s.size
  · have hd := drop_at s 0 hpos
    rw [List.drop_zero] at hd
    have h0 : s.toList.isEmpty = false := by rw [Lib.toList_data, hd]; rfl
    by_cases h5 : 5000 < s.size
    · have hV : Tk.isTok k s.data.toList = false := decide_eq_false (fun h => by omega)
      rw [hV]
      exact refTok_long k s w h0 h5
    · have TC := tok_cases s[0] (s.data.toList.drop (0 + 1))
      rw [← hd] at TC
      by_cases hk0 : k = 0
      · subst hk0
        have hV : Tk.isTok 0 s.data.toList = false := decide_eq_false (fun h => by
          obtain ⟨_, _, h3, h4, _⟩ := h
          rcases TC with ⟨c1, cE⟩ | ⟨c1, cK, c3, cE⟩ | ⟨c1, cK, c3, cE⟩ | ⟨c1, cK, c3, cE⟩ | ⟨c1, cK, c3, c4, c5, cE⟩ | ⟨c1, cK, c3, cE⟩ | ⟨c1, cK, c3, c4, c5, cE⟩ | ⟨c1, cK, cE⟩ <;> omega)
        rw [hV]
        exact refTok_zero s w h0 (by omega)
      · have hkb : (k == 0) = false := beq_eq_false_iff_ne.2 hk0
        have hRK : 1 ≤ Tk.lenOf s.data.toList → refKind s.data.toList = Tk.kindOf s.data.toList := fun h => by unfold refKind; rw [if_neg (by omega)]
        have hne : s.data.toList ≠ [] := by rw [hd]; simp
        by_cases hl0 : Tk.lenOf s.data.toList = 0
        · have hV : Tk.isTok k s.data.toList = false := decide_eq_false (fun h => by omega)
          rw [hV]
          exact refTok_off s w h0 (by omega) hpos k 0 hkb (beq_eq_false_iff_ne.2 (fun e => hk0 e.symm)) (by unfold refKind; rw [if_pos hl0])
        · have hR := hRK (by omega)
          by_cases hK : Tk.kindOf s.data.toList = k
          · by_cases hn : Tk.lenOf s.data.toList = s.size
            · have g2 : ((Tk.lenOf s.data.toList : Int) == (s.size : Int)) = true := beq_iff_eq.2 (by omega)
              subst hK
              have yes : Tk.errOf s.data.toList = 0 → Tk.isTok (Tk.kindOf s.data.toList) s.data.toList = true := fun he => decide_eq_true ⟨hne, by omega, he, rfl, by omega⟩
              have no : ¬ Tk.errOf s.data.toList = 0 → Tk.isTok (Tk.kindOf s.data.toList) s.data.toList = false := fun he => decide_eq_false (fun h => he h.2.2.1)
              rcases TC with ⟨c1, cE⟩ | ⟨c1, cK, c3, cE⟩ | ⟨c1, cK, c3, cE⟩ | ⟨c1, cK, c3, cE⟩ | ⟨c1, cK, c3, c4, c5, cE⟩ | ⟨c1, cK, c3, cE⟩ | ⟨c1, cK, c3, c4, c5, cE⟩ | ⟨c1, cK, cE⟩
              · exact absurd c1 hl0
              · rw [no (by omega)]
                rcases cK with cK | cK
                · rw [cK] at hR ⊢; exact refTok_long1 s w h0 (by omega) hpos g2 c3 hR
                · rw [cK] at hR ⊢; exact refTok_long2 s w h0 (by omega) hpos g2 c3 hR
              · rw [yes cE]
                rcases cK with cK | cK
                · rw [cK] at hR ⊢; exact refTok_yes1 s w h0 (by omega) hpos g2 c3 hR
                · rw [cK] at hR ⊢; exact refTok_yes2 s w h0 (by omega) hpos g2 c3 hR
              · rw [no (by omega), cK]; rw [cK] at hR; exact refTok_long3 s w h0 (by omega) hpos g2 c3 hR
              · rw [no (by omega), cK]; rw [cK] at hR; exact refTok_form3 s w h0 (by omega) hpos g2 c4 c3 (beq_iff_eq.2 c5) hR
              · rw [yes cE, cK]; rw [cK] at hR; exact refTok_yes3a s w h0 (by omega) hpos g2 c3 hR
              · rw [yes cE, cK]; rw [cK] at hR; exact refTok_yes3b s w h0 (by omega) hpos g2 c4 c3 (beq_eq_false_iff_ne.2 c5) hR
              · rw [yes cE, cK]; rw [cK] at hR; exact refTok_yes4 s w h0 (by omega) hpos g2 hR
            · have hV : Tk.isTok k s.data.toList = false := decide_eq_false (fun h => by omega)
              rw [hV]
              exact refTok_part s w h0 (by omega) hpos k _ hkb (beq_iff_eq.2 hK) (beq_eq_false_iff_ne.2 (by omega)) hR
          · have hV : Tk.isTok k s.data.toList = false := decide_eq_false (fun h => hK h.2.2.2.1)
            rw [hV]
            exact refTok_off s w h0 (by omega) hpos k _ hkb (beq_eq_false_iff_ne.2 hK) hR
  · have hz : s.data.toList = [] := List.eq_nil_of_length_eq_zero (by omega)
    have hse : s = ⟨#[]⟩ := by
      apply ByteArray.ext
      exact Array.eq_empty_of_size_eq_zero (by show s.size = 0; omega)
    rw [hz, hse]
    exact refTok_empty k w

end Go.Proofs.YtgpaleifhcdjnaaGreatDoor

/- The document's answer: names and terms that are right. -/
namespace Go.Proofs.YtgpaleifhcdjnaaGreatDoor
open Go.RowKit

theorem isTok_at (k : Int) (s : List UInt8) (w : World) : Calls Tryz.prog 63 #[.int .i64 k, .string ⟨s.toArray⟩] w fun e w' => e = .returned (.bool (Tk.isTok k s)) ∧ w' = w := by
  have h := refTok_any k ⟨s.toArray⟩ w
  rw [List.toList_toArray] at h
  exact h

theorem word_eq (s : List UInt8) : Tr.isWord s = ((s == [110, 111, 116]) || (s == [99, 111, 117, 110, 116]) || (s == [115, 117, 109]) || (s == [108, 101, 97, 115, 116]) || (s == [109, 111, 115, 116])) := by
  unfold Tr.isWord Tr.foldOf
  cases h1 : (s == [99, 111, 117, 110, 116])
  · cases h2 : (s == [115, 117, 109])
    · cases h3 : (s == [108, 101, 97, 115, 116])
      · cases h4 : (s == [109, 111, 115, 116]) <;> simp
      · simp
    · simp
  · simp

set_option maxRecDepth 100000 in
set_option maxHeartbeats 400000 in
theorem refWord_any (s : List UInt8) (w : World) : Calls Tryz.prog 64 #[.string ⟨s.toArray⟩] w fun e w' => e = .returned (.bool (Tr.isWord s)) ∧ w' = w := by
  rw [word_eq]
  cases h0 : (s == [110, 111, 116])
  · cases h1 : (s == [99, 111, 117, 110, 116])
    · cases h2 : (s == [115, 117, 109])
      · cases h3 : (s == [108, 101, 97, 115, 116])
        · go_enter Tryz.func64, Tryz.ntmps64
          go_wp2
          go_ret
          exact ⟨rfl, rfl⟩
        · go_enter Tryz.func64, Tryz.ntmps64
          go_wp2
          go_ret
          exact ⟨rfl, rfl⟩
      · go_enter Tryz.func64, Tryz.ntmps64
        go_wp2
        go_ret
        exact ⟨rfl, rfl⟩
    · go_enter Tryz.func64, Tryz.ntmps64
      go_wp2
      go_ret
      exact ⟨rfl, rfl⟩
  · go_enter Tryz.func64, Tryz.ntmps64
    go_wp2
    go_ret
    exact ⟨rfl, rfl⟩

set_option maxRecDepth 100000 in
set_option maxHeartbeats 400000 in
theorem refName_any (s : List UInt8) (w : World) : Calls Tryz.prog 27 #[.string ⟨s.toArray⟩] w fun e w' => e = .returned (.bool (Tr.isName s)) ∧ w' = w := by
  unfold Tr.isName
  cases h1 : Tk.isTok 1 s
  · go_enter Tryz.func27, Tryz.ntmps27
    go_wp2_with (go_at_call 63; refine (isTok_at _ _ _).mono ?_; rintro e w' ⟨rfl, rfl⟩)
    go_ret
    exact ⟨rfl, rfl⟩
  · go_enter Tryz.func27, Tryz.ntmps27
    go_wp2_with (first | (go_at_call 63; refine (isTok_at _ _ _).mono ?_; rintro e w' ⟨rfl, rfl⟩) | (go_at_call 64; refine (refWord_any _ _).mono ?_; rintro e w' ⟨rfl, rfl⟩))
    go_ret
    exact ⟨rfl, rfl⟩

set_option maxRecDepth 100000 in
set_option maxHeartbeats 400000 in
theorem areTerms_none (w : World) (ao : Option Addr) (cap : Nat) : Calls Tryz.prog 76 #[.slice ao 0 cap] w fun e w' => e = .returned (.bool true) ∧ Below w.heap.size w w' := by
  go_enter Tryz.func76, Tryz.ntmps76
  go_wp2_with fail
  refine wp_loop_rounds 1 ?_
  rw [rounds_succ]
  go_wp2_with fail
  go_ret
  exact ⟨rfl, Below.refl _ _⟩

set_option maxRecDepth 100000 in
set_option maxHeartbeats 1000000 in
theorem areTerms_some (l : List Tr.Term) (w : World) (n b off cap : Nat) (hn : l.length = n) (hmax : n ≤ 140737488355328) (hA : ∀ i, i < n → TermIn w b (off + i * 2) (Tr.termD l i)) :
    Calls Tryz.prog 76 #[.slice (some ⟨b, off, none⟩) n cap] w fun e w' => e = .returned (.bool (Tr.termsOk l)) ∧ Below w.heap.size w w' := by
  have HN : Hid (l.length = n) := hn
  clear hn
  go_enter Tryz.func76, Tryz.ntmps76
  go_wp2_with fail
  go_loopw [3] (fun i wr => ∃ k : Nat, k ≤ n ∧ i = .int .i64 k ∧ Tr.termsOk l = (l.drop k).all Tr.termOk ∧ Below w.heap.size w wr) (fun i _ => n - (intOf i).toNat)
  case atStart => exact ⟨0, Nat.zero_le _, rfl, rfl, Below.refl _ _⟩
  case round =>
    obtain ⟨k, hk, rfl, hall, hbel⟩ := hrel
    have HA : Hid (Tr.termsOk l = (l.drop k).all Tr.termOk) := hall
    clear hall
    by_cases hlt : k < n
    · obtain ⟨a0, a1⟩ := hA k hlt
      have hbw : b < w.heap.size := World.block_lt_of_cell? w _ a0
      have a0' := (hbel.cell (p := ⟨b, off + k * 2, none⟩) hbw).trans a0
      have a1' := (hbel.cell (p := ⟨b, off + k * 2 + 1, none⟩) hbw).trans a1
      have HD : Hid (Tr.termsOk l = (Tr.termOk (Tr.termD l k) && (l.drop (k + 1)).all Tr.termOk)) := HA.out.trans (all_drop _ _ _ k (by rw [HN.out]; exact hlt))
      clear a0 a1 hA HA
      generalize Tr.termD l k = t at *
      have hb2 := hbel.trans ((below_alloc wr (.cells #[.string ⟨t.var.toArray⟩, .int .i64 t.n] 59)).mono hbel.size)
      have HO : Hid (Tr.termOk t = if t.var.isEmpty then Tr.between t.n (-9999999) 9999999 else (t.n == 0) && Tk.isTok 2 t.var) := rfl
      cases g1 : t.var.isEmpty
      · cases g2 : (t.n != 0)
        · cases g3 : Tk.isTok 2 t.var
          · have HV : Hid (Tr.termsOk l = false) := by show _ = _; rw [HD.out, HO.out, g1, g3]; simp
            clear HO HD
            go_wp2_with (go_at_call 63; refine (isTok_at _ _ _).mono ?_; rintro e w' ⟨rfl, rfl⟩)
            go_ret
            exact ⟨ret_bool HV.out.symm, hb2⟩
          · have g4 : (t.n == 0) = true := by simpa using g2
            have HV : Hid (Tr.termsOk l = (l.drop (k + 1)).all Tr.termOk) := by show _ = _; rw [HD.out, HO.out, g1, g3, g4]; rfl
            clear HO HD g4
            go_wp2_with (go_at_call 63; refine (isTok_at _ _ _).mono ?_; rintro e w' ⟨rfl, rfl⟩)
            go_roundw
            case rel => exact ⟨k + 1, by omega, by go_num, HV.out, hb2⟩
            case measure => simp [intOf]; omega
        · have g4 : (t.n == 0) = false := by simpa using g2
          have HV : Hid (Tr.termsOk l = false) := by show _ = _; rw [HD.out, HO.out, g1, g4]; rfl
          clear HO HD g4
          go_wp2_with fail
          go_ret
          exact ⟨ret_bool HV.out.symm, hb2⟩
      · cases g2 : Tr.between t.n (-9999999) 9999999
        · have HV : Hid (Tr.termsOk l = false) := by show _ = _; rw [HD.out, HO.out, g1, g2]; rfl
          unfold Tr.between at g2
          clear HO HD
          go_wp2_with (go_at_call 26; refine (between_any _ _ _ _).mono ?_; rintro e w' ⟨rfl, rfl⟩)
          go_ret
          exact ⟨ret_bool HV.out.symm, hb2⟩
        · have HV : Hid (Tr.termsOk l = (l.drop (k + 1)).all Tr.termOk) := by show _ = _; rw [HD.out, HO.out, g1, g2]; rfl
          unfold Tr.between at g2
          clear HO HD
          go_wp2_with (go_at_call 26; refine (between_any _ _ _ _).mono ?_; rintro e w' ⟨rfl, rfl⟩)
          go_roundw
          case rel => exact ⟨k + 1, by omega, by go_num, HV.out, hb2⟩
          case measure => simp [intOf]; omega
    · have HV : Hid (Tr.termsOk l = true) := by show _ = _; rw [HA.out, List.drop_of_length_le (by rw [HN.out]; omega)]; rfl
      clear hA
      go_wp2_with fail
      go_ret
      exact ⟨ret_bool HV.out.symm, hbel⟩

theorem areTerms_any (l : List Tr.Term) (v : Value) (w : World) (hmax : l.length ≤ 140737488355328) (hA : TermsV w v l) :
    Calls Tryz.prog 76 #[v] w fun e w' => e = .returned (.bool (Tr.termsOk l)) ∧ Below w.heap.size w w' := by
  obtain ⟨ao, cap, rfl, hA⟩ := hA
  rcases hA with rfl | ⟨b, off, rfl, hA⟩
  · exact areTerms_none w ao cap
  · exact areTerms_some l w l.length b off cap rfl hmax hA

end Go.Proofs.YtgpaleifhcdjnaaGreatDoor

/- The document's answer: CheckTree. -/
namespace Go.Proofs.YtgpaleifhcdjnaaGreatDoor
open Go.RowKit

theorem lit_kinds (x : Tr.Lit) : x.kind = 1 ∨ x.kind = 2 ∨ x.kind = 3 ∨ x.kind = 4 ∨ (¬ x.kind = 1 ∧ ¬ x.kind = 2 ∧ ¬ x.kind = 3 ∧ ¬ x.kind = 4) := by omega
theorem litOk_1 (x : Tr.Lit) (h : x.kind = 1 ∨ x.kind = 2) : Tr.litOk x = (Tr.termsOk x.terms && ((x.op == 0) && Tr.isName x.name)) := by
  unfold Tr.litOk; rw [if_pos h]
theorem litOk_3 (x : Tr.Lit) (h : x.kind = 3) : Tr.litOk x = (Tr.termsOk x.terms && (Tr.between x.op 1 4 && x.name.isEmpty && ((x.terms.length : Int) == 2))) := by
  unfold Tr.litOk; rw [if_neg (by omega), if_pos h]
theorem litOk_4 (x : Tr.Lit) (h : x.kind = 4) : Tr.litOk x = (Tr.termsOk x.terms && (Tr.between x.op 5 7 && x.name.isEmpty && ((x.terms.length : Int) == 3))) := by
  unfold Tr.litOk; rw [if_neg (by omega), if_neg (by omega), if_pos h]
theorem litOk_5 (x : Tr.Lit) (h : ¬ x.kind = 1 ∧ ¬ x.kind = 2 ∧ ¬ x.kind = 3 ∧ ¬ x.kind = 4) : Tr.litOk x = (Tr.termsOk x.terms && false) := by
  unfold Tr.litOk; rw [if_neg (by omega), if_neg (by omega), if_neg (by omega)]

theorem foldOk_no {f : Int} {a b : Nat} (h : Tr.foldOk f a b = false) :
    (decide (0 ≤ f) && decide (f ≤ 4)) = false ∨ ((decide (0 ≤ f) && decide (f ≤ 4)) = true ∧ decide ((0 : Int) < f) = true ∧ ((a : Int) == 0) = true) ∨
    ((decide (0 ≤ f) && decide (f ≤ 4)) = true ∧ decide ((0 : Int) < f) = true ∧ ((a : Int) == 0) = false ∧ ((b : Int) == 0) = true) := by
  unfold Tr.foldOk Tr.between at h
  simp only [Bool.or_eq_false_iff, beq_eq_false_iff_ne, Bool.and_eq_false_iff, decide_eq_false_iff_not] at h
  obtain ⟨h0, h1⟩ := h
  by_cases hb : 0 ≤ f ∧ f ≤ 4
  · have e1 : (decide (0 ≤ f) && decide (f ≤ 4)) = true := by simp [hb.1, hb.2]
    have e2 : decide ((0 : Int) < f) = true := decide_eq_true (by omega)
    by_cases ha : a = 0
    · exact .inr (.inl ⟨e1, e2, beq_iff_eq.2 (by omega)⟩)
    · exact .inr (.inr ⟨e1, e2, beq_eq_false_iff_ne.2 (by omega), beq_iff_eq.2 (by omega)⟩)
  · left
    simp only [Bool.and_eq_false_iff, decide_eq_false_iff_not]
    omega
theorem foldOk_yes {f : Int} {a b : Nat} (h : Tr.foldOk f a b = true) :
    ((decide (0 ≤ f) && decide (f ≤ 4)) = true ∧ decide ((0 : Int) < f) = false) ∨
    ((decide (0 ≤ f) && decide (f ≤ 4)) = true ∧ decide ((0 : Int) < f) = true ∧ ((a : Int) == 0) = false ∧ ((b : Int) == 0) = false) := by
  unfold Tr.foldOk Tr.between at h
  simp only [Bool.or_eq_true, beq_iff_eq, Bool.and_eq_true, decide_eq_true_eq] at h
  rcases h with h | ⟨⟨⟨h1, h2⟩, h3⟩, h4⟩
  · exact .inl ⟨by subst h; rfl, decide_eq_false (by omega)⟩
  · exact .inr ⟨by simp; omega, decide_eq_true (by omega), beq_eq_false_iff_ne.2 (by omega), beq_eq_false_iff_ne.2 (by omega)⟩

theorem many_no {l : List Tr.Rule} (h : Tr.many l = false) : ∀ k, k < l.length → Tr.ruleMany (Tr.ruleD l k) = false := fun k hk => by
  unfold Tr.many at h
  simp only [Bool.or_eq_false_iff] at h
  have e : Tr.ruleD l k = l[k] := by rw [Tr.ruleD, List.getD_eq_getElem?_getD, List.getElem?_eq_getElem hk]; rfl
  rw [e]
  have := List.any_eq_false.1 h.2 _ (List.getElem_mem hk)
  simpa using this

set_option maxRecDepth 100000 in
set_option maxHeartbeats 8000000 in
theorem CheckTree_any (l : List Tr.Rule) (v : Value) (w : World) (hA : RulesV w v l) :
    Calls Tryz.prog 43 #[treeVal v] w fun e w' => e = .returned (.int .i64 (Tr.check l)) ∧ Below w.heap.size w w' := by
  have hA0 := rulesV_below hA (below_alloc w (.cells #[v] 36))
  have hbel0 := below_alloc w (.cells #[v] 36)
  obtain ⟨ao, ca, rfl, _⟩ := hA
  by_cases h12 : 12 < l.length
  · have HF : Hid (Tr.check l = 2) := by show _ = _; unfold Tr.check Tr.many; rw [decide_eq_true h12]; rfl
    go_enter Tryz.func43, Tryz.ntmps43
    go_wp2_with fail
    go_ret
    exact ⟨ret_int HF.out.symm, hbel0⟩
  · have HMa : Hid (Tr.many l = l.any Tr.ruleMany) := by show _ = _; unfold Tr.many; rw [decide_eq_false h12]; rfl
    have c0 : (w.alloc (.cells #[.slice ao l.length ca] 36)).cell? ⟨w.heap.size, 0, none⟩ = some (.slice ao l.length ca) := by simp [go_sem]
    go_enter Tryz.func43, Tryz.ntmps43
    go_wp2_with fail
    generalize (w.alloc (.cells #[.slice ao l.length ca] 36)) = w0 at *
    go_loopw [3] (fun i wr => ∃ k : Nat, k ≤ l.length ∧ i = .int .i64 k ∧ Tr.many l = (l.drop k).any Tr.ruleMany ∧ Below w0.heap.size w0 wr) (fun i _ => l.length - (intOf i).toNat)
    case atStart => exact ⟨0, Nat.zero_le _, rfl, HMa.out, Below.refl _ _⟩
    case round =>
      obtain ⟨k, hk, rfl, hany, hbelr⟩ := hrel
      have HA : Hid (Tr.many l = (l.drop k).any Tr.ruleMany) := hany
      have c1 := cell_below hbelr c0
      clear hany HMa
      by_cases hlt : k < l.length
      · obtain ⟨ao', ca', hv, hR⟩ := rulesV_below hA0 hbelr
        rcases hR with h | ⟨b, off, rfl, hc⟩
        · rw [h] at hlt; exact absurd hlt (by simp)
        injection hv with e1 _ e3
        subst e1 e3
        obtain ⟨a0, a1, ⟨v2, a2, hT⟩, a3, v4, a4, hL⟩ := hc k hlt
        have HD : Hid (Tr.many l = (Tr.ruleMany (Tr.ruleD l k) || (l.drop (k + 1)).any Tr.ruleMany)) := HA.out.trans (any_drop _ _ _ k hlt)
        clear hc HA
        generalize Tr.ruleD l k = r at *
        have hL0 := litsV_below hL (below_alloc wr (ruleObj r v2 v4))
        have hbel1 : Below w.heap.size w (wr.alloc (ruleObj r v2 v4)) := (hbel0.trans (hbelr.mono hbel0.size)).trans ((below_alloc wr _).mono (hbel0.trans (hbelr.mono hbel0.size)).size)
        have hbelr1 : Below w0.heap.size w0 (wr.alloc (ruleObj r v2 v4)) := hbelr.trans ((below_alloc wr _).mono hbelr.size)
        obtain ⟨ao2, ca2, rfl, _⟩ := hT
        obtain ⟨ao4, ca4, rfl, _⟩ := hL
        have d4 : (wr.alloc (ruleObj r (.slice ao2 r.terms.length ca2) (.slice ao4 r.body.length ca4))).cell? ⟨wr.heap.size, 4, none⟩ = some (.slice ao4 r.body.length ca4) := by simp [go_sem]
        by_cases h3 : 3 < r.terms.length
        rotate_left
        · have g2 : decide ((3 : Int) < (r.terms.length : Int)) = false := decide_eq_false (by omega)
          by_cases h4 : 4 < r.body.length
          rotate_left
          · have g1 : decide ((4 : Int) < (r.body.length : Int)) = false := decide_eq_false (by omega)
            have HM : Hid (Tr.ruleMany r = Tr.litsMany r.body) := by show _ = _; unfold Tr.ruleMany; rw [decide_eq_false h4, decide_eq_false h3]; rfl
            go_wp2_with fail
            generalize (wr.alloc (ruleObj r (.slice ao2 r.terms.length ca2) (.slice ao4 r.body.length ca4))) = w1 at *
            go_loopw [5] (fun i wq => ∃ j : Nat, j ≤ r.body.length ∧ i = .int .i64 j ∧ Tr.litsMany r.body = (r.body.drop j).any (fun x => decide (3 < x.terms.length)) ∧ wq = w1) (fun i _ => r.body.length - (intOf i).toNat)
            case atStart => exact ⟨0, Nat.zero_le _, rfl, rfl, rfl⟩
            case round =>
              obtain ⟨j, hj, rfl, hany, rfl⟩ := hrel
              have HB : Hid (Tr.litsMany r.body = (r.body.drop j).any (fun x => decide (3 < x.terms.length))) := hany
              clear hany
              by_cases hltj : j < r.body.length
              · obtain ⟨bo', cb', hv, hL⟩ := hL0
                rcases hL with h | ⟨b2, off2, rfl, hc⟩
                · rw [h] at hltj; exact absurd hltj (by simp)
                injection hv with e1 _ e3
                subst e1 e3
                obtain ⟨q0, q1, q2, q3, u4, q4, hT⟩ := hc j hltj
                have HE : Hid (Tr.litsMany r.body = (decide (3 < (Tr.litD r.body j).terms.length) || (r.body.drop (j + 1)).any (fun x => decide (3 < x.terms.length)))) := HB.out.trans (any_drop _ _ _ j hltj)
                clear hc HB hA0
                generalize Tr.litD r.body j = x at *
                obtain ⟨ao5, ca5, rfl, _⟩ := hT
                by_cases hx : 3 < x.terms.length
                rotate_left
                · have g : decide ((3 : Int) < (x.terms.length : Int)) = false := decide_eq_false (by omega)
                  have HN : Hid (Tr.litsMany r.body = (r.body.drop (j + 1)).any (fun x => decide (3 < x.terms.length))) := by show _ = _; rw [HE.out, decide_eq_false hx]; rfl
                  clear HE
                  go_wp2_with fail
                  go_roundw
                  case rel => exact ⟨j + 1, by omega, by go_num, HN.out, trivial⟩
                  case measure => simp [intOf]; omega
                · have g : decide ((3 : Int) < (x.terms.length : Int)) = true := decide_eq_true (by omega)
                  have HF : Hid (Tr.check l = 2) := by show _ = _; unfold Tr.check; rw [HD.out, HM.out, HE.out, decide_eq_true hx]; rfl
                  clear HE HD HM
                  go_wp2_with fail
                  go_ret
                  exact ⟨ret_int HF.out.symm, hbel1⟩
              · have HN : Hid (Tr.many l = (l.drop (k + 1)).any Tr.ruleMany) := by
                  show _ = _
                  rw [HD.out, HM.out, HB.out, List.drop_of_length_le (by omega)]
                  rfl
                clear HB HD HM hL0 hA0
                go_wp2_with fail
                go_roundw
                case rel => exact ⟨k + 1, by omega, by go_num, HN.out, hbelr1⟩
                case measure => simp [intOf]; omega
          · have g1 : decide ((4 : Int) < (r.body.length : Int)) = true := decide_eq_true (by omega)
            have HF : Hid (Tr.check l = 2) := by show _ = _; unfold Tr.check; rw [HD.out]; unfold Tr.ruleMany; rw [decide_eq_true h4]; simp
            clear HD hA0 hL0
            go_wp2_with fail
            go_ret
            exact ⟨ret_int HF.out.symm, hbel1⟩
        · have g2 : decide ((3 : Int) < (r.terms.length : Int)) = true := decide_eq_true (by omega)
          have HF : Hid (Tr.check l = 2) := by show _ = _; unfold Tr.check; rw [HD.out]; unfold Tr.ruleMany; rw [decide_eq_true h3]; simp
          clear HD hA0 hL0
          go_wp2_with fail
          go_ret
          exact ⟨ret_int HF.out.symm, hbel1⟩
      · have gm : Tr.many l = false := by rw [HA.out, List.drop_of_length_le (by omega)]; rfl
        have HM : Hid (∀ k, k < l.length → Tr.ruleMany (Tr.ruleD l k) = false) := many_no gm
        have HV : Hid (Tr.check l = if l.all Tr.ruleOk then 0 else 1) := by show _ = _; unfold Tr.check; rw [gm]; rfl
        have hbel1 := hbel0.trans (hbelr.mono hbel0.size)
        have hA1 := rulesV_below hA0 hbelr
        clear HA gm hA0 hbel0 c0 hbelr
        go_wp2_with fail
        generalize hw1 : wr = w1 at *
        clear hw1
        go_loopw [6] (fun i wr => ∃ k : Nat, k ≤ l.length ∧ i = .int .i64 k ∧ l.all Tr.ruleOk = (l.drop k).all Tr.ruleOk ∧ Below w1.heap.size w1 wr) (fun i _ => l.length - (intOf i).toNat)
        case atStart => exact ⟨0, Nat.zero_le _, rfl, rfl, Below.refl _ _⟩
        case round =>
          obtain ⟨k, hk, rfl, hall, hbelr⟩ := hrel
          have HA3 : Hid (l.all Tr.ruleOk = (l.drop k).all Tr.ruleOk) := hall
          have c2 := cell_below hbelr c1
          clear hall
          by_cases hlt : k < l.length
          · obtain ⟨ao', ca', hv, hR⟩ := rulesV_below hA1 hbelr
            rcases hR with h | ⟨b, off, rfl, hc⟩
            · rw [h] at hlt; exact absurd hlt (by simp)
            injection hv with e1 _ e3
            subst e1 e3
            obtain ⟨a0, a1, ⟨v2, a2, hT⟩, a3, v4, a4, hL⟩ := hc k hlt
            have HD : Hid (l.all Tr.ruleOk = (Tr.ruleOk (Tr.ruleD l k) && (l.drop (k + 1)).all Tr.ruleOk)) := HA3.out.trans (all_drop _ _ _ k hlt)
            obtain ⟨f1, f2, f3⟩ := ruleMany_no (HM.out k hlt)
            clear hc
            generalize Tr.ruleD l k = r at *
            have HRo : Hid (Tr.ruleOk r = (Tr.isName r.name && Tr.termsOk r.terms && Tr.foldOk r.fold r.terms.length r.body.length && Tr.litsOk r.body)) := rfl
            have hbel2 : Below w.heap.size w (wr.alloc (ruleObj r v2 v4)) := (hbel1.trans (hbelr.mono hbel1.size)).trans ((below_alloc wr _).mono (hbel1.trans (hbelr.mono hbel1.size)).size)
            have hbelr2 : Below w1.heap.size w1 (wr.alloc (ruleObj r v2 v4)) := hbelr.trans ((below_alloc wr _).mono hbelr.size)
            have hL0 := litsV_below hL (below_alloc wr (ruleObj r v2 v4))
            have HC : Hid (_) := areTerms_any r.terms v2 (wr.alloc (ruleObj r v2 v4)) (by omega) (termsV_below hT (below_alloc _ _))
            obtain ⟨ao2, ca2, rfl, _⟩ := hT
            obtain ⟨ao4, ca4, rfl, _⟩ := hL
            have HLn : Hid (True) := trivial
            cases gn : Tr.isName r.name
            · have HF : Hid (Tr.check l = 1) := by show _ = _; rw [HV.out, HD.out, HRo.out, gn]; rfl
              clear HD HV HRo HC
              go_wp2_with (go_at_call 27; refine (refName_any _ _).mono ?_; rintro e w' ⟨rfl, rfl⟩)
              go_ret
              exact ⟨ret_int HF.out.symm, hbel2⟩
            · go_wp2_with (go_at_call 27; refine (refName_any _ _).mono ?_; rintro e w' ⟨rfl, rfl⟩)
              refine Calls.mono HC.out ?_
              rintro e w3 ⟨he, hb3⟩
              obtain ⟨z0, z1, z2, z3, z4⟩ := ruleBox hb3
              have hbel3 := hbel2.trans (hb3.mono hbel2.size)
              have hbelr3 := hbelr2.trans (hb3.mono hbelr2.size)
              have hL3 := litsV_below hL0 hb3
              clear HC hb3 hL0 a0 a1 a2 a3 a4
              cases gt : Tr.termsOk r.terms
              · have HF : Hid (Tr.check l = 1) := by show _ = _; rw [HV.out, HD.out, HRo.out, gt]; simp
                rw [gt] at he
                subst he
                clear HD HV HRo
                go_wp2_with fail
                go_ret
                exact ⟨ret_int HF.out.symm, hbel3⟩
              · rw [gt] at he
                subst he
                cases gf : Tr.foldOk r.fold r.terms.length r.body.length
                · have HF : Hid (Tr.check l = 1) := by show _ = _; rw [HV.out, HD.out, HRo.out, gf]; simp
                  clear HD HV HRo
                  rcases foldOk_no gf with hb | ⟨hb, hp, ht⟩ | ⟨hb, hp, ht, hq⟩
                  · go_wp2_with (go_at_call 26; refine (between_any _ _ _ _).mono ?_; rintro e w' ⟨rfl, rfl⟩)
                    go_ret
                    exact ⟨ret_int HF.out.symm, hbel3⟩
                  · go_wp2_with (go_at_call 26; refine (between_any _ _ _ _).mono ?_; rintro e w' ⟨rfl, rfl⟩)
                    go_ret
                    exact ⟨ret_int HF.out.symm, hbel3⟩
                  · go_wp2_with (go_at_call 26; refine (between_any _ _ _ _).mono ?_; rintro e w' ⟨rfl, rfl⟩)
                    go_ret
                    exact ⟨ret_int HF.out.symm, hbel3⟩
                · have HW : Hid (Tr.ruleOk r = Tr.litsOk r.body) := by show _ = _; rw [HRo.out, gn, gt, gf]; rfl
                  rcases foldOk_yes gf with ⟨hb, hp⟩ | ⟨hb, hp, ht, hq⟩
                  · go_wp2_with (go_at_call 26; refine (between_any _ _ _ _).mono ?_; rintro e w3 ⟨rfl, rfl⟩)
                    clear hb hp gf gt gn
                    go_loopw [8] (fun i wq => ∃ j : Nat, j ≤ r.body.length ∧ i = .int .i64 j ∧ Tr.litsOk r.body = (r.body.drop j).all Tr.litOk ∧ Below w3.heap.size w3 wq) (fun i _ => r.body.length - (intOf i).toNat)
                    case atStart => exact ⟨0, Nat.zero_le _, rfl, rfl, Below.refl _ _⟩
                    case round =>
                      obtain ⟨j, hj, rfl, hall, hbelq⟩ := hrel
                      have HB : Hid (Tr.litsOk r.body = (r.body.drop j).all Tr.litOk) := hall
                      have z4' := cell_below hbelq z4
                      clear hall
                      by_cases hltj : j < r.body.length
                      · obtain ⟨bo', cb', hv, hL⟩ := litsV_below hL3 hbelq
                        rcases hL with h | ⟨b2, off2, rfl, hc⟩
                        · rw [h] at hltj; exact absurd hltj (by simp)
                        injection hv with e1 _ e3
                        subst e1 e3
                        obtain ⟨q0, q1, q2, q3, u4, q4, hT⟩ := hc j hltj
                        have HE : Hid (Tr.litsOk r.body = (Tr.litOk (Tr.litD r.body j) && (r.body.drop (j + 1)).all Tr.litOk)) := HB.out.trans (all_drop _ _ _ j hltj)
                        have hfit := f3 j hltj
                        clear hc HB hL3 hA1
                        generalize Tr.litD r.body j = x at *
                        have HC : Hid (_) := areTerms_any x.terms u4 (wr.alloc (litObj x u4)) hfit (termsV_below hT (below_alloc _ _))
                        obtain ⟨ao5, ca5, rfl, _⟩ := hT
                        go_wp2_with fail
                        refine Calls.mono HC.out ?_
                        rintro e w5 ⟨he, hb5⟩
                        obtain ⟨y0, y1, y2, y3, y4⟩ := litBox hb5
                        have hbel5q := hbelq.trans ((below_box hb5).mono hbelq.size)
                        have hbel5 := hbel3.trans (hbel5q.mono hbel3.size)
                        clear HC hb5 q0 q1 q2 q3 q4
                        cases gT : Tr.termsOk x.terms
                        · rw [gT] at he
                          subst he
                          rcases lit_kinds x with hk | hk | hk | hk | hk
                          · have t1 : (x.kind == 1) = true := beq_iff_eq.2 hk
                            have HLo : Hid (Tr.litOk x = (Tr.termsOk x.terms && ((x.op == 0) && Tr.isName x.name))) := litOk_1 x (.inl hk)
                            clear hk
                            have HF : Hid (Tr.check l = 1) := by show _ = _; rw [HV.out, HD.out, HW.out, HE.out, HLo.out, gT]; simp
                            clear HE HD HV HW HLo HRo HA3 HLn
                            go_wp2_with fail
                            go_ret
                            exact ⟨ret_int HF.out.symm, hbel5⟩
                          · have t1 : (x.kind == 1) = false := beq_eq_false_iff_ne.2 (by omega)
                            have t2 : (x.kind == 2) = true := beq_iff_eq.2 hk
                            have HLo : Hid (Tr.litOk x = (Tr.termsOk x.terms && ((x.op == 0) && Tr.isName x.name))) := litOk_1 x (.inr hk)
                            clear hk
                            have HF : Hid (Tr.check l = 1) := by show _ = _; rw [HV.out, HD.out, HW.out, HE.out, HLo.out, gT]; simp
                            clear HE HD HV HW HLo HRo HA3 HLn
                            go_wp2_with fail
                            go_ret
                            exact ⟨ret_int HF.out.symm, hbel5⟩
                          · have t1 : (x.kind == 1) = false := beq_eq_false_iff_ne.2 (by omega)
                            have t2 : (x.kind == 2) = false := beq_eq_false_iff_ne.2 (by omega)
                            have t3 : (x.kind == 3) = true := beq_iff_eq.2 hk
                            have HLo : Hid (Tr.litOk x = (Tr.termsOk x.terms && (Tr.between x.op 1 4 && x.name.isEmpty && ((x.terms.length : Int) == 2)))) := litOk_3 x hk
                            clear hk
                            have HF : Hid (Tr.check l = 1) := by show _ = _; rw [HV.out, HD.out, HW.out, HE.out, HLo.out, gT]; simp
                            clear HE HD HV HW HLo HRo HA3 HLn
                            go_wp2_with fail
                            go_ret
                            exact ⟨ret_int HF.out.symm, hbel5⟩
                          · have t1 : (x.kind == 1) = false := beq_eq_false_iff_ne.2 (by omega)
                            have t2 : (x.kind == 2) = false := beq_eq_false_iff_ne.2 (by omega)
                            have t3 : (x.kind == 3) = false := beq_eq_false_iff_ne.2 (by omega)
                            have t4 : (x.kind == 4) = true := beq_iff_eq.2 hk
                            have HLo : Hid (Tr.litOk x = (Tr.termsOk x.terms && (Tr.between x.op 5 7 && x.name.isEmpty && ((x.terms.length : Int) == 3)))) := litOk_4 x hk
                            clear hk
                            have HF : Hid (Tr.check l = 1) := by show _ = _; rw [HV.out, HD.out, HW.out, HE.out, HLo.out, gT]; simp
                            clear HE HD HV HW HLo HRo HA3 HLn
                            go_wp2_with fail
                            go_ret
                            exact ⟨ret_int HF.out.symm, hbel5⟩
                          · have t1 : (x.kind == 1) = false := beq_eq_false_iff_ne.2 hk.1
                            have t2 : (x.kind == 2) = false := beq_eq_false_iff_ne.2 hk.2.1
                            have t3 : (x.kind == 3) = false := beq_eq_false_iff_ne.2 hk.2.2.1
                            have t4 : (x.kind == 4) = false := beq_eq_false_iff_ne.2 hk.2.2.2
                            have HLo : Hid (Tr.litOk x = (Tr.termsOk x.terms && false)) := litOk_5 x hk
                            clear hk
                            have HF : Hid (Tr.check l = 1) := by show _ = _; rw [HV.out, HD.out, HW.out, HE.out, HLo.out]; simp
                            clear HE HD HV HW HLo HRo HA3 HLn
                            go_wp2_with fail
                            go_ret
                            exact ⟨ret_int HF.out.symm, hbel5⟩
                        · rw [gT] at he
                          subst he
                          rcases lit_kinds x with hk | hk | hk | hk | hk
                          · have t1 : (x.kind == 1) = true := beq_iff_eq.2 hk
                            have HLo : Hid (Tr.litOk x = (Tr.termsOk x.terms && ((x.op == 0) && Tr.isName x.name))) := litOk_1 x (.inl hk)
                            clear hk
                            cases g1 : (x.op == 0)
                            · have HF : Hid (Tr.check l = 1) := by show _ = _; rw [HV.out, HD.out, HW.out, HE.out, HLo.out, g1]; simp
                              clear HE HD HV HW HLo HRo HA3 HLn
                              go_wp2_with fail
                              go_ret
                              exact ⟨ret_int HF.out.symm, hbel5⟩
                            · cases g2 : Tr.isName x.name
                              · have HF : Hid (Tr.check l = 1) := by show _ = _; rw [HV.out, HD.out, HW.out, HE.out, HLo.out, g2]; simp
                                clear HE HD HV HW HLo HRo HA3 HLn
                                go_wp2_with (go_at_call 27; refine (refName_any _ _).mono ?_; rintro e w' ⟨rfl, rfl⟩)
                                go_ret
                                exact ⟨ret_int HF.out.symm, hbel5⟩
                              · have HN : Hid (Tr.litsOk r.body = (r.body.drop (j + 1)).all Tr.litOk) := by show _ = _; rw [HE.out, HLo.out, gT, g1, g2]; simp
                                clear HE HLo
                                go_wp2_with (go_at_call 27; refine (refName_any _ _).mono ?_; rintro e w' ⟨rfl, rfl⟩)
                                go_roundw
                                case rel => exact ⟨j + 1, by omega, by go_num, HN.out, hbel5q⟩
                                case measure => simp [intOf]; omega
                          · have t1 : (x.kind == 1) = false := beq_eq_false_iff_ne.2 (by omega)
                            have t2 : (x.kind == 2) = true := beq_iff_eq.2 hk
                            have HLo : Hid (Tr.litOk x = (Tr.termsOk x.terms && ((x.op == 0) && Tr.isName x.name))) := litOk_1 x (.inr hk)
                            clear hk
                            cases g1 : (x.op == 0)
                            · have HF : Hid (Tr.check l = 1) := by show _ = _; rw [HV.out, HD.out, HW.out, HE.out, HLo.out, g1]; simp
                              clear HE HD HV HW HLo HRo HA3 HLn
                              go_wp2_with fail
                              go_ret
                              exact ⟨ret_int HF.out.symm, hbel5⟩
                            · cases g2 : Tr.isName x.name
                              · have HF : Hid (Tr.check l = 1) := by show _ = _; rw [HV.out, HD.out, HW.out, HE.out, HLo.out, g2]; simp
                                clear HE HD HV HW HLo HRo HA3 HLn
                                go_wp2_with (go_at_call 27; refine (refName_any _ _).mono ?_; rintro e w' ⟨rfl, rfl⟩)
                                go_ret
                                exact ⟨ret_int HF.out.symm, hbel5⟩
                              · have HN : Hid (Tr.litsOk r.body = (r.body.drop (j + 1)).all Tr.litOk) := by show _ = _; rw [HE.out, HLo.out, gT, g1, g2]; simp
                                clear HE HLo
                                go_wp2_with (go_at_call 27; refine (refName_any _ _).mono ?_; rintro e w' ⟨rfl, rfl⟩)
                                go_roundw
                                case rel => exact ⟨j + 1, by omega, by go_num, HN.out, hbel5q⟩
                                case measure => simp [intOf]; omega
                          · have t1 : (x.kind == 1) = false := beq_eq_false_iff_ne.2 (by omega)
                            have t2 : (x.kind == 2) = false := beq_eq_false_iff_ne.2 (by omega)
                            have t3 : (x.kind == 3) = true := beq_iff_eq.2 hk
                            have HLo : Hid (Tr.litOk x = (Tr.termsOk x.terms && (Tr.between x.op 1 4 && x.name.isEmpty && ((x.terms.length : Int) == 2)))) := litOk_3 x hk
                            clear hk
                            cases g1 : Tr.between x.op 1 4
                            · have HF : Hid (Tr.check l = 1) := by show _ = _; rw [HV.out, HD.out, HW.out, HE.out, HLo.out, g1]; simp
                              unfold Tr.between at g1
                              clear HE HD HV HW HLo HRo HA3 HLn
                              go_wp2_with (go_at_call 26; refine (between_any _ _ _ _).mono ?_; rintro e w' ⟨rfl, rfl⟩)
                              go_ret
                              exact ⟨ret_int HF.out.symm, hbel5⟩
                            · cases g2 : x.name.isEmpty
                              · have HF : Hid (Tr.check l = 1) := by show _ = _; rw [HV.out, HD.out, HW.out, HE.out, HLo.out, g2]; simp
                                unfold Tr.between at g1
                                clear HE HD HV HW HLo HRo HA3 HLn
                                go_wp2_with (go_at_call 26; refine (between_any _ _ _ _).mono ?_; rintro e w' ⟨rfl, rfl⟩)
                                go_ret
                                exact ⟨ret_int HF.out.symm, hbel5⟩
                              · cases g3 : ((x.terms.length : Int) == 2)
                                · have HF : Hid (Tr.check l = 1) := by show _ = _; rw [HV.out, HD.out, HW.out, HE.out, HLo.out, g3]; simp
                                  unfold Tr.between at g1
                                  clear HE HD HV HW HLo HRo HA3 HLn
                                  go_wp2_with (go_at_call 26; refine (between_any _ _ _ _).mono ?_; rintro e w' ⟨rfl, rfl⟩)
                                  go_ret
                                  exact ⟨ret_int HF.out.symm, hbel5⟩
                                · have HN : Hid (Tr.litsOk r.body = (r.body.drop (j + 1)).all Tr.litOk) := by show _ = _; rw [HE.out, HLo.out, gT, g1, g2, g3]; simp
                                  unfold Tr.between at g1
                                  clear HE HLo
                                  go_wp2_with (go_at_call 26; refine (between_any _ _ _ _).mono ?_; rintro e w' ⟨rfl, rfl⟩)
                                  go_roundw
                                  case rel => exact ⟨j + 1, by omega, by go_num, HN.out, hbel5q⟩
                                  case measure => simp [intOf]; omega
                          · have t1 : (x.kind == 1) = false := beq_eq_false_iff_ne.2 (by omega)
                            have t2 : (x.kind == 2) = false := beq_eq_false_iff_ne.2 (by omega)
                            have t3 : (x.kind == 3) = false := beq_eq_false_iff_ne.2 (by omega)
                            have t4 : (x.kind == 4) = true := beq_iff_eq.2 hk
                            have HLo : Hid (Tr.litOk x = (Tr.termsOk x.terms && (Tr.between x.op 5 7 && x.name.isEmpty && ((x.terms.length : Int) == 3)))) := litOk_4 x hk
                            clear hk
                            cases g1 : Tr.between x.op 5 7
                            · have HF : Hid (Tr.check l = 1) := by show _ = _; rw [HV.out, HD.out, HW.out, HE.out, HLo.out, g1]; simp
                              unfold Tr.between at g1
                              clear HE HD HV HW HLo HRo HA3 HLn
                              go_wp2_with (go_at_call 26; refine (between_any _ _ _ _).mono ?_; rintro e w' ⟨rfl, rfl⟩)
                              go_ret
                              exact ⟨ret_int HF.out.symm, hbel5⟩
                            · cases g2 : x.name.isEmpty
                              · have HF : Hid (Tr.check l = 1) := by show _ = _; rw [HV.out, HD.out, HW.out, HE.out, HLo.out, g2]; simp
                                unfold Tr.between at g1
                                clear HE HD HV HW HLo HRo HA3 HLn
                                go_wp2_with (go_at_call 26; refine (between_any _ _ _ _).mono ?_; rintro e w' ⟨rfl, rfl⟩)
                                go_ret
                                exact ⟨ret_int HF.out.symm, hbel5⟩
                              · cases g3 : ((x.terms.length : Int) == 3)
                                · have HF : Hid (Tr.check l = 1) := by show _ = _; rw [HV.out, HD.out, HW.out, HE.out, HLo.out, g3]; simp
                                  unfold Tr.between at g1
                                  clear HE HD HV HW HLo HRo HA3 HLn
                                  go_wp2_with (go_at_call 26; refine (between_any _ _ _ _).mono ?_; rintro e w' ⟨rfl, rfl⟩)
                                  go_ret
                                  exact ⟨ret_int HF.out.symm, hbel5⟩
                                · have HN : Hid (Tr.litsOk r.body = (r.body.drop (j + 1)).all Tr.litOk) := by show _ = _; rw [HE.out, HLo.out, gT, g1, g2, g3]; simp
                                  unfold Tr.between at g1
                                  clear HE HLo
                                  go_wp2_with (go_at_call 26; refine (between_any _ _ _ _).mono ?_; rintro e w' ⟨rfl, rfl⟩)
                                  go_roundw
                                  case rel => exact ⟨j + 1, by omega, by go_num, HN.out, hbel5q⟩
                                  case measure => simp [intOf]; omega
                          · have t1 : (x.kind == 1) = false := beq_eq_false_iff_ne.2 hk.1
                            have t2 : (x.kind == 2) = false := beq_eq_false_iff_ne.2 hk.2.1
                            have t3 : (x.kind == 3) = false := beq_eq_false_iff_ne.2 hk.2.2.1
                            have t4 : (x.kind == 4) = false := beq_eq_false_iff_ne.2 hk.2.2.2
                            have HLo : Hid (Tr.litOk x = (Tr.termsOk x.terms && false)) := litOk_5 x hk
                            clear hk
                            have HF : Hid (Tr.check l = 1) := by show _ = _; rw [HV.out, HD.out, HW.out, HE.out, HLo.out]; simp
                            clear HE HD HV HW HLo HRo HA3 HLn
                            go_wp2_with fail
                            go_ret
                            exact ⟨ret_int HF.out.symm, hbel5⟩
                      · have HN : Hid (l.all Tr.ruleOk = (l.drop (k + 1)).all Tr.ruleOk) := by
                          show _ = _
                          rw [HD.out, HW.out, HB.out, List.drop_of_length_le (by omega)]
                          rfl
                        have hbelr4 := hbelr3.trans (hbelq.mono hbelr3.size)
                        clear HB HD HW hL3 hA1 HA3 HRo
                        go_wp2_with fail
                        go_roundw
                        case rel => exact ⟨k + 1, by omega, by go_num, HN.out, hbelr4⟩
                        case measure => simp [intOf]; omega
                  · go_wp2_with (go_at_call 26; refine (between_any _ _ _ _).mono ?_; rintro e w3 ⟨rfl, rfl⟩)
                    clear hb hp gf gt gn
                    go_loopw [8] (fun i wq => ∃ j : Nat, j ≤ r.body.length ∧ i = .int .i64 j ∧ Tr.litsOk r.body = (r.body.drop j).all Tr.litOk ∧ Below w3.heap.size w3 wq) (fun i _ => r.body.length - (intOf i).toNat)
                    case atStart => exact ⟨0, Nat.zero_le _, rfl, rfl, Below.refl _ _⟩
                    case round =>
                      obtain ⟨j, hj, rfl, hall, hbelq⟩ := hrel
                      have HB : Hid (Tr.litsOk r.body = (r.body.drop j).all Tr.litOk) := hall
                      have z4' := cell_below hbelq z4
                      clear hall
                      by_cases hltj : j < r.body.length
                      · obtain ⟨bo', cb', hv, hL⟩ := litsV_below hL3 hbelq
                        rcases hL with h | ⟨b2, off2, rfl, hc⟩
                        · rw [h] at hltj; exact absurd hltj (by simp)
                        injection hv with e1 _ e3
                        subst e1 e3
                        obtain ⟨q0, q1, q2, q3, u4, q4, hT⟩ := hc j hltj
                        have HE : Hid (Tr.litsOk r.body = (Tr.litOk (Tr.litD r.body j) && (r.body.drop (j + 1)).all Tr.litOk)) := HB.out.trans (all_drop _ _ _ j hltj)
                        have hfit := f3 j hltj
                        clear hc HB hL3 hA1
                        generalize Tr.litD r.body j = x at *
                        have HC : Hid (_) := areTerms_any x.terms u4 (wr.alloc (litObj x u4)) hfit (termsV_below hT (below_alloc _ _))
                        obtain ⟨ao5, ca5, rfl, _⟩ := hT
                        go_wp2_with fail
                        refine Calls.mono HC.out ?_
                        rintro e w5 ⟨he, hb5⟩
                        obtain ⟨y0, y1, y2, y3, y4⟩ := litBox hb5
                        have hbel5q := hbelq.trans ((below_box hb5).mono hbelq.size)
                        have hbel5 := hbel3.trans (hbel5q.mono hbel3.size)
                        clear HC hb5 q0 q1 q2 q3 q4
                        cases gT : Tr.termsOk x.terms
                        · rw [gT] at he
                          subst he
                          rcases lit_kinds x with hk | hk | hk | hk | hk
                          · have t1 : (x.kind == 1) = true := beq_iff_eq.2 hk
                            have HLo : Hid (Tr.litOk x = (Tr.termsOk x.terms && ((x.op == 0) && Tr.isName x.name))) := litOk_1 x (.inl hk)
                            clear hk
                            have HF : Hid (Tr.check l = 1) := by show _ = _; rw [HV.out, HD.out, HW.out, HE.out, HLo.out, gT]; simp
                            clear HE HD HV HW HLo HRo HA3 HLn
                            go_wp2_with fail
                            go_ret
                            exact ⟨ret_int HF.out.symm, hbel5⟩
                          · have t1 : (x.kind == 1) = false := beq_eq_false_iff_ne.2 (by omega)
                            have t2 : (x.kind == 2) = true := beq_iff_eq.2 hk
                            have HLo : Hid (Tr.litOk x = (Tr.termsOk x.terms && ((x.op == 0) && Tr.isName x.name))) := litOk_1 x (.inr hk)
                            clear hk
                            have HF : Hid (Tr.check l = 1) := by show _ = _; rw [HV.out, HD.out, HW.out, HE.out, HLo.out, gT]; simp
                            clear HE HD HV HW HLo HRo HA3 HLn
                            go_wp2_with fail
                            go_ret
                            exact ⟨ret_int HF.out.symm, hbel5⟩
                          · have t1 : (x.kind == 1) = false := beq_eq_false_iff_ne.2 (by omega)
                            have t2 : (x.kind == 2) = false := beq_eq_false_iff_ne.2 (by omega)
                            have t3 : (x.kind == 3) = true := beq_iff_eq.2 hk
                            have HLo : Hid (Tr.litOk x = (Tr.termsOk x.terms && (Tr.between x.op 1 4 && x.name.isEmpty && ((x.terms.length : Int) == 2)))) := litOk_3 x hk
                            clear hk
                            have HF : Hid (Tr.check l = 1) := by show _ = _; rw [HV.out, HD.out, HW.out, HE.out, HLo.out, gT]; simp
                            clear HE HD HV HW HLo HRo HA3 HLn
                            go_wp2_with fail
                            go_ret
                            exact ⟨ret_int HF.out.symm, hbel5⟩
                          · have t1 : (x.kind == 1) = false := beq_eq_false_iff_ne.2 (by omega)
                            have t2 : (x.kind == 2) = false := beq_eq_false_iff_ne.2 (by omega)
                            have t3 : (x.kind == 3) = false := beq_eq_false_iff_ne.2 (by omega)
                            have t4 : (x.kind == 4) = true := beq_iff_eq.2 hk
                            have HLo : Hid (Tr.litOk x = (Tr.termsOk x.terms && (Tr.between x.op 5 7 && x.name.isEmpty && ((x.terms.length : Int) == 3)))) := litOk_4 x hk
                            clear hk
                            have HF : Hid (Tr.check l = 1) := by show _ = _; rw [HV.out, HD.out, HW.out, HE.out, HLo.out, gT]; simp
                            clear HE HD HV HW HLo HRo HA3 HLn
                            go_wp2_with fail
                            go_ret
                            exact ⟨ret_int HF.out.symm, hbel5⟩
                          · have t1 : (x.kind == 1) = false := beq_eq_false_iff_ne.2 hk.1
                            have t2 : (x.kind == 2) = false := beq_eq_false_iff_ne.2 hk.2.1
                            have t3 : (x.kind == 3) = false := beq_eq_false_iff_ne.2 hk.2.2.1
                            have t4 : (x.kind == 4) = false := beq_eq_false_iff_ne.2 hk.2.2.2
                            have HLo : Hid (Tr.litOk x = (Tr.termsOk x.terms && false)) := litOk_5 x hk
                            clear hk
                            have HF : Hid (Tr.check l = 1) := by show _ = _; rw [HV.out, HD.out, HW.out, HE.out, HLo.out]; simp
                            clear HE HD HV HW HLo HRo HA3 HLn
                            go_wp2_with fail
                            go_ret
                            exact ⟨ret_int HF.out.symm, hbel5⟩
                        · rw [gT] at he
                          subst he
                          rcases lit_kinds x with hk | hk | hk | hk | hk
                          · have t1 : (x.kind == 1) = true := beq_iff_eq.2 hk
                            have HLo : Hid (Tr.litOk x = (Tr.termsOk x.terms && ((x.op == 0) && Tr.isName x.name))) := litOk_1 x (.inl hk)
                            clear hk
                            cases g1 : (x.op == 0)
                            · have HF : Hid (Tr.check l = 1) := by show _ = _; rw [HV.out, HD.out, HW.out, HE.out, HLo.out, g1]; simp
                              clear HE HD HV HW HLo HRo HA3 HLn
                              go_wp2_with fail
                              go_ret
                              exact ⟨ret_int HF.out.symm, hbel5⟩
                            · cases g2 : Tr.isName x.name
                              · have HF : Hid (Tr.check l = 1) := by show _ = _; rw [HV.out, HD.out, HW.out, HE.out, HLo.out, g2]; simp
                                clear HE HD HV HW HLo HRo HA3 HLn
                                go_wp2_with (go_at_call 27; refine (refName_any _ _).mono ?_; rintro e w' ⟨rfl, rfl⟩)
                                go_ret
                                exact ⟨ret_int HF.out.symm, hbel5⟩
                              · have HN : Hid (Tr.litsOk r.body = (r.body.drop (j + 1)).all Tr.litOk) := by show _ = _; rw [HE.out, HLo.out, gT, g1, g2]; simp
                                clear HE HLo
                                go_wp2_with (go_at_call 27; refine (refName_any _ _).mono ?_; rintro e w' ⟨rfl, rfl⟩)
                                go_roundw
                                case rel => exact ⟨j + 1, by omega, by go_num, HN.out, hbel5q⟩
                                case measure => simp [intOf]; omega
                          · have t1 : (x.kind == 1) = false := beq_eq_false_iff_ne.2 (by omega)
                            have t2 : (x.kind == 2) = true := beq_iff_eq.2 hk
                            have HLo : Hid (Tr.litOk x = (Tr.termsOk x.terms && ((x.op == 0) && Tr.isName x.name))) := litOk_1 x (.inr hk)
                            clear hk
                            cases g1 : (x.op == 0)
                            · have HF : Hid (Tr.check l = 1) := by show _ = _; rw [HV.out, HD.out, HW.out, HE.out, HLo.out, g1]; simp
                              clear HE HD HV HW HLo HRo HA3 HLn
                              go_wp2_with fail
                              go_ret
                              exact ⟨ret_int HF.out.symm, hbel5⟩
                            · cases g2 : Tr.isName x.name
                              · have HF : Hid (Tr.check l = 1) := by show _ = _; rw [HV.out, HD.out, HW.out, HE.out, HLo.out, g2]; simp
                                clear HE HD HV HW HLo HRo HA3 HLn
                                go_wp2_with (go_at_call 27; refine (refName_any _ _).mono ?_; rintro e w' ⟨rfl, rfl⟩)
                                go_ret
                                exact ⟨ret_int HF.out.symm, hbel5⟩
                              · have HN : Hid (Tr.litsOk r.body = (r.body.drop (j + 1)).all Tr.litOk) := by show _ = _; rw [HE.out, HLo.out, gT, g1, g2]; simp
                                clear HE HLo
                                go_wp2_with (go_at_call 27; refine (refName_any _ _).mono ?_; rintro e w' ⟨rfl, rfl⟩)
                                go_roundw
                                case rel => exact ⟨j + 1, by omega, by go_num, HN.out, hbel5q⟩
                                case measure => simp [intOf]; omega
                          · have t1 : (x.kind == 1) = false := beq_eq_false_iff_ne.2 (by omega)
                            have t2 : (x.kind == 2) = false := beq_eq_false_iff_ne.2 (by omega)
                            have t3 : (x.kind == 3) = true := beq_iff_eq.2 hk
                            have HLo : Hid (Tr.litOk x = (Tr.termsOk x.terms && (Tr.between x.op 1 4 && x.name.isEmpty && ((x.terms.length : Int) == 2)))) := litOk_3 x hk
                            clear hk
                            cases g1 : Tr.between x.op 1 4
                            · have HF : Hid (Tr.check l = 1) := by show _ = _; rw [HV.out, HD.out, HW.out, HE.out, HLo.out, g1]; simp
                              unfold Tr.between at g1
                              clear HE HD HV HW HLo HRo HA3 HLn
                              go_wp2_with (go_at_call 26; refine (between_any _ _ _ _).mono ?_; rintro e w' ⟨rfl, rfl⟩)
                              go_ret
                              exact ⟨ret_int HF.out.symm, hbel5⟩
                            · cases g2 : x.name.isEmpty
                              · have HF : Hid (Tr.check l = 1) := by show _ = _; rw [HV.out, HD.out, HW.out, HE.out, HLo.out, g2]; simp
                                unfold Tr.between at g1
                                clear HE HD HV HW HLo HRo HA3 HLn
                                go_wp2_with (go_at_call 26; refine (between_any _ _ _ _).mono ?_; rintro e w' ⟨rfl, rfl⟩)
                                go_ret
                                exact ⟨ret_int HF.out.symm, hbel5⟩
                              · cases g3 : ((x.terms.length : Int) == 2)
                                · have HF : Hid (Tr.check l = 1) := by show _ = _; rw [HV.out, HD.out, HW.out, HE.out, HLo.out, g3]; simp
                                  unfold Tr.between at g1
                                  clear HE HD HV HW HLo HRo HA3 HLn
                                  go_wp2_with (go_at_call 26; refine (between_any _ _ _ _).mono ?_; rintro e w' ⟨rfl, rfl⟩)
                                  go_ret
                                  exact ⟨ret_int HF.out.symm, hbel5⟩
                                · have HN : Hid (Tr.litsOk r.body = (r.body.drop (j + 1)).all Tr.litOk) := by show _ = _; rw [HE.out, HLo.out, gT, g1, g2, g3]; simp
                                  unfold Tr.between at g1
                                  clear HE HLo
                                  go_wp2_with (go_at_call 26; refine (between_any _ _ _ _).mono ?_; rintro e w' ⟨rfl, rfl⟩)
                                  go_roundw
                                  case rel => exact ⟨j + 1, by omega, by go_num, HN.out, hbel5q⟩
                                  case measure => simp [intOf]; omega
                          · have t1 : (x.kind == 1) = false := beq_eq_false_iff_ne.2 (by omega)
                            have t2 : (x.kind == 2) = false := beq_eq_false_iff_ne.2 (by omega)
                            have t3 : (x.kind == 3) = false := beq_eq_false_iff_ne.2 (by omega)
                            have t4 : (x.kind == 4) = true := beq_iff_eq.2 hk
                            have HLo : Hid (Tr.litOk x = (Tr.termsOk x.terms && (Tr.between x.op 5 7 && x.name.isEmpty && ((x.terms.length : Int) == 3)))) := litOk_4 x hk
                            clear hk
                            cases g1 : Tr.between x.op 5 7
                            · have HF : Hid (Tr.check l = 1) := by show _ = _; rw [HV.out, HD.out, HW.out, HE.out, HLo.out, g1]; simp
                              unfold Tr.between at g1
                              clear HE HD HV HW HLo HRo HA3 HLn
                              go_wp2_with (go_at_call 26; refine (between_any _ _ _ _).mono ?_; rintro e w' ⟨rfl, rfl⟩)
                              go_ret
                              exact ⟨ret_int HF.out.symm, hbel5⟩
                            · cases g2 : x.name.isEmpty
                              · have HF : Hid (Tr.check l = 1) := by show _ = _; rw [HV.out, HD.out, HW.out, HE.out, HLo.out, g2]; simp
                                unfold Tr.between at g1
                                clear HE HD HV HW HLo HRo HA3 HLn
                                go_wp2_with (go_at_call 26; refine (between_any _ _ _ _).mono ?_; rintro e w' ⟨rfl, rfl⟩)
                                go_ret
                                exact ⟨ret_int HF.out.symm, hbel5⟩
                              · cases g3 : ((x.terms.length : Int) == 3)
                                · have HF : Hid (Tr.check l = 1) := by show _ = _; rw [HV.out, HD.out, HW.out, HE.out, HLo.out, g3]; simp
                                  unfold Tr.between at g1
                                  clear HE HD HV HW HLo HRo HA3 HLn
                                  go_wp2_with (go_at_call 26; refine (between_any _ _ _ _).mono ?_; rintro e w' ⟨rfl, rfl⟩)
                                  go_ret
                                  exact ⟨ret_int HF.out.symm, hbel5⟩
                                · have HN : Hid (Tr.litsOk r.body = (r.body.drop (j + 1)).all Tr.litOk) := by show _ = _; rw [HE.out, HLo.out, gT, g1, g2, g3]; simp
                                  unfold Tr.between at g1
                                  clear HE HLo
                                  go_wp2_with (go_at_call 26; refine (between_any _ _ _ _).mono ?_; rintro e w' ⟨rfl, rfl⟩)
                                  go_roundw
                                  case rel => exact ⟨j + 1, by omega, by go_num, HN.out, hbel5q⟩
                                  case measure => simp [intOf]; omega
                          · have t1 : (x.kind == 1) = false := beq_eq_false_iff_ne.2 hk.1
                            have t2 : (x.kind == 2) = false := beq_eq_false_iff_ne.2 hk.2.1
                            have t3 : (x.kind == 3) = false := beq_eq_false_iff_ne.2 hk.2.2.1
                            have t4 : (x.kind == 4) = false := beq_eq_false_iff_ne.2 hk.2.2.2
                            have HLo : Hid (Tr.litOk x = (Tr.termsOk x.terms && false)) := litOk_5 x hk
                            clear hk
                            have HF : Hid (Tr.check l = 1) := by show _ = _; rw [HV.out, HD.out, HW.out, HE.out, HLo.out]; simp
                            clear HE HD HV HW HLo HRo HA3 HLn
                            go_wp2_with fail
                            go_ret
                            exact ⟨ret_int HF.out.symm, hbel5⟩
                      · have HN : Hid (l.all Tr.ruleOk = (l.drop (k + 1)).all Tr.ruleOk) := by
                          show _ = _
                          rw [HD.out, HW.out, HB.out, List.drop_of_length_le (by omega)]
                          rfl
                        have hbelr4 := hbelr3.trans (hbelq.mono hbelr3.size)
                        clear HB HD HW hL3 hA1 HA3 HRo
                        go_wp2_with fail
                        go_roundw
                        case rel => exact ⟨k + 1, by omega, by go_num, HN.out, hbelr4⟩
                        case measure => simp [intOf]; omega
          · have HF : Hid (Tr.check l = 0) := by show _ = _; rw [HV.out, HA3.out, List.drop_of_length_le (by omega)]; rfl
            have hbel4 := hbel1.trans (hbelr.mono hbel1.size)
            clear hA1 HA3 HV
            go_wp2_with fail
            go_ret
            exact ⟨ret_int HF.out.symm, hbel4⟩

end Go.Proofs.YtgpaleifhcdjnaaGreatDoor

