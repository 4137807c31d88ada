/- Own texts, one behind the other (part 5). -/
import Derived.Test.YtclbbiocagkmcaaGreatDoorBundleD
import Derived.Test.YtclbbiocagkmcaaGreatDoorRows
import Derived.Test.YtclbbiocagkmcaaGreatDoorCards
import Derived.Test.YtclbbiocagkmcaaGreatDoorTie
import Derived.Defers
import Derived.Recover
import Derived.RegionTactic
import Derived.ChangeAlike
import Derived.Deep.QuietTactic
import Derived.BigQuiet
import Derived.Deep.RegionHeld3
import Derived.RegionDies
/- The parser's rules. -/
namespace Go.Proofs.YtclbbiocagkmcaaGreatDoor
open Go.RowKit

/-- What rule leaves. -/
def RuleEnd (P : Nat) (L : List Tk.Tok) (en : Int) (w : World) (x : Int ⊕ (Tr.Rule × List Tk.Tok)) (e : Ending) (w' : World) : Prop := match x with
  | .inl a => e = gaveP a ∧ w.grownBy w' (some P)
  | .inr x => ∃ v u, e = .returned (ruleVal x.1 v u) ∧ TermsP w.heap.size w' v x.1.terms ∧ LitsP w.heap.size w' u x.1.body ∧ Went w w' P L en x.2

theorem UInv.out {w wr : World} {B P : Nat} {L : List Tk.Tok} {en : Int} {r : List Tk.Tok} {at_ : Int} {nm : List UInt8} {tv : Value} {ts : List Tr.Term} {fo : Int} {bv : Value} {q : List (Tr.Lit × Value)} (h : UInv w wr B P L en r at_ nm tv ts fo bv q) (a b c d e : Value) :
    TermsP w.heap.size (((((wr.setCell ⟨w.heap.size, 0, none⟩ a).setCell ⟨w.heap.size, 1, none⟩ b).setCell ⟨w.heap.size, 2, none⟩ c).setCell ⟨w.heap.size, 3, none⟩ d).setCell ⟨w.heap.size, 4, none⟩ e) tv ts ∧
      LitsP w.heap.size (((((wr.setCell ⟨w.heap.size, 0, none⟩ a).setCell ⟨w.heap.size, 1, none⟩ b).setCell ⟨w.heap.size, 2, none⟩ c).setCell ⟨w.heap.size, 3, none⟩ d).setCell ⟨w.heap.size, 4, none⟩ e) bv (q.map (·.1)) ∧
      Went w (((((wr.setCell ⟨w.heap.size, 0, none⟩ a).setCell ⟨w.heap.size, 1, none⟩ b).setCell ⟨w.heap.size, 2, none⟩ c).setCell ⟨w.heap.size, 3, none⟩ d).setCell ⟨w.heap.size, 4, none⟩ e) P L en r := by
  have hB := h.ltB
  have h0 : LitsP (B + 1) wr bv (q.map (·.1)) := ⟨q, rfl, rowP_own (by intro c hc; simp at hc; obtain ⟨x, y, _, rfl⟩ := hc; rfl) (by rw [List.length_map]; exact h.own), h.lts⟩
  exact ⟨(h.trm.keep (keeps5 (by omega) _ _ _ _ _ _)).mono (by omega), (h0.keep (keeps5 (by omega) _ _ _ _ _ _)).mono (by omega), h.went.put5 h.lt _ _ _ _ _⟩

theorem A_info49 : (Tryz.prog.info? 50).map (fun i => (i.zero, i.size, i.bytes)) = some (some (.agg #[.int .i64 0, .int .i64 0, .int .i64 0, .string ⟨#[]⟩, .slice none 0 0]), 5, 64) := by kernel_rfl
theorem news_lit (w : World) (x : Tr.Lit) (v : Value) : ∀ j u, (litCells (x, v))[j]? = some u → (w.alloc (.cells #[.int .i64 x.kind, .int .i64 x.at_, .int .i64 x.op, .string ⟨x.name.toArray⟩, v] 50)).cell? ((⟨w.heap.size, 0, none⟩ : Addr).add j) = some u := World.news_of_block (heap_alloc_new w _)
theorem one_lit (x : Tr.Lit) (ao : Option Addr) (n c : Nat) : ∀ u ∈ litCells (x, .slice ao n c), u.oneCell' = true := by intro u hu; simp [litCells] at hu; rcases hu with rfl | rfl | rfl | rfl | rfl <;> rfl

set_option maxRecDepth 100000 in
set_option maxHeartbeats 4000000 in
theorem rule_any (P : Nat) (L : List Tk.Tok) (en : Int) (r : List Tk.Tok) (w : World) (hA : At w P L en r) :
    Calls Tryz.prog 50 #[.pointer (some ⟨P, 0, none⟩)] w (RuleEnd P L en w (Pr.rule en r)) := by
  obtain ⟨i0, hi, hz0, hz1, hz2⟩ := info_parts A_info49
  have HQ : Hid (∀ X, Pr.rule en r = X → ∀ e w', RuleEnd P L en w X e w' → RuleEnd P L en w (Pr.rule en r) e w') := by rintro X rfl e w' h; exact h
  generalize RuleEnd P L en w (Pr.rule en r) = Q at HQ ⊢
  have hpk : Hid _ := peekAt P L en r w hA
  cases hn : (((Pr.hd en r).kind == 1) && !Tr.isWord (Pr.hd en r).text)
  · have hN : Pr.name en r = .inl (Pr.hd en r).at_ := by unfold Pr.name; rw [hn]; rfl
    have HF : Hid (∀ e w', RuleEnd P L en w (.inl (Pr.hd en r).at_) e w' → Q e w') := fun e w' h => HQ.out _ (by rw [Pr.rule, hN]) e w' h
    have HN : Hid (∀ w1, At w1 P L en r → _) := fun w1 h => name_no P L en r w1 h hn
    clear hN HQ
    generalize Pr.hd en r = x at *
    go_enter Tryz.func50, Tryz.ntmps50
    go_wp2_with fail
    refine Calls.mono (hpk.out _ ((Below.refl _ _).alloc (Nat.le_refl _) _)) ?_
    rintro e w1 ⟨rfl, hb0⟩
    have hI := UInv.start hA hb0 x.at_
    go_wp2_with fail
    simp only [fld1]
    go_wp2_with fail
    refine Calls.mono (HN.out _ hI.went.2) ?_
    rintro e w2 ⟨rfl, hb2⟩
    exact ⟨rfl, HF.out _ _ ⟨rfl, ground hI.went.1 hb2⟩⟩
  · have hN : Pr.name en r = .inr ((Pr.hd en r).text, r.tail) := by unfold Pr.name; rw [hn]; rfl
    have HN : Hid (∀ w1, At w1 P L en r → _) := fun w1 h => name_yes P L en r w1 h hn
    have HT : Hid (∀ w1, At w1 P L en r.tail → _) := fun w1 h => terms_any true P L en r.tail w1 h
    unfold TermsEnd at HT
    have HR : Hid (∀ X, (match Pr.terms true en r.tail with
        | .inl p => Sum.inl p
        | .inr y => if (y.1.2 == 0) && Pr.isText en y.2 [46] then .inr ((⟨(Pr.hd en r).at_, (Pr.hd en r).text, y.1.1, y.1.2, []⟩ : Tr.Rule), y.2.tail) else Pr.tailOf (Pr.hd en r).at_ (Pr.hd en r).text y.1.1 y.1.2 en y.2) = X → ∀ e w', RuleEnd P L en w X e w' → Q e w') := by
      intro X hX e w' h
      refine HQ.out X ?_ e w' h
      rw [← hX]
      simp only [Pr.rule, hN]
      cases Pr.terms true en r.tail <;> rfl
    generalize Pr.hd en r = x at *
    clear hN hn HQ
    go_enter Tryz.func50, Tryz.ntmps50
    go_wp2_with fail
    refine Calls.mono (hpk.out _ ((Below.refl _ _).alloc (Nat.le_refl _) _)) ?_
    rintro e w1 ⟨rfl, hb0⟩
    have hI := UInv.start hA hb0 x.at_
    go_wp2_with fail
    simp only [fld1]
    go_wp2_with fail
    refine Calls.mono (HN.out _ hI.went.2) ?_
    rintro e w2 ⟨rfl, hW2⟩
    have hI2 := hI.on hW2
    have hI3 := hI2.setName x.text
    obtain ⟨c0, c1, c2, c3, c4, f1, f0⟩ := hI2.cells
    clear hI hW2 hb0 hpk HN hA
    generalize hB : w1.heap.size = B at *
    go_wp2_with fail
    refine Calls.mono (HT.out _ hI3.went.2) ?_
    clear c0 c1 c2 c3 c4 f1 f0 HT hI2
    have hsz3 := hI3.sz
    generalize w2.setCell ⟨B, 1, none⟩ (.string ⟨x.text.toArray⟩) = w3 at *
    cases hY : Pr.terms true en r.tail with
    | inl a =>
      have HF : Hid (∀ e w', RuleEnd P L en w (.inl a) e w' → Q e w') := fun e w' h => HR.out _ (by rw [hY]) e w' h
      rintro e w4 ⟨rfl, hg4⟩
      exact ⟨rfl, HF.out _ _ ⟨rfl, grownBy_trans hI3.went.1 hg4⟩⟩
    | inr y =>
      obtain ⟨⟨ts, fo⟩, r2⟩ := y
      rintro e w4 ⟨v, rfl, hT, hW4⟩
      have hI4 := (hI3.on hW4)
      have hI5 := hI4.setTerms (hT.mono hsz3) fo
      obtain ⟨c0, c1, c2, c3, c4, f1, f0⟩ := hI4.cells
      obtain ⟨aot, capt, hv, hT'⟩ := hT
      rw [List.length_map] at hv
      subst hv
      have HS : Hid (∀ X, (if (fo == 0) && Pr.isText en r2 [46] then Sum.inr ((⟨x.at_, x.text, ts, fo, []⟩ : Tr.Rule), r2.tail) else Pr.tailOf x.at_ x.text ts fo en r2) = X → ∀ e w', RuleEnd P L en w X e w' → Q e w') := fun X hX e w' h => HR.out _ (by rw [hY]; exact hX) e w' h
      clear HR hY hT'
      cases hf : (fo == 0)
      · have HX : Hid (∀ X, Pr.tailOf x.at_ x.text ts fo en r2 = X → ∀ e w', RuleEnd P L en w X e w' → Q e w') := fun X hX e w' h => HS.out X (by rw [hf]; exact hX) e w' h
        clear HS
        have hI6 := hI5
        cases hm : Pr.isText en r2 [58, 45]
        · have HF : Hid (∀ e w', RuleEnd P L en w (.inl (Pr.hd en r2).at_) e w' → Q e w') := fun e w' h => HX.out _ (by
            have : Pr.must [58, 45] en r2 = .inl (Pr.hd en r2).at_ := by unfold Pr.must; unfold Pr.isText at hm; rw [hm]; rfl
            rw [Pr.tailOf, this]) e w' h
          go_wp2_with fail
          refine (must_no [58, 45] P L en r2 _ hI6.went.2 hm).mono ?_
          rintro e w7 ⟨rfl, hb7⟩
          exact ⟨rfl, HF.out _ _ ⟨rfl, ground hI6.went.1 hb7⟩⟩
        · have HX2 : Hid (∀ X, (match Pr.lits en (r2.tail.length + 1) [] r2.tail with
              | .inl p => Sum.inl p
              | .inr b => match Pr.must [46] en b.2 with
                | .inl p => .inl p
                | .inr r2 => .inr ((⟨x.at_, x.text, ts, fo, b.1⟩ : Tr.Rule), r2)) = X → ∀ e w', RuleEnd P L en w X e w' → Q e w') := by
            intro X hX e w' h
            refine HX.out X ?_ e w' h
            rw [← hX]
            have : Pr.must [58, 45] en r2 = .inr r2.tail := by unfold Pr.must; unfold Pr.isText at hm; rw [hm]; rfl
            simp only [Pr.tailOf, this]
            cases Pr.lits en (r2.tail.length + 1) [] r2.tail with
            | inl a => rfl
            | inr b => cases h : Pr.must [46] en b.2 <;> simp only [h]
          have HM : Hid (∀ w1, At w1 P L en r2 → _) := fun w1 h => must_yes [58, 45] P L en r2 w1 h (by simp) hm
          generalize r2.tail = r3 at *
          clear HX hm
          go_wp2_with fail
          refine Calls.mono (HM.out _ hI6.went.2) ?_
          rintro e w7 ⟨rfl, hW7⟩
          have hI7 := hI6.on hW7
          clear hW7 HM hI6
          obtain ⟨c0, c1, c2, c3, c4, f1, f0⟩ := hI7.cells
          go_upto_region 7 with fail
          cases hL : Pr.lit en r3 with
          | inl a =>
            have HF : Hid (∀ e w', RuleEnd P L en w (.inl a) e w' → Q e w') := fun e w' h => HX2.out _ (by rw [lits_no hL]) e w' h
            have HN : Hid (∀ w1, At w1 P L en r3 → _) := fun w1 h => lit_any P L en r3 w1 h
            rw [hL] at HN
            go_region_dies
            all_goals (refine Calls.mono (HN.out _ (At.keep hI7.went.2 (fun _ _ => rfl))) ?_)
            all_goals rintro e y2 ⟨rfl, hg2⟩
            all_goals exact ⟨rfl, HF.out _ _ ⟨rfl, gone hI7.went.1 hg2 ⟨rfl, rfl, rfl, Nat.le_refl _, fun _ _ => rfl⟩⟩⟩
          | inr l1 =>
            obtain ⟨l1, r4⟩ := l1
            have hl4 : r4.length < r3.length := lit_len hL
            have hlits : Pr.lits en (r3.length + 1) [] r3 = Pr.after en r3.length [l1] r4 := lits_yes hL
            generalize hLX : Pr.lits en (r3.length + 1) [] r3 = LX at HX2
            rw [hlits] at hLX
            have HLX : Hid _ := hLX
            have HN : Hid (∀ w1, At w1 P L en r3 → _) := fun w1 h => lit_any P L en r3 w1 h
            rw [hL] at HN
            clear hL hlits hLX
            go_cut [] (fun wx => ∃ bv lv, UInv w wx B P L en r4 x.at_ x.text (.slice aot ts.length capt) ts fo bv [(l1, lv)])
            case first =>
              go_region_law (first
                | (go_simp; go_at_call 71; refine Calls.mono (HN.out _ (At.keep hI7.went.2 (fun _ _ => rfl))) ?_; rintro e y2 ⟨lv, rfl, hTl, hW2⟩; have hI2 := UInv.on2 hI7 hW2 ⟨rfl, rfl, rfl, Nat.le_refl _, fun _ _ => rfl⟩; have hTl2 := TermsP.mono (B' := B + 1) hTl hI7.sz; obtain ⟨aol, capl, hlv, hTl'⟩ := hTl; simp only [List.length_map] at hlv; subst hlv; obtain ⟨d0, d1, d2, d3, d4, g1, g0⟩ := hI2.cells; have hsz := hI2.sz; dsimp only)
                | (refine step_append_lies _ rfl (.tmp 29) (.tmp 32) 44 rfl (B + 1) 50 i0 _ 5 64 Tryz.underlying44 hi hz0 hz1 hz2 rfl (by decide) (.slice none 0 0) 0 _ ?hs (UInv.below hI2 ((Below.refl _ _).alloc (Nat.le_refl _) _)).own ⟨y2.heap.size, 0, none⟩ 1 1 (litCells (l1, .slice aol l1.terms.length capl)) ?hx rfl ?hn ?ho ?hm ?h6 ?hb ?hB _ rfl ?_
                   case hs => simp [Act.eval]
                   case hx => simp [Act.eval]
                   case hn => exact news_lit _ _ _
                   case ho => exact one_lit _ _ _ _
                   case hm => decide
                   case h6 => decide
                   case hb => decide
                   case hB => (simp; omega)
                   intro g cap y3 hown hgrow hat hlt
                   have hI3 := UInv.put (UInv.below hI2 ((Below.refl _ _).alloc (Nat.le_refl _) _)) hgrow (hTl2.keep (keeps_below _ ((Below.refl _ _).alloc (Nat.le_refl _) _))) hown
                   obtain ⟨_, _, e4, ef⟩ := UInv.app (UInv.below hI2 ((Below.refl _ _).alloc (Nat.le_refl _) _)) hgrow))
              all_goals (go_wp2_with fail; go_meet)
              all_goals exact ⟨_, _, hI3⟩
            case rest =>
              obtain ⟨bv, lv, hI8⟩ := hcut
              obtain ⟨m1, m2, m3⟩ := hI7.went.2.meas
              clear c0 c1 c2 c3 c4 f1 f0 hI7 HN
              go_wp2_with fail
              go_loopw [] (fun wr => ∃ (bv : Value) (q : List (Tr.Lit × Value)) (r5 : List Tk.Tok) (f : Nat), UInv w wr B P L en r5 x.at_ x.text (.slice aot ts.length capt) ts fo bv q ∧ q.length + r5.length ≤ L.length ∧ r5.length ≤ f ∧ Pr.after en f (q.map (·.1)) r5 = LX)
                (fun wr => L.length - nxOf wr P)
              case atStart => exact ⟨bv, [(l1, lv)], r4, r3.length, hI8, by simp; omega, by omega, HLX.out⟩
              case round =>
                obtain ⟨bv, q, r5, f, hI9, hlen, hrf, hAf⟩ := hrel
                have HAf : Hid _ := hAf
                obtain ⟨aob, capb, rfl⟩ := own_slice hI9.own
                clear hAf hI8 HLX
                cases hc : Pr.isText en r5 [44]
                · have hLX2 : LX = .inr (q.map (·.1), r5) := by rw [← HAf.out, Pr.after, hc]; rfl
                  cases hd : Pr.isText en r5 [46]
                  · have HF : Hid (∀ e w', RuleEnd P L en w (.inl (Pr.hd en r5).at_) e w' → Q e w') := fun e w' h => HX2.out _ (by
                      have : Pr.must [46] en r5 = .inl (Pr.hd en r5).at_ := by unfold Pr.must; unfold Pr.isText at hd; rw [hd]; rfl
                      rw [hLX2]; simp only [this]) e w' h
                    clear hLX2 HX2 HAf
                    go_wp2_with fail
                    refine (take_no [44] P L en r5 _ hI9.went.2 hc).mono ?_
                    rintro e w10 ⟨rfl, hb10⟩
                    have hI10 := hI9.below hb10
                    go_wp2_with fail
                    refine (must_no [46] P L en r5 _ hI10.went.2 hd).mono ?_
                    rintro e w11 ⟨rfl, hb11⟩
                    exact ⟨rfl, HF.out _ _ ⟨rfl, ground hI10.went.1 hb11⟩⟩
                  · have HF : Hid (∀ e w', RuleEnd P L en w (.inr (⟨x.at_, x.text, ts, fo, q.map (·.1)⟩, r5.tail)) e w' → Q e w') := fun e w' h => HX2.out _ (by
                      have : Pr.must [46] en r5 = .inr r5.tail := by unfold Pr.must; unfold Pr.isText at hd; rw [hd]; rfl
                      rw [hLX2]; simp only [this]) e w' h
                    clear hLX2 HX2 HAf
                    go_wp2_with fail
                    refine (take_no [44] P L en r5 _ hI9.went.2 hc).mono ?_
                    rintro e w10 ⟨rfl, hb10⟩
                    have hI10 := hI9.below hb10
                    go_wp2_with fail
                    refine (must_yes [46] P L en r5 _ hI10.went.2 (by simp) hd).mono ?_
                    rintro e w11 ⟨rfl, hW11⟩
                    have hI11 := hI10.on hW11
                    obtain ⟨c0, c1, c2, c3, c4, f1, f0⟩ := hI11.cells
                    obtain ⟨x0, x1, x2, x3, x4⟩ := hI11.rcells
                    go_wp2
                    exact bodyPost_ret (v := ruleVal ⟨x.at_, x.text, ts, fo, q.map (·.1)⟩ (.slice aot ts.length capt) (.slice aob q.length capb)) (by simp [results, Tryz.results50, go_sem, x0, x1, x2, x3, x4]) rfl (HF.out _ _ ⟨_, _, rfl, hI11.out _ _ _ _ _⟩)
                · have hl6 := text_len (by simp) hc
                  obtain ⟨f, rfl⟩ : ∃ f', f = f' + 1 := ⟨f - 1, by omega⟩
                  have HL2 : Hid (Pr.lits en (f + 1) (q.map (·.1)) r5.tail = LX) := by
                    have := HAf.out
                    rw [Pr.after, hc] at this
                    exact this
                  have hmeas := hI9.went.2.meas.1
                  go_wp2_with fail
                  refine (take_yes [44] P L en r5 _ hI9.went.2 (by simp) hc).mono ?_
                  rintro e w10 ⟨rfl, hW10⟩
                  have hI10 := hI9.on hW10
                  clear hI9 hW10 HAf hc
                  generalize r5.tail = r6 at *
                  obtain ⟨c0, c1, c2, c3, c4, f1, f0⟩ := hI10.cells
                  go_upto_region 9 with fail
                  cases hL : Pr.lit en r6 with
                  | inl a =>
                    have HF : Hid (∀ e w', RuleEnd P L en w (.inl a) e w' → Q e w') := fun e w' h => HX2.out _ (by rw [← HL2.out, lits_no hL]) e w' h
                    have HN : Hid (∀ w1, At w1 P L en r6 → _) := fun w1 h => lit_any P L en r6 w1 h
                    rw [hL] at HN
                    go_region_dies
                    all_goals (refine Calls.mono (HN.out _ (At.keep hI10.went.2 (fun _ _ => rfl))) ?_)
                    all_goals rintro e y2 ⟨rfl, hg2⟩
                    all_goals exact ⟨rfl, HF.out _ _ ⟨rfl, gone hI10.went.1 hg2 ⟨rfl, rfl, rfl, Nat.le_refl _, fun _ _ => rfl⟩⟩⟩
                  | inr l2 =>
                    obtain ⟨l2, r7⟩ := l2
                    have hl7 : r7.length < r6.length := lit_len hL
                    have HA2 : Hid (Pr.after en f (q.map (·.1) ++ [l2]) r7 = LX) := (lits_yes hL).symm.trans HL2.out
                    have HN : Hid (∀ w1, At w1 P L en r6 → _) := fun w1 h => lit_any P L en r6 w1 h
                    rw [hL] at HN
                    clear hL HL2
                    go_region_law (first
                      | (go_simp; go_at_call 71; refine Calls.mono (HN.out _ (At.keep hI10.went.2 (fun _ _ => rfl))) ?_; rintro e y2 ⟨lv, rfl, hTl, hW2⟩; have hI2 := UInv.on2 hI10 hW2 ⟨rfl, rfl, rfl, Nat.le_refl _, fun _ _ => rfl⟩; have hTl2 := TermsP.mono (B' := B + 1) hTl hI10.sz; obtain ⟨aol, capl, hlv, hTl'⟩ := hTl; simp only [List.length_map] at hlv; subst hlv; obtain ⟨d0, d1, d2, d3, d4, g1, g0⟩ := hI2.cells; have hsz := hI2.sz; dsimp only)
                      | (refine step_append_lies _ rfl (.tmp 38) (.tmp 41) 44 rfl (B + 1) 50 i0 _ 5 64 Tryz.underlying44 hi hz0 hz1 hz2 rfl (by decide) (.slice aob q.length capb) q.length _ ?hs (UInv.below hI2 ((Below.refl _ _).alloc (Nat.le_refl _) _)).own ⟨y2.heap.size, 0, none⟩ 1 1 (litCells (l2, .slice aol l2.terms.length capl)) ?hx rfl ?hn ?ho ?hm ?h6 ?hb ?hB _ rfl ?_
                         case hs => simp [Act.eval]
                         case hx => simp [Act.eval]
                         case hn => exact news_lit _ _ _
                         case ho => exact one_lit _ _ _ _
                         case hm => decide
                         case h6 => (unfold maxLen; omega)
                         case hb => omega
                         case hB => (simp; omega)
                         intro g cap y3 hown hgrow hat hlt
                         have hI3 := UInv.put (UInv.below hI2 ((Below.refl _ _).alloc (Nat.le_refl _) _)) hgrow (hTl2.keep (keeps_below _ ((Below.refl _ _).alloc (Nat.le_refl _) _))) hown
                         obtain ⟨_, _, e4, ef⟩ := UInv.app (UInv.below hI2 ((Below.refl _ _).alloc (Nat.le_refl _) _)) hgrow))
                    all_goals go_wp2_with fail
                    all_goals go_roundw
                    all_goals first
                      | exact ⟨_, q ++ [(l2, _)], r7, f, hI3, by rw [List.length_append]; simp; omega, by omega, by simpa using HA2.out⟩
                      | (rw [hI3.went.2.meas.1, hmeas]; show r7.length < r5.length; omega)
      · obtain rfl : fo = 0 := eq_of_beq hf
        cases hq : Pr.isText en r2 [46]
        · have HX : Hid (∀ X, Pr.tailOf x.at_ x.text ts 0 en r2 = X → ∀ e w', RuleEnd P L en w X e w' → Q e w') := fun X hX e w' h => HS.out X (by rw [hf, hq]; exact hX) e w' h
          clear HS
          go_wp2_with fail
          refine (take_no [46] P L en r2 _ hI5.went.2 hq).mono ?_
          rintro e w6 ⟨rfl, hb6⟩
          have hI6 := hI5.below hb6
          clear hb6 hI5 hI4 hq
          cases hm : Pr.isText en r2 [58, 45]
          · have HF : Hid (∀ e w', RuleEnd P L en w (.inl (Pr.hd en r2).at_) e w' → Q e w') := fun e w' h => HX.out _ (by
              have : Pr.must [58, 45] en r2 = .inl (Pr.hd en r2).at_ := by unfold Pr.must; unfold Pr.isText at hm; rw [hm]; rfl
              rw [Pr.tailOf, this]) e w' h
            go_wp2_with fail
            refine (must_no [58, 45] P L en r2 _ hI6.went.2 hm).mono ?_
            rintro e w7 ⟨rfl, hb7⟩
            exact ⟨rfl, HF.out _ _ ⟨rfl, ground hI6.went.1 hb7⟩⟩
          · have HX2 : Hid (∀ X, (match Pr.lits en (r2.tail.length + 1) [] r2.tail with
                | .inl p => Sum.inl p
                | .inr b => match Pr.must [46] en b.2 with
                  | .inl p => .inl p
                  | .inr r2 => .inr ((⟨x.at_, x.text, ts, 0, b.1⟩ : Tr.Rule), r2)) = X → ∀ e w', RuleEnd P L en w X e w' → Q e w') := by
              intro X hX e w' h
              refine HX.out X ?_ e w' h
              rw [← hX]
              have : Pr.must [58, 45] en r2 = .inr r2.tail := by unfold Pr.must; unfold Pr.isText at hm; rw [hm]; rfl
              simp only [Pr.tailOf, this]
              cases Pr.lits en (r2.tail.length + 1) [] r2.tail with
              | inl a => rfl
              | inr b => cases h : Pr.must [46] en b.2 <;> simp only [h]
            have HM : Hid (∀ w1, At w1 P L en r2 → _) := fun w1 h => must_yes [58, 45] P L en r2 w1 h (by simp) hm
            generalize r2.tail = r3 at *
            clear HX hm
            go_wp2_with fail
            refine Calls.mono (HM.out _ hI6.went.2) ?_
            rintro e w7 ⟨rfl, hW7⟩
            have hI7 := hI6.on hW7
            clear hW7 HM hI6
            obtain ⟨c0, c1, c2, c3, c4, f1, f0⟩ := hI7.cells
            go_upto_region 7 with fail
            cases hL : Pr.lit en r3 with
            | inl a =>
              have HF : Hid (∀ e w', RuleEnd P L en w (.inl a) e w' → Q e w') := fun e w' h => HX2.out _ (by rw [lits_no hL]) e w' h
              have HN : Hid (∀ w1, At w1 P L en r3 → _) := fun w1 h => lit_any P L en r3 w1 h
              rw [hL] at HN
              go_region_dies
              all_goals (refine Calls.mono (HN.out _ (At.keep hI7.went.2 (fun _ _ => rfl))) ?_)
              all_goals rintro e y2 ⟨rfl, hg2⟩
              all_goals exact ⟨rfl, HF.out _ _ ⟨rfl, gone hI7.went.1 hg2 ⟨rfl, rfl, rfl, Nat.le_refl _, fun _ _ => rfl⟩⟩⟩
            | inr l1 =>
              obtain ⟨l1, r4⟩ := l1
              have hl4 : r4.length < r3.length := lit_len hL
              have hlits : Pr.lits en (r3.length + 1) [] r3 = Pr.after en r3.length [l1] r4 := lits_yes hL
              generalize hLX : Pr.lits en (r3.length + 1) [] r3 = LX at HX2
              rw [hlits] at hLX
              have HLX : Hid _ := hLX
              have HN : Hid (∀ w1, At w1 P L en r3 → _) := fun w1 h => lit_any P L en r3 w1 h
              rw [hL] at HN
              clear hL hlits hLX
              go_cut [] (fun wx => ∃ bv lv, UInv w wx B P L en r4 x.at_ x.text (.slice aot ts.length capt) ts 0 bv [(l1, lv)])
              case first =>
                go_region_law (first
                  | (go_simp; go_at_call 71; refine Calls.mono (HN.out _ (At.keep hI7.went.2 (fun _ _ => rfl))) ?_; rintro e y2 ⟨lv, rfl, hTl, hW2⟩; have hI2 := UInv.on2 hI7 hW2 ⟨rfl, rfl, rfl, Nat.le_refl _, fun _ _ => rfl⟩; have hTl2 := TermsP.mono (B' := B + 1) hTl hI7.sz; obtain ⟨aol, capl, hlv, hTl'⟩ := hTl; simp only [List.length_map] at hlv; subst hlv; obtain ⟨d0, d1, d2, d3, d4, g1, g0⟩ := hI2.cells; have hsz := hI2.sz; dsimp only)
                  | (refine step_append_lies _ rfl (.tmp 29) (.tmp 32) 44 rfl (B + 1) 50 i0 _ 5 64 Tryz.underlying44 hi hz0 hz1 hz2 rfl (by decide) (.slice none 0 0) 0 _ ?hs (UInv.below hI2 ((Below.refl _ _).alloc (Nat.le_refl _) _)).own ⟨y2.heap.size, 0, none⟩ 1 1 (litCells (l1, .slice aol l1.terms.length capl)) ?hx rfl ?hn ?ho ?hm ?h6 ?hb ?hB _ rfl ?_
                     case hs => simp [Act.eval]
                     case hx => simp [Act.eval]
                     case hn => exact news_lit _ _ _
                     case ho => exact one_lit _ _ _ _
                     case hm => decide
                     case h6 => decide
                     case hb => decide
                     case hB => (simp; omega)
                     intro g cap y3 hown hgrow hat hlt
                     have hI3 := UInv.put (UInv.below hI2 ((Below.refl _ _).alloc (Nat.le_refl _) _)) hgrow (hTl2.keep (keeps_below _ ((Below.refl _ _).alloc (Nat.le_refl _) _))) hown
                     obtain ⟨_, _, e4, ef⟩ := UInv.app (UInv.below hI2 ((Below.refl _ _).alloc (Nat.le_refl _) _)) hgrow))
                all_goals (go_wp2_with fail; go_meet)
                all_goals exact ⟨_, _, hI3⟩
              case rest =>
                obtain ⟨bv, lv, hI8⟩ := hcut
                obtain ⟨m1, m2, m3⟩ := hI7.went.2.meas
                clear c0 c1 c2 c3 c4 f1 f0 hI7 HN
                go_wp2_with fail
                go_loopw [] (fun wr => ∃ (bv : Value) (q : List (Tr.Lit × Value)) (r5 : List Tk.Tok) (f : Nat), UInv w wr B P L en r5 x.at_ x.text (.slice aot ts.length capt) ts 0 bv q ∧ q.length + r5.length ≤ L.length ∧ r5.length ≤ f ∧ Pr.after en f (q.map (·.1)) r5 = LX)
                  (fun wr => L.length - nxOf wr P)
                case atStart => exact ⟨bv, [(l1, lv)], r4, r3.length, hI8, by simp; omega, by omega, HLX.out⟩
                case round =>
                  obtain ⟨bv, q, r5, f, hI9, hlen, hrf, hAf⟩ := hrel
                  have HAf : Hid _ := hAf
                  obtain ⟨aob, capb, rfl⟩ := own_slice hI9.own
                  clear hAf hI8 HLX
                  cases hc : Pr.isText en r5 [44]
                  · have hLX2 : LX = .inr (q.map (·.1), r5) := by rw [← HAf.out, Pr.after, hc]; rfl
                    cases hd : Pr.isText en r5 [46]
                    · have HF : Hid (∀ e w', RuleEnd P L en w (.inl (Pr.hd en r5).at_) e w' → Q e w') := fun e w' h => HX2.out _ (by
                        have : Pr.must [46] en r5 = .inl (Pr.hd en r5).at_ := by unfold Pr.must; unfold Pr.isText at hd; rw [hd]; rfl
                        rw [hLX2]; simp only [this]) e w' h
                      clear hLX2 HX2 HAf
                      go_wp2_with fail
                      refine (take_no [44] P L en r5 _ hI9.went.2 hc).mono ?_
                      rintro e w10 ⟨rfl, hb10⟩
                      have hI10 := hI9.below hb10
                      go_wp2_with fail
                      refine (must_no [46] P L en r5 _ hI10.went.2 hd).mono ?_
                      rintro e w11 ⟨rfl, hb11⟩
                      exact ⟨rfl, HF.out _ _ ⟨rfl, ground hI10.went.1 hb11⟩⟩
                    · have HF : Hid (∀ e w', RuleEnd P L en w (.inr (⟨x.at_, x.text, ts, 0, q.map (·.1)⟩, r5.tail)) e w' → Q e w') := fun e w' h => HX2.out _ (by
                        have : Pr.must [46] en r5 = .inr r5.tail := by unfold Pr.must; unfold Pr.isText at hd; rw [hd]; rfl
                        rw [hLX2]; simp only [this]) e w' h
                      clear hLX2 HX2 HAf
                      go_wp2_with fail
                      refine (take_no [44] P L en r5 _ hI9.went.2 hc).mono ?_
                      rintro e w10 ⟨rfl, hb10⟩
                      have hI10 := hI9.below hb10
                      go_wp2_with fail
                      refine (must_yes [46] P L en r5 _ hI10.went.2 (by simp) hd).mono ?_
                      rintro e w11 ⟨rfl, hW11⟩
                      have hI11 := hI10.on hW11
                      obtain ⟨c0, c1, c2, c3, c4, f1, f0⟩ := hI11.cells
                      obtain ⟨x0, x1, x2, x3, x4⟩ := hI11.rcells
                      go_wp2
                      exact bodyPost_ret (v := ruleVal ⟨x.at_, x.text, ts, 0, q.map (·.1)⟩ (.slice aot ts.length capt) (.slice aob q.length capb)) (by simp [results, Tryz.results50, go_sem, x0, x1, x2, x3, x4]) rfl (HF.out _ _ ⟨_, _, rfl, hI11.out _ _ _ _ _⟩)
                  · have hl6 := text_len (by simp) hc
                    obtain ⟨f, rfl⟩ : ∃ f', f = f' + 1 := ⟨f - 1, by omega⟩
                    have HL2 : Hid (Pr.lits en (f + 1) (q.map (·.1)) r5.tail = LX) := by
                      have := HAf.out
                      rw [Pr.after, hc] at this
                      exact this
                    have hmeas := hI9.went.2.meas.1
                    go_wp2_with fail
                    refine (take_yes [44] P L en r5 _ hI9.went.2 (by simp) hc).mono ?_
                    rintro e w10 ⟨rfl, hW10⟩
                    have hI10 := hI9.on hW10
                    clear hI9 hW10 HAf hc
                    generalize r5.tail = r6 at *
                    obtain ⟨c0, c1, c2, c3, c4, f1, f0⟩ := hI10.cells
                    go_upto_region 9 with fail
                    cases hL : Pr.lit en r6 with
                    | inl a =>
                      have HF : Hid (∀ e w', RuleEnd P L en w (.inl a) e w' → Q e w') := fun e w' h => HX2.out _ (by rw [← HL2.out, lits_no hL]) e w' h
                      have HN : Hid (∀ w1, At w1 P L en r6 → _) := fun w1 h => lit_any P L en r6 w1 h
                      rw [hL] at HN
                      go_region_dies
                      all_goals (refine Calls.mono (HN.out _ (At.keep hI10.went.2 (fun _ _ => rfl))) ?_)
                      all_goals rintro e y2 ⟨rfl, hg2⟩
                      all_goals exact ⟨rfl, HF.out _ _ ⟨rfl, gone hI10.went.1 hg2 ⟨rfl, rfl, rfl, Nat.le_refl _, fun _ _ => rfl⟩⟩⟩
                    | inr l2 =>
                      obtain ⟨l2, r7⟩ := l2
                      have hl7 : r7.length < r6.length := lit_len hL
                      have HA2 : Hid (Pr.after en f (q.map (·.1) ++ [l2]) r7 = LX) := (lits_yes hL).symm.trans HL2.out
                      have HN : Hid (∀ w1, At w1 P L en r6 → _) := fun w1 h => lit_any P L en r6 w1 h
                      rw [hL] at HN
                      clear hL HL2
                      go_region_law (first
                        | (go_simp; go_at_call 71; refine Calls.mono (HN.out _ (At.keep hI10.went.2 (fun _ _ => rfl))) ?_; rintro e y2 ⟨lv, rfl, hTl, hW2⟩; have hI2 := UInv.on2 hI10 hW2 ⟨rfl, rfl, rfl, Nat.le_refl _, fun _ _ => rfl⟩; have hTl2 := TermsP.mono (B' := B + 1) hTl hI10.sz; obtain ⟨aol, capl, hlv, hTl'⟩ := hTl; simp only [List.length_map] at hlv; subst hlv; obtain ⟨d0, d1, d2, d3, d4, g1, g0⟩ := hI2.cells; have hsz := hI2.sz; dsimp only)
                        | (refine step_append_lies _ rfl (.tmp 38) (.tmp 41) 44 rfl (B + 1) 50 i0 _ 5 64 Tryz.underlying44 hi hz0 hz1 hz2 rfl (by decide) (.slice aob q.length capb) q.length _ ?hs (UInv.below hI2 ((Below.refl _ _).alloc (Nat.le_refl _) _)).own ⟨y2.heap.size, 0, none⟩ 1 1 (litCells (l2, .slice aol l2.terms.length capl)) ?hx rfl ?hn ?ho ?hm ?h6 ?hb ?hB _ rfl ?_
                           case hs => simp [Act.eval]
                           case hx => simp [Act.eval]
                           case hn => exact news_lit _ _ _
                           case ho => exact one_lit _ _ _ _
                           case hm => decide
                           case h6 => (unfold maxLen; omega)
                           case hb => omega
                           case hB => (simp; omega)
                           intro g cap y3 hown hgrow hat hlt
                           have hI3 := UInv.put (UInv.below hI2 ((Below.refl _ _).alloc (Nat.le_refl _) _)) hgrow (hTl2.keep (keeps_below _ ((Below.refl _ _).alloc (Nat.le_refl _) _))) hown
                           obtain ⟨_, _, e4, ef⟩ := UInv.app (UInv.below hI2 ((Below.refl _ _).alloc (Nat.le_refl _) _)) hgrow))
                      all_goals go_wp2_with fail
                      all_goals go_roundw
                      all_goals first
                        | exact ⟨_, q ++ [(l2, _)], r7, f, hI3, by rw [List.length_append]; simp; omega, by omega, by simpa using HA2.out⟩
                        | (rw [hI3.went.2.meas.1, hmeas]; show r7.length < r5.length; omega)
        · have HF : Hid (∀ e w', RuleEnd P L en w (.inr (⟨x.at_, x.text, ts, 0, []⟩, r2.tail)) e w' → Q e w') := fun e w' h => HS.out _ (by rw [hf, hq]; rfl) e w' h
          clear HS
          go_wp2_with fail
          refine (take_yes [46] P L en r2 _ hI5.went.2 (by simp) hq).mono ?_
          rintro e w6 ⟨rfl, hW6⟩
          have hI6 := hI5.on hW6
          clear c0 c1 c2 c3 c4 f1 f0
          obtain ⟨c0, c1, c2, c3, c4, f1, f0⟩ := hI6.cells
          obtain ⟨x0, x1, x2, x3, x4⟩ := hI6.rcells
          go_wp2
          exact bodyPost_ret (v := ruleVal ⟨x.at_, x.text, ts, 0, []⟩ (.slice aot ts.length capt) (.slice none 0 0)) (by simp [results, Tryz.results50, go_sem, x0, x1, x2, x3, x4]) rfl (HF.out _ _ ⟨_, _, rfl, hI6.out _ _ _ _ _⟩)

end Go.Proofs.YtclbbiocagkmcaaGreatDoor

/- The deferred function of parse. -/
namespace Go.Proofs.YtclbbiocagkmcaaGreatDoor
open Go.RowKit

set_option maxRecDepth 100000 in
set_option maxHeartbeats 400000 in
theorem catchP_idle (pt pa pe : Addr) (w : World) :
    CallsD Tryz.prog 49 #[.pointer (some pt), .pointer (some pa), .pointer (some pe)] .returning w fun e u' w' => e = .returned (.tuple #[]) ∧ u' = .returning ∧ w' = w := by
  refine callsD_of_wpS Tryz.func49 rfl fun c₀ cs hu => ?_
  apply wpS_seq
  apply wpS_region
  simp [wpOpsS, go_sem, recoverD, hu, Tryz.ntmps49, Exit.thenS]
  refine wpS_of_wp ?_
  rw [show (#[Value.pointer (some pt), Value.pointer (some pa), Value.pointer (some pe)] ++ ((Array.replicate 7 undef).setIfInBounds 1 Value.nilIface).setIfInBounds 0 Value.nilIface) = #[.pointer (some pt), .pointer (some pa), .pointer (some pe), .nilIface, .nilIface, undef, undef, undef, undef, undef] from rfl]
  go_wp2
  refine ⟨rfl, .returning, ?_, .tuple #[], ?_, rfl, rfl, rfl⟩
  · rw [← hu]
  · simp [results, Tryz.results49]

set_option maxRecDepth 100000 in
set_option maxHeartbeats 400000 in
theorem catchP_panicking (bt ba be B : Nat) (tv av ev : Value) (a : Int) (older : List PanicEntry) (w : World)
    (ht : w.cell? ⟨bt, 0, none⟩ = some tv) (ft : w.frozen? ⟨bt, 0, none⟩ = false) (ha : w.cell? ⟨ba, 0, none⟩ = some av) (fa : w.frozen? ⟨ba, 0, none⟩ = false)
    (he : w.cell? ⟨be, 0, none⟩ = some ev) (fe : w.frozen? ⟨be, 0, none⟩ = false) (hB1 : B ≤ bt) (hB2 : bt < ba) (hB3 : ba < be) :
    CallsD Tryz.prog 49 #[.pointer (some ⟨bt, 0, none⟩), .pointer (some ⟨ba, 0, none⟩), .pointer (some ⟨be, 0, none⟩)] (.panicking ({ v := .iface 87 (.int .i64 a), recovered := false } :: older)) w fun e u' w' =>
      e = .returned (.tuple #[]) ∧ u' = .panicking ({ v := .iface 87 (.int .i64 a), recovered := true } :: older) ∧
      w'.cell? ⟨bt, 0, none⟩ = some (.slice none 0 0) ∧ w'.cell? ⟨ba, 0, none⟩ = some (.int .i64 a) ∧ w'.cell? ⟨be, 0, none⟩ = some (.int .i64 1) ∧ Below B w w' := by
  have hta : ∀ w : World, (Instr.typeAssert (.iface 87 (.int .i64 a)) 20 87 false).run Tryz.prog w = .ok (.int .i64 a) w := fun _ => by kernel_rfl
  refine callsD_of_wpS Tryz.func49 rfl fun c₀ cs hu => ?_
  apply wpS_seq
  apply wpS_region
  simp [wpOpsS, go_sem, recoverD, hu, Tryz.ntmps49, Exit.thenS]
  refine wpS_of_wp ?_
  rw [show (#[Value.pointer (some { block := bt, off := 0 }), Value.pointer (some { block := ba, off := 0 }), Value.pointer (some { block := be, off := 0 })] ++
          ((Array.replicate 7 undef).setIfInBounds 1 (Value.iface 87 (Value.int IntKind.i64 a))).setIfInBounds 0 (Value.iface 87 (Value.int IntKind.i64 a))) =
        #[Value.pointer (some { block := bt, off := 0 }), Value.pointer (some { block := ba, off := 0 }), Value.pointer (some { block := be, off := 0 }), (Value.iface 87 (Value.int IntKind.i64 a)), (Value.iface 87 (Value.int IntKind.i64 a)), undef, undef, undef, undef, undef] from rfl]
  have hne : ¬ bt = ba := by omega
  have hne' : ¬ ba = bt := by omega
  have hne2 : ¬ bt = be := by omega
  have hne2' : ¬ be = bt := by omega
  have hne3 : ¬ ba = be := by omega
  have hne3' : ¬ be = ba := by omega
  go_wp2
  go_region
  refine ⟨rfl, _, rfl, .tuple #[], ?_, rfl, rfl, ?_, ?_, ?_, ?_⟩
  · simp [results, Tryz.results49]
  · simp [go_sem, ht]
  · simp [go_sem, ha]
  · simp [go_sem, he]
  · exact ((((Below.refl _ _).setCell (p := ⟨bt, 0, none⟩) hB1 _).setCell (p := ⟨ba, 0, none⟩) (show B ≤ ba by omega) _).setCell (p := ⟨be, 0, none⟩) (show B ≤ be by omega) _).drew

end Go.Proofs.YtclbbiocagkmcaaGreatDoor

/- The parser, whole. -/
namespace Go.Proofs.YtclbbiocagkmcaaGreatDoor
open Go.RowKit

/-- What parse leaves. -/
def ParseEnd (L : List Tk.Tok) (en : Int) (w : World) (e : Ending) (w' : World) : Prop := match Pr.rules en L.length [] L with
  | .inl a => e = .returned (.tuple #[.agg #[.slice none 0 0], .int .i64 a, .int .i64 1]) ∧ Below w.heap.size w w'
  | .inr t => ∃ v, e = .returned (.tuple #[.agg #[v], .int .i64 0, .int .i64 0]) ∧ RulesP w.heap.size w' v t ∧ Below w.heap.size w w'

/-- parse under way: its results' blocks, the parser's, the rules so far. -/
structure PInv (w wr : World) (L : List Tk.Tok) (en : Int) (r : List Tk.Tok) (v : Value) (q : List (Tr.Rule × Value × Value)) : Prop where
  bel : Below w.heap.size w wr
  tre : wr.heap[w.heap.size]? = some (.cells #[v] 24)
  plc : wr.heap[w.heap.size + 1]? = some (.cells #[.int .i64 0] 3)
  err : wr.heap[w.heap.size + 2]? = some (.cells #[.int .i64 0] 25)
  par : At wr (w.heap.size + 3) L en r
  own : wr.ownsRow (w.heap.size + 4) 46 5 v q.length (q.map ruleCells).flatten
  rls : ∀ p, p ∈ q → TermsP (w.heap.size + 4) wr p.2.1 p.1.terms ∧ LitsP (w.heap.size + 4) wr p.2.2 p.1.body

section
variable {w wr w' wr' : World} {L : List Tk.Tok} {en : Int} {r r' : List Tk.Tok} {v : Value} {q : List (Tr.Rule × Value × Value)}
theorem PInv.sz (h : PInv w wr L en r v q) : w.heap.size + 4 ≤ wr.heap.size := h.par.lt
theorem below_grown {B P : Nat} {a b c : World} (h : Below B a b) (hg : b.grownBy c (some P)) (hP : B ≤ P) (hs : B ≤ b.heap.size) : Below B a c :=
  ⟨hg.os.trans h.os, hg.tape.trans h.tape, hg.output.trans h.output, Nat.le_trans h.size hg.size, fun k hk => (hg.block k (by omega) (by intro e; injection e; omega)).trans (h.block k hk)⟩
theorem PInv.on (h : PInv w wr L en r v q) (hW : Went wr w' (w.heap.size + 3) L en r') : PInv w w' L en r' v q := by
  have hs := h.sz
  exact { bel := below_grown h.bel hW.1 (by omega) (by omega)
          tre := (hW.1.block _ (heap_lt h.tre) (by intro e; injection e; omega)).trans h.tre
          plc := (hW.1.block _ (heap_lt h.plc) (by intro e; injection e; omega)).trans h.plc
          err := (hW.1.block _ (heap_lt h.err) (by intro e; injection e; omega)).trans h.err
          par := hW.2
          own := ownsRow_grown h.own hW.1 (by omega)
          rls := fun p hp => ⟨(h.rls p hp).1.keep (keeps_grown _ hW.1 (by omega)), (h.rls p hp).2.keep (keeps_grown _ hW.1 (by omega))⟩ }
theorem PInv.below (h : PInv w wr L en r v q) (hb : Below wr.heap.size wr w') : PInv w w' L en r v q := h.on ⟨grownBy_of_below hb _, h.par.below hb⟩
theorem PInv.on2 (h : PInv w wr L en r v q) (hW : Went wr' w' (w.heap.size + 3) L en r') (hb : Below wr.heap.size wr wr') : PInv w w' L en r' v q := (h.below hb).on hW
theorem PInv.cells (h : PInv w wr L en r v q) : wr.cell? ⟨w.heap.size, 0, none⟩ = some v ∧ wr.cell? ⟨w.heap.size + 1, 0, none⟩ = some (.int .i64 0) ∧ wr.cell? ⟨w.heap.size + 2, 0, none⟩ = some (.int .i64 0) ∧
    wr.frozen? ⟨w.heap.size, 0, none⟩ = false ∧ wr.frozen? ⟨w.heap.size + 1, 0, none⟩ = false ∧ wr.frozen? ⟨w.heap.size + 2, 0, none⟩ = false :=
  ⟨by rw [Lib.cell_of_heap h.tre]; rfl, by rw [Lib.cell_of_heap h.plc]; rfl, by rw [Lib.cell_of_heap h.err]; rfl, by simp [World.frozen?, h.tre], by simp [World.frozen?, h.plc], by simp [World.frozen?, h.err]⟩
theorem PInv.app {w3 : World} (h : PInv w wr L en r v q) (hg : wr.grownBy w3 v.ownBlock) : w3.cell? ⟨w.heap.size, 0, none⟩ = some v ∧ w3.frozen? ⟨w.heap.size, 0, none⟩ = false := by
  have e1 := (hg.block _ (heap_lt h.tre) (fun he => by have := (h.own.lt _ he.symm).1; omega)).trans h.tre
  exact ⟨by rw [Lib.cell_of_heap e1]; rfl, by simp [World.frozen?, e1]⟩
theorem PInv.put {w3 : World} {v' : Value} {p : Tr.Rule × Value × Value} (h : PInv w wr L en r v q) (hg : wr.grownBy w3 v.ownBlock) (hT : TermsP (w.heap.size + 4) wr p.2.1 p.1.terms) (hL : LitsP (w.heap.size + 4) wr p.2.2 p.1.body)
    (hown : w3.ownsRow (w.heap.size + 4) 46 5 v' (q.length + 1) ((q.map ruleCells).flatten ++ ruleCells p)) : PInv w (w3.setCell ⟨w.heap.size, 0, none⟩ v') L en r v' (q ++ [p]) := by
  have hs := h.sz
  have hne : ∀ i, i < w.heap.size + 4 → some i ≠ v.ownBlock := fun i hi he => by have := (h.own.lt i he.symm).1; omega
  have hk : Keeps (w.heap.size + 4) wr w3 (fun e => e = 57 ∨ e = 50) := keeps_own hg h.own (by decide)
  have e1 := (hg.block _ (heap_lt h.tre) (hne _ (by omega))).trans h.tre
  exact { bel := (h.bel.grown hg (by omega) (fun k hk => by have := (h.own.lt k hk).1; omega)).setCell (p := ⟨w.heap.size, 0, none⟩) (Nat.le_refl _) _
          tre := by simp [World.setCell, Array.getElem?_modify, e1]
          plc := (Below.heap_setCell _ _ _ _ (show ¬ w.heap.size + 1 = w.heap.size by omega)).trans ((hg.block _ (heap_lt h.plc) (hne _ (by omega))).trans h.plc)
          err := (Below.heap_setCell _ _ _ _ (show ¬ w.heap.size + 2 = w.heap.size by omega)).trans ((hg.block _ (heap_lt h.err) (hne _ (by omega))).trans h.err)
          par := h.par.keep2 fun k hk => (Below.heap_setCell _ _ _ _ (show ¬ k = w.heap.size by omega)).trans (hg.block k (by omega) (hne k (by omega)))
          own := ownsRow_setCell_below (by simpa using hown) (by simp) _
          rls := by
            intro p' hp'
            rw [List.mem_append, List.mem_singleton] at hp'
            rcases hp' with hp' | rfl
            · exact ⟨((h.rls p' hp').1.keep (hk.mono fun _ h => .inl h)).keep (keeps_set _ (by omega) _ _), ((h.rls p' hp').2.keep hk).keep (keeps_set _ (by omega) _ _)⟩
            · exact ⟨(hT.keep (hk.mono fun _ h => .inl h)).keep (keeps_set _ (by omega) _ _), (hL.keep hk).keep (keeps_set _ (by omega) _ _)⟩ }
end

end Go.Proofs.YtclbbiocagkmcaaGreatDoor

/- The parser, whole: its loop. -/
namespace Go.Proofs.YtclbbiocagkmcaaGreatDoor
open Go.RowKit

theorem A_info43 : (Tryz.prog.info? 46).map (fun i => (i.zero, i.size, i.bytes)) = some (some (.agg #[.int .i64 0, .string ⟨#[]⟩, .slice none 0 0, .int .i64 0, .slice none 0 0]), 5, 80) := by kernel_rfl
theorem news_rule (w : World) (x : Tr.Rule) (v u : Value) : ∀ j y, (ruleCells (x, v, u))[j]? = some y → (w.alloc (.cells #[.int .i64 x.at_, .string ⟨x.name.toArray⟩, v, .int .i64 x.fold, u] 46)).cell? ((⟨w.heap.size, 0, none⟩ : Addr).add j) = some y := World.news_of_block (heap_alloc_new w _)
theorem one_rule (x : Tr.Rule) (ao : Option Addr) (n c : Nat) (bo : Option Addr) (m d : Nat) : ∀ u ∈ ruleCells (x, .slice ao n c, .slice bo m d), u.oneCell' = true := by intro u hu; simp [ruleCells] at hu; rcases hu with rfl | rfl | rfl | rfl | rfl <;> rfl

theorem PInv.start {w : World} {L : List Tk.Tok} {en : Int} {ao : Option Addr} {cap : Nat} (hT : ToksAt w ao L) (hF : Fit L) :
    PInv w ((((w.alloc (.cells #[.slice none 0 0] 24)).alloc (.cells #[.int .i64 0] 3)).alloc (.cells #[.int .i64 0] 25)).alloc (.cells #[.slice ao L.length cap, .int .i64 0, .int .i64 en] 90)) L en L (.slice none 0 0) [] := by
  have b1 := (Below.refl w.heap.size w).alloc (Nat.le_refl _) (.cells #[.slice none 0 0] 24)
  have b2 := b1.alloc (by simp) (.cells #[.int .i64 0] 3)
  have b3 := b2.alloc (by simp; omega) (.cells #[.int .i64 0] 25)
  have b4 := b3.alloc (by simp; omega) (.cells #[.slice ao L.length cap, .int .i64 0, .int .i64 en] 90)
  have old : ∀ (u : World) (o x : Obj) (k : Nat), u.heap[k]? = some x → (u.alloc o).heap[k]? = some x := fun u o x k hk => (((Below.refl u.heap.size u).alloc (Nat.le_refl _) o).block k (heap_lt hk)).trans hk
  exact { bel := b4
          tre := old _ _ _ _ (old _ _ _ _ (old _ _ _ _ (heap_alloc_new w _)))
          plc := old _ _ _ _ (old _ _ _ _ (by have := heap_alloc_new (w.alloc (.cells #[.slice none 0 0] 24)) (.cells #[.int .i64 0] 3); simpa using this))
          err := old _ _ _ _ (by have := heap_alloc_new ((w.alloc (.cells #[.slice none 0 0] 24)).alloc (.cells #[.int .i64 0] 3)) (.cells #[.int .i64 0] 25); simpa using this)
          par := by
            refine ⟨0, Nat.zero_le _, rfl, hF, ao, cap, by have := heap_alloc_new (((w.alloc (.cells #[.slice none 0 0] 24)).alloc (.cells #[.int .i64 0] 3)).alloc (.cells #[.int .i64 0] 25)) (.cells #[.slice ao L.length cap, .int .i64 0, .int .i64 en] 90); simpa using this, ?_⟩
            rcases hT with h | ⟨b, off, rfl, hc⟩
            · exact .inl h
            · cases L with
              | nil => exact .inl rfl
              | cons t l =>
                refine .inr ⟨b, off, rfl, ?_, fun i hi => ⟨cell_below b4 (hc i hi).1, cell_below b4 (hc i hi).2.1, cell_below b4 (hc i hi).2.2⟩⟩
                have : b < w.heap.size := World.block_lt_of_cell? w _ (hc 0 (by simp)).1
                show b + 3 < w.heap.size + 3
                omega
          own := World.ownsRow_nil _ _ _ _
          rls := fun p hp => absurd hp (by simp) }

/-- Where parse gives up: what its deferred function leaves. -/
theorem parse_gives {w wr wr' w1 : World} {L : List Tk.Tok} {en : Int} {r : List Tk.Tok} {v : Value} {q : List (Tr.Rule × Value × Value)} (h : PInv w wr L en r v q) (hg : wr'.grownBy w1 (some (w.heap.size + 3))) (hb : Below wr.heap.size wr wr') (a : Int) (hX : Pr.rules en L.length [] L = .inl a) (tmps : Array Value)
    (h4 : tmps[4]? = some (.pointer (some ⟨w.heap.size, 0, none⟩))) (h5 : tmps[5]? = some (.pointer (some ⟨w.heap.size + 1, 0, none⟩))) (h6 : tmps[6]? = some (.pointer (some ⟨w.heap.size + 2, 0, none⟩))) :
    Leaves Tryz.prog Tryz.f27 tmps (ParseEnd L en w) [{ target := .fn (.func 49) #[.pointer (some ⟨w.heap.size, 0, none⟩), .pointer (some ⟨w.heap.size + 1, 0, none⟩), .pointer (some ⟨w.heap.size + 2, 0, none⟩)], args := #[] }]
      (.panicking [{ v := .iface 87 (.int .i64 a), recovered := false }]) w1 := by
  obtain ⟨d0, d1, d2, g0, g1, g2⟩ := (h.below hb).cells
  have hs := (h.below hb).sz
  have k0 := grownBy_cell hg (show ¬ w.heap.size = w.heap.size + 3 by omega) d0
  have k1 := grownBy_cell hg (show ¬ w.heap.size + 1 = w.heap.size + 3 by omega) d1
  have k2 := grownBy_cell hg (show ¬ w.heap.size + 2 = w.heap.size + 3 by omega) d2
  have z0 := (grownBy_frozen (o := 0) hg (show ¬ w.heap.size = w.heap.size + 3 by omega) (by omega)).trans g0
  have z1 := (grownBy_frozen (o := 0) hg (show ¬ w.heap.size + 1 = w.heap.size + 3 by omega) (by omega)).trans g1
  have z2 := (grownBy_frozen (o := 0) hg (show ¬ w.heap.size + 2 = w.heap.size + 3 by omega) (by omega)).trans g2
  refine leaves_cons (f := 49) (args := #[.pointer (some ⟨w.heap.size, 0, none⟩), .pointer (some ⟨w.heap.size + 1, 0, none⟩), .pointer (some ⟨w.heap.size + 2, 0, none⟩)]) (by simp) (by simp [go_sem]) ?_
  refine (catchP_panicking w.heap.size (w.heap.size + 1) (w.heap.size + 2) w.heap.size _ _ _ a [] w1 k0 z0 k1 z1 k2 z2 (Nat.le_refl _) (by omega) (by omega)).mono ?_
  rintro e u' w2 ⟨rfl, rfl, y0, y1, y2, hb2⟩
  have hres : (results Tryz.f27 tmps).run Tryz.prog w2 = .ok (.tuple #[.agg #[.slice none 0 0], .int .i64 a, .int .i64 1]) w2 := by
    simp [results, Tryz.results27, go_sem, h4, h5, h6, y0, y1, y2]
  refine ⟨_, hres, ?_⟩
  unfold ParseEnd
  rw [hX]
  exact ⟨rfl, (below_grown (h.below hb).bel hg (by omega) (by omega)).trans hb2⟩

end Go.Proofs.YtclbbiocagkmcaaGreatDoor

/- The parser, whole: its loop. -/
namespace Go.Proofs.YtclbbiocagkmcaaGreatDoor
open Go.RowKit

theorem lits_len (en : Int) : ∀ (f : Nat) (acc : List Tr.Lit) (r : List Tk.Tok) (x : List Tr.Lit × List Tk.Tok), Pr.lits en f acc r = .inr x → x.2.length < r.length := by
  intro f
  induction f with
  | zero => intro acc r x h; simp [Pr.lits] at h
  | succ f ih =>
    intro acc r x h
    cases hT : Pr.lit en r with
    | inl a => rw [lits_no hT] at h; simp at h
    | inr y =>
      have hl := lit_len hT
      rw [lits_yes hT] at h
      unfold Pr.after at h
      split at h
      · have := ih _ _ _ h
        have h2 : y.2.tail.length ≤ y.2.length := by simp
        omega
      · simp only [Sum.inr.injEq] at h
        subst h
        exact hl
theorem tailOf_len {at_ : Int} {nm : List UInt8} {l : List Tr.Term} {fo en : Int} {r : List Tk.Tok} {x : Tr.Rule × List Tk.Tok} (h : Pr.tailOf at_ nm l fo en r = .inr x) : x.2.length < r.length := by
  unfold Pr.tailOf at h
  cases hm : Pr.must [58, 45] en r with
  | inl a => rw [hm] at h; simp at h
  | inr r1 =>
    rw [hm] at h
    have h1 := must_len (by simp) hm
    simp only at h
    cases hM : Pr.lits en (r1.length + 1) [] r1 with
    | inl a => rw [hM] at h; simp at h
    | inr y =>
      rw [hM] at h
      have h2 := lits_len _ _ _ _ _ hM
      simp only at h
      cases hm2 : Pr.must [46] en y.2 with
      | inl a => rw [hm2] at h; simp at h
      | inr r3 =>
        rw [hm2] at h
        have h3 := must_len (by simp) hm2
        simp only [Sum.inr.injEq] at h
        subst h
        show r3.length < r.length
        omega
theorem rule_len {en : Int} {r : List Tk.Tok} {x : Tr.Rule × List Tk.Tok} (h : Pr.rule en r = .inr x) : x.2.length < r.length := by
  unfold Pr.rule at h
  cases hn : Pr.name en r with
  | inl a => rw [hn] at h; simp at h
  | inr y =>
    rw [hn] at h
    have h1 := name_len hn
    simp only at h
    cases hT : Pr.terms true en y.2 with
    | inl a => rw [hT] at h; simp at h
    | inr z =>
      rw [hT] at h
      have h2 := terms_len hT
      simp only at h
      split at h
      · simp only [Sum.inr.injEq] at h
        subst h
        have : z.2.tail.length ≤ z.2.length := by simp
        show z.2.tail.length < r.length
        omega
      · have := tailOf_len h
        omega

theorem rules_step {en : Int} {f : Nat} {acc : List Tr.Rule} {r : List Tk.Tok} (h : ¬ r = []) : Pr.rules en (f + 1) acc r = match Pr.rule en r with
    | .inl a => .inl a
    | .inr x => Pr.rules en f (acc ++ [x.1]) x.2 := by
  cases r with
  | nil => exact absurd rfl h
  | cons t l =>
    rw [Pr.rules]
    cases Pr.rule en (t :: l) <;> rfl

/-- Where parse comes to the tokens' end. -/
theorem parse_done {w wr : World} {L : List Tk.Tok} {en : Int} {r : List Tk.Tok} {v : Value} {q : List (Tr.Rule × Value × Value)} (h : PInv w wr L en r v q) (hX : Pr.rules en L.length [] L = .inr (q.map (·.1))) (tmps : Array Value)
    (h4 : tmps[4]? = some (.pointer (some ⟨w.heap.size, 0, none⟩))) (h5 : tmps[5]? = some (.pointer (some ⟨w.heap.size + 1, 0, none⟩))) (h6 : tmps[6]? = some (.pointer (some ⟨w.heap.size + 2, 0, none⟩))) :
    Leaves Tryz.prog Tryz.f27 tmps (ParseEnd L en w) [{ target := .fn (.func 49) #[.pointer (some ⟨w.heap.size, 0, none⟩), .pointer (some ⟨w.heap.size + 1, 0, none⟩), .pointer (some ⟨w.heap.size + 2, 0, none⟩)], args := #[] }]
      .returning (((wr.setCell ⟨w.heap.size, 0, none⟩ v).setCell ⟨w.heap.size + 1, 0, none⟩ (.int .i64 0)).setCell ⟨w.heap.size + 2, 0, none⟩ (.int .i64 0)) := by
  have hs := h.sz
  obtain ⟨c0, c1, c2, _, _, _⟩ := h.cells
  refine leaves_cons (f := 49) (args := #[.pointer (some ⟨w.heap.size, 0, none⟩), .pointer (some ⟨w.heap.size + 1, 0, none⟩), .pointer (some ⟨w.heap.size + 2, 0, none⟩)]) (by simp) (by simp [go_sem]) ?_
  refine (catchP_idle _ _ _ _).mono ?_
  rintro e u' w2 ⟨rfl, rfl, rfl⟩
  have hres : (results Tryz.f27 tmps).run Tryz.prog (((wr.setCell ⟨w.heap.size, 0, none⟩ v).setCell ⟨w.heap.size + 1, 0, none⟩ (.int .i64 0)).setCell ⟨w.heap.size + 2, 0, none⟩ (.int .i64 0)) =
      .ok (.tuple #[.agg #[v], .int .i64 0, .int .i64 0]) (((wr.setCell ⟨w.heap.size, 0, none⟩ v).setCell ⟨w.heap.size + 1, 0, none⟩ (.int .i64 0)).setCell ⟨w.heap.size + 2, 0, none⟩ (.int .i64 0)) := by
    simp [results, Tryz.results27, go_sem, h4, h5, h6, c0, c1, c2]
  refine ⟨_, hres, ?_⟩
  unfold ParseEnd
  rw [hX]
  have hk : ∀ K, Keeps (w.heap.size + 4) wr (((wr.setCell ⟨w.heap.size, 0, none⟩ v).setCell ⟨w.heap.size + 1, 0, none⟩ (.int .i64 0)).setCell ⟨w.heap.size + 2, 0, none⟩ (.int .i64 0)) K := fun K => ((keeps_set _ (by omega) _ _).trans (keeps_set _ (by omega) _ _)).trans (keeps_set _ (by omega) _ _)
  refine ⟨v, rfl, ⟨q, rfl, RowP.mono (RowP.keep (rowP_own (by intro c hc; simp at hc; obtain ⟨x, y, z, _, rfl⟩ := hc; rfl) (by rw [List.length_map]; exact h.own)) (hk (· = 46)) rfl) (by omega), fun p hp => ⟨((h.rls p hp).1.keep (hk _)).mono (by omega), ((h.rls p hp).2.keep (hk _)).mono (by omega)⟩⟩, ?_⟩
  exact ((h.bel.setCell (p := ⟨w.heap.size, 0, none⟩) (Nat.le_refl _) _).setCell (p := ⟨w.heap.size + 1, 0, none⟩) (Nat.le_succ _) _).setCell (p := ⟨w.heap.size + 2, 0, none⟩) (show w.heap.size ≤ w.heap.size + 2 by omega) _

set_option maxRecDepth 100000 in
set_option maxHeartbeats 4000000 in
theorem parse_any (L : List Tk.Tok) (en : Int) (ao : Option Addr) (cap : Nat) (w : World) (hT : ToksAt w ao L) (hF : Fit L) :
    Calls Tryz.prog 27 #[.slice ao L.length cap, .int .i64 en] w (ParseEnd L en w) := by
  obtain ⟨i0, hi, hz0, hz1, hz2⟩ := info_parts A_info43
  have hmf : ∀ (fn : Fn) (first cap : Array Value) (w : World), (Instr.makeFunc fn first cap).run Tryz.prog w = .ok (.func fn first cap) w := fun _ _ _ _ => rfl
  have hst := PInv.start (en := en) (cap := cap) hT hF
  have HQ : Hid (∀ X, Pr.rules en L.length [] L = X → ∀ e w', (match X with
      | .inl a => e = .returned (.tuple #[.agg #[.slice none 0 0], .int .i64 a, .int .i64 1]) ∧ Below w.heap.size w w'
      | .inr t => ∃ v, e = .returned (.tuple #[.agg #[v], .int .i64 0, .int .i64 0]) ∧ RulesP w.heap.size w' v t ∧ Below w.heap.size w w') → ParseEnd L en w e w') := by
    rintro X rfl e w' h; exact h
  go_enter_defers Tryz.func27, Tryz.ntmps27
  go_wp2_with fail
  generalize (((w.alloc (.cells #[.slice none 0 0] 24)).alloc (.cells #[.int .i64 0] 3)).alloc (.cells #[.int .i64 0] 25)).alloc (.cells #[.slice ao L.length cap, .int .i64 0, .int .i64 en] 90) = w0 at *
  clear hT
  go_loopw [] (fun wr => ∃ (v : Value) (q : List (Tr.Rule × Value × Value)) (r : List Tk.Tok) (f : Nat), PInv w wr L en r v q ∧ q.length + r.length ≤ L.length ∧ r.length ≤ f ∧ Pr.rules en f (q.map (·.1)) r = Pr.rules en L.length [] L)
    (fun wr => L.length - nxOf wr (w.heap.size + 3))
  case atStart => exact ⟨.slice none 0 0, [], L, L.length, hst, by simp, Nat.le_refl _, rfl⟩
  case round =>
    obtain ⟨v, q, r, f, hI, hlen, hrf, hX⟩ := hrel
    have HX : Hid _ := hX
    obtain ⟨aov, capv, rfl⟩ := own_slice hI.own
    clear hX hst
    have hm3 := hF.1
    have hmeas := hI.par.meas.1
    obtain ⟨nx, h1, hdr, hF', ao', cap', hbk, hT'⟩ := hI.par
    have q0 : wr.cell? ⟨w.heap.size + 3, 0, none⟩ = some (.slice ao' L.length cap') := by rw [Lib.cell_of_heap hbk]; rfl
    have q1 : wr.cell? ⟨w.heap.size + 3, 1, none⟩ = some (.int .i64 nx) := by rw [Lib.cell_of_heap hbk]; rfl
    clear hbk hT' hF'
    by_cases hlt : nx < L.length
    · have hdc : decide ((nx : Int) < (L.length : Int)) = true := decide_eq_true (by omega)
      have hne : ¬ r = [] := by
        rintro rfl
        have := congrArg List.length hdr
        simp at this
        omega
      obtain ⟨f, rfl⟩ : ∃ f', f = f' + 1 := by
        cases r with
        | nil => exact absurd rfl hne
        | cons t l => exact ⟨f - 1, by simp at hrf; omega⟩
      have hstep := rules_step (en := en) (f := f) (acc := q.map (·.1)) hne
      have HX1 : Hid _ := hstep.symm.trans HX.out
      clear hstep HX hdr
      go_wp2_with fail
      go_quiet (fail)
      go_upto_region 4 with fail
      replace hI : PInv w (wr.drewN nq) L en r (.slice aov q.length capv) q := hI.below ⟨rfl, rfl, rfl, Nat.le_refl _, fun _ _ => rfl⟩
      replace hmeas : L.length - nxOf wr (w.heap.size + 3) = r.length := hmeas
      generalize wr.drewN nq = wq at *
      clear q0 q1
      obtain ⟨c0, c1, c2, f0, f1, f2⟩ := hI.cells
      cases hR : Pr.rule en r with
      | inl a =>
        have hXa : Pr.rules en L.length [] L = .inl a := by rw [← HX1.out, hR]
        have HN : Hid (∀ w1, At w1 (w.heap.size + 3) L en r → _) := fun w1 h => rule_any (w.heap.size + 3) L en r w1 h
        rw [hR] at HN
        have HG : Hid _ := hXa
        clear hXa HX1 HQ
        first | go_region_dies | fail
        all_goals (refine Calls.mono (HN.out _ (At.keep hI.par (fun _ _ => rfl))) ?_)
        all_goals rintro e y2 ⟨rfl, hg2⟩
        all_goals go_wp2_with fail
        all_goals refine parse_gives hI hg2 ⟨rfl, rfl, rfl, Nat.le_refl _, fun _ _ => rfl⟩ a HG.out _ rfl rfl rfl
      | inr x =>
        obtain ⟨u1, r2⟩ := x
        have HX2 : Hid (Pr.rules en f (q.map (·.1) ++ [u1]) r2 = Pr.rules en L.length [] L) := by
          have := HX1.out
          rw [hR] at this
          exact this
        have hl2 : r2.length < r.length := rule_len hR
        have HN : Hid (∀ w1, At w1 (w.heap.size + 3) L en r → _) := fun w1 h => rule_any (w.heap.size + 3) L en r w1 h
        rw [hR] at HN
        clear hR HX1 HQ
        refine wp_region_noPanic ?_
        go_region_law (first
          | (go_simp; go_at_call 50; refine Calls.mono (HN.out _ (At.keep hI.par (fun _ _ => rfl))) ?_; rintro e y2 ⟨tv, uv, rfl, hTt, hTl, hW2⟩; have hI2 := PInv.on2 hI hW2 ⟨rfl, rfl, rfl, Nat.le_refl _, fun _ _ => rfl⟩; have hTt2 := TermsP.mono (B' := w.heap.size + 4) hTt hI.sz; have hTl2 := LitsP.mono (B' := w.heap.size + 4) hTl hI.sz; obtain ⟨aot, capt, htv, hTt'⟩ := hTt; simp only [List.length_map] at htv; subst htv; obtain ⟨qq, hqq, ⟨aol, capl, hlv, hTl'⟩, hqt⟩ := hTl; simp only [List.length_map] at hlv; subst hlv; obtain ⟨d0, d1, d2, g0, g1, g2⟩ := hI2.cells; have hsz := hI2.sz; have hsz1 : w.heap.size < y2.heap.size := Nat.lt_of_lt_of_le (Nat.lt_add_of_pos_right (by decide)) hsz; dsimp only)
          | (refine step_append_lies _ rfl (.tmp 24) (.tmp 27) 22 rfl (w.heap.size + 4) 46 i0 _ 5 80 Tryz.underlying22 hi hz0 hz1 hz2 rfl (by decide) (.slice aov q.length capv) q.length _ ?hs (PInv.below hI2 ((Below.refl _ _).alloc (Nat.le_refl _) _)).own ⟨y2.heap.size, 0, none⟩ 1 1 (ruleCells (u1, .slice aot u1.terms.length capt, .slice aol qq.length capl)) ?hx rfl ?hn ?ho ?hm ?h6 ?hb ?hB _ rfl ?_
             case hs => simp [Act.eval]
             case hx => simp [Act.eval]
             case hn => exact news_rule _ _ _ _
             case ho => exact one_rule _ _ _ _ _ _ _
             case hm => decide
             case h6 => (unfold maxLen; omega)
             case hb => omega
             case hB => (simp; omega)
             intro g cap y3 hown hgrow hat hlt
             have hI3 := PInv.put (PInv.below hI2 ((Below.refl _ _).alloc (Nat.le_refl _) _)) hgrow (hTt2.keep (keeps_below _ ((Below.refl _ _).alloc (Nat.le_refl _) _))) (hTl2.keep (keeps_below _ ((Below.refl _ _).alloc (Nat.le_refl _) _))) hown
             obtain ⟨e0, ef⟩ := PInv.app (PInv.below hI2 ((Below.refl _ _).alloc (Nat.le_refl _) _)) hgrow))
        all_goals refine NoPanic.normal ?_
        all_goals go_wp2_with fail
        all_goals go_roundw
        all_goals first
          | exact ⟨_, q ++ [(u1, _, _)], r2, f, hI3, by rw [List.length_append]; simp; omega, by omega, by simpa using HX2.out⟩
          | (rw [hI3.par.meas.1, hmeas]; omega)
    · have hdc : decide ((nx : Int) < (L.length : Int)) = false := decide_eq_false (by omega)
      have hr : r = [] := by rw [← hdr]; exact List.drop_of_length_le (by omega)
      subst hr
      have hXe : Pr.rules en L.length [] L = .inr (q.map (·.1)) := by
        have := HX.out
        cases f <;> simpa [Pr.rules] using this.symm
      obtain ⟨c0, c1, c2, f0, f1, f2⟩ := hI.cells
      go_wp2_with fail
      go_quiet (fail)
      go_wp2_with fail
      exact parse_done (hI.below (w' := wr.drewN nq) ⟨rfl, rfl, rfl, Nat.le_refl _, fun _ _ => rfl⟩) hXe _ rfl rfl rfl

end Go.Proofs.YtclbbiocagkmcaaGreatDoor

/- Tokens that are scanned fit the parser: numbers are digits, not many. -/
namespace Go.Proofs.YtclbbiocagkmcaaGreatDoor
namespace Tk

/-- A token as one stands at the head of bytes that begin a right one. -/
def Good (t : Tok) : Prop := ∃ l, l ≠ [] ∧ errOf l = 0 ∧ t.kind = kindOf l ∧ t.text = l.take (lenOf l)

theorem scanP_good (L : List UInt8) : ∀ (f p : Nat) (acc : List Tok), (∀ t ∈ acc, Good t) → ∀ t ∈ (scanP L f p acc).1, Good t
  | 0, _, acc, h => by rw [scanP]; exact h
  | f + 1, p, acc, h => by
    rw [scanP]
    by_cases h1 : L.length ≤ p
    · rw [if_pos h1]; exact h
    · rw [if_neg h1]
      by_cases h2 : errOf (L.drop p) = 0
      · rw [if_pos h2]
        refine scanP_good L f _ _ fun t ht => ?_
        rw [List.mem_append, List.mem_singleton] at ht
        rcases ht with ht | rfl
        · exact h t ht
        · exact ⟨L.drop p, by intro e; have := congrArg List.length e; simp at this; omega, h2, rfl, rfl⟩
      · rw [if_neg h2]; intro t ht; exact absurd ht (by simp)
theorem scan_good (L : List UInt8) : ∀ t ∈ (scan L).1, Good t := by
  unfold scan
  split
  · intro t ht; exact absurd ht (by simp)
  · exact scanP_good L _ _ _ (fun t ht => absurd ht (by simp))

theorem scanP_length (L : List UInt8) : ∀ (f p : Nat) (acc : List Tok), (scanP L f p acc).1.length ≤ acc.length + f
  | 0, _, acc => by rw [scanP]; simp
  | f + 1, p, acc => by
    rw [scanP]
    by_cases h1 : L.length ≤ p
    · rw [if_pos h1]; simp
    · rw [if_neg h1]
      by_cases h2 : errOf (L.drop p) = 0
      · rw [if_pos h2]
        refine Nat.le_trans (scanP_length L f _ _) ?_
        simp; omega
      · rw [if_neg h2]; simp
theorem scan_length (L : List UInt8) : (scan L).1.length ≤ 5000 := by
  unfold scan
  by_cases h : 5000 < L.length
  · rw [if_pos h]; simp
  · rw [if_neg h]
    have := scanP_length L L.length (sep false L) []
    simp at this
    omega

theorem take_pre (p : Int → Bool) : ∀ (l : List UInt8), ∀ b ∈ l.take (pre p l), p (b.toNat : Int) = true
  | [], b, hb => absurd hb (by simp)
  | c :: r, b, hb => by
    rw [pre] at hb
    by_cases h : p (c.toNat : Int) = true
    · rw [if_pos h, List.take_succ_cons, List.mem_cons] at hb
      rcases hb with rfl | hb
      · exact h
      · exact take_pre p r b hb
    · rw [if_neg h] at hb; exact absurd hb (by simp)

theorem decFrom_digits : ∀ (l : List UInt8) (acc : Nat), (∀ b ∈ l, digit (b.toNat : Int) = true) → ∃ n, Lib.decFrom acc l = some n
  | [], acc, _ => ⟨acc, rfl⟩
  | c :: r, acc, h => by
    have hc := h c (by simp)
    unfold digit at hc
    simp only [Bool.and_eq_true, decide_eq_true_eq] at hc
    have hv : Lib.digitVal c = some (c.toNat - 48) := by unfold Lib.digitVal; rw [if_pos (by omega)]
    obtain ⟨n, hn⟩ := decFrom_digits r (acc * 10 + (c.toNat - 48)) (fun b hb => h b (by simp [hb]))
    exact ⟨n, by unfold Lib.decFrom; rw [hv]; exact hn⟩

/-- The number token: digits, from one to seven. -/
theorem Good.number {t : Tok} (h : Good t) (hk : t.kind = 3) : (∃ c r, t.text = c :: r) ∧ t.text.length ≤ 7 ∧ ∀ b ∈ t.text, digit (b.toNat : Int) = true := by
  obtain ⟨l, hne, he, h1, h2⟩ := h
  match l, hne with
  | c :: r, _ =>
    rw [hk] at h1
    unfold kindOf at h1
    unfold errOf at he
    unfold lenOf at h2
    simp only at h1 he h2
    by_cases hs : small c.toNat = true
    · rw [if_pos hs] at h1; exact absurd h1 (by decide)
    · by_cases hg : great c.toNat = true
      · rw [if_neg hs, if_pos hg] at h1; exact absurd h1 (by decide)
      · by_cases hd : digit c.toNat = true
        · have hsg : ¬ (small c.toNat || great c.toNat) = true := by simp [hs, hg]
          rw [if_neg hsg, if_pos hd] at he h2
          have hp : 1 ≤ pre digit (c :: r) := pre_pos hd
          have hp7 : pre digit (c :: r) ≤ 7 := by
            by_cases h7 : pre digit (c :: r) > 7
            · rw [if_pos h7] at he; exact absurd he (by decide)
            · omega
          refine ⟨?_, ?_, ?_⟩
          · obtain ⟨k, hk⟩ : ∃ k, pre digit (c :: r) = k + 1 := ⟨pre digit (c :: r) - 1, by omega⟩
            exact ⟨c, r.take k, by rw [h2, hk, List.take_succ_cons]⟩
          · rw [h2, List.length_take]; omega
          · rw [h2]; exact take_pre digit _
        · rw [if_neg hs, if_neg hg, if_neg hd] at h1; exact absurd h1 (by decide)

theorem atoi_digits {c : UInt8} {r : List UInt8} (h : ∀ b ∈ c :: r, digit (b.toNat : Int) = true) : ∃ n : Nat, Lib.decFrom 0 (c :: r) = some n ∧ Lib.atoi (c :: r) = some (n : Int) := by
  obtain ⟨n, hn⟩ := decFrom_digits (c :: r) 0 h
  refine ⟨n, hn, ?_⟩
  have hc := h c (by simp)
  unfold digit at hc
  simp only [Bool.and_eq_true, decide_eq_true_eq] at hc
  have h43 : ¬ c = 43 := by rintro rfl; simp at hc
  have h45 : ¬ c = 45 := by rintro rfl; simp at hc
  unfold Lib.atoi
  simp [h43, h45, Lib.decNat, hn]
end Tk

theorem fit_scan (L : List UInt8) : Fit (Tk.scan L).1 := by
  refine ⟨Tk.scan_length L, fun t ht hk => ?_⟩
  obtain ⟨⟨c, r, hcr⟩, h7, hd⟩ := (Tk.scan_good L t ht).number hk
  rw [hcr] at hd h7 ⊢
  obtain ⟨n, _, hn⟩ := Tk.atoi_digits hd
  exact ⟨by omega, n, hn⟩

end Go.Proofs.YtclbbiocagkmcaaGreatDoor

/- Package tree: Parse answers the tree of a text, or where it is wrong and why. -/
namespace Go.Proofs.YtclbbiocagkmcaaGreatDoor
open Go.RowKit

/-- What Parse leaves. -/
def ParseTop (X : List Tr.Rule × Int × Int) (w : World) (e : Ending) (w' : World) : Prop :=
  ∃ ao cap, e = .returned (.tuple #[.agg #[.slice ao X.1.length cap], .int .i64 X.2.1, .int .i64 X.2.2]) ∧ RulesP w.heap.size w' (.slice ao X.1.length cap) X.1 ∧ Below w.heap.size w w'

theorem rulesP_nil (B : Nat) (w : World) : RulesP B w (.slice none 0 0) [] := ⟨[], rfl, ⟨none, 0, rfl, .inl rfl⟩, fun _ hp => absurd hp (by simp)⟩
theorem RulesP.mono {B B' : Nat} {w : World} {v : Value} {l : List Tr.Rule} (h : RulesP B w v l) (hB : B' ≤ B) : RulesP B' w v l := by
  obtain ⟨q, h1, h2, h3⟩ := h
  exact ⟨q, h1, h2.mono hB, fun p hp => ⟨(h3 p hp).1.mono hB, (h3 p hp).2.mono hB⟩⟩
theorem RulesP.set {B b : Nat} {w : World} {v : Value} {l : List Tr.Rule} (h : RulesP B w v l) (hB : b < B) (o : Nat) (u : Value) : RulesP B (w.setCell ⟨b, o, none⟩ u) v l := by
  obtain ⟨q, h1, h2, h3⟩ := h
  exact ⟨q, h1, h2.keep (keeps_set (· = 46) hB _ _) rfl, fun p hp => ⟨(h3 p hp).1.keep (keeps_set _ hB _ _), (h3 p hp).2.keep (keeps_set _ hB _ _)⟩⟩
theorem RulesP.slice {B : Nat} {w : World} {v : Value} {l : List Tr.Rule} (h : RulesP B w v l) : ∃ ao cap, v = .slice ao l.length cap := by
  obtain ⟨q, rfl, ⟨ao, cap, hv, _⟩, _⟩ := h
  exact ⟨ao, cap, by rw [hv]; simp⟩
theorem RulesP.below {B : Nat} {w w' : World} {v : Value} {l : List Tr.Rule} (h : RulesP B w v l) (hb : Below w.heap.size w w') : RulesP B w' v l := by
  obtain ⟨q, h1, h2, h3⟩ := h
  exact ⟨q, h1, h2.keep (keeps_below (· = 46) hb) rfl, fun p hp => ⟨(h3 p hp).1.keep (keeps_below _ hb), (h3 p hp).2.keep (keeps_below _ hb)⟩⟩

/-- What Parse makes of what Scan answers. -/
def Pr.parseOf (n : Int) (X : List Tk.Tok × Nat × Int) : List Tr.Rule × Int × Int :=
  if X.2.2 = 0 then match Pr.rules n X.1.length [] X.1 with
    | .inl a => ([], a, 1)
    | .inr t => if Tr.check t = 0 then (t, 0, 0) else ([], 0, Tr.check t)
  else ([], X.2.1, X.2.2)
theorem parse_eq (s : ByteArray) : Pr.parse s.data.toList = Pr.parseOf s.size (Tk.scan s.data.toList) := by
  have h : ((s.data.toList.length : Nat) : Int) = s.size := by rw [Array.length_toList]; rfl
  unfold Pr.parse Pr.parseOf
  rw [h]
  split
  · cases Pr.rules (s.size : Int) (Tk.scan s.data.toList).1.length [] (Tk.scan s.data.toList).1 <;> rfl
  · rfl

/-- The block of a tree that is answered. -/
theorem tree_cell {w1 : World} {b : Nat} {v : Value} (h : w1.heap[b]? = some (.cells #[v] 24)) : w1.cell? ⟨b, 0, none⟩ = some v ∧ w1.frozen? ⟨b, 0, none⟩ = false := ⟨by rw [Lib.cell_of_heap h]; rfl, by simp [World.frozen?, h]⟩

set_option maxRecDepth 100000 in
set_option maxHeartbeats 1000000 in
theorem Parse_any (s : ByteArray) (w : World) : Calls Tryz.prog 13 #[.string s] w (ParseTop (Pr.parse s.data.toList) w) := by
  rw [parse_eq]
  have HS : Hid (∀ w, Calls Tryz.prog 26 #[.string s] w (ScanTop s.data.toList w)) := fun w => Scan_any s w
  have hF : Fit (Tk.scan s.data.toList).1 := fit_scan _
  unfold ScanTop at HS
  rcases hX : Tk.scan s.data.toList with ⟨T, p, E⟩
  rw [hX] at HS hF
  simp only at HS hF
  clear hX
  have HQ : Hid (∀ X, Pr.parseOf s.size (T, p, E) = X → ∀ e w', ParseTop X w e w' → ParseTop (Pr.parseOf s.size (T, p, E)) w e w') := by rintro X rfl e w' h; exact h
  generalize ParseTop (Pr.parseOf s.size (T, p, E)) w = Q at HQ ⊢
  go_enter Tryz.func13, Tryz.ntmps13
  go_wp2_with fail
  refine Calls.mono (HS.out _) ?_
  rintro e w1 ⟨ao, cap, rfl, hown, hb⟩
  have hT := toksAt_own hown
  clear hown HS
  have hres : w1.heap[w.heap.size]? = some (.cells #[.slice none 0 0] 24) := (hb.block _ (by simp)).trans (heap_alloc_new w _)
  have hbw : Below w.heap.size w w1 := ((Below.refl w.heap.size w).alloc (Nat.le_refl _) _).trans (hb.mono (by simp))
  obtain ⟨c0, f0⟩ := tree_cell hres
  cases hE : (E == 0)
  · have HP2 : Hid (Pr.parseOf s.size (T, p, E) = ([], (p : Int), E)) := by
      unfold Pr.parseOf
      rw [if_neg (by intro e; simp only at e; rw [e] at hE; exact absurd hE (by decide))]
      exact rfl
    go_wp2_with fail
    exact bodyPost_ret (v := .tuple #[.agg #[.slice none 0 0], .int .i64 p, .int .i64 E]) (by simp [results, Tryz.results13, go_sem, c0]) rfl (HQ.out _ HP2.out _ _ ⟨none, 0, rfl, rulesP_nil _ _, hbw.setCell (p := ⟨w.heap.size, 0, none⟩) (Nat.le_refl _) _⟩)
  · obtain rfl : E = 0 := eq_of_beq hE
    have HP2 : Hid (Pr.parseOf s.size (T, p, 0) = match Pr.rules s.size T.length [] T with
      | .inl a => ([], a, 1)
      | .inr t => if Tr.check t = 0 then (t, 0, 0) else ([], 0, Tr.check t)) := by
      unfold Pr.parseOf
      rw [if_pos rfl]
      exact rfl
    have HC : Hid (∀ w, ToksAt w ao T → Calls Tryz.prog 27 #[.slice ao T.length cap, .int .i64 s.size] w (ParseEnd T s.size w)) := fun w h => parse_any T s.size ao cap w h hF
    unfold ParseEnd at HC
    go_wp2_with fail
    refine Calls.mono (HC.out _ hT) ?_
    clear HC hE c0 f0 hT hb
    cases hR : Pr.rules s.size T.length [] T with
    | inl a =>
      have HP3 : Hid (Pr.parseOf s.size (T, p, 0) = ([], a, 1)) := by
        have := HP2.out
        rw [hR] at this
        exact this
      clear hR HP2
      rintro e w2 ⟨rfl, hb2⟩
      have hres2 := (hb2.block _ (heap_lt hres)).trans hres
      have hbw2 := hbw.trans (hb2.mono hbw.size)
      obtain ⟨c0, f0⟩ := tree_cell hres2
      have hlt : w.heap.size < w2.heap.size := heap_lt hres2
      go_wp2_with fail
      exact bodyPost_ret (v := .tuple #[.agg #[.slice none 0 0], .int .i64 a, .int .i64 1]) (by simp [results, Tryz.results13, go_sem, c0, hlt]) rfl (HQ.out _ HP3.out _ _ ⟨none, 0, rfl, rulesP_nil _ _, (hbw2.setCell (p := ⟨w.heap.size, 0, none⟩) (Nat.le_refl _) _).alloc (by simp; exact hbw2.size) _⟩)
    | inr t =>
      have HP3 : Hid (Pr.parseOf s.size (T, p, 0) = if Tr.check t = 0 then (t, 0, 0) else ([], 0, Tr.check t)) := by
        have := HP2.out
        rw [hR] at this
        exact this
      clear hR HP2
      rintro e w2 ⟨v, rfl, hP, hb2⟩
      have hres2 := (hb2.block _ (heap_lt hres)).trans hres
      have hbw2 := hbw.trans (hb2.mono hbw.size)
      obtain ⟨c0, f0⟩ := tree_cell hres2
      have hlt : w.heap.size < w2.heap.size := heap_lt hres2
      obtain ⟨aot, capt, rfl⟩ := hP.slice
      have hP1 := hP.below ((Below.refl _ _).alloc (Nat.le_refl _) (.cells #[.slice aot t.length capt] 24))
      have hres3 := (((Below.refl w2.heap.size w2).alloc (Nat.le_refl _) (.cells #[.slice aot t.length capt] 24)).block _ hlt).trans hres2
      have hbw3 := hbw2.alloc hbw2.size (.cells #[.slice aot t.length capt] 24)
      have htr := heap_alloc_new w2 (.cells #[.slice aot t.length capt] 24)
      have HK : Hid (∀ w, RulesV w (.slice aot t.length capt) t → Calls Tryz.prog 14 #[.agg #[.slice aot t.length capt]] w fun e w' => e = .returned (.int .i64 (Tr.check t)) ∧ Below w.heap.size w w') := fun w h => Check_any t _ w h
      go_wp2_with fail
      refine Calls.mono (HK.out _ hP1.toV) ?_
      rintro e w3 ⟨rfl, hb3⟩
      have hres4 := (hb3.block _ (heap_lt hres3)).trans hres3
      have htr4 := (hb3.block _ (heap_lt htr)).trans htr
      have hbw4 := hbw3.trans (hb3.mono hbw3.size)
      have hP4 := hP1.below hb3
      have hlt1 := heap_lt hres
      clear HK hP1 hres3 htr hbw3 hb3 hP hres2 hbw2 hb2 c0 f0
      obtain ⟨c0, f0⟩ := tree_cell hres4
      obtain ⟨c1, f1⟩ := tree_cell htr4
      cases hC : (Tr.check t == 0)
      · have HP4 : Hid (Pr.parseOf s.size (T, p, 0) = ([], 0, Tr.check t)) := by
          have := HP3.out
          rw [if_neg (by intro e; rw [e] at hC; exact absurd hC (by decide))] at this
          exact this
        go_wp2_with fail
        exact bodyPost_ret (v := .tuple #[.agg #[.slice none 0 0], .int .i64 0, .int .i64 (Tr.check t)]) (by simp [results, Tryz.results13, go_sem, c0]) rfl (HQ.out _ HP4.out _ _ ⟨none, 0, rfl, rulesP_nil _ _, hbw4.setCell (p := ⟨w.heap.size, 0, none⟩) (Nat.le_refl _) _⟩)
      · have HP4 : Hid (Pr.parseOf s.size (T, p, 0) = (t, 0, 0)) := by
          have := HP3.out
          rw [if_pos (eq_of_beq hC)] at this
          exact this
        go_wp2_with fail
        exact bodyPost_ret (v := .tuple #[.agg #[.slice aot t.length capt], .int .i64 0, .int .i64 0]) (by simp [results, Tryz.results13, go_sem, c0]) rfl (HQ.out _ HP4.out _ _ ⟨aot, capt, rfl, (hP4.set hlt1 _ _).mono hbw.size, hbw4.setCell (p := ⟨w.heap.size, 0, none⟩) (Nat.le_refl _) _⟩)

end Go.Proofs.YtclbbiocagkmcaaGreatDoor

/- The document's answer: is a text just one token of a kind? -/
namespace Go.Proofs.YtclbbiocagkmcaaGreatDoor
open Go.RowKit

set_option maxRecDepth 100000 in
set_option maxHeartbeats 400000 in
theorem refTok_empty (k : Int) (w : World) : Calls Tryz.prog 35 #[.int .i64 k, .string ⟨#[]⟩] w fun e w' => e = .returned (.bool false) ∧ w' = w := by
  go_enter Tryz.func35, Tryz.ntmps35
  go_wp2_with fail
  go_ret
  exact ⟨rfl, rfl⟩

set_option maxRecDepth 100000 in
set_option maxHeartbeats 400000 in
theorem refTok_long (k : Int) (s : ByteArray) (w : World) (h0 : s.toList.isEmpty = false) (hs : 5000 < s.size) : Calls Tryz.prog 35 #[.int .i64 k, .string s] w fun e w' => e = .returned (.bool false) ∧ w' = w := by
  go_enter Tryz.func35, Tryz.ntmps35
  go_wp2_with fail
  go_ret
  exact ⟨rfl, rfl⟩

set_option maxRecDepth 100000 in
set_option maxHeartbeats 400000 in
theorem refTok_zero (s : ByteArray) (w : World) (h0 : s.toList.isEmpty = false) (hs : s.size ≤ 5000) : Calls Tryz.prog 35 #[.int .i64 0, .string s] w fun e w' => e = .returned (.bool false) ∧ w' = w := by
  have hd : decide ((5000 : Int) < (s.size : Int)) = false := by simp; omega
  go_enter Tryz.func35, Tryz.ntmps35
  go_wp2_with fail
  go_ret
  exact ⟨rfl, rfl⟩

set_option maxRecDepth 100000 in
set_option maxHeartbeats 1000000 in
theorem refTok_off (s : ByteArray) (w : World) (h0 : s.toList.isEmpty = false) (hs : s.size ≤ 5000) (hpos : 0 < s.size) (k K : Int) (hk : (k == 0) = false) (g1 : (K == k) = false) (hR : refKind s.data.toList = K) :
    Calls Tryz.prog 35 #[.int .i64 k, .string s] w fun e w' => e = .returned (.bool false) ∧ w' = w := by
  have hd5 : decide ((5000 : Int) < (s.size : Int)) = false := by simp; omega
  have HA : Hid (Calls Tryz.prog 60 #[.string s, .int .i64 0] w fun e w' => e = .returned (.tuple #[.int .i64 K, .int .i64 (Tk.lenOf s.data.toList : Nat)]) ∧ w' = w) := by
    have h := refAt_any s 0 w (by omega) hpos
    rw [List.drop_zero, hR] at h
    exact h
  clear hR
  go_enter Tryz.func35, Tryz.ntmps35
  go_wp2_with fail
  refine Calls.mono HA.out ?_
  rintro e w1 ⟨rfl, rfl⟩
  go_wp2_with fail
  go_ret
  exact ⟨rfl, rfl⟩

set_option maxRecDepth 100000 in
set_option maxHeartbeats 1000000 in
theorem refTok_part (s : ByteArray) (w : World) (h0 : s.toList.isEmpty = false) (hs : s.size ≤ 5000) (hpos : 0 < s.size) (k K : Int) (hk : (k == 0) = false) (g1 : (K == k) = true) (g2 : ((Tk.lenOf s.data.toList : Int) == (s.size : Int)) = false) (hR : refKind s.data.toList = K) :
    Calls Tryz.prog 35 #[.int .i64 k, .string s] w fun e w' => e = .returned (.bool false) ∧ w' = w := by
  have hd5 : decide ((5000 : Int) < (s.size : Int)) = false := by simp; omega
  have HA : Hid (Calls Tryz.prog 60 #[.string s, .int .i64 0] w fun e w' => e = .returned (.tuple #[.int .i64 K, .int .i64 (Tk.lenOf s.data.toList : Nat)]) ∧ w' = w) := by
    have h := refAt_any s 0 w (by omega) hpos
    rw [List.drop_zero, hR] at h
    exact h
  clear hR
  go_enter Tryz.func35, Tryz.ntmps35
  go_wp2_with fail
  refine Calls.mono HA.out ?_
  rintro e w1 ⟨rfl, rfl⟩
  go_wp2_with fail
  go_ret
  exact ⟨rfl, rfl⟩

set_option maxRecDepth 100000 in
set_option maxHeartbeats 1000000 in
theorem refTok_long1 (s : ByteArray) (w : World) (h0 : s.toList.isEmpty = false) (hs : s.size ≤ 5000) (hpos : 0 < s.size) (g2 : ((Tk.lenOf s.data.toList : Int) == (s.size : Int)) = true) (hl : 12 < Tk.lenOf s.data.toList) (hR : refKind s.data.toList = 1) :
    Calls Tryz.prog 35 #[.int .i64 1, .string s] w fun e w' => e = .returned (.bool false) ∧ w' = w := by
  have hd5 : decide ((5000 : Int) < (s.size : Int)) = false := by simp; omega
  have HA : Hid (Calls Tryz.prog 60 #[.string s, .int .i64 0] w fun e w' => e = .returned (.tuple #[.int .i64 1, .int .i64 (Tk.lenOf s.data.toList : Nat)]) ∧ w' = w) := by
    have h := refAt_any s 0 w (by omega) hpos
    rw [List.drop_zero, hR] at h
    exact h
  clear hR
  have hd12 : decide ((12 : Int) < ((Tk.lenOf s.data.toList : Nat) : Int)) = true := by simp; omega
  go_enter Tryz.func35, Tryz.ntmps35
  go_wp2_with fail
  refine Calls.mono HA.out ?_
  rintro e w1 ⟨rfl, rfl⟩
  go_wp2_with fail
  go_ret
  exact ⟨rfl, rfl⟩

set_option maxRecDepth 100000 in
set_option maxHeartbeats 1000000 in
theorem refTok_yes1 (s : ByteArray) (w : World) (h0 : s.toList.isEmpty = false) (hs : s.size ≤ 5000) (hpos : 0 < s.size) (g2 : ((Tk.lenOf s.data.toList : Int) == (s.size : Int)) = true) (hl : Tk.lenOf s.data.toList ≤ 12) (hR : refKind s.data.toList = 1) :
    Calls Tryz.prog 35 #[.int .i64 1, .string s] w fun e w' => e = .returned (.bool true) ∧ w' = w := by
  have hd5 : decide ((5000 : Int) < (s.size : Int)) = false := by simp; omega
  have HA : Hid (Calls Tryz.prog 60 #[.string s, .int .i64 0] w fun e w' => e = .returned (.tuple #[.int .i64 1, .int .i64 (Tk.lenOf s.data.toList : Nat)]) ∧ w' = w) := by
    have h := refAt_any s 0 w (by omega) hpos
    rw [List.drop_zero, hR] at h
    exact h
  clear hR
  have hd12 : decide ((12 : Int) < ((Tk.lenOf s.data.toList : Nat) : Int)) = false := by simp; omega
  go_enter Tryz.func35, Tryz.ntmps35
  go_wp2_with fail
  refine Calls.mono HA.out ?_
  rintro e w1 ⟨rfl, rfl⟩
  go_wp2_with fail
  go_ret
  exact ⟨rfl, rfl⟩

set_option maxRecDepth 100000 in
set_option maxHeartbeats 1000000 in
theorem refTok_long2 (s : ByteArray) (w : World) (h0 : s.toList.isEmpty = false) (hs : s.size ≤ 5000) (hpos : 0 < s.size) (g2 : ((Tk.lenOf s.data.toList : Int) == (s.size : Int)) = true) (hl : 12 < Tk.lenOf s.data.toList) (hR : refKind s.data.toList = 2) :
    Calls Tryz.prog 35 #[.int .i64 2, .string s] w fun e w' => e = .returned (.bool false) ∧ w' = w := by
  have hd5 : decide ((5000 : Int) < (s.size : Int)) = false := by simp; omega
  have HA : Hid (Calls Tryz.prog 60 #[.string s, .int .i64 0] w fun e w' => e = .returned (.tuple #[.int .i64 2, .int .i64 (Tk.lenOf s.data.toList : Nat)]) ∧ w' = w) := by
    have h := refAt_any s 0 w (by omega) hpos
    rw [List.drop_zero, hR] at h
    exact h
  clear hR
  have hd12 : decide ((12 : Int) < ((Tk.lenOf s.data.toList : Nat) : Int)) = true := by simp; omega
  go_enter Tryz.func35, Tryz.ntmps35
  go_wp2_with fail
  refine Calls.mono HA.out ?_
  rintro e w1 ⟨rfl, rfl⟩
  go_wp2_with fail
  go_ret
  exact ⟨rfl, rfl⟩

set_option maxRecDepth 100000 in
set_option maxHeartbeats 1000000 in
theorem refTok_yes2 (s : ByteArray) (w : World) (h0 : s.toList.isEmpty = false) (hs : s.size ≤ 5000) (hpos : 0 < s.size) (g2 : ((Tk.lenOf s.data.toList : Int) == (s.size : Int)) = true) (hl : Tk.lenOf s.data.toList ≤ 12) (hR : refKind s.data.toList = 2) :
    Calls Tryz.prog 35 #[.int .i64 2, .string s] w fun e w' => e = .returned (.bool true) ∧ w' = w := by
  have hd5 : decide ((5000 : Int) < (s.size : Int)) = false := by simp; omega
  have HA : Hid (Calls Tryz.prog 60 #[.string s, .int .i64 0] w fun e w' => e = .returned (.tuple #[.int .i64 2, .int .i64 (Tk.lenOf s.data.toList : Nat)]) ∧ w' = w) := by
    have h := refAt_any s 0 w (by omega) hpos
    rw [List.drop_zero, hR] at h
    exact h
  clear hR
  have hd12 : decide ((12 : Int) < ((Tk.lenOf s.data.toList : Nat) : Int)) = false := by simp; omega
  go_enter Tryz.func35, Tryz.ntmps35
  go_wp2_with fail
  refine Calls.mono HA.out ?_
  rintro e w1 ⟨rfl, rfl⟩
  go_wp2_with fail
  go_ret
  exact ⟨rfl, rfl⟩

set_option maxRecDepth 100000 in
set_option maxHeartbeats 1000000 in
theorem refTok_long3 (s : ByteArray) (w : World) (h0 : s.toList.isEmpty = false) (hs : s.size ≤ 5000) (hpos : 0 < s.size) (g2 : ((Tk.lenOf s.data.toList : Int) == (s.size : Int)) = true) (hl : 7 < Tk.lenOf s.data.toList) (hR : refKind s.data.toList = 3) :
    Calls Tryz.prog 35 #[.int .i64 3, .string s] w fun e w' => e = .returned (.bool false) ∧ w' = w := by
  have hd5 : decide ((5000 : Int) < (s.size : Int)) = false := by simp; omega
  have HA : Hid (Calls Tryz.prog 60 #[.string s, .int .i64 0] w fun e w' => e = .returned (.tuple #[.int .i64 3, .int .i64 (Tk.lenOf s.data.toList : Nat)]) ∧ w' = w) := by
    have h := refAt_any s 0 w (by omega) hpos
    rw [List.drop_zero, hR] at h
    exact h
  clear hR
  have hd7 : decide ((7 : Int) < ((Tk.lenOf s.data.toList : Nat) : Int)) = true := by simp; omega
  go_enter Tryz.func35, Tryz.ntmps35
  go_wp2_with fail
  refine Calls.mono HA.out ?_
  rintro e w1 ⟨rfl, rfl⟩
  go_wp2_with fail
  go_ret
  exact ⟨rfl, rfl⟩

set_option maxRecDepth 100000 in
set_option maxHeartbeats 1000000 in
theorem refTok_form3 (s : ByteArray) (w : World) (h0 : s.toList.isEmpty = false) (hs : s.size ≤ 5000) (hpos : 0 < s.size) (g2 : ((Tk.lenOf s.data.toList : Int) == (s.size : Int)) = true) (hl : Tk.lenOf s.data.toList ≤ 7) (hl1 : 1 < Tk.lenOf s.data.toList) (h48 : ((s[0].toNat : Int) == 48) = true) (hR : refKind s.data.toList = 3) :
    Calls Tryz.prog 35 #[.int .i64 3, .string s] w fun e w' => e = .returned (.bool false) ∧ w' = w := by
  have hd5 : decide ((5000 : Int) < (s.size : Int)) = false := by simp; omega
  have HA : Hid (Calls Tryz.prog 60 #[.string s, .int .i64 0] w fun e w' => e = .returned (.tuple #[.int .i64 3, .int .i64 (Tk.lenOf s.data.toList : Nat)]) ∧ w' = w) := by
    have h := refAt_any s 0 w (by omega) hpos
    rw [List.drop_zero, hR] at h
    exact h
  clear hR
  have hd7 : decide ((7 : Int) < ((Tk.lenOf s.data.toList : Nat) : Int)) = false := by simp; omega
  have hd1 : decide ((1 : Int) < ((Tk.lenOf s.data.toList : Nat) : Int)) = true := by simp; omega
  go_enter Tryz.func35, Tryz.ntmps35
  go_wp2_with fail
  refine Calls.mono HA.out ?_
  rintro e w1 ⟨rfl, rfl⟩
  go_wp2_with fail
  go_ret
  exact ⟨rfl, rfl⟩

set_option maxRecDepth 100000 in
set_option maxHeartbeats 1000000 in
theorem refTok_yes3a (s : ByteArray) (w : World) (h0 : s.toList.isEmpty = false) (hs : s.size ≤ 5000) (hpos : 0 < s.size) (g2 : ((Tk.lenOf s.data.toList : Int) == (s.size : Int)) = true) (hl1 : Tk.lenOf s.data.toList ≤ 1) (hR : refKind s.data.toList = 3) :
    Calls Tryz.prog 35 #[.int .i64 3, .string s] w fun e w' => e = .returned (.bool true) ∧ w' = w := by
  have hd5 : decide ((5000 : Int) < (s.size : Int)) = false := by simp; omega
  have HA : Hid (Calls Tryz.prog 60 #[.string s, .int .i64 0] w fun e w' => e = .returned (.tuple #[.int .i64 3, .int .i64 (Tk.lenOf s.data.toList : Nat)]) ∧ w' = w) := by
    have h := refAt_any s 0 w (by omega) hpos
    rw [List.drop_zero, hR] at h
    exact h
  clear hR
  have hd7 : decide ((7 : Int) < ((Tk.lenOf s.data.toList : Nat) : Int)) = false := by simp; omega
  have hd1 : decide ((1 : Int) < ((Tk.lenOf s.data.toList : Nat) : Int)) = false := by simp; omega
  go_enter Tryz.func35, Tryz.ntmps35
  go_wp2_with fail
  refine Calls.mono HA.out ?_
  rintro e w1 ⟨rfl, rfl⟩
  go_wp2_with fail
  go_ret
  exact ⟨rfl, rfl⟩

set_option maxRecDepth 100000 in
set_option maxHeartbeats 1000000 in
theorem refTok_yes3b (s : ByteArray) (w : World) (h0 : s.toList.isEmpty = false) (hs : s.size ≤ 5000) (hpos : 0 < s.size) (g2 : ((Tk.lenOf s.data.toList : Int) == (s.size : Int)) = true) (hl : Tk.lenOf s.data.toList ≤ 7) (hl1 : 1 < Tk.lenOf s.data.toList) (h48 : ((s[0].toNat : Int) == 48) = false) (hR : refKind s.data.toList = 3) :
    Calls Tryz.prog 35 #[.int .i64 3, .string s] w fun e w' => e = .returned (.bool true) ∧ w' = w := by
  have hd5 : decide ((5000 : Int) < (s.size : Int)) = false := by simp; omega
  have HA : Hid (Calls Tryz.prog 60 #[.string s, .int .i64 0] w fun e w' => e = .returned (.tuple #[.int .i64 3, .int .i64 (Tk.lenOf s.data.toList : Nat)]) ∧ w' = w) := by
    have h := refAt_any s 0 w (by omega) hpos
    rw [List.drop_zero, hR] at h
    exact h
  clear hR
  have hd7 : decide ((7 : Int) < ((Tk.lenOf s.data.toList : Nat) : Int)) = false := by simp; omega
  have hd1 : decide ((1 : Int) < ((Tk.lenOf s.data.toList : Nat) : Int)) = true := by simp; omega
  go_enter Tryz.func35, Tryz.ntmps35
  go_wp2_with fail
  refine Calls.mono HA.out ?_
  rintro e w1 ⟨rfl, rfl⟩
  go_wp2_with fail
  go_ret
  exact ⟨rfl, rfl⟩

set_option maxRecDepth 100000 in
set_option maxHeartbeats 1000000 in
theorem refTok_yes4 (s : ByteArray) (w : World) (h0 : s.toList.isEmpty = false) (hs : s.size ≤ 5000) (hpos : 0 < s.size) (g2 : ((Tk.lenOf s.data.toList : Int) == (s.size : Int)) = true) (hR : refKind s.data.toList = 4) :
    Calls Tryz.prog 35 #[.int .i64 4, .string s] w fun e w' => e = .returned (.bool true) ∧ w' = w := by
  have hd5 : decide ((5000 : Int) < (s.size : Int)) = false := by simp; omega
  have HA : Hid (Calls Tryz.prog 60 #[.string s, .int .i64 0] w fun e w' => e = .returned (.tuple #[.int .i64 4, .int .i64 (Tk.lenOf s.data.toList : Nat)]) ∧ w' = w) := by
    have h := refAt_any s 0 w (by omega) hpos
    rw [List.drop_zero, hR] at h
    exact h
  clear hR
  go_enter Tryz.func35, Tryz.ntmps35
  go_wp2_with fail
  refine Calls.mono HA.out ?_
  rintro e w1 ⟨rfl, rfl⟩
  go_wp2_with fail
  go_ret
  exact ⟨rfl, rfl⟩

/-- IsToken, whatever it is handed. -/
theorem refTok_any (k : Int) (s : ByteArray) (w : World) : Calls Tryz.prog 35 #[.int .i64 k, .string s] w fun e w' => e = .returned (.bool (Tk.isTok k s.data.toList)) ∧ w' = w := by
  have hsz : s.data.toList.length = s.size := by simp
  by_cases hpos : 0 < s.size
  · have hd := drop_at s 0 hpos
    rw [List.drop_zero] at hd
    have h0 : s.toList.isEmpty = false := by rw [Lib.toList_data, hd]; rfl
    by_cases h5 : 5000 < s.size
    · have hV : Tk.isTok k s.data.toList = false := decide_eq_false (fun h => by omega)
      rw [hV]
      exact refTok_long k s w h0 h5
    · have TC := tok_cases s[0] (s.data.toList.drop (0 + 1))
      rw [← hd] at TC
      by_cases hk0 : k = 0
      · subst hk0
        have hV : Tk.isTok 0 s.data.toList = false := decide_eq_false (fun h => by
          obtain ⟨_, _, h3, h4, _⟩ := h
          rcases TC with ⟨c1, cE⟩ | ⟨c1, cK, c3, cE⟩ | ⟨c1, cK, c3, cE⟩ | ⟨c1, cK, c3, cE⟩ | ⟨c1, cK, c3, c4, c5, cE⟩ | ⟨c1, cK, c3, cE⟩ | ⟨c1, cK, c3, c4, c5, cE⟩ | ⟨c1, cK, cE⟩ <;> omega)
        rw [hV]
        exact refTok_zero s w h0 (by omega)
      · have hkb : (k == 0) = false := beq_eq_false_iff_ne.2 hk0
        have hRK : 1 ≤ Tk.lenOf s.data.toList → refKind s.data.toList = Tk.kindOf s.data.toList := fun h => by unfold refKind; rw [if_neg (by omega)]
        have hne : s.data.toList ≠ [] := by rw [hd]; simp
        by_cases hl0 : Tk.lenOf s.data.toList = 0
        · have hV : Tk.isTok k s.data.toList = false := decide_eq_false (fun h => by omega)
          rw [hV]
          exact refTok_off s w h0 (by omega) hpos k 0 hkb (beq_eq_false_iff_ne.2 (fun e => hk0 e.symm)) (by unfold refKind; rw [if_pos hl0])
        · have hR := hRK (by omega)
          by_cases hK : Tk.kindOf s.data.toList = k
          · by_cases hn : Tk.lenOf s.data.toList = s.size
            · have g2 : ((Tk.lenOf s.data.toList : Int) == (s.size : Int)) = true := beq_iff_eq.2 (by omega)
              subst hK
              have yes : Tk.errOf s.data.toList = 0 → Tk.isTok (Tk.kindOf s.data.toList) s.data.toList = true := fun he => decide_eq_true ⟨hne, by omega, he, rfl, by omega⟩
              have no : ¬ Tk.errOf s.data.toList = 0 → Tk.isTok (Tk.kindOf s.data.toList) s.data.toList = false := fun he => decide_eq_false (fun h => he h.2.2.1)
              rcases TC with ⟨c1, cE⟩ | ⟨c1, cK, c3, cE⟩ | ⟨c1, cK, c3, cE⟩ | ⟨c1, cK, c3, cE⟩ | ⟨c1, cK, c3, c4, c5, cE⟩ | ⟨c1, cK, c3, cE⟩ | ⟨c1, cK, c3, c4, c5, cE⟩ | ⟨c1, cK, cE⟩
              · exact absurd c1 hl0
              · rw [no (by omega)]
                rcases cK with cK | cK
                · rw [cK] at hR ⊢; exact refTok_long1 s w h0 (by omega) hpos g2 c3 hR
                · rw [cK] at hR ⊢; exact refTok_long2 s w h0 (by omega) hpos g2 c3 hR
              · rw [yes cE]
                rcases cK with cK | cK
                · rw [cK] at hR ⊢; exact refTok_yes1 s w h0 (by omega) hpos g2 c3 hR
                · rw [cK] at hR ⊢; exact refTok_yes2 s w h0 (by omega) hpos g2 c3 hR
              · rw [no (by omega), cK]; rw [cK] at hR; exact refTok_long3 s w h0 (by omega) hpos g2 c3 hR
              · rw [no (by omega), cK]; rw [cK] at hR; exact refTok_form3 s w h0 (by omega) hpos g2 c4 c3 (beq_iff_eq.2 c5) hR
              · rw [yes cE, cK]; rw [cK] at hR; exact refTok_yes3a s w h0 (by omega) hpos g2 c3 hR
              · rw [yes cE, cK]; rw [cK] at hR; exact refTok_yes3b s w h0 (by omega) hpos g2 c4 c3 (beq_eq_false_iff_ne.2 c5) hR
              · rw [yes cE, cK]; rw [cK] at hR; exact refTok_yes4 s w h0 (by omega) hpos g2 hR
            · have hV : Tk.isTok k s.data.toList = false := decide_eq_false (fun h => by omega)
              rw [hV]
              exact refTok_part s w h0 (by omega) hpos k _ hkb (beq_iff_eq.2 hK) (beq_eq_false_iff_ne.2 (by omega)) hR
          · have hV : Tk.isTok k s.data.toList = false := decide_eq_false (fun h => hK h.2.2.2.1)
            rw [hV]
            exact refTok_off s w h0 (by omega) hpos k _ hkb (beq_eq_false_iff_ne.2 hK) hR
  · have hz : s.data.toList = [] := List.eq_nil_of_length_eq_zero (by omega)
    have hse : s = ⟨#[]⟩ := by
      apply ByteArray.ext
      exact Array.eq_empty_of_size_eq_zero (by show s.size = 0; omega)
    rw [hz, hse]
    exact refTok_empty k w

end Go.Proofs.YtclbbiocagkmcaaGreatDoor

/- The document's answer: names and terms that are right. -/
namespace Go.Proofs.YtclbbiocagkmcaaGreatDoor
open Go.RowKit

theorem isTok_at (k : Int) (s : List UInt8) (w : World) : Calls Tryz.prog 35 #[.int .i64 k, .string ⟨s.toArray⟩] w fun e w' => e = .returned (.bool (Tk.isTok k s)) ∧ w' = w := by
  have h := refTok_any k ⟨s.toArray⟩ w
  rw [List.toList_toArray] at h
  exact h

theorem word_eq (s : List UInt8) : Tr.isWord s = ((s == [110, 111, 116]) || (s == [99, 111, 117, 110, 116]) || (s == [115, 117, 109]) || (s == [108, 101, 97, 115, 116]) || (s == [109, 111, 115, 116])) := by
  unfold Tr.isWord Tr.foldOf
  cases h1 : (s == [99, 111, 117, 110, 116])
  · cases h2 : (s == [115, 117, 109])
    · cases h3 : (s == [108, 101, 97, 115, 116])
      · cases h4 : (s == [109, 111, 115, 116]) <;> simp
      · simp
    · simp
  · simp

set_option maxRecDepth 100000 in
set_option maxHeartbeats 400000 in
theorem refWord_any (s : List UInt8) (w : World) : Calls Tryz.prog 36 #[.string ⟨s.toArray⟩] w fun e w' => e = .returned (.bool (Tr.isWord s)) ∧ w' = w := by
  rw [word_eq]
  cases h0 : (s == [110, 111, 116])
  · cases h1 : (s == [99, 111, 117, 110, 116])
    · cases h2 : (s == [115, 117, 109])
      · cases h3 : (s == [108, 101, 97, 115, 116])
        · go_enter Tryz.func36, Tryz.ntmps36
          go_wp2
          go_ret
          exact ⟨rfl, rfl⟩
        · go_enter Tryz.func36, Tryz.ntmps36
          go_wp2
          go_ret
          exact ⟨rfl, rfl⟩
      · go_enter Tryz.func36, Tryz.ntmps36
        go_wp2
        go_ret
        exact ⟨rfl, rfl⟩
    · go_enter Tryz.func36, Tryz.ntmps36
      go_wp2
      go_ret
      exact ⟨rfl, rfl⟩
  · go_enter Tryz.func36, Tryz.ntmps36
    go_wp2
    go_ret
    exact ⟨rfl, rfl⟩

set_option maxRecDepth 100000 in
set_option maxHeartbeats 400000 in
theorem refName_any (s : List UInt8) (w : World) : Calls Tryz.prog 17 #[.string ⟨s.toArray⟩] w fun e w' => e = .returned (.bool (Tr.isName s)) ∧ w' = w := by
  unfold Tr.isName
  cases h1 : Tk.isTok 1 s
  · go_enter Tryz.func17, Tryz.ntmps17
    go_wp2_with (go_at_call 35; refine (isTok_at _ _ _).mono ?_; rintro e w' ⟨rfl, rfl⟩)
    go_ret
    exact ⟨rfl, rfl⟩
  · go_enter Tryz.func17, Tryz.ntmps17
    go_wp2_with (first | (go_at_call 35; refine (isTok_at _ _ _).mono ?_; rintro e w' ⟨rfl, rfl⟩) | (go_at_call 36; refine (refWord_any _ _).mono ?_; rintro e w' ⟨rfl, rfl⟩))
    go_ret
    exact ⟨rfl, rfl⟩

set_option maxRecDepth 100000 in
set_option maxHeartbeats 400000 in
theorem areTerms_none (w : World) (ao : Option Addr) (cap : Nat) : Calls Tryz.prog 18 #[.slice ao 0 cap] w fun e w' => e = .returned (.bool true) ∧ Below w.heap.size w w' := by
  go_enter Tryz.func18, Tryz.ntmps18
  go_wp2_with fail
  refine wp_loop_rounds 1 ?_
  rw [rounds_succ]
  go_wp2_with fail
  go_ret
  exact ⟨rfl, Below.refl _ _⟩

set_option maxRecDepth 100000 in
set_option maxHeartbeats 1000000 in
theorem areTerms_some (l : List Tr.Term) (w : World) (n b off cap : Nat) (hn : l.length = n) (hmax : n ≤ 140737488355328) (hA : ∀ i, i < n → TermIn w b (off + i * 2) (Tr.termD l i)) :
    Calls Tryz.prog 18 #[.slice (some ⟨b, off, none⟩) n cap] w fun e w' => e = .returned (.bool (Tr.termsOk l)) ∧ Below w.heap.size w w' := by
  have HN : Hid (l.length = n) := hn
  clear hn
  go_enter Tryz.func18, Tryz.ntmps18
  go_wp2_with fail
  go_loopw [3] (fun i wr => ∃ k : Nat, k ≤ n ∧ i = .int .i64 k ∧ Tr.termsOk l = (l.drop k).all Tr.termOk ∧ Below w.heap.size w wr) (fun i _ => n - (intOf i).toNat)
  case atStart => exact ⟨0, Nat.zero_le _, rfl, rfl, Below.refl _ _⟩
  case round =>
    obtain ⟨k, hk, rfl, hall, hbel⟩ := hrel
    have HA : Hid (Tr.termsOk l = (l.drop k).all Tr.termOk) := hall
    clear hall
    by_cases hlt : k < n
    · obtain ⟨a0, a1⟩ := hA k hlt
      have hbw : b < w.heap.size := World.block_lt_of_cell? w _ a0
      have a0' := (hbel.cell (p := ⟨b, off + k * 2, none⟩) hbw).trans a0
      have a1' := (hbel.cell (p := ⟨b, off + k * 2 + 1, none⟩) hbw).trans a1
      have HD : Hid (Tr.termsOk l = (Tr.termOk (Tr.termD l k) && (l.drop (k + 1)).all Tr.termOk)) := HA.out.trans (all_drop _ _ _ k (by rw [HN.out]; exact hlt))
      clear a0 a1 hA HA
      generalize Tr.termD l k = t at *
      have hb2 := hbel.trans ((below_alloc wr (.cells #[.string ⟨t.var.toArray⟩, .int .i64 t.n] 57)).mono hbel.size)
      have HO : Hid (Tr.termOk t = if t.var.isEmpty then Tr.between t.n (-9999999) 9999999 else (t.n == 0) && Tk.isTok 2 t.var) := rfl
      cases g1 : t.var.isEmpty
      · cases g2 : (t.n != 0)
        · cases g3 : Tk.isTok 2 t.var
          · have HV : Hid (Tr.termsOk l = false) := by show _ = _; rw [HD.out, HO.out, g1, g3]; simp
            clear HO HD
            go_wp2_with (go_at_call 35; refine (isTok_at _ _ _).mono ?_; rintro e w' ⟨rfl, rfl⟩)
            go_ret
            exact ⟨ret_bool HV.out.symm, hb2⟩
          · have g4 : (t.n == 0) = true := by simpa using g2
            have HV : Hid (Tr.termsOk l = (l.drop (k + 1)).all Tr.termOk) := by show _ = _; rw [HD.out, HO.out, g1, g3, g4]; rfl
            clear HO HD g4
            go_wp2_with (go_at_call 35; refine (isTok_at _ _ _).mono ?_; rintro e w' ⟨rfl, rfl⟩)
            go_roundw
            case rel => exact ⟨k + 1, by omega, by go_num, HV.out, hb2⟩
            case measure => simp [intOf]; omega
        · have g4 : (t.n == 0) = false := by simpa using g2
          have HV : Hid (Tr.termsOk l = false) := by show _ = _; rw [HD.out, HO.out, g1, g4]; rfl
          clear HO HD g4
          go_wp2_with fail
          go_ret
          exact ⟨ret_bool HV.out.symm, hb2⟩
      · cases g2 : Tr.between t.n (-9999999) 9999999
        · have HV : Hid (Tr.termsOk l = false) := by show _ = _; rw [HD.out, HO.out, g1, g2]; rfl
          unfold Tr.between at g2
          clear HO HD
          go_wp2_with (go_at_call 19; refine (between_any _ _ _ _).mono ?_; rintro e w' ⟨rfl, rfl⟩)
          go_ret
          exact ⟨ret_bool HV.out.symm, hb2⟩
        · have HV : Hid (Tr.termsOk l = (l.drop (k + 1)).all Tr.termOk) := by show _ = _; rw [HD.out, HO.out, g1, g2]; rfl
          unfold Tr.between at g2
          clear HO HD
          go_wp2_with (go_at_call 19; refine (between_any _ _ _ _).mono ?_; rintro e w' ⟨rfl, rfl⟩)
          go_roundw
          case rel => exact ⟨k + 1, by omega, by go_num, HV.out, hb2⟩
          case measure => simp [intOf]; omega
    · have HV : Hid (Tr.termsOk l = true) := by show _ = _; rw [HA.out, List.drop_of_length_le (by rw [HN.out]; omega)]; rfl
      clear hA
      go_wp2_with fail
      go_ret
      exact ⟨ret_bool HV.out.symm, hbel⟩

theorem areTerms_any (l : List Tr.Term) (v : Value) (w : World) (hmax : l.length ≤ 140737488355328) (hA : TermsV w v l) :
    Calls Tryz.prog 18 #[v] w fun e w' => e = .returned (.bool (Tr.termsOk l)) ∧ Below w.heap.size w w' := by
  obtain ⟨ao, cap, rfl, hA⟩ := hA
  rcases hA with rfl | ⟨b, off, rfl, hA⟩
  · exact areTerms_none w ao cap
  · exact areTerms_some l w l.length b off cap rfl hmax hA

end Go.Proofs.YtclbbiocagkmcaaGreatDoor

/- The document's reader of tokens, in memory. -/
namespace Go.Proofs.YtclbbiocagkmcaaGreatDoor
open Go.RowKit

namespace Rd
/-- The text of the next token; none, if it has failed. -/
def text (s : Int ⊕ List Tk.Tok) : List UInt8 := match s with | .inl _ => [] | .inr r => (Pr.hd 0 r).text
def here (en : Int) (s : Int ⊕ List Tk.Tok) : Int := match s with | .inl a => a | .inr r => (Pr.hd en r).at_
def bad (s : Int ⊕ List Tk.Tok) : Bool := match s with | .inl _ => true | .inr _ => false
def need (t : List UInt8) (en : Int) (s : Int ⊕ List Tk.Tok) : Int ⊕ List Tk.Tok := match s with | .inl a => .inl a | .inr r => Pr.must t en r
/-- What a step of the parser makes of a reader. -/
def on {α : Type} (f : List Tk.Tok → Int ⊕ (α × List Tk.Tok)) (s : Int ⊕ List Tk.Tok) : Int ⊕ (α × List Tk.Tok) := match s with | .inl a => .inl a | .inr r => f r
/-- A value and a reader are what such a step says: if it fails, the value may be anything. -/
def Ends {α : Type} (x : Int ⊕ (α × List Tk.Tok)) (v : α) (s : Int ⊕ List Tk.Tok) : Prop := match x with | .inl a => s = .inl a | .inr y => v = y.1 ∧ s = .inr y.2
theorem text_hd (en : Int) (r : List Tk.Tok) : text (.inr r) = (Pr.hd en r).text := by cases r <;> rfl
end Rd

/-- The reader's block, and its tokens. -/
def RAt (w : World) (R : Nat) (L : List Tk.Tok) (en : Int) (s : Int ⊕ List Tk.Tok) : Prop :=
  ∃ (nx : Nat) (ao : Option Addr) (cap : Nat), nx ≤ L.length ∧ L.length ≤ 5000 ∧ (∀ t ∈ L, Tk.Good t) ∧ w.heap[R]? = some (.cells #[.slice ao L.length cap, .int .i64 nx, .int .i64 en, .bool (Rd.bad s)] 76 (0, 0)) ∧
    (match s with | .inl a => (Pr.hd en (L.drop nx)).at_ = a | .inr r => L.drop nx = r) ∧ (L = [] ∨ ∃ b off, ao = some ⟨b, off, none⟩ ∧ b < R ∧ ∀ i, i < L.length → TokIn w b (off + i * 3) (tokD L i))

section
variable {w w' : World} {R : Nat} {L : List Tk.Tok} {en : Int} {s s' : Int ⊕ List Tk.Tok} {r : List Tk.Tok}
theorem RAt.lt (h : RAt w R L en s) : R < w.heap.size := by
  obtain ⟨nx, ao, cap, _, _, _, h1, _⟩ := h
  exact heap_lt h1
theorem RAt.keep (h : RAt w R L en s) (hk : ∀ k, k ≤ R → w'.heap[k]? = w.heap[k]?) : RAt w' R L en s := by
  obtain ⟨nx, ao, cap, h1, h2, h3, h4, h5, h6⟩ := h
  refine ⟨nx, ao, cap, h1, h2, h3, by rw [hk R (Nat.le_refl _)]; exact h4, h5, ?_⟩
  rcases h6 with h | ⟨b, off, rfl, hlt, hc⟩
  · exact .inl h
  · refine .inr ⟨b, off, rfl, hlt, fun i hi => ?_⟩
    have e : ∀ o, w'.cell? ⟨b, o, none⟩ = w.cell? ⟨b, o, none⟩ := fun o => World.cell?_of_block (a := ⟨b, o, none⟩) (hk b (by omega))
    obtain ⟨c0, c1, c2⟩ := hc i hi
    exact ⟨(e _).trans c0, (e _).trans c1, (e _).trans c2⟩
theorem RAt.below (h : RAt w R L en s) (hb : Below w.heap.size w w') : RAt w' R L en s := h.keep fun k hk => hb.block k (Nat.lt_of_le_of_lt hk h.lt)
theorem RAt.set (h : RAt w R L en s) {b : Nat} (hb : R < b) (o : Nat) (v : Value) : RAt (w.setCell ⟨b, o, none⟩ v) R L en s :=
  h.keep fun k hk => Below.heap_setCell _ _ _ _ (show ¬ k = b by omega)
theorem RAt.cells (h : RAt w R L en s) : ∃ (nx : Nat) (ao : Option Addr) (cap : Nat), nx ≤ 5000 ∧ w.cell? ⟨R, 0, none⟩ = some (.slice ao L.length cap) ∧ w.cell? ⟨R, 1, none⟩ = some (.int .i64 nx) ∧ w.cell? ⟨R, 2, none⟩ = some (.int .i64 en) ∧ w.cell? ⟨R, 3, none⟩ = some (.bool (Rd.bad s)) ∧
    w.frozen? ⟨R, 1, none⟩ = false ∧ w.frozen? ⟨R, 3, none⟩ = false := by
  obtain ⟨nx, ao, cap, h1, h2, h3, h4, h5, h6⟩ := h
  exact ⟨nx, ao, cap, by omega, by rw [Lib.cell_of_heap h4]; rfl, by rw [Lib.cell_of_heap h4]; rfl, by rw [Lib.cell_of_heap h4]; rfl, by rw [Lib.cell_of_heap h4]; rfl, by simp [World.frozen?, h4], by simp [World.frozen?, h4]⟩
theorem RAt.good (h : RAt w R L en (.inr r)) : ∀ t ∈ r, Tk.Good t := by
  obtain ⟨nx, ao, cap, h1, h2, h3, h4, h5, h6⟩ := h
  intro t ht
  exact h3 t (List.mem_of_mem_drop (i := nx) (by rw [show L.drop nx = r from h5]; exact ht))
theorem RAt.len (h : RAt w R L en (.inr r)) : r.length ≤ L.length ∧ L.length ≤ 5000 := by
  obtain ⟨nx, ao, cap, h1, h2, h3, h4, h5, h6⟩ := h
  have h5 : L.drop nx = r := h5
  exact ⟨by rw [← h5]; simp, h2⟩
/-- It has failed: nothing goes on. -/
theorem RAt.fail (h : RAt w R L en s) : RAt (w.setCell ⟨R, 3, none⟩ (.bool true)) R L en (.inl (Rd.here en s)) := by
  obtain ⟨nx, ao, cap, h1, h2, h3, h4, h5, h6⟩ := h
  refine ⟨nx, ao, cap, h1, h2, h3, by simp [World.setCell, Array.getElem?_modify, h4, Rd.bad], ?_, ?_⟩
  · cases s with
    | inl a => exact h5
    | inr r => show (Pr.hd en (L.drop nx)).at_ = _; rw [show L.drop nx = r from h5]; rfl
  · rcases h6 with h | ⟨b, off, rfl, hlt, hc⟩
    · exact .inl h
    · refine .inr ⟨b, off, rfl, hlt, fun i hi => ?_⟩
      have e : ∀ o, (w.setCell ⟨R, 3, none⟩ (.bool true)).cell? ⟨b, o, none⟩ = w.cell? ⟨b, o, none⟩ := fun o => World.cell?_of_block (a := ⟨b, o, none⟩) (Below.heap_setCell _ _ _ _ (show ¬ b = R by omega))
      obtain ⟨c0, c1, c2⟩ := hc i hi
      exact ⟨(e _).trans c0, (e _).trans c1, (e _).trans c2⟩
/-- One token on. -/
theorem RAt.next (h : RAt w R L en (.inr r)) (hr : ¬ r = []) : ∃ nx : Nat, nx ≤ 5000 ∧ w.cell? ⟨R, 1, none⟩ = some (.int .i64 nx) ∧ RAt (w.setCell ⟨R, 1, none⟩ (.int .i64 ((nx : Int) + 1))) R L en (.inr r.tail) := by
  obtain ⟨nx, ao, cap, h1, h2, h3, h4, h5, h6⟩ := h
  have h5 : L.drop nx = r := h5
  have hlt : nx < L.length := by
    rcases Nat.lt_or_ge nx L.length with h | h
    · exact h
    · exact absurd (h5.symm.trans (List.drop_of_length_le h)) hr
  refine ⟨nx, by omega, by rw [Lib.cell_of_heap h4]; rfl, nx + 1, ao, cap, hlt, h2, h3, by simp [World.setCell, Array.getElem?_modify, h4, Rd.bad], by show L.drop (nx + 1) = r.tail; rw [← h5, List.tail_drop], ?_⟩
  rcases h6 with h | ⟨b, off, rfl, hlt, hc⟩
  · exact .inl h
  · refine .inr ⟨b, off, rfl, hlt, fun i hi => ?_⟩
    have e : ∀ o, (w.setCell ⟨R, 1, none⟩ (.int .i64 ((nx : Int) + 1))).cell? ⟨b, o, none⟩ = w.cell? ⟨b, o, none⟩ := fun o => World.cell?_of_block (a := ⟨b, o, none⟩) (Below.heap_setCell _ _ _ _ (show ¬ b = R by omega))
    obtain ⟨c0, c1, c2⟩ := hc i hi
    exact ⟨(e _).trans c0, (e _).trans c1, (e _).trans c2⟩
end

set_option maxRecDepth 100000 in
set_option maxHeartbeats 1000000 in
theorem Text_any (R : Nat) (L : List Tk.Tok) (en : Int) (s : Int ⊕ List Tk.Tok) (w : World) (hA : RAt w R L en s) :
    Calls Tryz.prog 42 #[.pointer (some ⟨R, 0, none⟩)] w fun e w' => e = .returned (.string ⟨(Rd.text s).toArray⟩) ∧ ∃ k, w' = w.drewN k := by
  obtain ⟨nx, ao, cap, h1, h2, h3, h4, h5, h6⟩ := hA
  have q0 : w.cell? ⟨R, 0, none⟩ = some (.slice ao L.length cap) := by rw [Lib.cell_of_heap h4]; rfl
  have q1 : w.cell? ⟨R, 1, none⟩ = some (.int .i64 nx) := by rw [Lib.cell_of_heap h4]; rfl
  have q3 : w.cell? ⟨R, 3, none⟩ = some (.bool (Rd.bad s)) := by rw [Lib.cell_of_heap h4]; rfl
  clear h4
  cases s with
  | inl a =>
    replace q3 : w.cell? ⟨R, 3, none⟩ = some (.bool true) := q3
    clear h5 h6 h3
    go_enter Tryz.func42, Tryz.ntmps42
    go_wp2_with fail
    go_quiet (fail)
    go_wp2_with fail
    go_ret
    exact ⟨rfl, _, rfl⟩
  | inr r =>
    replace q3 : w.cell? ⟨R, 3, none⟩ = some (.bool false) := q3
    have h5 : L.drop nx = r := h5
    have ht : Rd.text (.inr r) = (Pr.hd 0 (L.drop nx)).text := by rw [h5]; rfl
    rw [hd_drop] at ht
    by_cases hlt : nx < L.length
    · rw [if_pos hlt] at ht
      rw [ht]
      rcases h6 with h | ⟨b, off, rfl, hb, hc⟩
      · rw [h] at hlt; exact absurd hlt (by simp)
      obtain ⟨a0, a1, a2⟩ := hc nx hlt
      have hd1 : decide ((L.length : Int) ≤ (nx : Int)) = false := decide_eq_false (by omega)
      clear h5 hc h3 ht
      generalize tokD L nx = x at *
      go_enter Tryz.func42, Tryz.ntmps42
      go_wp2_with fail
      go_quiet (fail)
      go_wp2_with fail
      go_quiet (fail)
      go_wp2_with fail
      go_ret
      exact ⟨rfl, _, drewN_two _ _ _⟩
    · rw [if_neg hlt] at ht
      rw [ht]
      have hd1 : decide ((L.length : Int) ≤ (nx : Int)) = true := decide_eq_true (by omega)
      clear h5 h6 h3 ht
      go_enter Tryz.func42, Tryz.ntmps42
      go_wp2_with fail
      go_quiet (fail)
      go_wp2_with fail
      go_ret
      exact ⟨rfl, _, rfl⟩

set_option maxRecDepth 100000 in
set_option maxHeartbeats 1000000 in
theorem Here_any (R : Nat) (L : List Tk.Tok) (en : Int) (s : Int ⊕ List Tk.Tok) (w : World) (hA : RAt w R L en s) :
    Calls Tryz.prog 39 #[.pointer (some ⟨R, 0, none⟩)] w fun e w' => e = .returned (.int .i64 (Rd.here en s)) ∧ ∃ k, w' = w.drewN k := by
  obtain ⟨nx, ao, cap, h1, h2, h3, h4, h5, h6⟩ := hA
  have q0 : w.cell? ⟨R, 0, none⟩ = some (.slice ao L.length cap) := by rw [Lib.cell_of_heap h4]; rfl
  have q1 : w.cell? ⟨R, 1, none⟩ = some (.int .i64 nx) := by rw [Lib.cell_of_heap h4]; rfl
  have q2 : w.cell? ⟨R, 2, none⟩ = some (.int .i64 en) := by rw [Lib.cell_of_heap h4]; rfl
  clear h4 h3
  have ht : Rd.here en s = (Pr.hd en (L.drop nx)).at_ := by
    cases s with
    | inl a => exact h5.symm
    | inr r => rw [show L.drop nx = r from h5]; rfl
  rw [ht, hd_drop]
  clear ht h5
  by_cases hlt : nx < L.length
  · rw [if_pos hlt]
    rcases h6 with h | ⟨b, off, rfl, hb, hc⟩
    · rw [h] at hlt; exact absurd hlt (by simp)
    obtain ⟨a0, a1, a2⟩ := hc nx hlt
    clear hc
    generalize tokD L nx = x at *
    go_enter Tryz.func39, Tryz.ntmps39
    go_wp2_with fail
    go_quiet (fail)
    go_wp2_with fail
    go_quiet (fail)
    go_wp2_with fail
    go_ret
    exact ⟨rfl, _, drewN_two _ _ _⟩
  · rw [if_neg hlt]
    have hd1 : decide (nx < L.length) = false := decide_eq_false hlt
    clear h6
    go_enter Tryz.func39, Tryz.ntmps39
    go_wp2_with fail
    go_quiet (fail)
    go_wp2_with fail
    go_ret
    exact ⟨rfl, _, rfl⟩

set_option maxRecDepth 100000 in
set_option maxHeartbeats 1000000 in
theorem Need_any (t : List UInt8) (ht : ¬ t = []) (R : Nat) (L : List Tk.Tok) (en : Int) (s : Int ⊕ List Tk.Tok) (w : World) (hA : RAt w R L en s) :
    Calls Tryz.prog 43 #[.pointer (some ⟨R, 0, none⟩), .string ⟨t.toArray⟩] w fun e w' => e = .returned (.tuple #[]) ∧ RAt w' R L en (Rd.need t en s) ∧ w.grownBy w' (some R) := by
  obtain ⟨nx, ao, cap, hnx, q0, q1, q2, q3, f1, f3⟩ := hA.cells
  cases s with
  | inl a =>
    replace q3 : w.cell? ⟨R, 3, none⟩ = some (.bool true) := q3
    go_enter Tryz.func43, Tryz.ntmps43
    go_wp2_with fail
    exact ⟨rfl, .tuple #[], by simp [results, Tryz.results43], rfl, hA, grownBy_of_below (Below.refl _ _) _⟩
  | inr r =>
    replace q3 : w.cell? ⟨R, 3, none⟩ = some (.bool false) := q3
    have HT := Text_any R L en (.inr r) w hA
    rw [Rd.text_hd en] at HT
    have hN : Rd.need t en (.inr r) = Pr.must t en r := rfl
    cases h : ((Pr.hd en r).text == t)
    · rw [hN, show Pr.must t en r = .inl (Pr.hd en r).at_ by unfold Pr.must; rw [h]; rfl]
      have hf : ∀ k, RAt ((w.drewN k).setCell ⟨R, 3, none⟩ (.bool true)) R L en (.inl (Pr.hd en r).at_) := fun k => RAt.fail (w := w.drewN k) (s := .inr r) hA
      generalize Pr.hd en r = x at *
      clear hN
      go_enter Tryz.func43, Tryz.ntmps43
      go_wp2_with fail
      refine HT.mono ?_
      rintro e w1 ⟨rfl, k, rfl⟩
      go_wp2_with fail
      exact ⟨rfl, .tuple #[], by simp [results, Tryz.results43], rfl, hf k, grownBy_trans (grownBy_of_below (below_drewN (Below.refl _ _) k) _) (grownBy_set _ _)⟩
    · rw [hN, show Pr.must t en r = .inr r.tail by unfold Pr.must; rw [h]; rfl]
      have hr : ¬ r = [] := hd_ne ht h
      obtain ⟨nx', _, q1', hx⟩ := hA.next hr
      obtain rfl : nx = nx' := by rw [q1] at q1'; injection q1' with e; injection e with _ e; omega
      have hf : ∀ k, RAt ((w.drewN k).setCell ⟨R, 1, none⟩ (.int .i64 ((nx : Int) + 1))) R L en (.inr r.tail) := fun k => hx
      generalize Pr.hd en r = x at *
      clear hN hx
      go_enter Tryz.func43, Tryz.ntmps43
      go_wp2_with fail
      refine HT.mono ?_
      rintro e w1 ⟨rfl, k, rfl⟩
      go_wp2_with fail
      exact ⟨rfl, .tuple #[], by simp [results, Tryz.results43], rfl, hf k, grownBy_trans (grownBy_of_below (below_drewN (Below.refl _ _) k) _) (grownBy_set _ _)⟩

end Go.Proofs.YtclbbiocagkmcaaGreatDoor

/- What is joined is scanned as it was, and what is scanned is joined: plain lists of bytes. -/
namespace Go.Proofs.YtclbbiocagkmcaaGreatDoor
open Go.RowKit

theorem pre_take (p : Int → Bool) (l : List UInt8) : Tk.pre p (l.take (Tk.pre p l)) = Tk.pre p l := by
  induction l with
  | nil => rfl
  | cons c r ih =>
    by_cases h : p c.toNat = true
    · rw [Tk.pre, if_pos h, List.take_succ_cons, Tk.pre, if_pos h, ih]
    · rw [Tk.pre, if_neg h]; rfl

/-- All of it is such, and what follows is not. -/
theorem pre_append (p : Int → Bool) : ∀ (t r : List UInt8), Tk.pre p t = t.length → (∀ c s, r = c :: s → p c.toNat = false) → Tk.pre p (t ++ r) = t.length := by
  intro t
  induction t with
  | nil =>
    intro r _ hr
    cases r with
    | nil => rfl
    | cons c s => rw [List.nil_append, Tk.pre, if_neg (by simp [hr c s rfl])]; rfl
  | cons c t ih =>
    intro r ht hr
    by_cases h : p c.toNat = true
    · rw [Tk.pre, if_pos h] at ht
      rw [List.cons_append, Tk.pre, if_pos h, ih r (by simpa using ht) hr]
      rfl
    · rw [Tk.pre, if_neg h] at ht
      exact absurd ht (by simp)

theorem sign_cases (c : UInt8) (r : List UInt8) : (Tk.signLen (c :: r) = 2 ∧ ∃ d s, r = d :: s ∧ ((c = 58 ∧ d = 45) ∨ (c = 60 ∧ d = 61) ∨ (c = 33 ∧ d = 61))) ∨
    (¬ (∃ d s, r = d :: s ∧ ((c = 58 ∧ d = 45) ∨ (c = 60 ∧ d = 61) ∨ (c = 33 ∧ d = 61))) ∧ Tk.signLen (c :: r) = if Tk.isSign c then 1 else 0) := by
  have key : ∀ a b : UInt8, [a, b].isPrefixOf (c :: r) = true ↔ ∃ d s, r = d :: s ∧ c = a ∧ d = b := by
    intro a b
    cases r with
    | nil => simp [List.isPrefixOf]
    | cons d s =>
      simp only [List.isPrefixOf, Bool.and_true, Bool.and_eq_true, beq_iff_eq]
      constructor
      · rintro ⟨rfl, rfl⟩; exact ⟨_, _, rfl, rfl, rfl⟩
      · rintro ⟨d', s', e, rfl, rfl⟩
        injection e with e1 _
        exact ⟨rfl, e1.symm⟩
  by_cases h : ([58, 45].isPrefixOf (c :: r) || [60, 61].isPrefixOf (c :: r) || [33, 61].isPrefixOf (c :: r)) = true
  · left
    refine ⟨by rw [Tk.signLen, if_pos h], ?_⟩
    simp only [Bool.or_eq_true] at h
    rcases h with (h | h) | h
    · obtain ⟨d, s, e, h1, h2⟩ := (key _ _).1 h; exact ⟨d, s, e, .inl ⟨h1, h2⟩⟩
    · obtain ⟨d, s, e, h1, h2⟩ := (key _ _).1 h; exact ⟨d, s, e, .inr (.inl ⟨h1, h2⟩)⟩
    · obtain ⟨d, s, e, h1, h2⟩ := (key _ _).1 h; exact ⟨d, s, e, .inr (.inr ⟨h1, h2⟩)⟩
  · right
    refine ⟨?_, by rw [Tk.signLen, if_neg h]⟩
    rintro ⟨d, s, e, h1 | h1 | h1⟩
    · exact h (by rw [(key 58 45).2 ⟨d, s, e, h1⟩]; rfl)
    · exact h (by rw [(key 60 61).2 ⟨d, s, e, h1⟩]; simp)
    · exact h (by rw [(key 33 61).2 ⟨d, s, e, h1⟩]; simp)

/-- A token stands alone as it stood in the text. -/
theorem tok_take (c : UInt8) (r : List UInt8) (he : Tk.errOf (c :: r) = 0) : Tk.isTok (Tk.kindOf (c :: r)) ((c :: r).take (Tk.lenOf (c :: r))) = true := by
  have hpos := Tk.lenOf_pos (c :: r) (by simp) he
  have hle := Tk.lenOf_le (c :: r)
  obtain ⟨n, hn⟩ : ∃ n, Tk.lenOf (c :: r) = n + 1 := ⟨Tk.lenOf (c :: r) - 1, by omega⟩
  have ht : (c :: r).take (Tk.lenOf (c :: r)) = c :: r.take n := by rw [hn, List.take_succ_cons]
  have hlt : (c :: r.take n).length = Tk.lenOf (c :: r) := by rw [← ht, List.length_take]; omega
  have hlen : Tk.lenOf (c :: r.take n) = Tk.lenOf (c :: r) := by
    rw [lenOf_cons, lenOf_cons] at *
    by_cases h1 : (Tk.small c.toNat || Tk.great c.toNat) = true
    · rw [if_pos h1] at *
      rw [if_pos h1]
      have := pre_take Tk.alnum (c :: r)
      rw [hn, List.take_succ_cons] at this
      rw [this, hn]
    · rw [if_neg h1] at *
      rw [if_neg h1]
      by_cases h2 : Tk.digit c.toNat = true
      · rw [if_pos h2] at *
        rw [if_pos h2]
        have := pre_take Tk.digit (c :: r)
        rw [hn, List.take_succ_cons] at this
        rw [this, hn]
      · rw [if_neg h2] at *
        rw [if_neg h2]
        rcases sign_cases c r with ⟨g1, d, s, rfl, g2⟩ | ⟨g1, g2⟩
        · rw [g1] at hn
          have hn1 : n = 1 := by omega
          subst hn1
          rcases sign_cases c ((d :: s).take 1) with ⟨k1, _⟩ | ⟨k1, _⟩
          · rw [k1, g1]
          · exact absurd ⟨d, [], rfl, g2⟩ k1
        · have hs : Tk.isSign c = true := by
            by_cases hs : Tk.isSign c = true
            · exact hs
            · rw [if_neg hs] at g2; omega
          rw [if_pos hs] at g2
          rw [g2] at hn
          have hn0 : n = 0 := by omega
          subst hn0
          rcases sign_cases c (r.take 0) with ⟨_, d, s, e, _⟩ | ⟨_, k2⟩
          · exact absurd e (by simp)
          · rw [k2, if_pos hs, g2]
  have herr : Tk.errOf (c :: r.take n) = 0 := by
    rw [lenOf_cons, lenOf_cons] at hlen
    rw [errOf_cons] at he ⊢
    by_cases h1 : (Tk.small c.toNat || Tk.great c.toNat) = true
    · rw [if_pos h1] at he ⊢
      rw [if_pos h1, if_pos h1] at hlen
      rw [hlen]; exact he
    · rw [if_neg h1] at he ⊢
      rw [if_neg h1, if_neg h1] at hlen
      by_cases h2 : Tk.digit c.toNat = true
      · rw [if_pos h2] at he ⊢
        rw [if_pos h2, if_pos h2] at hlen
        rw [hlen]; exact he
      · rw [if_neg h2] at he ⊢
        rw [if_neg h2, if_neg h2] at hlen
        rw [hlen]; exact he
  rw [ht]
  refine decide_eq_true ⟨by simp, ?_, herr, ?_, by rw [hlen, hlt]⟩
  · rw [hlt]
    rcases tok_cases c r with ⟨c1, cE⟩ | ⟨c1, cK, c3, cE⟩ | ⟨c1, cK, c3, cE⟩ | ⟨c1, cK, c3, cE⟩ | ⟨c1, cK, c3, c4, c5, cE⟩ | ⟨c1, cK, c3, cE⟩ | ⟨c1, cK, c3, c4, c5, cE⟩ | ⟨c1, cK, cE⟩
    · omega
    · omega
    · omega
    · omega
    · omega
    · omega
    · omega
    · have e2 := lenOf_cons c r
      have e1 := kindOf_cons c r
      rw [cK] at e1
      cases g1 : Tk.small c.toNat
      · cases g2 : Tk.great c.toNat
        · cases g3 : Tk.digit c.toNat
          · rw [g1, g2, g3] at e2
            simp only [Bool.or_self, Bool.false_eq_true, if_false] at e2
            rcases sign_cases c r with ⟨k1, _⟩ | ⟨_, k1⟩
            · omega
            · rw [k1] at e2; split at e2 <;> omega
          · rw [g1, g2, g3] at e1; simp at e1
        · rw [g1, g2] at e1; simp at e1
      · rw [g1] at e1; simp at e1
  · rw [kindOf_cons, kindOf_cons]

/-- What is scanned is a list of such tokens. -/
theorem scanP_toks (L : List UInt8) : ∀ (f p : Nat) (acc : List Tk.Tok), (Tk.scanP L f p acc).2.2 = 0 → ∃ r, (Tk.scanP L f p acc).1 = acc ++ r ∧ (r.all fun t => Tk.isTok t.kind t.text) = true := by
  intro f
  induction f with
  | zero => intro p acc _; exact ⟨[], by simp [Tk.scanP], rfl⟩
  | succ f ih =>
    intro p acc h
    rw [Tk.scanP] at h ⊢
    split
    · exact ⟨[], by simp, rfl⟩
    · rename_i h1
      rw [if_neg h1] at h
      split
      · rename_i h2
        rw [if_pos h2] at h
        obtain ⟨r, hr, ha⟩ := ih _ _ h
        refine ⟨Tk.tokAt L p :: r, by rw [hr]; simp, ?_⟩
        rw [List.all_cons, ha, Bool.and_true]
        have hd := Tk.drop_cons L p (by omega)
        rw [hd] at h2
        show Tk.isTok (Tk.kindOf (L.drop p)) ((L.drop p).take (Tk.lenOf (L.drop p))) = true
        rw [hd]
        exact tok_take _ _ h2
      · rename_i h2
        rw [if_neg h2] at h
        exact absurd h h2
theorem scan_toks (L : List UInt8) (h : (Tk.scan L).2.2 = 0) : Tk.allTok (Tk.scan L).1 (Tk.scan L).1.length = true := by
  unfold Tk.allTok
  rw [List.take_length]
  unfold Tk.scan at h ⊢
  split
  · rfl
  · rename_i h1
    rw [if_neg h1] at h
    obtain ⟨r, hr, ha⟩ := scanP_toks L _ _ _ h
    rw [hr, List.nil_append]
    exact ha

/-- A token with nothing, or a blank, behind it. -/
theorem tok_blank (t r : List UInt8) (k : Int) (h : Tk.isTok k t = true) (hr : ∀ c s, r = c :: s → c = 32) :
    Tk.errOf (t ++ r) = 0 ∧ Tk.kindOf (t ++ r) = k ∧ Tk.lenOf (t ++ r) = t.length ∧ Tk.sep false (t ++ r) = 0 := by
  have h := of_decide_eq_true h
  obtain ⟨h1, h2, h3, h4, h5⟩ := h
  match t, h1 with
  | c :: q, _ =>
    have hp : ∀ p : Int → Bool, p 32 = false → ∀ c s, r = c :: s → p c.toNat = false := fun p hp c s e => by rw [hr c s e]; exact hp
    have hk : Tk.kindOf (c :: (q ++ r)) = k := by rw [kindOf_cons]; rw [kindOf_cons] at h4; exact h4
    have hlen : Tk.lenOf (c :: (q ++ r)) = (c :: q).length := by
      rw [lenOf_cons] at h5 ⊢
      by_cases g1 : (Tk.small c.toNat || Tk.great c.toNat) = true
      · rw [if_pos g1] at h5 ⊢
        exact pre_append Tk.alnum (c :: q) r h5 (hp _ rfl)
      · rw [if_neg g1] at h5 ⊢
        by_cases g2 : Tk.digit c.toNat = true
        · rw [if_pos g2] at h5 ⊢
          exact pre_append Tk.digit (c :: q) r h5 (hp _ rfl)
        · rw [if_neg g2] at h5 ⊢
          rcases sign_cases c q with ⟨k1, d, s, rfl, k2⟩ | ⟨k1, k2⟩
          · rcases sign_cases c (d :: s ++ r) with ⟨m1, _⟩ | ⟨m1, _⟩
            · rw [m1, ← h5, k1]
            · exact absurd ⟨d, s ++ r, rfl, k2⟩ m1
          · have hl : 1 ≤ (c :: q).length := by simp
            have hs : Tk.isSign c = true := by
              by_cases hs : Tk.isSign c = true
              · exact hs
              · rw [if_neg hs] at k2; omega
            rw [if_pos hs] at k2
            rw [k2] at h5
            have hq : q = [] := List.eq_nil_of_length_eq_zero (by simpa using h5.symm)
            subst hq
            rcases sign_cases c ([] ++ r) with ⟨_, d, s, e, m2⟩ | ⟨_, m2⟩
            · have hd : d = 32 := hr d s (by simpa using e)
              subst hd
              rcases m2 with ⟨_, m⟩ | ⟨_, m⟩ | ⟨_, m⟩
              · exact absurd m (by decide)
              · exact absurd m (by decide)
              · exact absurd m (by decide)
            · rw [m2, if_pos hs]; rfl
    have herr : Tk.errOf (c :: (q ++ r)) = 0 := by
      rw [lenOf_cons] at hlen
      rw [lenOf_cons] at h5
      rw [errOf_cons] at h3 ⊢
      by_cases g1 : (Tk.small c.toNat || Tk.great c.toNat) = true
      · rw [if_pos g1] at h3 ⊢
        rw [if_pos g1] at hlen h5
        rw [hlen, ← h5]; exact h3
      · rw [if_neg g1] at h3 ⊢
        rw [if_neg g1] at hlen h5
        by_cases g2 : Tk.digit c.toNat = true
        · rw [if_pos g2] at h3 ⊢
          rw [if_pos g2] at hlen h5
          rw [hlen, ← h5]; exact h3
        · rw [if_neg g2] at h3 ⊢
          rw [if_neg g2] at hlen h5
          rw [hlen, ← h5]; exact h3
    exact ⟨herr, hk, hlen, sep_zero _ _ herr⟩

/-- The texts of tokens, a blank between, from the front. -/
def jn : List Tk.Tok → List UInt8
  | [] => []
  | t :: r => t.text ++ (match r with | [] => [] | _ :: _ => 32 :: jn r)

theorem jn_one (t : Tk.Tok) : jn [t] = t.text := by simp [jn]
theorem jn_more (t u : Tk.Tok) (r : List Tk.Tok) : jn (t :: u :: r) = t.text ++ 32 :: jn (u :: r) := by rw [jn]

theorem jn_snoc : ∀ (l : List Tk.Tok) (t : Tk.Tok), jn (l ++ [t]) = (if l = [] then [] else jn l ++ [32]) ++ t.text := by
  intro l
  induction l with
  | nil => intro t; simp [jn]
  | cons x l ih =>
    intro t
    cases l with
    | nil => simp [jn]
    | cons y l =>
      have := ih t
      rw [if_neg (by simp)] at this ⊢
      rw [List.cons_append, List.cons_append, jn_more, ← List.cons_append, this, jn_more]
      simp

theorem joinTo_jn (l : List Tk.Tok) : ∀ k, k ≤ l.length → Tk.joinTo l k = jn (l.take k) := by
  intro k
  induction k with
  | zero => intro _; rfl
  | succ k ih =>
    intro hk
    have e : tokD l k = l[k]'(by omega) := by rw [tokD, List.getD_eq_getElem?_getD, List.getElem?_eq_getElem (by omega)]; rfl
    rw [List.take_succ_eq_append_getElem (by omega), jn_snoc, Tk.joinTo, ih (by omega), e]
    by_cases h0 : k = 0
    · subst h0; simp
    · rw [if_neg h0, if_neg]
      intro hn
      have := congrArg List.length hn
      rw [List.length_take, List.length_nil] at this
      omega

/-- What is joined is scanned as it was. -/
theorem scan_jn (L : List UInt8) : ∀ (l : List Tk.Tok), (l.all fun t => Tk.isTok t.kind t.text) = true → ∀ (f p : Nat) (acc : List Tk.Tok), L.drop p = jn l → L.length ≤ p + f → ∃ m, Tk.scanP L f p acc = (acc ++ m, 0, 0) ∧ Tk.same false l m = true := by
  intro l
  induction l with
  | nil =>
    intro _ f p acc hd _
    have hl : L.length ≤ p := by
      have := congrArg List.length hd
      rw [List.length_drop] at this
      simp [jn] at this
      omega
    exact ⟨[], by rw [Tk.scanP_end _ _ _ _ hl, List.append_nil], rfl⟩
  | cons t l ih =>
    intro ha f p acc hd hf
    rw [List.all_cons, Bool.and_eq_true] at ha
    obtain ⟨r, hr, hr32, hnext⟩ : ∃ r, jn (t :: l) = t.text ++ r ∧ (∀ c s, r = c :: s → c = 32) ∧ (l = [] ∧ r = [] ∨ r = 32 :: jn l ∧ l ≠ []) := by
      cases l with
      | nil => exact ⟨[], by simp [jn], fun c s e => (by cases e), .inl ⟨rfl, rfl⟩⟩
      | cons u l => exact ⟨32 :: jn (u :: l), jn_more t u l, fun c s e => (by injection e with e1 _; exact e1.symm), .inr ⟨rfl, by simp⟩⟩
    obtain ⟨b1, b2, b3, b4⟩ := tok_blank t.text r t.kind ha.1 hr32
    rw [hr] at hd
    have hpos : 1 ≤ t.text.length := by
      have := of_decide_eq_true ha.1
      rcases hh : t.text with _ | ⟨c, q⟩
      · exact absurd hh this.1
      · simp
    have hlen : L.length = p + t.text.length + r.length := by
      have := congrArg List.length hd
      rw [List.length_drop, List.length_append] at this
      omega
    obtain ⟨f, rfl⟩ : ∃ f', f = f' + 1 := ⟨f - 1, by omega⟩
    have hlt : p < L.length := by omega
    rw [← hd] at b1 b2 b3
    rw [Tk.scanP_yes L f p acc hlt b1, b3]
    have hdr : L.drop (p + t.text.length) = r := by
      rw [← List.drop_drop, hd, List.drop_left]
    have htok : Tk.tokAt L p = ⟨t.kind, p, t.text⟩ := by
      unfold Tk.tokAt
      rw [b2, b3, hd, List.take_left]
    rw [hdr, htok]
    have hone : Tk.sameOne false t ⟨t.kind, p, t.text⟩ = true := by simp [Tk.sameOne]
    rcases hnext with ⟨rfl, rfl⟩ | ⟨rfl, hne⟩
    · have hs0 : Tk.sep false [] = 0 := rfl
      rw [hs0, Tk.scanP_end _ _ _ _ (by rw [hlen]; simp)]
      exact ⟨[⟨t.kind, p, t.text⟩], rfl, by rw [Tk.same, hone]; rfl⟩
    · have hsep : Tk.sep false (32 :: jn l) = 1 := by
        rw [Tk.sep, if_neg (by decide), if_pos (by decide)]
        have : Tk.sep false (jn l) = 0 := by
          cases l with
          | nil => exact absurd rfl hne
          | cons u l =>
            rw [List.all_cons, Bool.and_eq_true] at ha
            obtain ⟨r', hr', hr32'⟩ : ∃ r, jn (u :: l) = u.text ++ r ∧ (∀ c s, r = c :: s → c = 32) := by
              cases l with
              | nil => exact ⟨[], by simp [jn], fun c s e => by cases e⟩
              | cons v l => exact ⟨32 :: jn (v :: l), jn_more u v l, fun c s e => by injection e with e1 _; exact e1.symm⟩
            rw [hr']
            exact (tok_blank u.text r' u.kind ha.2.1 hr32').2.2.2
        rw [this]
      rw [hsep]
      have hdr2 : L.drop (p + t.text.length + 1) = jn l := by
        rw [← List.drop_drop, hdr]; rfl
      obtain ⟨m, hm, hsame⟩ := ih ha.2 f (p + t.text.length + 1) (acc ++ [⟨t.kind, p, t.text⟩]) hdr2 (by omega)
      refine ⟨⟨t.kind, p, t.text⟩ :: m, by rw [hm]; simp, ?_⟩
      rw [Tk.same, hone, hsame]
      rfl

/-- Join, then Scan. -/
theorem join_scan (l : List Tk.Tok) (h : (Tk.join l).2 = 0) : (Tk.scan (Tk.join l).1).2.2 = 0 ∧ Tk.same false l (Tk.scan (Tk.join l).1).1 = true := by
  unfold Tk.join at h ⊢
  by_cases h1 : Tk.allTok l l.length = true
  · rw [if_pos h1] at h ⊢
    by_cases h2 : 5000 < (Tk.joinTo l l.length).length
    · rw [if_pos h2] at h; exact absurd h (by decide)
    · rw [if_neg h2]
      show (Tk.scan (Tk.joinTo l l.length)).2.2 = 0 ∧ Tk.same false l (Tk.scan (Tk.joinTo l l.length)).1 = true
      have hall : (l.all fun t => Tk.isTok t.kind t.text) = true := by
        unfold Tk.allTok at h1; rw [List.take_length] at h1; exact h1
      have hj : Tk.joinTo l l.length = jn l := by rw [joinTo_jn l l.length (Nat.le_refl _), List.take_length]
      rw [hj] at h2 ⊢
      have hsep : Tk.sep false (jn l) = 0 := by
        cases l with
        | nil => rfl
        | cons u l =>
          rw [List.all_cons, Bool.and_eq_true] at hall
          obtain ⟨r', hr', hr32'⟩ : ∃ r, jn (u :: l) = u.text ++ r ∧ (∀ c s, r = c :: s → c = 32) := by
            cases l with
            | nil => exact ⟨[], by simp [jn], fun c s e => by cases e⟩
            | cons v l => exact ⟨32 :: jn (v :: l), jn_more u v l, fun c s e => by injection e with e1 _; exact e1.symm⟩
          rw [hr']
          exact (tok_blank u.text r' u.kind hall.1 hr32').2.2.2
      obtain ⟨m, hm, hs⟩ := scan_jn (jn l) l hall (jn l).length 0 [] rfl (by omega)
      have hsc : Tk.scan (jn l) = (m, 0, 0) := by
        unfold Tk.scan
        rw [if_neg h2, hsep, hm]
        rfl
      rw [hsc]
      exact ⟨rfl, hs⟩
  · rw [if_neg h1] at h; exact absurd h (by decide)

/-- What is scanned is joined, if it is not too long. -/
theorem scan_join (L : List UInt8) (h : (Tk.scan L).2.2 = 0) (h2 : ¬ (Tk.join (Tk.scan L).1).2 = 0) : (Tk.join (Tk.scan L).1).2 = 2 := by
  have ha := scan_toks L h
  unfold Tk.join at h2 ⊢
  rw [if_pos ha] at h2 ⊢
  by_cases h3 : 5000 < (Tk.joinTo (Tk.scan L).1 (Tk.scan L).1.length).length
  · rw [if_pos h3]
  · rw [if_neg h3] at h2; exact absurd rfl h2

end Go.Proofs.YtclbbiocagkmcaaGreatDoor

