/- Own texts, one behind the other (part 6). -/
import Derived.Test.YtgpaleifhcdjnaaGreatDoorBundleE
import Derived.Test.YtgpaleifhcdjnaaGreatDoorRows
import Derived.Test.YtgpaleifhcdjnaaGreatDoorCards
import Derived.Test.YtgpaleifhcdjnaaGreatDoorTie
import Derived.Defers
import Derived.Recover
import Derived.RegionTactic
import Derived.ChangeAlike
import Derived.Deep.QuietTactic
import Derived.BigQuiet
import Derived.Deep.RegionHeld3
import Derived.RegionDies
/- The parser's rules. -/
namespace Go.Proofs.YtgpaleifhcdjnaaGreatDoor
open Go.RowKit

/-- What rule leaves. -/
def RuleEnd (P : Nat) (L : List Tk.Tok) (en : Int) (w : World) (x : Int ⊕ (Tr.Rule × List Tk.Tok)) (e : Ending) (w' : World) : Prop := match x with
  | .inl a => e = gaveP a ∧ w.grownBy w' (some P)
  | .inr x => ∃ v u, e = .returned (ruleVal x.1 v u) ∧ TermsP w.heap.size w' v x.1.terms ∧ LitsP w.heap.size w' u x.1.body ∧ Went w w' P L en x.2

theorem UInv.out {w wr : World} {B P : Nat} {L : List Tk.Tok} {en : Int} {r : List Tk.Tok} {at_ : Int} {nm : List UInt8} {tv : Value} {ts : List Tr.Term} {fo : Int} {bv : Value} {q : List (Tr.Lit × Value)} (h : UInv w wr B P L en r at_ nm tv ts fo bv q) (a b c d e : Value) :
    TermsP w.heap.size (((((wr.setCell ⟨w.heap.size, 0, none⟩ a).setCell ⟨w.heap.size, 1, none⟩ b).setCell ⟨w.heap.size, 2, none⟩ c).setCell ⟨w.heap.size, 3, none⟩ d).setCell ⟨w.heap.size, 4, none⟩ e) tv ts ∧
      LitsP w.heap.size (((((wr.setCell ⟨w.heap.size, 0, none⟩ a).setCell ⟨w.heap.size, 1, none⟩ b).setCell ⟨w.heap.size, 2, none⟩ c).setCell ⟨w.heap.size, 3, none⟩ d).setCell ⟨w.heap.size, 4, none⟩ e) bv (q.map (·.1)) ∧
      Went w (((((wr.setCell ⟨w.heap.size, 0, none⟩ a).setCell ⟨w.heap.size, 1, none⟩ b).setCell ⟨w.heap.size, 2, none⟩ c).setCell ⟨w.heap.size, 3, none⟩ d).setCell ⟨w.heap.size, 4, none⟩ e) P L en r := by
  have hB := h.ltB
  have h0 : LitsP (B + 1) wr bv (q.map (·.1)) := ⟨q, rfl, rowP_own (by intro c hc; simp at hc; obtain ⟨x, y, _, rfl⟩ := hc; rfl) (by rw [List.length_map]; exact h.own), h.lts⟩
  exact ⟨(h.trm.keep (keeps5 (by omega) _ _ _ _ _ _)).mono (by omega), (h0.keep (keeps5 (by omega) _ _ _ _ _ _)).mono (by omega), h.went.put5 h.lt _ _ _ _ _⟩

theorem A_info49 : (Tryz.prog.info? 61).map (fun i => (i.zero, i.size, i.bytes)) = some (some (.agg #[.int .i64 0, .int .i64 0, .int .i64 0, .string ⟨#[]⟩, .slice none 0 0]), 5, 64) := by kernel_rfl
theorem news_lit (w : World) (x : Tr.Lit) (v : Value) : ∀ j u, (litCells (x, v))[j]? = some u → (w.alloc (.cells #[.int .i64 x.kind, .int .i64 x.at_, .int .i64 x.op, .string ⟨x.name.toArray⟩, v] 61)).cell? ((⟨w.heap.size, 0, none⟩ : Addr).add j) = some u := World.news_of_block (heap_alloc_new w _)
theorem one_lit (x : Tr.Lit) (ao : Option Addr) (n c : Nat) : ∀ u ∈ litCells (x, .slice ao n c), u.oneCell' = true := by intro u hu; simp [litCells] at hu; rcases hu with rfl | rfl | rfl | rfl | rfl <;> rfl

set_option maxRecDepth 100000 in
set_option maxHeartbeats 4000000 in
theorem rule_any (P : Nat) (L : List Tk.Tok) (en : Int) (r : List Tk.Tok) (w : World) (hA : At w P L en r) :
    Calls Tryz.prog 93 #[.pointer (some ⟨P, 0, none⟩)] w (RuleEnd P L en w (Pr.rule en r)) := by
  obtain ⟨i0, hi, hz0, hz1, hz2⟩ := info_parts A_info49
  have HQ : Hid (∀ X, Pr.rule en r = X → ∀ e w', RuleEnd P L en w X e w' → RuleEnd P L en w (Pr.rule en r) e w') := by rintro X rfl e w' h; exact h
  generalize RuleEnd P L en w (Pr.rule en r) = Q at HQ ⊢
  have hpk : Hid _ := peekAt P L en r w hA
  cases hn : (((Pr.hd en r).kind == 1) && !Tr.isWord (Pr.hd en r).text)
  · have hN : Pr.name en r = .inl (Pr.hd en r).at_ := by unfold Pr.name; rw [hn]; rfl
    have HF : Hid (∀ e w', RuleEnd P L en w (.inl (Pr.hd en r).at_) e w' → Q e w') := fun e w' h => HQ.out _ (by rw [Pr.rule, hN]) e w' h
    have HN : Hid (∀ w1, At w1 P L en r → _) := fun w1 h => name_no P L en r w1 h hn
    clear hN HQ
    generalize Pr.hd en r = x at *
    go_enter Tryz.func93, Tryz.ntmps93
    go_wp2_with fail
    refine Calls.mono (hpk.out _ ((Below.refl _ _).alloc (Nat.le_refl _) _)) ?_
    rintro e w1 ⟨rfl, hb0⟩
    have hI := UInv.start hA hb0 x.at_
    go_wp2_with fail
    simp only [fld1]
    go_wp2_with fail
    refine Calls.mono (HN.out _ hI.went.2) ?_
    rintro e w2 ⟨rfl, hb2⟩
    exact ⟨rfl, HF.out _ _ ⟨rfl, ground hI.went.1 hb2⟩⟩
  · have hN : Pr.name en r = .inr ((Pr.hd en r).text, r.tail) := by unfold Pr.name; rw [hn]; rfl
    have HN : Hid (∀ w1, At w1 P L en r → _) := fun w1 h => name_yes P L en r w1 h hn
    have HT : Hid (∀ w1, At w1 P L en r.tail → _) := fun w1 h => terms_any true P L en r.tail w1 h
    unfold TermsEnd at HT
    have HR : Hid (∀ X, (match Pr.terms true en r.tail with
        | .inl p => Sum.inl p
        | .inr y => if (y.1.2 == 0) && Pr.isText en y.2 [46] then .inr ((⟨(Pr.hd en r).at_, (Pr.hd en r).text, y.1.1, y.1.2, []⟩ : Tr.Rule), y.2.tail) else Pr.tailOf (Pr.hd en r).at_ (Pr.hd en r).text y.1.1 y.1.2 en y.2) = X → ∀ e w', RuleEnd P L en w X e w' → Q e w') := by
      intro X hX e w' h
      refine HQ.out X ?_ e w' h
      rw [← hX]
      simp only [Pr.rule, hN]
      cases Pr.terms true en r.tail <;> rfl
    generalize Pr.hd en r = x at *
    clear hN hn HQ
    go_enter Tryz.func93, Tryz.ntmps93
    go_wp2_with fail
    refine Calls.mono (hpk.out _ ((Below.refl _ _).alloc (Nat.le_refl _) _)) ?_
    rintro e w1 ⟨rfl, hb0⟩
    have hI := UInv.start hA hb0 x.at_
    go_wp2_with fail
    simp only [fld1]
    go_wp2_with fail
    refine Calls.mono (HN.out _ hI.went.2) ?_
    rintro e w2 ⟨rfl, hW2⟩
    have hI2 := hI.on hW2
    have hI3 := hI2.setName x.text
    obtain ⟨c0, c1, c2, c3, c4, f1, f0⟩ := hI2.cells
    clear hI hW2 hb0 hpk HN hA
    generalize hB : w1.heap.size = B at *
    go_wp2_with fail
    refine Calls.mono (HT.out _ hI3.went.2) ?_
    clear c0 c1 c2 c3 c4 f1 f0 HT hI2
    have hsz3 := hI3.sz
    generalize w2.setCell ⟨B, 1, none⟩ (.string ⟨x.text.toArray⟩) = w3 at *
    cases hY : Pr.terms true en r.tail with
    | inl a =>
      have HF : Hid (∀ e w', RuleEnd P L en w (.inl a) e w' → Q e w') := fun e w' h => HR.out _ (by rw [hY]) e w' h
      rintro e w4 ⟨rfl, hg4⟩
      exact ⟨rfl, HF.out _ _ ⟨rfl, grownBy_trans hI3.went.1 hg4⟩⟩
    | inr y =>
      obtain ⟨⟨ts, fo⟩, r2⟩ := y
      rintro e w4 ⟨v, rfl, hT, hW4⟩
      have hI4 := (hI3.on hW4)
      have hI5 := hI4.setTerms (hT.mono hsz3) fo
      obtain ⟨c0, c1, c2, c3, c4, f1, f0⟩ := hI4.cells
      obtain ⟨aot, capt, hv, hT'⟩ := hT
      rw [List.length_map] at hv
      subst hv
      have HS : Hid (∀ X, (if (fo == 0) && Pr.isText en r2 [46] then Sum.inr ((⟨x.at_, x.text, ts, fo, []⟩ : Tr.Rule), r2.tail) else Pr.tailOf x.at_ x.text ts fo en r2) = X → ∀ e w', RuleEnd P L en w X e w' → Q e w') := fun X hX e w' h => HR.out _ (by rw [hY]; exact hX) e w' h
      clear HR hY hT'
      cases hf : (fo == 0)
      · have HX : Hid (∀ X, Pr.tailOf x.at_ x.text ts fo en r2 = X → ∀ e w', RuleEnd P L en w X e w' → Q e w') := fun X hX e w' h => HS.out X (by rw [hf]; exact hX) e w' h
        clear HS
        have hI6 := hI5
        cases hm : Pr.isText en r2 [58, 45]
        · have HF : Hid (∀ e w', RuleEnd P L en w (.inl (Pr.hd en r2).at_) e w' → Q e w') := fun e w' h => HX.out _ (by
            have : Pr.must [58, 45] en r2 = .inl (Pr.hd en r2).at_ := by unfold Pr.must; unfold Pr.isText at hm; rw [hm]; rfl
            rw [Pr.tailOf, this]) e w' h
          go_wp2_with fail
          refine (must_no [58, 45] P L en r2 _ hI6.went.2 hm).mono ?_
          rintro e w7 ⟨rfl, hb7⟩
          exact ⟨rfl, HF.out _ _ ⟨rfl, ground hI6.went.1 hb7⟩⟩
        · have HX2 : Hid (∀ X, (match Pr.lits en (r2.tail.length + 1) [] r2.tail with
              | .inl p => Sum.inl p
              | .inr b => match Pr.must [46] en b.2 with
                | .inl p => .inl p
                | .inr r2 => .inr ((⟨x.at_, x.text, ts, fo, b.1⟩ : Tr.Rule), r2)) = X → ∀ e w', RuleEnd P L en w X e w' → Q e w') := by
            intro X hX e w' h
            refine HX.out X ?_ e w' h
            rw [← hX]
            have : Pr.must [58, 45] en r2 = .inr r2.tail := by unfold Pr.must; unfold Pr.isText at hm; rw [hm]; rfl
            simp only [Pr.tailOf, this]
            cases Pr.lits en (r2.tail.length + 1) [] r2.tail with
            | inl a => rfl
            | inr b => cases h : Pr.must [46] en b.2 <;> simp only [h]
          have HM : Hid (∀ w1, At w1 P L en r2 → _) := fun w1 h => must_yes [58, 45] P L en r2 w1 h (by simp) hm
          generalize r2.tail = r3 at *
          clear HX hm
          go_wp2_with fail
          refine Calls.mono (HM.out _ hI6.went.2) ?_
          rintro e w7 ⟨rfl, hW7⟩
          have hI7 := hI6.on hW7
          clear hW7 HM hI6
          obtain ⟨c0, c1, c2, c3, c4, f1, f0⟩ := hI7.cells
          go_upto_region 7 with fail
          cases hL : Pr.lit en r3 with
          | inl a =>
            have HF : Hid (∀ e w', RuleEnd P L en w (.inl a) e w' → Q e w') := fun e w' h => HX2.out _ (by rw [lits_no hL]) e w' h
            have HN : Hid (∀ w1, At w1 P L en r3 → _) := fun w1 h => lit_any P L en r3 w1 h
            rw [hL] at HN
            go_region_dies
            all_goals (refine Calls.mono (HN.out _ (At.keep hI7.went.2 (fun _ _ => rfl))) ?_)
            all_goals rintro e y2 ⟨rfl, hg2⟩
            all_goals exact ⟨rfl, HF.out _ _ ⟨rfl, gone hI7.went.1 hg2 ⟨rfl, rfl, rfl, Nat.le_refl _, fun _ _ => rfl⟩⟩⟩
          | inr l1 =>
            obtain ⟨l1, r4⟩ := l1
            have hl4 : r4.length < r3.length := lit_len hL
            have hlits : Pr.lits en (r3.length + 1) [] r3 = Pr.after en r3.length [l1] r4 := lits_yes hL
            generalize hLX : Pr.lits en (r3.length + 1) [] r3 = LX at HX2
            rw [hlits] at hLX
            have HLX : Hid _ := hLX
            have HN : Hid (∀ w1, At w1 P L en r3 → _) := fun w1 h => lit_any P L en r3 w1 h
            rw [hL] at HN
            clear hL hlits hLX
            go_cut [] (fun wx => ∃ bv lv, UInv w wx B P L en r4 x.at_ x.text (.slice aot ts.length capt) ts fo bv [(l1, lv)])
            case first =>
              go_region_law (first
                | (go_simp; go_at_call 129; refine Calls.mono (HN.out _ (At.keep hI7.went.2 (fun _ _ => rfl))) ?_; rintro e y2 ⟨lv, rfl, hTl, hW2⟩; have hI2 := UInv.on2 hI7 hW2 ⟨rfl, rfl, rfl, Nat.le_refl _, fun _ _ => rfl⟩; have hTl2 := TermsP.mono (B' := B + 1) hTl hI7.sz; obtain ⟨aol, capl, hlv, hTl'⟩ := hTl; simp only [List.length_map] at hlv; subst hlv; obtain ⟨d0, d1, d2, d3, d4, g1, g0⟩ := hI2.cells; have hsz := hI2.sz; dsimp only)
                | (refine step_append_lies _ rfl (.tmp 29) (.tmp 32) 55 rfl (B + 1) 61 i0 _ 5 64 Tryz.underlying55 hi hz0 hz1 hz2 rfl (by decide) (.slice none 0 0) 0 _ ?hs (UInv.below hI2 ((Below.refl _ _).alloc (Nat.le_refl _) _)).own ⟨y2.heap.size, 0, none⟩ 1 1 (litCells (l1, .slice aol l1.terms.length capl)) ?hx rfl ?hn ?ho ?hm ?h6 ?hb ?hB _ rfl ?_
                   case hs => simp [Act.eval]
                   case hx => simp [Act.eval]
                   case hn => exact news_lit _ _ _
                   case ho => exact one_lit _ _ _ _
                   case hm => decide
                   case h6 => decide
                   case hb => decide
                   case hB => (simp; omega)
                   intro g cap y3 hown hgrow hat hlt
                   have hI3 := UInv.put (UInv.below hI2 ((Below.refl _ _).alloc (Nat.le_refl _) _)) hgrow (hTl2.keep (keeps_below _ ((Below.refl _ _).alloc (Nat.le_refl _) _))) hown
                   obtain ⟨_, _, e4, ef⟩ := UInv.app (UInv.below hI2 ((Below.refl _ _).alloc (Nat.le_refl _) _)) hgrow))
              all_goals (go_wp2_with fail; go_meet)
              all_goals exact ⟨_, _, hI3⟩
            case rest =>
              obtain ⟨bv, lv, hI8⟩ := hcut
              obtain ⟨m1, m2, m3⟩ := hI7.went.2.meas
              clear c0 c1 c2 c3 c4 f1 f0 hI7 HN
              go_wp2_with fail
              go_loopw [] (fun wr => ∃ (bv : Value) (q : List (Tr.Lit × Value)) (r5 : List Tk.Tok) (f : Nat), UInv w wr B P L en r5 x.at_ x.text (.slice aot ts.length capt) ts fo bv q ∧ q.length + r5.length ≤ L.length ∧ r5.length ≤ f ∧ Pr.after en f (q.map (·.1)) r5 = LX)
                (fun wr => L.length - nxOf wr P)
              case atStart => exact ⟨bv, [(l1, lv)], r4, r3.length, hI8, by simp; omega, by omega, HLX.out⟩
              case round =>
                obtain ⟨bv, q, r5, f, hI9, hlen, hrf, hAf⟩ := hrel
                have HAf : Hid _ := hAf
                obtain ⟨aob, capb, rfl⟩ := own_slice hI9.own
                clear hAf hI8 HLX
                cases hc : Pr.isText en r5 [44]
                · have hLX2 : LX = .inr (q.map (·.1), r5) := by rw [← HAf.out, Pr.after, hc]; rfl
                  cases hd : Pr.isText en r5 [46]
                  · have HF : Hid (∀ e w', RuleEnd P L en w (.inl (Pr.hd en r5).at_) e w' → Q e w') := fun e w' h => HX2.out _ (by
                      have : Pr.must [46] en r5 = .inl (Pr.hd en r5).at_ := by unfold Pr.must; unfold Pr.isText at hd; rw [hd]; rfl
                      rw [hLX2]; simp only [this]) e w' h
                    clear hLX2 HX2 HAf
                    go_wp2_with fail
                    refine (take_no [44] P L en r5 _ hI9.went.2 hc).mono ?_
                    rintro e w10 ⟨rfl, hb10⟩
                    have hI10 := hI9.below hb10
                    go_wp2_with fail
                    refine (must_no [46] P L en r5 _ hI10.went.2 hd).mono ?_
                    rintro e w11 ⟨rfl, hb11⟩
                    exact ⟨rfl, HF.out _ _ ⟨rfl, ground hI10.went.1 hb11⟩⟩
                  · have HF : Hid (∀ e w', RuleEnd P L en w (.inr (⟨x.at_, x.text, ts, fo, q.map (·.1)⟩, r5.tail)) e w' → Q e w') := fun e w' h => HX2.out _ (by
                      have : Pr.must [46] en r5 = .inr r5.tail := by unfold Pr.must; unfold Pr.isText at hd; rw [hd]; rfl
                      rw [hLX2]; simp only [this]) e w' h
                    clear hLX2 HX2 HAf
                    go_wp2_with fail
                    refine (take_no [44] P L en r5 _ hI9.went.2 hc).mono ?_
                    rintro e w10 ⟨rfl, hb10⟩
                    have hI10 := hI9.below hb10
                    go_wp2_with fail
                    refine (must_yes [46] P L en r5 _ hI10.went.2 (by simp) hd).mono ?_
                    rintro e w11 ⟨rfl, hW11⟩
                    have hI11 := hI10.on hW11
                    obtain ⟨c0, c1, c2, c3, c4, f1, f0⟩ := hI11.cells
                    obtain ⟨x0, x1, x2, x3, x4⟩ := hI11.rcells
                    go_wp2
                    exact bodyPost_ret (v := ruleVal ⟨x.at_, x.text, ts, fo, q.map (·.1)⟩ (.slice aot ts.length capt) (.slice aob q.length capb)) (by simp [results, Tryz.results93, go_sem, x0, x1, x2, x3, x4]) rfl (HF.out _ _ ⟨_, _, rfl, hI11.out _ _ _ _ _⟩)
                · have hl6 := text_len (by simp) hc
                  obtain ⟨f, rfl⟩ : ∃ f', f = f' + 1 := ⟨f - 1, by omega⟩
                  have HL2 : Hid (Pr.lits en (f + 1) (q.map (·.1)) r5.tail = LX) := by
                    have := HAf.out
                    rw [Pr.after, hc] at this
                    exact this
                  have hmeas := hI9.went.2.meas.1
                  go_wp2_with fail
                  refine (take_yes [44] P L en r5 _ hI9.went.2 (by simp) hc).mono ?_
                  rintro e w10 ⟨rfl, hW10⟩
                  have hI10 := hI9.on hW10
                  clear hI9 hW10 HAf hc
                  generalize r5.tail = r6 at *
                  obtain ⟨c0, c1, c2, c3, c4, f1, f0⟩ := hI10.cells
                  go_upto_region 9 with fail
                  cases hL : Pr.lit en r6 with
                  | inl a =>
                    have HF : Hid (∀ e w', RuleEnd P L en w (.inl a) e w' → Q e w') := fun e w' h => HX2.out _ (by rw [← HL2.out, lits_no hL]) e w' h
                    have HN : Hid (∀ w1, At w1 P L en r6 → _) := fun w1 h => lit_any P L en r6 w1 h
                    rw [hL] at HN
                    go_region_dies
                    all_goals (refine Calls.mono (HN.out _ (At.keep hI10.went.2 (fun _ _ => rfl))) ?_)
                    all_goals rintro e y2 ⟨rfl, hg2⟩
                    all_goals exact ⟨rfl, HF.out _ _ ⟨rfl, gone hI10.went.1 hg2 ⟨rfl, rfl, rfl, Nat.le_refl _, fun _ _ => rfl⟩⟩⟩
                  | inr l2 =>
                    obtain ⟨l2, r7⟩ := l2
                    have hl7 : r7.length < r6.length := lit_len hL
                    have HA2 : Hid (Pr.after en f (q.map (·.1) ++ [l2]) r7 = LX) := (lits_yes hL).symm.trans HL2.out
                    have HN : Hid (∀ w1, At w1 P L en r6 → _) := fun w1 h => lit_any P L en r6 w1 h
                    rw [hL] at HN
                    clear hL HL2
                    go_region_law (first
                      | (go_simp; go_at_call 129; refine Calls.mono (HN.out _ (At.keep hI10.went.2 (fun _ _ => rfl))) ?_; rintro e y2 ⟨lv, rfl, hTl, hW2⟩; have hI2 := UInv.on2 hI10 hW2 ⟨rfl, rfl, rfl, Nat.le_refl _, fun _ _ => rfl⟩; have hTl2 := TermsP.mono (B' := B + 1) hTl hI10.sz; obtain ⟨aol, capl, hlv, hTl'⟩ := hTl; simp only [List.length_map] at hlv; subst hlv; obtain ⟨d0, d1, d2, d3, d4, g1, g0⟩ := hI2.cells; have hsz := hI2.sz; dsimp only)
                      | (refine step_append_lies _ rfl (.tmp 38) (.tmp 41) 55 rfl (B + 1) 61 i0 _ 5 64 Tryz.underlying55 hi hz0 hz1 hz2 rfl (by decide) (.slice aob q.length capb) q.length _ ?hs (UInv.below hI2 ((Below.refl _ _).alloc (Nat.le_refl _) _)).own ⟨y2.heap.size, 0, none⟩ 1 1 (litCells (l2, .slice aol l2.terms.length capl)) ?hx rfl ?hn ?ho ?hm ?h6 ?hb ?hB _ rfl ?_
                         case hs => simp [Act.eval]
                         case hx => simp [Act.eval]
                         case hn => exact news_lit _ _ _
                         case ho => exact one_lit _ _ _ _
                         case hm => decide
                         case h6 => (unfold maxLen; omega)
                         case hb => omega
                         case hB => (simp; omega)
                         intro g cap y3 hown hgrow hat hlt
                         have hI3 := UInv.put (UInv.below hI2 ((Below.refl _ _).alloc (Nat.le_refl _) _)) hgrow (hTl2.keep (keeps_below _ ((Below.refl _ _).alloc (Nat.le_refl _) _))) hown
                         obtain ⟨_, _, e4, ef⟩ := UInv.app (UInv.below hI2 ((Below.refl _ _).alloc (Nat.le_refl _) _)) hgrow))
                    all_goals go_wp2_with fail
                    all_goals go_roundw
                    all_goals first
                      | exact ⟨_, q ++ [(l2, _)], r7, f, hI3, by rw [List.length_append]; simp; omega, by omega, by simpa using HA2.out⟩
                      | (rw [hI3.went.2.meas.1, hmeas]; show r7.length < r5.length; omega)
      · obtain rfl : fo = 0 := eq_of_beq hf
        cases hq : Pr.isText en r2 [46]
        · have HX : Hid (∀ X, Pr.tailOf x.at_ x.text ts 0 en r2 = X → ∀ e w', RuleEnd P L en w X e w' → Q e w') := fun X hX e w' h => HS.out X (by rw [hf, hq]; exact hX) e w' h
          clear HS
          go_wp2_with fail
          refine (take_no [46] P L en r2 _ hI5.went.2 hq).mono ?_
          rintro e w6 ⟨rfl, hb6⟩
          have hI6 := hI5.below hb6
          clear hb6 hI5 hI4 hq
          cases hm : Pr.isText en r2 [58, 45]
          · have HF : Hid (∀ e w', RuleEnd P L en w (.inl (Pr.hd en r2).at_) e w' → Q e w') := fun e w' h => HX.out _ (by
              have : Pr.must [58, 45] en r2 = .inl (Pr.hd en r2).at_ := by unfold Pr.must; unfold Pr.isText at hm; rw [hm]; rfl
              rw [Pr.tailOf, this]) e w' h
            go_wp2_with fail
            refine (must_no [58, 45] P L en r2 _ hI6.went.2 hm).mono ?_
            rintro e w7 ⟨rfl, hb7⟩
            exact ⟨rfl, HF.out _ _ ⟨rfl, ground hI6.went.1 hb7⟩⟩
          · have HX2 : Hid (∀ X, (match Pr.lits en (r2.tail.length + 1) [] r2.tail with
                | .inl p => Sum.inl p
                | .inr b => match Pr.must [46] en b.2 with
                  | .inl p => .inl p
                  | .inr r2 => .inr ((⟨x.at_, x.text, ts, 0, b.1⟩ : Tr.Rule), r2)) = X → ∀ e w', RuleEnd P L en w X e w' → Q e w') := by
              intro X hX e w' h
              refine HX.out X ?_ e w' h
              rw [← hX]
              have : Pr.must [58, 45] en r2 = .inr r2.tail := by unfold Pr.must; unfold Pr.isText at hm; rw [hm]; rfl
              simp only [Pr.tailOf, this]
              cases Pr.lits en (r2.tail.length + 1) [] r2.tail with
              | inl a => rfl
              | inr b => cases h : Pr.must [46] en b.2 <;> simp only [h]
            have HM : Hid (∀ w1, At w1 P L en r2 → _) := fun w1 h => must_yes [58, 45] P L en r2 w1 h (by simp) hm
            generalize r2.tail = r3 at *
            clear HX hm
            go_wp2_with fail
            refine Calls.mono (HM.out _ hI6.went.2) ?_
            rintro e w7 ⟨rfl, hW7⟩
            have hI7 := hI6.on hW7
            clear hW7 HM hI6
            obtain ⟨c0, c1, c2, c3, c4, f1, f0⟩ := hI7.cells
            go_upto_region 7 with fail
            cases hL : Pr.lit en r3 with
            | inl a =>
              have HF : Hid (∀ e w', RuleEnd P L en w (.inl a) e w' → Q e w') := fun e w' h => HX2.out _ (by rw [lits_no hL]) e w' h
              have HN : Hid (∀ w1, At w1 P L en r3 → _) := fun w1 h => lit_any P L en r3 w1 h
              rw [hL] at HN
              go_region_dies
              all_goals (refine Calls.mono (HN.out _ (At.keep hI7.went.2 (fun _ _ => rfl))) ?_)
              all_goals rintro e y2 ⟨rfl, hg2⟩
              all_goals exact ⟨rfl, HF.out _ _ ⟨rfl, gone hI7.went.1 hg2 ⟨rfl, rfl, rfl, Nat.le_refl _, fun _ _ => rfl⟩⟩⟩
            | inr l1 =>
              obtain ⟨l1, r4⟩ := l1
              have hl4 : r4.length < r3.length := lit_len hL
              have hlits : Pr.lits en (r3.length + 1) [] r3 = Pr.after en r3.length [l1] r4 := lits_yes hL
              generalize hLX : Pr.lits en (r3.length + 1) [] r3 = LX at HX2
              rw [hlits] at hLX
              have HLX : Hid _ := hLX
              have HN : Hid (∀ w1, At w1 P L en r3 → _) := fun w1 h => lit_any P L en r3 w1 h
              rw [hL] at HN
              clear hL hlits hLX
              go_cut [] (fun wx => ∃ bv lv, UInv w wx B P L en r4 x.at_ x.text (.slice aot ts.length capt) ts 0 bv [(l1, lv)])
              case first =>
                go_region_law (first
                  | (go_simp; go_at_call 129; refine Calls.mono (HN.out _ (At.keep hI7.went.2 (fun _ _ => rfl))) ?_; rintro e y2 ⟨lv, rfl, hTl, hW2⟩; have hI2 := UInv.on2 hI7 hW2 ⟨rfl, rfl, rfl, Nat.le_refl _, fun _ _ => rfl⟩; have hTl2 := TermsP.mono (B' := B + 1) hTl hI7.sz; obtain ⟨aol, capl, hlv, hTl'⟩ := hTl; simp only [List.length_map] at hlv; subst hlv; obtain ⟨d0, d1, d2, d3, d4, g1, g0⟩ := hI2.cells; have hsz := hI2.sz; dsimp only)
                  | (refine step_append_lies _ rfl (.tmp 29) (.tmp 32) 55 rfl (B + 1) 61 i0 _ 5 64 Tryz.underlying55 hi hz0 hz1 hz2 rfl (by decide) (.slice none 0 0) 0 _ ?hs (UInv.below hI2 ((Below.refl _ _).alloc (Nat.le_refl _) _)).own ⟨y2.heap.size, 0, none⟩ 1 1 (litCells (l1, .slice aol l1.terms.length capl)) ?hx rfl ?hn ?ho ?hm ?h6 ?hb ?hB _ rfl ?_
                     case hs => simp [Act.eval]
                     case hx => simp [Act.eval]
                     case hn => exact news_lit _ _ _
                     case ho => exact one_lit _ _ _ _
                     case hm => decide
                     case h6 => decide
                     case hb => decide
                     case hB => (simp; omega)
                     intro g cap y3 hown hgrow hat hlt
                     have hI3 := UInv.put (UInv.below hI2 ((Below.refl _ _).alloc (Nat.le_refl _) _)) hgrow (hTl2.keep (keeps_below _ ((Below.refl _ _).alloc (Nat.le_refl _) _))) hown
                     obtain ⟨_, _, e4, ef⟩ := UInv.app (UInv.below hI2 ((Below.refl _ _).alloc (Nat.le_refl _) _)) hgrow))
                all_goals (go_wp2_with fail; go_meet)
                all_goals exact ⟨_, _, hI3⟩
              case rest =>
                obtain ⟨bv, lv, hI8⟩ := hcut
                obtain ⟨m1, m2, m3⟩ := hI7.went.2.meas
                clear c0 c1 c2 c3 c4 f1 f0 hI7 HN
                go_wp2_with fail
                go_loopw [] (fun wr => ∃ (bv : Value) (q : List (Tr.Lit × Value)) (r5 : List Tk.Tok) (f : Nat), UInv w wr B P L en r5 x.at_ x.text (.slice aot ts.length capt) ts 0 bv q ∧ q.length + r5.length ≤ L.length ∧ r5.length ≤ f ∧ Pr.after en f (q.map (·.1)) r5 = LX)
                  (fun wr => L.length - nxOf wr P)
                case atStart => exact ⟨bv, [(l1, lv)], r4, r3.length, hI8, by simp; omega, by omega, HLX.out⟩
                case round =>
                  obtain ⟨bv, q, r5, f, hI9, hlen, hrf, hAf⟩ := hrel
                  have HAf : Hid _ := hAf
                  obtain ⟨aob, capb, rfl⟩ := own_slice hI9.own
                  clear hAf hI8 HLX
                  cases hc : Pr.isText en r5 [44]
                  · have hLX2 : LX = .inr (q.map (·.1), r5) := by rw [← HAf.out, Pr.after, hc]; rfl
                    cases hd : Pr.isText en r5 [46]
                    · have HF : Hid (∀ e w', RuleEnd P L en w (.inl (Pr.hd en r5).at_) e w' → Q e w') := fun e w' h => HX2.out _ (by
                        have : Pr.must [46] en r5 = .inl (Pr.hd en r5).at_ := by unfold Pr.must; unfold Pr.isText at hd; rw [hd]; rfl
                        rw [hLX2]; simp only [this]) e w' h
                      clear hLX2 HX2 HAf
                      go_wp2_with fail
                      refine (take_no [44] P L en r5 _ hI9.went.2 hc).mono ?_
                      rintro e w10 ⟨rfl, hb10⟩
                      have hI10 := hI9.below hb10
                      go_wp2_with fail
                      refine (must_no [46] P L en r5 _ hI10.went.2 hd).mono ?_
                      rintro e w11 ⟨rfl, hb11⟩
                      exact ⟨rfl, HF.out _ _ ⟨rfl, ground hI10.went.1 hb11⟩⟩
                    · have HF : Hid (∀ e w', RuleEnd P L en w (.inr (⟨x.at_, x.text, ts, 0, q.map (·.1)⟩, r5.tail)) e w' → Q e w') := fun e w' h => HX2.out _ (by
                        have : Pr.must [46] en r5 = .inr r5.tail := by unfold Pr.must; unfold Pr.isText at hd; rw [hd]; rfl
                        rw [hLX2]; simp only [this]) e w' h
                      clear hLX2 HX2 HAf
                      go_wp2_with fail
                      refine (take_no [44] P L en r5 _ hI9.went.2 hc).mono ?_
                      rintro e w10 ⟨rfl, hb10⟩
                      have hI10 := hI9.below hb10
                      go_wp2_with fail
                      refine (must_yes [46] P L en r5 _ hI10.went.2 (by simp) hd).mono ?_
                      rintro e w11 ⟨rfl, hW11⟩
                      have hI11 := hI10.on hW11
                      obtain ⟨c0, c1, c2, c3, c4, f1, f0⟩ := hI11.cells
                      obtain ⟨x0, x1, x2, x3, x4⟩ := hI11.rcells
                      go_wp2
                      exact bodyPost_ret (v := ruleVal ⟨x.at_, x.text, ts, 0, q.map (·.1)⟩ (.slice aot ts.length capt) (.slice aob q.length capb)) (by simp [results, Tryz.results93, go_sem, x0, x1, x2, x3, x4]) rfl (HF.out _ _ ⟨_, _, rfl, hI11.out _ _ _ _ _⟩)
                  · have hl6 := text_len (by simp) hc
                    obtain ⟨f, rfl⟩ : ∃ f', f = f' + 1 := ⟨f - 1, by omega⟩
                    have HL2 : Hid (Pr.lits en (f + 1) (q.map (·.1)) r5.tail = LX) := by
                      have := HAf.out
                      rw [Pr.after, hc] at this
                      exact this
                    have hmeas := hI9.went.2.meas.1
                    go_wp2_with fail
                    refine (take_yes [44] P L en r5 _ hI9.went.2 (by simp) hc).mono ?_
                    rintro e w10 ⟨rfl, hW10⟩
                    have hI10 := hI9.on hW10
                    clear hI9 hW10 HAf hc
                    generalize r5.tail = r6 at *
                    obtain ⟨c0, c1, c2, c3, c4, f1, f0⟩ := hI10.cells
                    go_upto_region 9 with fail
                    cases hL : Pr.lit en r6 with
                    | inl a =>
                      have HF : Hid (∀ e w', RuleEnd P L en w (.inl a) e w' → Q e w') := fun e w' h => HX2.out _ (by rw [← HL2.out, lits_no hL]) e w' h
                      have HN : Hid (∀ w1, At w1 P L en r6 → _) := fun w1 h => lit_any P L en r6 w1 h
                      rw [hL] at HN
                      go_region_dies
                      all_goals (refine Calls.mono (HN.out _ (At.keep hI10.went.2 (fun _ _ => rfl))) ?_)
                      all_goals rintro e y2 ⟨rfl, hg2⟩
                      all_goals exact ⟨rfl, HF.out _ _ ⟨rfl, gone hI10.went.1 hg2 ⟨rfl, rfl, rfl, Nat.le_refl _, fun _ _ => rfl⟩⟩⟩
                    | inr l2 =>
                      obtain ⟨l2, r7⟩ := l2
                      have hl7 : r7.length < r6.length := lit_len hL
                      have HA2 : Hid (Pr.after en f (q.map (·.1) ++ [l2]) r7 = LX) := (lits_yes hL).symm.trans HL2.out
                      have HN : Hid (∀ w1, At w1 P L en r6 → _) := fun w1 h => lit_any P L en r6 w1 h
                      rw [hL] at HN
                      clear hL HL2
                      go_region_law (first
                        | (go_simp; go_at_call 129; refine Calls.mono (HN.out _ (At.keep hI10.went.2 (fun _ _ => rfl))) ?_; rintro e y2 ⟨lv, rfl, hTl, hW2⟩; have hI2 := UInv.on2 hI10 hW2 ⟨rfl, rfl, rfl, Nat.le_refl _, fun _ _ => rfl⟩; have hTl2 := TermsP.mono (B' := B + 1) hTl hI10.sz; obtain ⟨aol, capl, hlv, hTl'⟩ := hTl; simp only [List.length_map] at hlv; subst hlv; obtain ⟨d0, d1, d2, d3, d4, g1, g0⟩ := hI2.cells; have hsz := hI2.sz; dsimp only)
                        | (refine step_append_lies _ rfl (.tmp 38) (.tmp 41) 55 rfl (B + 1) 61 i0 _ 5 64 Tryz.underlying55 hi hz0 hz1 hz2 rfl (by decide) (.slice aob q.length capb) q.length _ ?hs (UInv.below hI2 ((Below.refl _ _).alloc (Nat.le_refl _) _)).own ⟨y2.heap.size, 0, none⟩ 1 1 (litCells (l2, .slice aol l2.terms.length capl)) ?hx rfl ?hn ?ho ?hm ?h6 ?hb ?hB _ rfl ?_
                           case hs => simp [Act.eval]
                           case hx => simp [Act.eval]
                           case hn => exact news_lit _ _ _
                           case ho => exact one_lit _ _ _ _
                           case hm => decide
                           case h6 => (unfold maxLen; omega)
                           case hb => omega
                           case hB => (simp; omega)
                           intro g cap y3 hown hgrow hat hlt
                           have hI3 := UInv.put (UInv.below hI2 ((Below.refl _ _).alloc (Nat.le_refl _) _)) hgrow (hTl2.keep (keeps_below _ ((Below.refl _ _).alloc (Nat.le_refl _) _))) hown
                           obtain ⟨_, _, e4, ef⟩ := UInv.app (UInv.below hI2 ((Below.refl _ _).alloc (Nat.le_refl _) _)) hgrow))
                      all_goals go_wp2_with fail
                      all_goals go_roundw
                      all_goals first
                        | exact ⟨_, q ++ [(l2, _)], r7, f, hI3, by rw [List.length_append]; simp; omega, by omega, by simpa using HA2.out⟩
                        | (rw [hI3.went.2.meas.1, hmeas]; show r7.length < r5.length; omega)
        · have HF : Hid (∀ e w', RuleEnd P L en w (.inr (⟨x.at_, x.text, ts, 0, []⟩, r2.tail)) e w' → Q e w') := fun e w' h => HS.out _ (by rw [hf, hq]; rfl) e w' h
          clear HS
          go_wp2_with fail
          refine (take_yes [46] P L en r2 _ hI5.went.2 (by simp) hq).mono ?_
          rintro e w6 ⟨rfl, hW6⟩
          have hI6 := hI5.on hW6
          clear c0 c1 c2 c3 c4 f1 f0
          obtain ⟨c0, c1, c2, c3, c4, f1, f0⟩ := hI6.cells
          obtain ⟨x0, x1, x2, x3, x4⟩ := hI6.rcells
          go_wp2
          exact bodyPost_ret (v := ruleVal ⟨x.at_, x.text, ts, 0, []⟩ (.slice aot ts.length capt) (.slice none 0 0)) (by simp [results, Tryz.results93, go_sem, x0, x1, x2, x3, x4]) rfl (HF.out _ _ ⟨_, _, rfl, hI6.out _ _ _ _ _⟩)

end Go.Proofs.YtgpaleifhcdjnaaGreatDoor

/- The deferred function of parse. -/
namespace Go.Proofs.YtgpaleifhcdjnaaGreatDoor
open Go.RowKit

set_option maxRecDepth 100000 in
set_option maxHeartbeats 400000 in
theorem catchP_idle (pt pa pe : Addr) (w : World) :
    CallsD Tryz.prog 92 #[.pointer (some pt), .pointer (some pa), .pointer (some pe)] .returning w fun e u' w' => e = .returned (.tuple #[]) ∧ u' = .returning ∧ w' = w := by
  refine callsD_of_wpS Tryz.func92 rfl fun c₀ cs hu => ?_
  apply wpS_seq
  apply wpS_region
  simp [wpOpsS, go_sem, recoverD, hu, Tryz.ntmps92, Exit.thenS]
  refine wpS_of_wp ?_
  rw [show (#[Value.pointer (some pt), Value.pointer (some pa), Value.pointer (some pe)] ++ ((Array.replicate 7 undef).setIfInBounds 1 Value.nilIface).setIfInBounds 0 Value.nilIface) = #[.pointer (some pt), .pointer (some pa), .pointer (some pe), .nilIface, .nilIface, undef, undef, undef, undef, undef] from rfl]
  go_wp2
  refine ⟨rfl, .returning, ?_, .tuple #[], ?_, rfl, rfl, rfl⟩
  · rw [← hu]
  · simp [results, Tryz.results92]

set_option maxRecDepth 100000 in
set_option maxHeartbeats 400000 in
theorem catchP_panicking (bt ba be B : Nat) (tv av ev : Value) (a : Int) (older : List PanicEntry) (w : World)
    (ht : w.cell? ⟨bt, 0, none⟩ = some tv) (ft : w.frozen? ⟨bt, 0, none⟩ = false) (ha : w.cell? ⟨ba, 0, none⟩ = some av) (fa : w.frozen? ⟨ba, 0, none⟩ = false)
    (he : w.cell? ⟨be, 0, none⟩ = some ev) (fe : w.frozen? ⟨be, 0, none⟩ = false) (hB1 : B ≤ bt) (hB2 : bt < ba) (hB3 : ba < be) :
    CallsD Tryz.prog 92 #[.pointer (some ⟨bt, 0, none⟩), .pointer (some ⟨ba, 0, none⟩), .pointer (some ⟨be, 0, none⟩)] (.panicking ({ v := .iface 149 (.int .i64 a), recovered := false } :: older)) w fun e u' w' =>
      e = .returned (.tuple #[]) ∧ u' = .panicking ({ v := .iface 149 (.int .i64 a), recovered := true } :: older) ∧
      w'.cell? ⟨bt, 0, none⟩ = some (.slice none 0 0) ∧ w'.cell? ⟨ba, 0, none⟩ = some (.int .i64 a) ∧ w'.cell? ⟨be, 0, none⟩ = some (.int .i64 1) ∧ Below B w w' := by
  have hta : ∀ w : World, (Instr.typeAssert (.iface 149 (.int .i64 a)) 20 149 false).run Tryz.prog w = .ok (.int .i64 a) w := fun _ => by kernel_rfl
  refine callsD_of_wpS Tryz.func92 rfl fun c₀ cs hu => ?_
  apply wpS_seq
  apply wpS_region
  simp [wpOpsS, go_sem, recoverD, hu, Tryz.ntmps92, Exit.thenS]
  refine wpS_of_wp ?_
  rw [show (#[Value.pointer (some { block := bt, off := 0 }), Value.pointer (some { block := ba, off := 0 }), Value.pointer (some { block := be, off := 0 })] ++
          ((Array.replicate 7 undef).setIfInBounds 1 (Value.iface 149 (Value.int IntKind.i64 a))).setIfInBounds 0 (Value.iface 149 (Value.int IntKind.i64 a))) =
        #[Value.pointer (some { block := bt, off := 0 }), Value.pointer (some { block := ba, off := 0 }), Value.pointer (some { block := be, off := 0 }), (Value.iface 149 (Value.int IntKind.i64 a)), (Value.iface 149 (Value.int IntKind.i64 a)), undef, undef, undef, undef, undef] from rfl]
  have hne : ¬ bt = ba := by omega
  have hne' : ¬ ba = bt := by omega
  have hne2 : ¬ bt = be := by omega
  have hne2' : ¬ be = bt := by omega
  have hne3 : ¬ ba = be := by omega
  have hne3' : ¬ be = ba := by omega
  go_wp2
  go_region
  refine ⟨rfl, _, rfl, .tuple #[], ?_, rfl, rfl, ?_, ?_, ?_, ?_⟩
  · simp [results, Tryz.results92]
  · simp [go_sem, ht]
  · simp [go_sem, ha]
  · simp [go_sem, he]
  · exact ((((Below.refl _ _).setCell (p := ⟨bt, 0, none⟩) hB1 _).setCell (p := ⟨ba, 0, none⟩) (show B ≤ ba by omega) _).setCell (p := ⟨be, 0, none⟩) (show B ≤ be by omega) _).drew

end Go.Proofs.YtgpaleifhcdjnaaGreatDoor

/- The parser, whole. -/
namespace Go.Proofs.YtgpaleifhcdjnaaGreatDoor
open Go.RowKit

/-- What parse leaves. -/
def ParseEnd (L : List Tk.Tok) (en : Int) (w : World) (e : Ending) (w' : World) : Prop := match Pr.rules en L.length [] L with
  | .inl a => e = .returned (.tuple #[.agg #[.slice none 0 0], .int .i64 a, .int .i64 1]) ∧ Below w.heap.size w w'
  | .inr t => ∃ v, e = .returned (.tuple #[.agg #[v], .int .i64 0, .int .i64 0]) ∧ RulesP w.heap.size w' v t ∧ Below w.heap.size w w'

/-- parse under way: its results' blocks, the parser's, the rules so far. -/
structure PInv (w wr : World) (L : List Tk.Tok) (en : Int) (r : List Tk.Tok) (v : Value) (q : List (Tr.Rule × Value × Value)) : Prop where
  bel : Below w.heap.size w wr
  tre : wr.heap[w.heap.size]? = some (.cells #[v] 36)
  plc : wr.heap[w.heap.size + 1]? = some (.cells #[.int .i64 0] 3)
  err : wr.heap[w.heap.size + 2]? = some (.cells #[.int .i64 0] 29)
  par : At wr (w.heap.size + 3) L en r
  own : wr.ownsRow (w.heap.size + 4) 57 5 v q.length (q.map ruleCells).flatten
  rls : ∀ p, p ∈ q → TermsP (w.heap.size + 4) wr p.2.1 p.1.terms ∧ LitsP (w.heap.size + 4) wr p.2.2 p.1.body

section
variable {w wr w' wr' : World} {L : List Tk.Tok} {en : Int} {r r' : List Tk.Tok} {v : Value} {q : List (Tr.Rule × Value × Value)}
theorem PInv.sz (h : PInv w wr L en r v q) : w.heap.size + 4 ≤ wr.heap.size := h.par.lt
theorem below_grown {B P : Nat} {a b c : World} (h : Below B a b) (hg : b.grownBy c (some P)) (hP : B ≤ P) (hs : B ≤ b.heap.size) : Below B a c :=
  ⟨hg.os.trans h.os, hg.tape.trans h.tape, hg.output.trans h.output, Nat.le_trans h.size hg.size, fun k hk => (hg.block k (by omega) (by intro e; injection e; omega)).trans (h.block k hk)⟩
theorem PInv.on (h : PInv w wr L en r v q) (hW : Went wr w' (w.heap.size + 3) L en r') : PInv w w' L en r' v q := by
  have hs := h.sz
  exact { bel := below_grown h.bel hW.1 (by omega) (by omega)
          tre := (hW.1.block _ (heap_lt h.tre) (by intro e; injection e; omega)).trans h.tre
          plc := (hW.1.block _ (heap_lt h.plc) (by intro e; injection e; omega)).trans h.plc
          err := (hW.1.block _ (heap_lt h.err) (by intro e; injection e; omega)).trans h.err
          par := hW.2
          own := ownsRow_grown h.own hW.1 (by omega)
          rls := fun p hp => ⟨(h.rls p hp).1.keep (keeps_grown _ hW.1 (by omega)), (h.rls p hp).2.keep (keeps_grown _ hW.1 (by omega))⟩ }
theorem PInv.below (h : PInv w wr L en r v q) (hb : Below wr.heap.size wr w') : PInv w w' L en r v q := h.on ⟨grownBy_of_below hb _, h.par.below hb⟩
theorem PInv.on2 (h : PInv w wr L en r v q) (hW : Went wr' w' (w.heap.size + 3) L en r') (hb : Below wr.heap.size wr wr') : PInv w w' L en r' v q := (h.below hb).on hW
theorem PInv.cells (h : PInv w wr L en r v q) : wr.cell? ⟨w.heap.size, 0, none⟩ = some v ∧ wr.cell? ⟨w.heap.size + 1, 0, none⟩ = some (.int .i64 0) ∧ wr.cell? ⟨w.heap.size + 2, 0, none⟩ = some (.int .i64 0) ∧
    wr.frozen? ⟨w.heap.size, 0, none⟩ = false ∧ wr.frozen? ⟨w.heap.size + 1, 0, none⟩ = false ∧ wr.frozen? ⟨w.heap.size + 2, 0, none⟩ = false :=
  ⟨by rw [Lib.cell_of_heap h.tre]; rfl, by rw [Lib.cell_of_heap h.plc]; rfl, by rw [Lib.cell_of_heap h.err]; rfl, by simp [World.frozen?, h.tre], by simp [World.frozen?, h.plc], by simp [World.frozen?, h.err]⟩
theorem PInv.app {w3 : World} (h : PInv w wr L en r v q) (hg : wr.grownBy w3 v.ownBlock) : w3.cell? ⟨w.heap.size, 0, none⟩ = some v ∧ w3.frozen? ⟨w.heap.size, 0, none⟩ = false := by
  have e1 := (hg.block _ (heap_lt h.tre) (fun he => by have := (h.own.lt _ he.symm).1; omega)).trans h.tre
  exact ⟨by rw [Lib.cell_of_heap e1]; rfl, by simp [World.frozen?, e1]⟩
theorem PInv.put {w3 : World} {v' : Value} {p : Tr.Rule × Value × Value} (h : PInv w wr L en r v q) (hg : wr.grownBy w3 v.ownBlock) (hT : TermsP (w.heap.size + 4) wr p.2.1 p.1.terms) (hL : LitsP (w.heap.size + 4) wr p.2.2 p.1.body)
    (hown : w3.ownsRow (w.heap.size + 4) 57 5 v' (q.length + 1) ((q.map ruleCells).flatten ++ ruleCells p)) : PInv w (w3.setCell ⟨w.heap.size, 0, none⟩ v') L en r v' (q ++ [p]) := by
  have hs := h.sz
  have hne : ∀ i, i < w.heap.size + 4 → some i ≠ v.ownBlock := fun i hi he => by have := (h.own.lt i he.symm).1; omega
  have hk : Keeps (w.heap.size + 4) wr w3 (fun e => e = 59 ∨ e = 61) := keeps_own hg h.own (by decide)
  have e1 := (hg.block _ (heap_lt h.tre) (hne _ (by omega))).trans h.tre
  exact { bel := (h.bel.grown hg (by omega) (fun k hk => by have := (h.own.lt k hk).1; omega)).setCell (p := ⟨w.heap.size, 0, none⟩) (Nat.le_refl _) _
          tre := by simp [World.setCell, Array.getElem?_modify, e1]
          plc := (Below.heap_setCell _ _ _ _ (show ¬ w.heap.size + 1 = w.heap.size by omega)).trans ((hg.block _ (heap_lt h.plc) (hne _ (by omega))).trans h.plc)
          err := (Below.heap_setCell _ _ _ _ (show ¬ w.heap.size + 2 = w.heap.size by omega)).trans ((hg.block _ (heap_lt h.err) (hne _ (by omega))).trans h.err)
          par := h.par.keep2 fun k hk => (Below.heap_setCell _ _ _ _ (show ¬ k = w.heap.size by omega)).trans (hg.block k (by omega) (hne k (by omega)))
          own := ownsRow_setCell_below (by simpa using hown) (by simp) _
          rls := by
            intro p' hp'
            rw [List.mem_append, List.mem_singleton] at hp'
            rcases hp' with hp' | rfl
            · exact ⟨((h.rls p' hp').1.keep (hk.mono fun _ h => .inl h)).keep (keeps_set _ (by omega) _ _), ((h.rls p' hp').2.keep hk).keep (keeps_set _ (by omega) _ _)⟩
            · exact ⟨(hT.keep (hk.mono fun _ h => .inl h)).keep (keeps_set _ (by omega) _ _), (hL.keep hk).keep (keeps_set _ (by omega) _ _)⟩ }
end

end Go.Proofs.YtgpaleifhcdjnaaGreatDoor

/- The parser, whole: its loop. -/
namespace Go.Proofs.YtgpaleifhcdjnaaGreatDoor
open Go.RowKit

theorem A_info43 : (Tryz.prog.info? 57).map (fun i => (i.zero, i.size, i.bytes)) = some (some (.agg #[.int .i64 0, .string ⟨#[]⟩, .slice none 0 0, .int .i64 0, .slice none 0 0]), 5, 80) := by kernel_rfl
theorem news_rule (w : World) (x : Tr.Rule) (v u : Value) : ∀ j y, (ruleCells (x, v, u))[j]? = some y → (w.alloc (.cells #[.int .i64 x.at_, .string ⟨x.name.toArray⟩, v, .int .i64 x.fold, u] 57)).cell? ((⟨w.heap.size, 0, none⟩ : Addr).add j) = some y := World.news_of_block (heap_alloc_new w _)
theorem one_rule (x : Tr.Rule) (ao : Option Addr) (n c : Nat) (bo : Option Addr) (m d : Nat) : ∀ u ∈ ruleCells (x, .slice ao n c, .slice bo m d), u.oneCell' = true := by intro u hu; simp [ruleCells] at hu; rcases hu with rfl | rfl | rfl | rfl | rfl <;> rfl

theorem PInv.start {w : World} {L : List Tk.Tok} {en : Int} {ao : Option Addr} {cap : Nat} (hT : ToksAt w ao L) (hF : Fit L) :
    PInv w ((((w.alloc (.cells #[.slice none 0 0] 36)).alloc (.cells #[.int .i64 0] 3)).alloc (.cells #[.int .i64 0] 29)).alloc (.cells #[.slice ao L.length cap, .int .i64 0, .int .i64 en] 152)) L en L (.slice none 0 0) [] := by
  have b1 := (Below.refl w.heap.size w).alloc (Nat.le_refl _) (.cells #[.slice none 0 0] 36)
  have b2 := b1.alloc (by simp) (.cells #[.int .i64 0] 3)
  have b3 := b2.alloc (by simp; omega) (.cells #[.int .i64 0] 29)
  have b4 := b3.alloc (by simp; omega) (.cells #[.slice ao L.length cap, .int .i64 0, .int .i64 en] 152)
  have old : ∀ (u : World) (o x : Obj) (k : Nat), u.heap[k]? = some x → (u.alloc o).heap[k]? = some x := fun u o x k hk => (((Below.refl u.heap.size u).alloc (Nat.le_refl _) o).block k (heap_lt hk)).trans hk
  exact { bel := b4
          tre := old _ _ _ _ (old _ _ _ _ (old _ _ _ _ (heap_alloc_new w _)))
          plc := old _ _ _ _ (old _ _ _ _ (by have := heap_alloc_new (w.alloc (.cells #[.slice none 0 0] 36)) (.cells #[.int .i64 0] 3); simpa using this))
          err := old _ _ _ _ (by have := heap_alloc_new ((w.alloc (.cells #[.slice none 0 0] 36)).alloc (.cells #[.int .i64 0] 3)) (.cells #[.int .i64 0] 29); simpa using this)
          par := by
            refine ⟨0, Nat.zero_le _, rfl, hF, ao, cap, by have := heap_alloc_new (((w.alloc (.cells #[.slice none 0 0] 36)).alloc (.cells #[.int .i64 0] 3)).alloc (.cells #[.int .i64 0] 29)) (.cells #[.slice ao L.length cap, .int .i64 0, .int .i64 en] 152); simpa using this, ?_⟩
            rcases hT with h | ⟨b, off, rfl, hc⟩
            · exact .inl h
            · cases L with
              | nil => exact .inl rfl
              | cons t l =>
                refine .inr ⟨b, off, rfl, ?_, fun i hi => ⟨cell_below b4 (hc i hi).1, cell_below b4 (hc i hi).2.1, cell_below b4 (hc i hi).2.2⟩⟩
                have : b < w.heap.size := World.block_lt_of_cell? w _ (hc 0 (by simp)).1
                show b + 3 < w.heap.size + 3
                omega
          own := World.ownsRow_nil _ _ _ _
          rls := fun p hp => absurd hp (by simp) }

/-- Where parse gives up: what its deferred function leaves. -/
theorem parse_gives {w wr wr' w1 : World} {L : List Tk.Tok} {en : Int} {r : List Tk.Tok} {v : Value} {q : List (Tr.Rule × Value × Value)} (h : PInv w wr L en r v q) (hg : wr'.grownBy w1 (some (w.heap.size + 3))) (hb : Below wr.heap.size wr wr') (a : Int) (hX : Pr.rules en L.length [] L = .inl a) (tmps : Array Value)
    (h4 : tmps[4]? = some (.pointer (some ⟨w.heap.size, 0, none⟩))) (h5 : tmps[5]? = some (.pointer (some ⟨w.heap.size + 1, 0, none⟩))) (h6 : tmps[6]? = some (.pointer (some ⟨w.heap.size + 2, 0, none⟩))) :
    Leaves Tryz.prog Tryz.f57 tmps (ParseEnd L en w) [{ target := .fn (.func 92) #[.pointer (some ⟨w.heap.size, 0, none⟩), .pointer (some ⟨w.heap.size + 1, 0, none⟩), .pointer (some ⟨w.heap.size + 2, 0, none⟩)], args := #[] }]
      (.panicking [{ v := .iface 149 (.int .i64 a), recovered := false }]) w1 := by
  obtain ⟨d0, d1, d2, g0, g1, g2⟩ := (h.below hb).cells
  have hs := (h.below hb).sz
  have k0 := grownBy_cell hg (show ¬ w.heap.size = w.heap.size + 3 by omega) d0
  have k1 := grownBy_cell hg (show ¬ w.heap.size + 1 = w.heap.size + 3 by omega) d1
  have k2 := grownBy_cell hg (show ¬ w.heap.size + 2 = w.heap.size + 3 by omega) d2
  have z0 := (grownBy_frozen (o := 0) hg (show ¬ w.heap.size = w.heap.size + 3 by omega) (by omega)).trans g0
  have z1 := (grownBy_frozen (o := 0) hg (show ¬ w.heap.size + 1 = w.heap.size + 3 by omega) (by omega)).trans g1
  have z2 := (grownBy_frozen (o := 0) hg (show ¬ w.heap.size + 2 = w.heap.size + 3 by omega) (by omega)).trans g2
  refine leaves_cons (f := 92) (args := #[.pointer (some ⟨w.heap.size, 0, none⟩), .pointer (some ⟨w.heap.size + 1, 0, none⟩), .pointer (some ⟨w.heap.size + 2, 0, none⟩)]) (by simp) (by simp [go_sem]) ?_
  refine (catchP_panicking w.heap.size (w.heap.size + 1) (w.heap.size + 2) w.heap.size _ _ _ a [] w1 k0 z0 k1 z1 k2 z2 (Nat.le_refl _) (by omega) (by omega)).mono ?_
  rintro e u' w2 ⟨rfl, rfl, y0, y1, y2, hb2⟩
  have hres : (results Tryz.f57 tmps).run Tryz.prog w2 = .ok (.tuple #[.agg #[.slice none 0 0], .int .i64 a, .int .i64 1]) w2 := by
    simp [results, Tryz.results57, go_sem, h4, h5, h6, y0, y1, y2]
  refine ⟨_, hres, ?_⟩
  unfold ParseEnd
  rw [hX]
  exact ⟨rfl, (below_grown (h.below hb).bel hg (by omega) (by omega)).trans hb2⟩

end Go.Proofs.YtgpaleifhcdjnaaGreatDoor

/- The parser, whole: its loop. -/
namespace Go.Proofs.YtgpaleifhcdjnaaGreatDoor
open Go.RowKit

theorem lits_len (en : Int) : ∀ (f : Nat) (acc : List Tr.Lit) (r : List Tk.Tok) (x : List Tr.Lit × List Tk.Tok), Pr.lits en f acc r = .inr x → x.2.length < r.length := by
  intro f
  induction f with
  | zero => intro acc r x h; simp [Pr.lits] at h
  | succ f ih =>
    intro acc r x h
    cases hT : Pr.lit en r with
    | inl a => rw [lits_no hT] at h; simp at h
    | inr y =>
      have hl := lit_len hT
      rw [lits_yes hT] at h
      unfold Pr.after at h
      split at h
      · have := ih _ _ _ h
        have h2 : y.2.tail.length ≤ y.2.length := by simp
        omega
      · simp only [Sum.inr.injEq] at h
        subst h
        exact hl
theorem tailOf_len {at_ : Int} {nm : List UInt8} {l : List Tr.Term} {fo en : Int} {r : List Tk.Tok} {x : Tr.Rule × List Tk.Tok} (h : Pr.tailOf at_ nm l fo en r = .inr x) : x.2.length < r.length := by
  unfold Pr.tailOf at h
  cases hm : Pr.must [58, 45] en r with
  | inl a => rw [hm] at h; simp at h
  | inr r1 =>
    rw [hm] at h
    have h1 := must_len (by simp) hm
    simp only at h
    cases hM : Pr.lits en (r1.length + 1) [] r1 with
    | inl a => rw [hM] at h; simp at h
    | inr y =>
      rw [hM] at h
      have h2 := lits_len _ _ _ _ _ hM
      simp only at h
      cases hm2 : Pr.must [46] en y.2 with
      | inl a => rw [hm2] at h; simp at h
      | inr r3 =>
        rw [hm2] at h
        have h3 := must_len (by simp) hm2
        simp only [Sum.inr.injEq] at h
        subst h
        show r3.length < r.length
        omega
theorem rule_len {en : Int} {r : List Tk.Tok} {x : Tr.Rule × List Tk.Tok} (h : Pr.rule en r = .inr x) : x.2.length < r.length := by
  unfold Pr.rule at h
  cases hn : Pr.name en r with
  | inl a => rw [hn] at h; simp at h
  | inr y =>
    rw [hn] at h
    have h1 := name_len hn
    simp only at h
    cases hT : Pr.terms true en y.2 with
    | inl a => rw [hT] at h; simp at h
    | inr z =>
      rw [hT] at h
      have h2 := terms_len hT
      simp only at h
      split at h
      · simp only [Sum.inr.injEq] at h
        subst h
        have : z.2.tail.length ≤ z.2.length := by simp
        show z.2.tail.length < r.length
        omega
      · have := tailOf_len h
        omega

theorem rules_step {en : Int} {f : Nat} {acc : List Tr.Rule} {r : List Tk.Tok} (h : ¬ r = []) : Pr.rules en (f + 1) acc r = match Pr.rule en r with
    | .inl a => .inl a
    | .inr x => Pr.rules en f (acc ++ [x.1]) x.2 := by
  cases r with
  | nil => exact absurd rfl h
  | cons t l =>
    rw [Pr.rules]
    cases Pr.rule en (t :: l) <;> rfl

/-- Where parse comes to the tokens' end. -/
theorem parse_done {w wr : World} {L : List Tk.Tok} {en : Int} {r : List Tk.Tok} {v : Value} {q : List (Tr.Rule × Value × Value)} (h : PInv w wr L en r v q) (hX : Pr.rules en L.length [] L = .inr (q.map (·.1))) (tmps : Array Value)
    (h4 : tmps[4]? = some (.pointer (some ⟨w.heap.size, 0, none⟩))) (h5 : tmps[5]? = some (.pointer (some ⟨w.heap.size + 1, 0, none⟩))) (h6 : tmps[6]? = some (.pointer (some ⟨w.heap.size + 2, 0, none⟩))) :
    Leaves Tryz.prog Tryz.f57 tmps (ParseEnd L en w) [{ target := .fn (.func 92) #[.pointer (some ⟨w.heap.size, 0, none⟩), .pointer (some ⟨w.heap.size + 1, 0, none⟩), .pointer (some ⟨w.heap.size + 2, 0, none⟩)], args := #[] }]
      .returning (((wr.setCell ⟨w.heap.size, 0, none⟩ v).setCell ⟨w.heap.size + 1, 0, none⟩ (.int .i64 0)).setCell ⟨w.heap.size + 2, 0, none⟩ (.int .i64 0)) := by
  have hs := h.sz
  obtain ⟨c0, c1, c2, _, _, _⟩ := h.cells
  refine leaves_cons (f := 92) (args := #[.pointer (some ⟨w.heap.size, 0, none⟩), .pointer (some ⟨w.heap.size + 1, 0, none⟩), .pointer (some ⟨w.heap.size + 2, 0, none⟩)]) (by simp) (by simp [go_sem]) ?_
  refine (catchP_idle _ _ _ _).mono ?_
  rintro e u' w2 ⟨rfl, rfl, rfl⟩
  have hres : (results Tryz.f57 tmps).run Tryz.prog (((wr.setCell ⟨w.heap.size, 0, none⟩ v).setCell ⟨w.heap.size + 1, 0, none⟩ (.int .i64 0)).setCell ⟨w.heap.size + 2, 0, none⟩ (.int .i64 0)) =
      .ok (.tuple #[.agg #[v], .int .i64 0, .int .i64 0]) (((wr.setCell ⟨w.heap.size, 0, none⟩ v).setCell ⟨w.heap.size + 1, 0, none⟩ (.int .i64 0)).setCell ⟨w.heap.size + 2, 0, none⟩ (.int .i64 0)) := by
    simp [results, Tryz.results57, go_sem, h4, h5, h6, c0, c1, c2]
  refine ⟨_, hres, ?_⟩
  unfold ParseEnd
  rw [hX]
  have hk : ∀ K, Keeps (w.heap.size + 4) wr (((wr.setCell ⟨w.heap.size, 0, none⟩ v).setCell ⟨w.heap.size + 1, 0, none⟩ (.int .i64 0)).setCell ⟨w.heap.size + 2, 0, none⟩ (.int .i64 0)) K := fun K => ((keeps_set _ (by omega) _ _).trans (keeps_set _ (by omega) _ _)).trans (keeps_set _ (by omega) _ _)
  refine ⟨v, rfl, ⟨q, rfl, RowP.mono (RowP.keep (rowP_own (by intro c hc; simp at hc; obtain ⟨x, y, z, _, rfl⟩ := hc; rfl) (by rw [List.length_map]; exact h.own)) (hk (· = 57)) rfl) (by omega), fun p hp => ⟨((h.rls p hp).1.keep (hk _)).mono (by omega), ((h.rls p hp).2.keep (hk _)).mono (by omega)⟩⟩, ?_⟩
  exact ((h.bel.setCell (p := ⟨w.heap.size, 0, none⟩) (Nat.le_refl _) _).setCell (p := ⟨w.heap.size + 1, 0, none⟩) (Nat.le_succ _) _).setCell (p := ⟨w.heap.size + 2, 0, none⟩) (show w.heap.size ≤ w.heap.size + 2 by omega) _

set_option maxRecDepth 100000 in
set_option maxHeartbeats 4000000 in
theorem parse_any (L : List Tk.Tok) (en : Int) (ao : Option Addr) (cap : Nat) (w : World) (hT : ToksAt w ao L) (hF : Fit L) :
    Calls Tryz.prog 57 #[.slice ao L.length cap, .int .i64 en] w (ParseEnd L en w) := by
  obtain ⟨i0, hi, hz0, hz1, hz2⟩ := info_parts A_info43
  have hmf : ∀ (fn : Fn) (first cap : Array Value) (w : World), (Instr.makeFunc fn first cap).run Tryz.prog w = .ok (.func fn first cap) w := fun _ _ _ _ => rfl
  have hst := PInv.start (en := en) (cap := cap) hT hF
  have HQ : Hid (∀ X, Pr.rules en L.length [] L = X → ∀ e w', (match X with
      | .inl a => e = .returned (.tuple #[.agg #[.slice none 0 0], .int .i64 a, .int .i64 1]) ∧ Below w.heap.size w w'
      | .inr t => ∃ v, e = .returned (.tuple #[.agg #[v], .int .i64 0, .int .i64 0]) ∧ RulesP w.heap.size w' v t ∧ Below w.heap.size w w') → ParseEnd L en w e w') := by
    rintro X rfl e w' h; exact h
  go_enter_defers Tryz.func57, Tryz.ntmps57
  go_wp2_with fail
  generalize (((w.alloc (.cells #[.slice none 0 0] 36)).alloc (.cells #[.int .i64 0] 3)).alloc (.cells #[.int .i64 0] 29)).alloc (.cells #[.slice ao L.length cap, .int .i64 0, .int .i64 en] 152) = w0 at *
  clear hT
  go_loopw [] (fun wr => ∃ (v : Value) (q : List (Tr.Rule × Value × Value)) (r : List Tk.Tok) (f : Nat), PInv w wr L en r v q ∧ q.length + r.length ≤ L.length ∧ r.length ≤ f ∧ Pr.rules en f (q.map (·.1)) r = Pr.rules en L.length [] L)
    (fun wr => L.length - nxOf wr (w.heap.size + 3))
  case atStart => exact ⟨.slice none 0 0, [], L, L.length, hst, by simp, Nat.le_refl _, rfl⟩
  case round =>
    obtain ⟨v, q, r, f, hI, hlen, hrf, hX⟩ := hrel
    have HX : Hid _ := hX
    obtain ⟨aov, capv, rfl⟩ := own_slice hI.own
    clear hX hst
    have hm3 := hF.1
    have hmeas := hI.par.meas.1
    obtain ⟨nx, h1, hdr, hF', ao', cap', hbk, hT'⟩ := hI.par
    have q0 : wr.cell? ⟨w.heap.size + 3, 0, none⟩ = some (.slice ao' L.length cap') := by rw [Lib.cell_of_heap hbk]; rfl
    have q1 : wr.cell? ⟨w.heap.size + 3, 1, none⟩ = some (.int .i64 nx) := by rw [Lib.cell_of_heap hbk]; rfl
    clear hbk hT' hF'
    by_cases hlt : nx < L.length
    · have hdc : decide ((nx : Int) < (L.length : Int)) = true := decide_eq_true (by omega)
      have hne : ¬ r = [] := by
        rintro rfl
        have := congrArg List.length hdr
        simp at this
        omega
      obtain ⟨f, rfl⟩ : ∃ f', f = f' + 1 := by
        cases r with
        | nil => exact absurd rfl hne
        | cons t l => exact ⟨f - 1, by simp at hrf; omega⟩
      have hstep := rules_step (en := en) (f := f) (acc := q.map (·.1)) hne
      have HX1 : Hid _ := hstep.symm.trans HX.out
      clear hstep HX hdr
      go_wp2_with fail
      go_quiet (fail)
      go_upto_region 4 with fail
      replace hI : PInv w (wr.drewN nq) L en r (.slice aov q.length capv) q := hI.below ⟨rfl, rfl, rfl, Nat.le_refl _, fun _ _ => rfl⟩
      replace hmeas : L.length - nxOf wr (w.heap.size + 3) = r.length := hmeas
      generalize wr.drewN nq = wq at *
      clear q0 q1
      obtain ⟨c0, c1, c2, f0, f1, f2⟩ := hI.cells
      cases hR : Pr.rule en r with
      | inl a =>
        have hXa : Pr.rules en L.length [] L = .inl a := by rw [← HX1.out, hR]
        have HN : Hid (∀ w1, At w1 (w.heap.size + 3) L en r → _) := fun w1 h => rule_any (w.heap.size + 3) L en r w1 h
        rw [hR] at HN
        have HG : Hid _ := hXa
        clear hXa HX1 HQ
        first | go_region_dies | fail
        all_goals (refine Calls.mono (HN.out _ (At.keep hI.par (fun _ _ => rfl))) ?_)
        all_goals rintro e y2 ⟨rfl, hg2⟩
        all_goals go_wp2_with fail
        all_goals refine parse_gives hI hg2 ⟨rfl, rfl, rfl, Nat.le_refl _, fun _ _ => rfl⟩ a HG.out _ rfl rfl rfl
      | inr x =>
        obtain ⟨u1, r2⟩ := x
        have HX2 : Hid (Pr.rules en f (q.map (·.1) ++ [u1]) r2 = Pr.rules en L.length [] L) := by
          have := HX1.out
          rw [hR] at this
          exact this
        have hl2 : r2.length < r.length := rule_len hR
        have HN : Hid (∀ w1, At w1 (w.heap.size + 3) L en r → _) := fun w1 h => rule_any (w.heap.size + 3) L en r w1 h
        rw [hR] at HN
        clear hR HX1 HQ
        refine wp_region_noPanic ?_
        go_region_law (first
          | (go_simp; go_at_call 93; refine Calls.mono (HN.out _ (At.keep hI.par (fun _ _ => rfl))) ?_; rintro e y2 ⟨tv, uv, rfl, hTt, hTl, hW2⟩; have hI2 := PInv.on2 hI hW2 ⟨rfl, rfl, rfl, Nat.le_refl _, fun _ _ => rfl⟩; have hTt2 := TermsP.mono (B' := w.heap.size + 4) hTt hI.sz; have hTl2 := LitsP.mono (B' := w.heap.size + 4) hTl hI.sz; obtain ⟨aot, capt, htv, hTt'⟩ := hTt; simp only [List.length_map] at htv; subst htv; obtain ⟨qq, hqq, ⟨aol, capl, hlv, hTl'⟩, hqt⟩ := hTl; simp only [List.length_map] at hlv; subst hlv; obtain ⟨d0, d1, d2, g0, g1, g2⟩ := hI2.cells; have hsz := hI2.sz; have hsz1 : w.heap.size < y2.heap.size := Nat.lt_of_lt_of_le (Nat.lt_add_of_pos_right (by decide)) hsz; dsimp only)
          | (refine step_append_lies _ rfl (.tmp 24) (.tmp 27) 34 rfl (w.heap.size + 4) 57 i0 _ 5 80 Tryz.underlying34 hi hz0 hz1 hz2 rfl (by decide) (.slice aov q.length capv) q.length _ ?hs (PInv.below hI2 ((Below.refl _ _).alloc (Nat.le_refl _) _)).own ⟨y2.heap.size, 0, none⟩ 1 1 (ruleCells (u1, .slice aot u1.terms.length capt, .slice aol qq.length capl)) ?hx rfl ?hn ?ho ?hm ?h6 ?hb ?hB _ rfl ?_
             case hs => simp [Act.eval]
             case hx => simp [Act.eval]
             case hn => exact news_rule _ _ _ _
             case ho => exact one_rule _ _ _ _ _ _ _
             case hm => decide
             case h6 => (unfold maxLen; omega)
             case hb => omega
             case hB => (simp; omega)
             intro g cap y3 hown hgrow hat hlt
             have hI3 := PInv.put (PInv.below hI2 ((Below.refl _ _).alloc (Nat.le_refl _) _)) hgrow (hTt2.keep (keeps_below _ ((Below.refl _ _).alloc (Nat.le_refl _) _))) (hTl2.keep (keeps_below _ ((Below.refl _ _).alloc (Nat.le_refl _) _))) hown
             obtain ⟨e0, ef⟩ := PInv.app (PInv.below hI2 ((Below.refl _ _).alloc (Nat.le_refl _) _)) hgrow))
        all_goals refine NoPanic.normal ?_
        all_goals go_wp2_with fail
        all_goals go_roundw
        all_goals first
          | exact ⟨_, q ++ [(u1, _, _)], r2, f, hI3, by rw [List.length_append]; simp; omega, by omega, by simpa using HX2.out⟩
          | (rw [hI3.par.meas.1, hmeas]; omega)
    · have hdc : decide ((nx : Int) < (L.length : Int)) = false := decide_eq_false (by omega)
      have hr : r = [] := by rw [← hdr]; exact List.drop_of_length_le (by omega)
      subst hr
      have hXe : Pr.rules en L.length [] L = .inr (q.map (·.1)) := by
        have := HX.out
        cases f <;> simpa [Pr.rules] using this.symm
      obtain ⟨c0, c1, c2, f0, f1, f2⟩ := hI.cells
      go_wp2_with fail
      go_quiet (fail)
      go_wp2_with fail
      exact parse_done (hI.below (w' := wr.drewN nq) ⟨rfl, rfl, rfl, Nat.le_refl _, fun _ _ => rfl⟩) hXe _ rfl rfl rfl

end Go.Proofs.YtgpaleifhcdjnaaGreatDoor

/- Tokens that are scanned fit the parser: numbers are digits, not many. -/
namespace Go.Proofs.YtgpaleifhcdjnaaGreatDoor
namespace Tk

/-- A token as one stands at the head of bytes that begin a right one. -/
def Good (t : Tok) : Prop := ∃ l, l ≠ [] ∧ errOf l = 0 ∧ t.kind = kindOf l ∧ t.text = l.take (lenOf l)

theorem scanP_good (L : List UInt8) : ∀ (f p : Nat) (acc : List Tok), (∀ t ∈ acc, Good t) → ∀ t ∈ (scanP L f p acc).1, Good t
  | 0, _, acc, h => by rw [scanP]; exact h
  | f + 1, p, acc, h => by
    rw [scanP]
    by_cases h1 : L.length ≤ p
    · rw [if_pos h1]; exact h
    · rw [if_neg h1]
      by_cases h2 : errOf (L.drop p) = 0
      · rw [if_pos h2]
        refine scanP_good L f _ _ fun t ht => ?_
        rw [List.mem_append, List.mem_singleton] at ht
        rcases ht with ht | rfl
        · exact h t ht
        · exact ⟨L.drop p, by intro e; have := congrArg List.length e; simp at this; omega, h2, rfl, rfl⟩
      · rw [if_neg h2]; intro t ht; exact absurd ht (by simp)
theorem scan_good (L : List UInt8) : ∀ t ∈ (scan L).1, Good t := by
  unfold scan
  split
  · intro t ht; exact absurd ht (by simp)
  · exact scanP_good L _ _ _ (fun t ht => absurd ht (by simp))

theorem scanP_length (L : List UInt8) : ∀ (f p : Nat) (acc : List Tok), (scanP L f p acc).1.length ≤ acc.length + f
  | 0, _, acc => by rw [scanP]; simp
  | f + 1, p, acc => by
    rw [scanP]
    by_cases h1 : L.length ≤ p
    · rw [if_pos h1]; simp
    · rw [if_neg h1]
      by_cases h2 : errOf (L.drop p) = 0
      · rw [if_pos h2]
        refine Nat.le_trans (scanP_length L f _ _) ?_
        simp; omega
      · rw [if_neg h2]; simp
theorem scan_length (L : List UInt8) : (scan L).1.length ≤ 5000 := by
  unfold scan
  by_cases h : 5000 < L.length
  · rw [if_pos h]; simp
  · rw [if_neg h]
    have := scanP_length L L.length (sep false L) []
    simp at this
    omega

theorem take_pre (p : Int → Bool) : ∀ (l : List UInt8), ∀ b ∈ l.take (pre p l), p (b.toNat : Int) = true
  | [], b, hb => absurd hb (by simp)
  | c :: r, b, hb => by
    rw [pre] at hb
    by_cases h : p (c.toNat : Int) = true
    · rw [if_pos h, List.take_succ_cons, List.mem_cons] at hb
      rcases hb with rfl | hb
      · exact h
      · exact take_pre p r b hb
    · rw [if_neg h] at hb; exact absurd hb (by simp)

theorem decFrom_digits : ∀ (l : List UInt8) (acc : Nat), (∀ b ∈ l, digit (b.toNat : Int) = true) → ∃ n, Lib.decFrom acc l = some n
  | [], acc, _ => ⟨acc, rfl⟩
  | c :: r, acc, h => by
    have hc := h c (by simp)
    unfold digit at hc
    simp only [Bool.and_eq_true, decide_eq_true_eq] at hc
    have hv : Lib.digitVal c = some (c.toNat - 48) := by unfold Lib.digitVal; rw [if_pos (by omega)]
    obtain ⟨n, hn⟩ := decFrom_digits r (acc * 10 + (c.toNat - 48)) (fun b hb => h b (by simp [hb]))
    exact ⟨n, by unfold Lib.decFrom; rw [hv]; exact hn⟩

/-- The number token: digits, from one to seven. -/
theorem Good.number {t : Tok} (h : Good t) (hk : t.kind = 3) : (∃ c r, t.text = c :: r) ∧ t.text.length ≤ 7 ∧ ∀ b ∈ t.text, digit (b.toNat : Int) = true := by
  obtain ⟨l, hne, he, h1, h2⟩ := h
  match l, hne with
  | c :: r, _ =>
    rw [hk] at h1
    unfold kindOf at h1
    unfold errOf at he
    unfold lenOf at h2
    simp only at h1 he h2
    by_cases hs : small c.toNat = true
    · rw [if_pos hs] at h1; exact absurd h1 (by decide)
    · by_cases hg : great c.toNat = true
      · rw [if_neg hs, if_pos hg] at h1; exact absurd h1 (by decide)
      · by_cases hd : digit c.toNat = true
        · have hsg : ¬ (small c.toNat || great c.toNat) = true := by simp [hs, hg]
          rw [if_neg hsg, if_pos hd] at he h2
          have hp : 1 ≤ pre digit (c :: r) := pre_pos hd
          have hp7 : pre digit (c :: r) ≤ 7 := by
            by_cases h7 : pre digit (c :: r) > 7
            · rw [if_pos h7] at he; exact absurd he (by decide)
            · omega
          refine ⟨?_, ?_, ?_⟩
          · obtain ⟨k, hk⟩ : ∃ k, pre digit (c :: r) = k + 1 := ⟨pre digit (c :: r) - 1, by omega⟩
            exact ⟨c, r.take k, by rw [h2, hk, List.take_succ_cons]⟩
          · rw [h2, List.length_take]; omega
          · rw [h2]; exact take_pre digit _
        · rw [if_neg hs, if_neg hg, if_neg hd] at h1; exact absurd h1 (by decide)

theorem atoi_digits {c : UInt8} {r : List UInt8} (h : ∀ b ∈ c :: r, digit (b.toNat : Int) = true) : ∃ n : Nat, Lib.decFrom 0 (c :: r) = some n ∧ Lib.atoi (c :: r) = some (n : Int) := by
  obtain ⟨n, hn⟩ := decFrom_digits (c :: r) 0 h
  refine ⟨n, hn, ?_⟩
  have hc := h c (by simp)
  unfold digit at hc
  simp only [Bool.and_eq_true, decide_eq_true_eq] at hc
  have h43 : ¬ c = 43 := by rintro rfl; simp at hc
  have h45 : ¬ c = 45 := by rintro rfl; simp at hc
  unfold Lib.atoi
  simp [h43, h45, Lib.decNat, hn]
end Tk

theorem fit_scan (L : List UInt8) : Fit (Tk.scan L).1 := by
  refine ⟨Tk.scan_length L, fun t ht hk => ?_⟩
  obtain ⟨⟨c, r, hcr⟩, h7, hd⟩ := (Tk.scan_good L t ht).number hk
  rw [hcr] at hd h7 ⊢
  obtain ⟨n, _, hn⟩ := Tk.atoi_digits hd
  exact ⟨by omega, n, hn⟩

end Go.Proofs.YtgpaleifhcdjnaaGreatDoor

/- Package tree: Parse answers the tree of a text, or where it is wrong and why. -/
namespace Go.Proofs.YtgpaleifhcdjnaaGreatDoor
open Go.RowKit

/-- What Parse leaves. -/
def ParseTop (X : List Tr.Rule × Int × Int) (w : World) (e : Ending) (w' : World) : Prop :=
  ∃ ao cap, e = .returned (.tuple #[.agg #[.slice ao X.1.length cap], .int .i64 X.2.1, .int .i64 X.2.2]) ∧ RulesP w.heap.size w' (.slice ao X.1.length cap) X.1 ∧ Below w.heap.size w w'

theorem rulesP_nil (B : Nat) (w : World) : RulesP B w (.slice none 0 0) [] := ⟨[], rfl, ⟨none, 0, rfl, .inl rfl⟩, fun _ hp => absurd hp (by simp)⟩
theorem RulesP.mono {B B' : Nat} {w : World} {v : Value} {l : List Tr.Rule} (h : RulesP B w v l) (hB : B' ≤ B) : RulesP B' w v l := by
  obtain ⟨q, h1, h2, h3⟩ := h
  exact ⟨q, h1, h2.mono hB, fun p hp => ⟨(h3 p hp).1.mono hB, (h3 p hp).2.mono hB⟩⟩
theorem RulesP.set {B b : Nat} {w : World} {v : Value} {l : List Tr.Rule} (h : RulesP B w v l) (hB : b < B) (o : Nat) (u : Value) : RulesP B (w.setCell ⟨b, o, none⟩ u) v l := by
  obtain ⟨q, h1, h2, h3⟩ := h
  exact ⟨q, h1, h2.keep (keeps_set (· = 57) hB _ _) rfl, fun p hp => ⟨(h3 p hp).1.keep (keeps_set _ hB _ _), (h3 p hp).2.keep (keeps_set _ hB _ _)⟩⟩
theorem RulesP.slice {B : Nat} {w : World} {v : Value} {l : List Tr.Rule} (h : RulesP B w v l) : ∃ ao cap, v = .slice ao l.length cap := by
  obtain ⟨q, rfl, ⟨ao, cap, hv, _⟩, _⟩ := h
  exact ⟨ao, cap, by rw [hv]; simp⟩
theorem RulesP.below {B : Nat} {w w' : World} {v : Value} {l : List Tr.Rule} (h : RulesP B w v l) (hb : Below w.heap.size w w') : RulesP B w' v l := by
  obtain ⟨q, h1, h2, h3⟩ := h
  exact ⟨q, h1, h2.keep (keeps_below (· = 57) hb) rfl, fun p hp => ⟨(h3 p hp).1.keep (keeps_below _ hb), (h3 p hp).2.keep (keeps_below _ hb)⟩⟩

/-- What Parse makes of what Scan answers. -/
def Pr.parseOf (n : Int) (X : List Tk.Tok × Nat × Int) : List Tr.Rule × Int × Int :=
  if X.2.2 = 0 then match Pr.rules n X.1.length [] X.1 with
    | .inl a => ([], a, 1)
    | .inr t => if Tr.check t = 0 then (t, 0, 0) else ([], 0, Tr.check t)
  else ([], X.2.1, X.2.2)
theorem parse_eq (s : ByteArray) : Pr.parse s.data.toList = Pr.parseOf s.size (Tk.scan s.data.toList) := by
  have h : ((s.data.toList.length : Nat) : Int) = s.size := by rw [Array.length_toList]; rfl
  unfold Pr.parse Pr.parseOf
  rw [h]
  split
  · cases Pr.rules (s.size : Int) (Tk.scan s.data.toList).1.length [] (Tk.scan s.data.toList).1 <;> rfl
  · rfl

/-- The block of a tree that is answered. -/
theorem tree_cell {w1 : World} {b : Nat} {v : Value} (h : w1.heap[b]? = some (.cells #[v] 36)) : w1.cell? ⟨b, 0, none⟩ = some v ∧ w1.frozen? ⟨b, 0, none⟩ = false := ⟨by rw [Lib.cell_of_heap h]; rfl, by simp [World.frozen?, h]⟩

set_option maxRecDepth 100000 in
set_option maxHeartbeats 1000000 in
theorem Parse_any (s : ByteArray) (w : World) : Calls Tryz.prog 22 #[.string s] w (ParseTop (Pr.parse s.data.toList) w) := by
  rw [parse_eq]
  have HS : Hid (∀ w, Calls Tryz.prog 21 #[.string s] w (ScanTop s.data.toList w)) := fun w => Scan_any s w
  have hF : Fit (Tk.scan s.data.toList).1 := fit_scan _
  unfold ScanTop at HS
  rcases hX : Tk.scan s.data.toList with ⟨T, p, E⟩
  rw [hX] at HS hF
  simp only at HS hF
  clear hX
  have HQ : Hid (∀ X, Pr.parseOf s.size (T, p, E) = X → ∀ e w', ParseTop X w e w' → ParseTop (Pr.parseOf s.size (T, p, E)) w e w') := by rintro X rfl e w' h; exact h
  generalize ParseTop (Pr.parseOf s.size (T, p, E)) w = Q at HQ ⊢
  go_enter Tryz.func22, Tryz.ntmps22
  go_wp2_with fail
  refine Calls.mono (HS.out _) ?_
  rintro e w1 ⟨ao, cap, rfl, hown, hb⟩
  have hT := toksAt_own hown
  clear hown HS
  have hres : w1.heap[w.heap.size]? = some (.cells #[.slice none 0 0] 36) := (hb.block _ (by simp)).trans (heap_alloc_new w _)
  have hbw : Below w.heap.size w w1 := ((Below.refl w.heap.size w).alloc (Nat.le_refl _) _).trans (hb.mono (by simp))
  obtain ⟨c0, f0⟩ := tree_cell hres
  cases hE : (E == 0)
  · have HP2 : Hid (Pr.parseOf s.size (T, p, E) = ([], (p : Int), E)) := by
      unfold Pr.parseOf
      rw [if_neg (by intro e; simp only at e; rw [e] at hE; exact absurd hE (by decide))]
      exact rfl
    go_wp2_with fail
    exact bodyPost_ret (v := .tuple #[.agg #[.slice none 0 0], .int .i64 p, .int .i64 E]) (by simp [results, Tryz.results22, go_sem, c0]) rfl (HQ.out _ HP2.out _ _ ⟨none, 0, rfl, rulesP_nil _ _, hbw.setCell (p := ⟨w.heap.size, 0, none⟩) (Nat.le_refl _) _⟩)
  · obtain rfl : E = 0 := eq_of_beq hE
    have HP2 : Hid (Pr.parseOf s.size (T, p, 0) = match Pr.rules s.size T.length [] T with
      | .inl a => ([], a, 1)
      | .inr t => if Tr.check t = 0 then (t, 0, 0) else ([], 0, Tr.check t)) := by
      unfold Pr.parseOf
      rw [if_pos rfl]
      exact rfl
    have HC : Hid (∀ w, ToksAt w ao T → Calls Tryz.prog 57 #[.slice ao T.length cap, .int .i64 s.size] w (ParseEnd T s.size w)) := fun w h => parse_any T s.size ao cap w h hF
    unfold ParseEnd at HC
    go_wp2_with fail
    refine Calls.mono (HC.out _ hT) ?_
    clear HC hE c0 f0 hT hb
    cases hR : Pr.rules s.size T.length [] T with
    | inl a =>
      have HP3 : Hid (Pr.parseOf s.size (T, p, 0) = ([], a, 1)) := by
        have := HP2.out
        rw [hR] at this
        exact this
      clear hR HP2
      rintro e w2 ⟨rfl, hb2⟩
      have hres2 := (hb2.block _ (heap_lt hres)).trans hres
      have hbw2 := hbw.trans (hb2.mono hbw.size)
      obtain ⟨c0, f0⟩ := tree_cell hres2
      have hlt : w.heap.size < w2.heap.size := heap_lt hres2
      go_wp2_with fail
      exact bodyPost_ret (v := .tuple #[.agg #[.slice none 0 0], .int .i64 a, .int .i64 1]) (by simp [results, Tryz.results22, go_sem, c0, hlt]) rfl (HQ.out _ HP3.out _ _ ⟨none, 0, rfl, rulesP_nil _ _, (hbw2.setCell (p := ⟨w.heap.size, 0, none⟩) (Nat.le_refl _) _).alloc (by simp; exact hbw2.size) _⟩)
    | inr t =>
      have HP3 : Hid (Pr.parseOf s.size (T, p, 0) = if Tr.check t = 0 then (t, 0, 0) else ([], 0, Tr.check t)) := by
        have := HP2.out
        rw [hR] at this
        exact this
      clear hR HP2
      rintro e w2 ⟨v, rfl, hP, hb2⟩
      have hres2 := (hb2.block _ (heap_lt hres)).trans hres
      have hbw2 := hbw.trans (hb2.mono hbw.size)
      obtain ⟨c0, f0⟩ := tree_cell hres2
      have hlt : w.heap.size < w2.heap.size := heap_lt hres2
      obtain ⟨aot, capt, rfl⟩ := hP.slice
      have hP1 := hP.below ((Below.refl _ _).alloc (Nat.le_refl _) (.cells #[.slice aot t.length capt] 36))
      have hres3 := (((Below.refl w2.heap.size w2).alloc (Nat.le_refl _) (.cells #[.slice aot t.length capt] 36)).block _ hlt).trans hres2
      have hbw3 := hbw2.alloc hbw2.size (.cells #[.slice aot t.length capt] 36)
      have htr := heap_alloc_new w2 (.cells #[.slice aot t.length capt] 36)
      have HK : Hid (∀ w, RulesV w (.slice aot t.length capt) t → Calls Tryz.prog 41 #[.agg #[.slice aot t.length capt]] w fun e w' => e = .returned (.int .i64 (Tr.check t)) ∧ Below w.heap.size w w') := fun w h => Check_any t _ w h
      go_wp2_with fail
      refine Calls.mono (HK.out _ hP1.toV) ?_
      rintro e w3 ⟨rfl, hb3⟩
      have hres4 := (hb3.block _ (heap_lt hres3)).trans hres3
      have htr4 := (hb3.block _ (heap_lt htr)).trans htr
      have hbw4 := hbw3.trans (hb3.mono hbw3.size)
      have hP4 := hP1.below hb3
      have hlt1 := heap_lt hres
      clear HK hP1 hres3 htr hbw3 hb3 hP hres2 hbw2 hb2 c0 f0
      obtain ⟨c0, f0⟩ := tree_cell hres4
      obtain ⟨c1, f1⟩ := tree_cell htr4
      cases hC : (Tr.check t == 0)
      · have HP4 : Hid (Pr.parseOf s.size (T, p, 0) = ([], 0, Tr.check t)) := by
          have := HP3.out
          rw [if_neg (by intro e; rw [e] at hC; exact absurd hC (by decide))] at this
          exact this
        go_wp2_with fail
        exact bodyPost_ret (v := .tuple #[.agg #[.slice none 0 0], .int .i64 0, .int .i64 (Tr.check t)]) (by simp [results, Tryz.results22, go_sem, c0]) rfl (HQ.out _ HP4.out _ _ ⟨none, 0, rfl, rulesP_nil _ _, hbw4.setCell (p := ⟨w.heap.size, 0, none⟩) (Nat.le_refl _) _⟩)
      · have HP4 : Hid (Pr.parseOf s.size (T, p, 0) = (t, 0, 0)) := by
          have := HP3.out
          rw [if_pos (eq_of_beq hC)] at this
          exact this
        go_wp2_with fail
        exact bodyPost_ret (v := .tuple #[.agg #[.slice aot t.length capt], .int .i64 0, .int .i64 0]) (by simp [results, Tryz.results22, go_sem, c0]) rfl (HQ.out _ HP4.out _ _ ⟨aot, capt, rfl, (hP4.set hlt1 _ _).mono hbw.size, hbw4.setCell (p := ⟨w.heap.size, 0, none⟩) (Nat.le_refl _) _⟩)

end Go.Proofs.YtgpaleifhcdjnaaGreatDoor

/- Package scope: Resolve. -/
namespace Go.Proofs.YtgpaleifhcdjnaaGreatDoor
open Go.RowKit

theorem resolve_bad {l : List Tr.Rule} {e : Sc.Bad} (h : Sc.resolve l = .inl e) : ¬ e.2 = 0 := by
  unfold Sc.resolve at h
  rcases hg : Sc.rulesGo l ⟨[], []⟩ with y | ⟨rs, st⟩
  · rw [hg] at h
    simp only at h
    injection h with h
    subst h
    exact rulesGo_bad _ _ _ hg
  · rw [hg] at h; cases h
theorem resolve_fit {l : List Tr.Rule} {p : Sc.Prog} (h : Sc.resolve l = .inr p) (hc : Tr.check l = 0) (hl : p.arity.length = p.names.length) : ProgFit p := by
  unfold Sc.resolve at h
  rcases hg : Sc.rulesGo l ⟨[], []⟩ with y | ⟨rs, st⟩
  · rw [hg] at h; cases h
  rw [hg] at h
  simp only at h
  injection h with h
  subst h
  obtain ⟨s1, s2⟩ := check_short hc
  obtain ⟨h1, h2, h3⟩ := rulesGo_ok _ _ _ _ hg s2
  simp at hl h3
  refine ⟨by simp only; omega, by simp only; omega, by simp only; omega, fun i hi => h2 _ (by simp at hi; simp [Sc.ruleD, hi])⟩
theorem Agree.refl (K : Nat) (u : World) : Agree K u u := fun _ _ _ => rfl

set_option maxRecDepth 100000 in
set_option maxHeartbeats 2000000 in
theorem resolve1_any (l : List Tr.Rule) (v : Value) (X Y : Nat) (w : World) (hX : w.heap[X]? = some (.cells #[v] 36)) (hY : w.heap[Y]? = some (.cells #[.slice none 0 0, .slice none 0 0, .slice none 0 0] 26)) (hV : RulesV w v l) (hN : Tr.check l = 0 → TrNames l) :
    Calls Tryz.prog 40 #[.pointer (some ⟨X, 0, none⟩), .pointer (some ⟨Y, 0, none⟩)] w fun e w' => e = endE (Sc.resolveOf l).2.1 (Sc.resolveOf l).2.2 ∧ w.grownBy w' (some Y) ∧ ((Sc.resolveOf l).2.2 = 0 → ∃ va vn vr, w'.heap[Y]? = some (.cells #[va, vn, vr] 26) ∧ ∀ z, Agree w.heap.size w' z → ProgV z va vn vr (Sc.resolveOf l).1) := by
  have HV0 : Hid (RulesV w v l) := hV
  have HNM : Hid (Tr.check l = 0 → TrNames l) := hN
  obtain ⟨ao, cap, rfl, _⟩ := id hV
  have c0 : w.cell? ⟨X, 0, none⟩ = some (.slice ao l.length cap) := by rw [Lib.cell_of_heap hX]; rfl
  clear hV hN
  go_enter Tryz.func40, Tryz.ntmps40
  go_wp2_with fail
  refine Calls.mono (Check_any l _ _ HV0.out) ?_
  rintro e w1 ⟨rfl, hb1⟩
  by_cases hc : Tr.check l = 0
  rotate_left
  · have HV : Hid (Sc.resolveOf l = (⟨[], [], []⟩, 0, 4)) := by show _ = _; unfold Sc.resolveOf; rw [if_neg hc]
    have hc' : (Tr.check l != 0) = true := by simpa using hc
    go_wp2_with fail
    refine (refuse_yes 4 _).mono ?_
    rintro e w2 ⟨rfl, hb2⟩
    go_wp2_with fail
    exact ⟨rfl, by rw [HV.out]; rfl, grownBy_of_below (hb1.trans (hb2.mono hb1.size)) _, fun h => by rw [HV.out] at h; cases h⟩
  have hX1 := (hb1.block _ (heap_lt hX)).trans hX
  have hY1 := (hb1.block _ (heap_lt hY)).trans hY
  have c1 : w1.cell? ⟨X, 0, none⟩ = some (.slice ao l.length cap) := by rw [Lib.cell_of_heap hX1]; rfl
  have HC : Hid (Tr.check l = 0) := hc
  rw [hc]
  clear c0 hc
  go_wp2_with fail
  refine (refuse_no 4 _).mono ?_
  rintro e w2 ⟨rfl, rfl⟩
  go_wp2_with fail
  refine Calls.mono (resolveR_any l _ _ (rulesV_below HV0.out hb1) (check_short HC.out).1 (trFit_of HC.out (HNM.out HC.out))) ?_
  intro e w3 hR
  unfold ResR at hR
  rcases hr : Sc.resolve l with e0 | p
  · rw [hr] at hR
    obtain ⟨rfl, hb3⟩ := hR
    have HNE : Hid (¬ e0.2 = 0) := resolve_bad hr
    have HV : Hid (Sc.resolveOf l = (⟨[], [], []⟩, e0.1, e0.2)) := by show _ = _; unfold Sc.resolveOf; rw [if_pos HC.out, hr]
    go_wp2_with fail
    exact ⟨rfl, by rw [HV.out]; exact (if_neg HNE.out).symm, grownBy_of_below (hb1.trans (hb3.mono hb1.size)) _, fun h => by rw [HV.out] at h; exact absurd h HNE.out⟩
  rw [hr] at hR
  obtain ⟨va, vn, vr, rfl, hPV, hb3, hlen⟩ := hR
  have HPF : Hid (ProgFit p) := resolve_fit hr HC.out hlen
  have HV : Hid (Sc.resolveOf l = if Sc.check p = 0 then (p, 0, 0) else (⟨[], [], []⟩, 0, Sc.check p)) := by show _ = _; unfold Sc.resolveOf; rw [if_pos HC.out, hr]
  have HPV : Hid (∀ z, Agree w2.heap.size w3 z → ProgV z va vn vr p) := hPV
  obtain ⟨a0, n0, rfl, _⟩ := id (hPV w3 (Agree.refl _ _)).ar
  obtain ⟨a1, n1, rfl, _⟩ := id (hPV w3 (Agree.refl _ _)).nm
  obtain ⟨a2, n2, rfl, _⟩ := id (hPV w3 (Agree.refl _ _)).rl
  have hY3 := (hb3.block _ (heap_lt hY1)).trans hY1
  have hb13 := hb1.trans (hb3.mono hb1.size)
  have hsz12 := hb1.size
  have hYl := heap_lt hY
  have d0 : w3.cell? ⟨Y, 0, none⟩ = some (.slice none 0 0) := by rw [Lib.cell_of_heap hY3]; rfl
  have d1 : w3.cell? ⟨Y, 1, none⟩ = some (.slice none 0 0) := by rw [Lib.cell_of_heap hY3]; rfl
  have d2 : w3.cell? ⟨Y, 2, none⟩ = some (.slice none 0 0) := by rw [Lib.cell_of_heap hY3]; rfl
  have f0 : w3.frozen? ⟨Y, 0, none⟩ = false := Lib.frozen_of_heap hY3 0
  have f1 : w3.frozen? ⟨Y, 1, none⟩ = false := Lib.frozen_of_heap hY3 1
  have f2 : w3.frozen? ⟨Y, 2, none⟩ = false := Lib.frozen_of_heap hY3 2
  have hs : SetB Y w3 (((w3.setCell ⟨Y, 0, none⟩ (.slice a0 p.arity.length n0)).setCell ⟨Y, 1, none⟩ (.slice a1 p.names.length n1)).setCell ⟨Y, 2, none⟩ (.slice a2 p.rules.length n2)) := ((SetB.one _ _ _ _).trans (SetB.one _ _ _ _)).trans (SetB.one _ _ _ _)
  have hY5 : (((w3.setCell ⟨Y, 0, none⟩ (.slice a0 p.arity.length n0)).setCell ⟨Y, 1, none⟩ (.slice a1 p.names.length n1)).setCell ⟨Y, 2, none⟩ (.slice a2 p.rules.length n2)).heap[Y]? = some (.cells #[.slice a0 p.arity.length n0, .slice a1 p.names.length n1, .slice a2 p.rules.length n2] 26) := by
    have e1 : (w3.setCell ⟨Y, 0, none⟩ (.slice a0 p.arity.length n0)).heap[Y]? = some (.cells #[.slice a0 p.arity.length n0, .slice none 0 0, .slice none 0 0] 26) := by rw [Lib.heap_setCell_same hY3]; rfl
    have e2 : ((w3.setCell ⟨Y, 0, none⟩ (.slice a0 p.arity.length n0)).setCell ⟨Y, 1, none⟩ (.slice a1 p.names.length n1)).heap[Y]? = some (.cells #[.slice a0 p.arity.length n0, .slice a1 p.names.length n1, .slice none 0 0] 26) := by rw [Lib.heap_setCell_same e1]; rfl
    rw [Lib.heap_setCell_same e2]; rfl
  clear hPV hX hY hX1 hY1 hY3 c1 HC hr hlen
  go_wp2_with fail
  generalize ((w3.setCell ⟨Y, 0, none⟩ (.slice a0 p.arity.length n0)).setCell ⟨Y, 1, none⟩ (.slice a1 p.names.length n1)).setCell ⟨Y, 2, none⟩ (.slice a2 p.rules.length n2) = w5 at *
  refine Calls.mono (scCheck_any p _ _ _ _ (HPV.out _ (fun k hk _ => hs.block k (by omega))) HPF.out) ?_
  rintro e w6 ⟨he, hb6⟩
  have hgr : w.grownBy w6 (some Y) := ⟨hb6.os.trans (hs.os.trans hb13.os), hb6.tape.trans (hs.tape.trans hb13.tape), hb6.output.trans (hs.output.trans hb13.output), Nat.le_trans hb13.size (by have := hb6.size; rw [hs.size] at this; exact this), fun k hk hne => (hb6.block k (by rw [hs.size]; exact Nat.lt_of_lt_of_le hk hb13.size)).trans ((hs.block k (fun e => hne (congrArg some e))).trans (hb13.block k hk))⟩
  have hY6 := (hb6.block _ (heap_lt hY5)).trans hY5
  by_cases hk : Sc.check p = 0
  · rw [hk, finE_zero] at he
    subst he
    rw [if_pos hk] at HV
    have HZ : Hid (∀ z, Agree w.heap.size w6 z → ProgV z (.slice a0 p.arity.length n0) (.slice a1 p.names.length n1) (.slice a2 p.rules.length n2) p) := fun z hz => HPV.out z (fun k h1 h2 => (hz k (by omega) (by have := hb6.size; rw [hs.size] at this; omega)).trans ((hb6.block k (by rw [hs.size]; exact h2)).trans (hs.block k (by omega))))
    clear HPV hs hY5
    go_wp2_with fail
    exact ⟨rfl, .tuple #[], by simp [results, Tryz.results40], by rw [HV.out]; rfl, hgr, fun _ => ⟨_, _, _, hY6, by rw [HV.out]; exact HZ.out⟩⟩
  · rw [finE_ne hk] at he
    subst he
    rw [if_neg hk] at HV
    clear HPV hs hY5
    go_wp2_with fail
    exact ⟨rfl, by rw [HV.out]; exact (if_neg hk).symm, hgr, fun h => by rw [HV.out] at h; exact absurd h hk⟩

theorem resolveOf_bad {l : List Tr.Rule} (h : ¬ (Sc.resolveOf l).2.2 = 0) : (Sc.resolveOf l).1 = ⟨[], [], []⟩ := by
  unfold Sc.resolveOf at h ⊢
  by_cases hc : Tr.check l = 0
  · rw [if_pos hc] at h ⊢
    rcases hr : Sc.resolve l with e | p
    · rfl
    · rw [hr] at h
      simp only at h ⊢
      by_cases hk : Sc.check p = 0
      · rw [if_pos hk] at h
        exact absurd rfl h
      · rw [if_neg hk]
  · rw [if_neg hc]
theorem resolveOf_good {l : List Tr.Rule} (h : (Sc.resolveOf l).2.2 = 0) : (Sc.resolveOf l).2.1 = 0 := by
  unfold Sc.resolveOf at h ⊢
  by_cases hc : Tr.check l = 0
  · rw [if_pos hc] at h ⊢
    rcases hr : Sc.resolve l with e | p
    · rw [hr] at h
      exact absurd h (resolve_bad hr)
    · simp only
      by_cases hk : Sc.check p = 0
      · rw [if_pos hk]
      · rw [if_neg hk]
  · rw [if_neg hc]
theorem SetB.drew {b : Nat} {w w' : World} (h : SetB b w w') : SetB b w w'.drew := ⟨h.os, h.tape, h.output, h.size, h.block⟩
theorem progV_nil (w : World) : ProgV w (.slice none 0 0) (.slice none 0 0) (.slice none 0 0) ⟨[], [], []⟩ := ⟨⟨none, 0, rfl, .inl rfl⟩, ⟨none, 0, rfl, .inl rfl⟩, ⟨none, 0, rfl, .inl rfl⟩⟩

set_option maxRecDepth 100000 in
set_option maxHeartbeats 2000000 in
theorem Resolve_any (l : List Tr.Rule) (v : Value) (w : World) (hV : RulesV w v l) (hN : Tr.check l = 0 → TrNames l) :
    Calls Tryz.prog 12 #[treeVal v] w fun e w' => ∃ va vn vr, e = .returned (.tuple #[progVal va vn vr, .int .i64 (Sc.resolveOf l).2.1, .int .i64 (Sc.resolveOf l).2.2]) ∧ (∀ z, Agree w.heap.size w' z → ProgV z va vn vr (Sc.resolveOf l).1) ∧ Below w.heap.size w w' := by
  obtain ⟨ao, cap, rfl, _⟩ := id hV
  have hmf : ∀ (fn : Fn) (first cap : Array Value) (w : World), (Instr.makeFunc fn first cap).run Tryz.prog w = .ok (.func fn first cap) w := fun _ _ _ _ => rfl
  have HV0 : Hid (RulesV w (.slice ao l.length cap) l) := hV
  have HNM : Hid (Tr.check l = 0 → TrNames l) := hN
  obtain ⟨hb3, hX3, hY3⟩ := three_blocks w (.cells #[.slice ao l.length cap] 36) (.cells #[.slice none 0 0, .slice none 0 0, .slice none 0 0] 26) (.cells #[.slice none 0 0, .slice none 0 0, .slice none 0 0] 26)
  have hM3 := mid_block w (.cells #[.slice ao l.length cap] 36) (.cells #[.slice none 0 0, .slice none 0 0, .slice none 0 0] 26) (.cells #[.slice none 0 0, .slice none 0 0, .slice none 0 0] 26)
  have hs3 : (((w.alloc (.cells #[.slice ao l.length cap] 36)).alloc (.cells #[.slice none 0 0, .slice none 0 0, .slice none 0 0] 26)).alloc (.cells #[.slice none 0 0, .slice none 0 0, .slice none 0 0] 26)).heap.size = w.heap.size + 1 + 1 + 1 := by simp
  have HBd : Hid (¬ (Sc.resolveOf l).2.2 = 0 → (Sc.resolveOf l).1 = ⟨[], [], []⟩) := resolveOf_bad
  have HGd : Hid ((Sc.resolveOf l).2.2 = 0 → (Sc.resolveOf l).2.1 = 0) := resolveOf_good
  have HR1 : Hid (∀ y X Y, y.heap[X]? = some (.cells #[.slice ao l.length cap] 36) → y.heap[Y]? = some (.cells #[.slice none 0 0, .slice none 0 0, .slice none 0 0] 26) → RulesV y (.slice ao l.length cap) l → Calls Tryz.prog 40 #[.pointer (some ⟨X, 0, none⟩), .pointer (some ⟨Y, 0, none⟩)] y fun e w' => e = endE (Sc.resolveOf l).2.1 (Sc.resolveOf l).2.2 ∧ y.grownBy w' (some Y) ∧ ((Sc.resolveOf l).2.2 = 0 → ∃ va vn vr, w'.heap[Y]? = some (.cells #[va, vn, vr] 26) ∧ ∀ z, Agree y.heap.size w' z → ProgV z va vn vr (Sc.resolveOf l).1)) := fun y X Y h1 h2 h3 => resolve1_any l _ X Y y h1 h2 h3 HNM.out
  clear hV hN
  rcases hres : Sc.resolveOf l with ⟨p, a, c⟩
  rw [hres] at HBd HGd HR1
  have HBd : Hid (¬ c = 0 → p = ⟨[], [], []⟩) := HBd
  have HGd : Hid (c = 0 → a = 0) := HGd
  show Calls Tryz.prog 12 _ w fun e w' => ∃ va vn vr, e = .returned (.tuple #[progVal va vn vr, .int .i64 a, .int .i64 c]) ∧ (∀ z, Agree w.heap.size w' z → ProgV z va vn vr p) ∧ Below w.heap.size w w'
  clear hres
  go_enter Tryz.func12, Tryz.ntmps12
  go_wp2_with fail
  generalize (((w.alloc (.cells #[.slice ao l.length cap] 36)).alloc (.cells #[.slice none 0 0, .slice none 0 0, .slice none 0 0] 26)).alloc (.cells #[.slice none 0 0, .slice none 0 0, .slice none 0 0] 26)) = w3 at *
  have hb4 : Below w3.heap.size w3 (w3.alloc (.cells #[.int .i64 0, .int .i64 0] 71)) := (Below.refl _ _).alloc (Nat.le_refl _) _
  refine Calls.mono (caught_any 40 _ (some (w.heap.size + 1 + 1)) a c (fun u => c = 0 → ∃ va vn vr, u.heap[w.heap.size + 1 + 1]? = some (.cells #[va, vn, vr] 26) ∧ ∀ z, Agree (w3.heap.size + 1) u z → ProgV z va vn vr p) w3 enters40 (fun k e => by injection e; omega) ?_ ?_) ?_
  · intro u v hZ hs hk h0
    obtain ⟨va, vn, vr, h1, h2⟩ := hZ h0
    exact ⟨va, vn, vr, (hk _ (by omega)).trans h1, fun z hz => h2 z (fun k h3 h4 => (hz k h3 (by omega)).trans (hk k (by omega)))⟩
  · refine Calls.mono (HR1.out _ _ _ ((hb4.block _ (by omega)).trans hX3) ((hb4.block _ (by omega)).trans hY3) (rulesV_below HV0.out (hb3.trans (hb4.mono hb3.size)))) ?_
    rintro e w' ⟨h1, h2, h3⟩
    refine ⟨h1, h2, fun h0 => ?_⟩
    have := h3 h0
    simpa using this
  · rintro e w4 ⟨rfl, hg, hz⟩
    have hB4 : Below w.heap.size w w4 := ⟨hg.os.trans hb3.os, hg.tape.trans hb3.tape, hg.output.trans hb3.output, Nat.le_trans hb3.size hg.size, fun k hk => (hg.block k (by omega) (fun e => by injection e; omega)).trans (hb3.block k hk)⟩
    have hM4 := (hg.block _ (by omega) (fun e => by injection e; omega)).trans hM3
    have hsz4 := hg.size
    have hMa : ∀ o, (w4.alloc o).heap[w.heap.size + 1]? = some (.cells #[.slice none 0 0, .slice none 0 0, .slice none 0 0] 26) := fun o => (((Below.refl _ _).alloc (Nat.le_refl _) o).block _ (heap_lt hM4)).trans hM4
    have o0 : ∀ o, (w4.alloc o).cell? ⟨w.heap.size + 1, 0, none⟩ = some (.slice none 0 0) := fun o => by rw [Lib.cell_of_heap (hMa o)]; rfl
    have o1 : ∀ o, (w4.alloc o).cell? ⟨w.heap.size + 1, 1, none⟩ = some (.slice none 0 0) := fun o => by rw [Lib.cell_of_heap (hMa o)]; rfl
    have o2 : ∀ o, (w4.alloc o).cell? ⟨w.heap.size + 1, 2, none⟩ = some (.slice none 0 0) := fun o => by rw [Lib.cell_of_heap (hMa o)]; rfl
    have of0 : ∀ o, (w4.alloc o).frozen? ⟨w.heap.size + 1, 0, none⟩ = false := fun o => Lib.frozen_of_heap (hMa o) 0
    have of1 : ∀ o, (w4.alloc o).frozen? ⟨w.heap.size + 1, 1, none⟩ = false := fun o => Lib.frozen_of_heap (hMa o) 1
    have of2 : ∀ o, (w4.alloc o).frozen? ⟨w.heap.size + 1, 2, none⟩ = false := fun o => Lib.frozen_of_heap (hMa o) 2
    by_cases hc : c = 0
    · subst hc
      obtain ⟨va, vn, vr, hY4, hPV⟩ := hz rfl
      obtain rfl : a = 0 := HGd.out rfl
      obtain ⟨a0, n0, rfl, _⟩ := id (hPV w4 (Agree.refl _ _)).ar
      obtain ⟨a1, n1, rfl, _⟩ := id (hPV w4 (Agree.refl _ _)).nm
      obtain ⟨a2, n2, rfl, _⟩ := id (hPV w4 (Agree.refl _ _)).rl
      have x0 : ∀ o, (w4.alloc o).cell? ⟨w.heap.size + 1 + 1, 0, none⟩ = some (.slice a0 p.arity.length n0) := fun o => cell_below ((Below.refl _ _).alloc (Nat.le_refl _) o) (by rw [Lib.cell_of_heap hY4]; rfl)
      have x1 : ∀ o, (w4.alloc o).cell? ⟨w.heap.size + 1 + 1, 1, none⟩ = some (.slice a1 p.names.length n1) := fun o => cell_below ((Below.refl _ _).alloc (Nat.le_refl _) o) (by rw [Lib.cell_of_heap hY4]; rfl)
      have x2 : ∀ o, (w4.alloc o).cell? ⟨w.heap.size + 1 + 1, 2, none⟩ = some (.slice a2 p.rules.length n2) := fun o => cell_below ((Below.refl _ _).alloc (Nat.le_refl _) o) (by rw [Lib.cell_of_heap hY4]; rfl)
      have HFin : Hid (∀ o w9, SetB (w.heap.size + 1) (w4.alloc o) w9 → (∀ z, Agree w.heap.size w9 z → ProgV z (.slice a0 p.arity.length n0) (.slice a1 p.names.length n1) (.slice a2 p.rules.length n2) p) ∧ Below w.heap.size w w9) := by
        intro o w9 h9
        have hba : Below w4.heap.size w4 (w4.alloc o) := (Below.refl _ _).alloc (Nat.le_refl _) _
        refine ⟨fun z hz => hPV z (fun k h1 h2 => (hz k (by omega) (by rw [h9.size]; exact Nat.lt_of_lt_of_le h2 hba.size)).trans ((h9.block k (by omega)).trans (hba.block k h2))), ?_⟩
        have hbb := hB4.trans (hba.mono hB4.size)
        exact ⟨h9.os.trans hbb.os, h9.tape.trans hbb.tape, h9.output.trans hbb.output, by rw [h9.size]; exact hbb.size, fun k hk => (h9.block k (by omega)).trans (hbb.block k hk)⟩
      clear hz hPV hMa hM4 hY4 hM3 hY3 hX3 HR1 HV0 HNM hg hB4
      simp only [if_pos]
      go_wp2_with fail
      refine bodyPost_ret (v := .tuple #[progVal (.slice a0 p.arity.length n0) (.slice a1 p.names.length n1) (.slice a2 p.rules.length n2), .int .i64 0, .int .i64 0]) (by simp [results, Tryz.results12, go_sem, o0, o1, o2]) rfl ⟨_, _, _, rfl, HFin.out (.cells #[.int .i64 0, .int .i64 0] 71) _ ?_⟩
      exact ((SetB.one _ _ _ _).trans (SetB.one _ _ _ _)).trans (SetB.one _ _ _ _)
    · have hp : p = ⟨[], [], []⟩ := HBd.out hc
      subst hp
      have hc' : (c != 0) = true := by simpa using hc
      clear hz hMa hM4 hM3 hY3 hX3 HR1 HV0 HNM
      simp only [if_neg hc]
      have HFin : Hid (∀ o w9, SetB (w.heap.size + 1) (w4.alloc o) w9 → (∀ z, Agree w.heap.size w9 z → ProgV z (.slice none 0 0) (.slice none 0 0) (.slice none 0 0) ⟨[], [], []⟩) ∧ Below w.heap.size w w9) := by
        intro o w9 h9
        have hba : Below w4.heap.size w4 (w4.alloc o) := (Below.refl _ _).alloc (Nat.le_refl _) _
        have hbb := hB4.trans (hba.mono hB4.size)
        exact ⟨fun _ _ => progV_nil _, h9.os.trans hbb.os, h9.tape.trans hbb.tape, h9.output.trans hbb.output, by rw [h9.size]; exact hbb.size, fun k hk => (h9.block k (by omega)).trans (hbb.block k hk)⟩
      clear hg hB4
      go_upto_region 4 with fail
      go_region_law fail
      all_goals go_wp2_with fail
      all_goals refine bodyPost_ret (v := .tuple #[progVal (.slice none 0 0) (.slice none 0 0) (.slice none 0 0), .int .i64 a, .int .i64 c]) (by simp [results, Tryz.results12, go_sem, o0, o1, o2]) rfl ⟨_, _, _, rfl, HFin.out (.cells #[.int .i64 a, .int .i64 c] 71) _ ?_⟩
      all_goals exact (((SetB.one _ _ _ _).trans (SetB.one _ _ _ _)).trans (SetB.one _ _ _ _)).drew

theorem rulesP_V {B : Nat} {w : World} {v : Value} {l : List Tr.Rule} (h : RulesP B w v l) : RulesV w v l := h.toV
/-- Program: of a text. -/
def Sc.programOf (X : List Tr.Rule × Int × Int) : Sc.Prog × Int × Int := if X.2.2 = 0 then Sc.resolveOf X.1 else (⟨[], [], []⟩, X.2.1, X.2.2)

set_option maxRecDepth 100000 in
set_option maxHeartbeats 2000000 in
theorem Program_any (s : ByteArray) (w : World) (hN : Tr.check (Pr.parse s.data.toList).1 = 0 → TrNames (Pr.parse s.data.toList).1) :
    Calls Tryz.prog 15 #[.string s] w fun e w' => ∃ va vn vr, e = .returned (.tuple #[progVal va vn vr, .int .i64 (Sc.programOf (Pr.parse s.data.toList)).2.1, .int .i64 (Sc.programOf (Pr.parse s.data.toList)).2.2]) ∧ ProgV w' va vn vr (Sc.programOf (Pr.parse s.data.toList)).1 ∧ Below w.heap.size w w' := by
  have HP : Hid (∀ y, Calls Tryz.prog 22 #[.string s] y (ParseTop (Pr.parse s.data.toList) y)) := Parse_any s
  generalize Pr.parse s.data.toList = X at *
  obtain ⟨t, a, c⟩ := X
  have HNM : Hid (Tr.check t = 0 → TrNames t) := hN
  clear hN
  go_enter Tryz.func15, Tryz.ntmps15
  go_wp2_with fail
  refine Calls.mono (HP.out _) ?_
  rintro e w1 ⟨ao, cap, rfl, hR, hb⟩
  have hM := heap_alloc_new w (.cells #[.slice none 0 0, .slice none 0 0, .slice none 0 0] 26)
  have hba : Below w.heap.size w (w.alloc (.cells #[.slice none 0 0, .slice none 0 0, .slice none 0 0] 26)) := (Below.refl _ _).alloc (Nat.le_refl _) _
  have hM1 := (hb.block _ (heap_lt hM)).trans hM
  have hb1 := hba.trans (hb.mono hba.size)
  have hsz1 := heap_lt hM1
  have HRV : Hid (RulesV w1 (.slice ao t.length cap) t) := hR.toV
  clear hM hba hb hR HP
  have hbt : Below w1.heap.size w1 (w1.alloc (.cells #[.slice ao t.length cap] 36)) := (Below.refl _ _).alloc (Nat.le_refl _) _
  have hM2 := (hbt.block _ hsz1).trans hM1
  have hb2 := hb1.trans (hbt.mono hb1.size)
  have hsz2 := heap_lt hM2
  have HRV2 : Hid (RulesV (w1.alloc (.cells #[.slice ao t.length cap] 36)) (.slice ao t.length cap) t) := rulesV_below HRV.out hbt
  have o0 : (w1.alloc (.cells #[.slice ao t.length cap] 36)).cell? ⟨w.heap.size, 0, none⟩ = some (.slice none 0 0) := by rw [Lib.cell_of_heap hM2]; rfl
  have o1 : (w1.alloc (.cells #[.slice ao t.length cap] 36)).cell? ⟨w.heap.size, 1, none⟩ = some (.slice none 0 0) := by rw [Lib.cell_of_heap hM2]; rfl
  have o2 : (w1.alloc (.cells #[.slice ao t.length cap] 36)).cell? ⟨w.heap.size, 2, none⟩ = some (.slice none 0 0) := by rw [Lib.cell_of_heap hM2]; rfl
  have of0 : (w1.alloc (.cells #[.slice ao t.length cap] 36)).frozen? ⟨w.heap.size, 0, none⟩ = false := Lib.frozen_of_heap hM2 0
  have of1 : (w1.alloc (.cells #[.slice ao t.length cap] 36)).frozen? ⟨w.heap.size, 1, none⟩ = false := Lib.frozen_of_heap hM2 1
  have of2 : (w1.alloc (.cells #[.slice ao t.length cap] 36)).frozen? ⟨w.heap.size, 2, none⟩ = false := Lib.frozen_of_heap hM2 2
  clear hbt HRV hM1 hb1 hsz1
  by_cases hc : c = 0
  · subst hc
    have HV : Hid (Sc.programOf (t, a, 0) = Sc.resolveOf t) := if_pos rfl
    go_wp2_with fail
    clear o0 o1 o2 of0 of1 of2
    generalize w1.alloc (.cells #[.slice ao t.length cap] 36) = w2 at *
    refine Calls.mono (Resolve_any t _ _ HRV2.out HNM.out) ?_
    rintro e w3 ⟨va, vn, vr, rfl, hPV, hb3⟩
    have hM3 := (hb3.block _ hsz2).trans hM2
    have hb4 := hb2.trans (hb3.mono hb2.size)
    obtain ⟨a0, n0, rfl, _⟩ := id (hPV w3 (Agree.refl _ _)).ar
    obtain ⟨a1, n1, rfl, _⟩ := id (hPV w3 (Agree.refl _ _)).nm
    obtain ⟨a2, n2, rfl, _⟩ := id (hPV w3 (Agree.refl _ _)).rl
    have HFin : Hid (∀ w9, SetB w.heap.size w3 w9 → ProgV w9 (.slice a0 (Sc.resolveOf t).1.arity.length n0) (.slice a1 (Sc.resolveOf t).1.names.length n1) (.slice a2 (Sc.resolveOf t).1.rules.length n2) (Sc.resolveOf t).1 ∧ Below w.heap.size w w9) := by
      intro w9 h9
      exact ⟨hPV w9 (fun k h1 h2 => h9.block k (by omega)), h9.os.trans hb4.os, h9.tape.trans hb4.tape, h9.output.trans hb4.output, by rw [h9.size]; exact hb4.size, fun k hk => (h9.block k (by omega)).trans (hb4.block k hk)⟩
    have o0 : w3.cell? ⟨w.heap.size, 0, none⟩ = some (.slice none 0 0) := by rw [Lib.cell_of_heap hM3]; rfl
    have o1 : w3.cell? ⟨w.heap.size, 1, none⟩ = some (.slice none 0 0) := by rw [Lib.cell_of_heap hM3]; rfl
    have o2 : w3.cell? ⟨w.heap.size, 2, none⟩ = some (.slice none 0 0) := by rw [Lib.cell_of_heap hM3]; rfl
    have of0 : w3.frozen? ⟨w.heap.size, 0, none⟩ = false := Lib.frozen_of_heap hM3 0
    have of1 : w3.frozen? ⟨w.heap.size, 1, none⟩ = false := Lib.frozen_of_heap hM3 1
    have of2 : w3.frozen? ⟨w.heap.size, 2, none⟩ = false := Lib.frozen_of_heap hM3 2
    clear hPV hM3 hM2 hb3 hb4 hb2 HRV2
    generalize Sc.resolveOf t = Y at *
    obtain ⟨p, pa, pc⟩ := Y
    go_wp2_with fail
    refine bodyPost_ret (v := .tuple #[progVal (.slice a0 p.arity.length n0) (.slice a1 p.names.length n1) (.slice a2 p.rules.length n2), .int .i64 pa, .int .i64 pc]) (by simp [results, Tryz.results15, go_sem, o0, o1, o2]) rfl ⟨_, _, _, by rw [HV.out], by rw [HV.out]; exact (HFin.out _ (((SetB.one _ _ _ _).trans (SetB.one _ _ _ _)).trans (SetB.one _ _ _ _))).1, (HFin.out _ (((SetB.one _ _ _ _).trans (SetB.one _ _ _ _)).trans (SetB.one _ _ _ _))).2⟩
  · have hc' : (c != 0) = true := by simpa using hc
    have HV : Hid (Sc.programOf (t, a, c) = (⟨[], [], []⟩, a, c)) := if_neg hc
    have HFin : Hid (∀ w9, SetB w.heap.size (w1.alloc (.cells #[.slice ao t.length cap] 36)) w9 → Below w.heap.size w w9) := fun w9 h9 => ⟨h9.os.trans hb2.os, h9.tape.trans hb2.tape, h9.output.trans hb2.output, by rw [h9.size]; exact hb2.size, fun k hk => (h9.block k (by omega)).trans (hb2.block k hk)⟩
    clear HRV2 hb2 hM2
    go_wp2_with fail
    refine bodyPost_ret (v := .tuple #[progVal (.slice none 0 0) (.slice none 0 0) (.slice none 0 0), .int .i64 a, .int .i64 c]) (by simp [results, Tryz.results15, go_sem, o0, o1, o2]) rfl ⟨_, _, _, by rw [HV.out], by rw [HV.out]; exact progV_nil _, HFin.out _ (((SetB.one _ _ _ _).trans (SetB.one _ _ _ _)).trans (SetB.one _ _ _ _))⟩

end Go.Proofs.YtgpaleifhcdjnaaGreatDoor

/- The document's scope: places of names; what is wrong first. -/
namespace Go.Proofs.YtgpaleifhcdjnaaGreatDoor
open Go.RowKit

set_option maxRecDepth 100000 in
set_option maxHeartbeats 1000000 in
theorem placeOf_any (l : List (List UInt8)) (s : List UInt8) (v : Value) (w : World) (hV : StrsV w v l) (hmax : l.length ≤ 1000000) :
    Calls Tryz.prog 77 #[v, .string ⟨s.toArray⟩] w fun e w' => e = .returned (.int .i64 (l.idxOf s)) ∧ Below w.heap.size w w' := by
  obtain ⟨ao, cap, rfl, hA⟩ := hV
  go_enter Tryz.func77, Tryz.ntmps77
  go_wp2_with fail
  go_loopw [5] (fun i wr => ∃ k : Nat, k ≤ l.length ∧ i = .int .i64 k ∧ wr = w ∧ l.idxOf s = k + (l.drop k).idxOf s) (fun i _ => l.length - (intOf i).toNat)
  case atStart => exact ⟨0, Nat.zero_le _, rfl, rfl, by simp⟩
  case round =>
    obtain ⟨k, hk, rfl, rfl, hix⟩ := hrel
    have HIX : Hid _ := hix
    clear hix
    by_cases hkl : k < l.length
    · rcases hA with h0 | ⟨b, off, rfl, hc⟩
      · rw [h0] at hkl; exact absurd hkl (by simp)
      have c0 := hc k hkl
      have hd : l.drop k = Sc.strD l k :: l.drop (k + 1) := by rw [List.drop_eq_getElem_cons hkl]; simp [Sc.strD, List.getD_eq_getElem?_getD, hkl]
      by_cases hs : Sc.strD l k = s
      · rw [hs] at c0
        have HV : Hid (l.idxOf s = k) := by show _ = _; rw [HIX.out, hd, hs]; simp
        clear hc hd
        go_wp2_with fail
        go_ret
        exact ⟨by rw [HV.out]; rfl, Below.refl _ _⟩
      · have HV : Hid (l.idxOf s = (k + 1) + (l.drop (k + 1)).idxOf s) := by
          show _ = _
          rw [HIX.out, hd, List.idxOf_cons]
          have : (Sc.strD l k == s) = false := by simpa using hs
          simp [this]
          omega
        clear hc hd
        generalize Sc.strD l k = z at *
        have hzs : (z == s) = false := by simpa using hs
        go_wp2_with fail
        go_roundw
        case rel => exact ⟨k + 1, by omega, by simp, trivial, HV.out⟩
        case measure => simp [intOf]; omega
    · have HV : Hid (l.idxOf s = l.length) := by show _ = _; rw [HIX.out, List.drop_of_length_le (by omega)]; simp; omega
      go_wp2_with fail
      go_ret
      exact ⟨by rw [HV.out]; rfl, Below.refl _ _⟩

set_option maxRecDepth 100000 in
set_option maxHeartbeats 1000000 in
theorem Wrong_any (X : Nat) (c0 c1 c2 c3 : Value) (at0 e0 at_ e : Int) (w : World) (hX : w.heap[X]? = some (.cells #[c0, c1, c2, c3, .int .i64 at0, .int .i64 e0] 80)) :
    Calls Tryz.prog 78 #[.pointer (some ⟨X, 0, none⟩), .int .i64 at_, .int .i64 e] w fun r w' => r = .returned (.tuple #[]) ∧ SetB X w w' ∧ w'.heap[X]? = some (.cells #[c0, c1, c2, c3, .int .i64 (if e0 = 0 then at_ else at0), .int .i64 (if e0 = 0 then e else e0)] 80) := by
  have d4 : w.cell? ⟨X, 4, none⟩ = some (.int .i64 at0) := by rw [Lib.cell_of_heap hX]; rfl
  have d5 : w.cell? ⟨X, 5, none⟩ = some (.int .i64 e0) := by rw [Lib.cell_of_heap hX]; rfl
  have f4 : w.frozen? ⟨X, 4, none⟩ = false := Lib.frozen_of_heap hX 4
  have f5 : w.frozen? ⟨X, 5, none⟩ = false := Lib.frozen_of_heap hX 5
  by_cases h0 : e0 = 0
  · subst h0
    have HW : Hid (SetB X w ((w.setCell ⟨X, 4, none⟩ (.int .i64 at_)).setCell ⟨X, 5, none⟩ (.int .i64 e)) ∧ ((w.setCell ⟨X, 4, none⟩ (.int .i64 at_)).setCell ⟨X, 5, none⟩ (.int .i64 e)).heap[X]? = some (.cells #[c0, c1, c2, c3, .int .i64 at_, .int .i64 e] 80)) := by
      refine ⟨(SetB.one _ _ _ _).trans (SetB.one _ _ _ _), ?_⟩
      have e1 : (w.setCell ⟨X, 4, none⟩ (.int .i64 at_)).heap[X]? = some (.cells #[c0, c1, c2, c3, .int .i64 at_, .int .i64 0] 80) := by rw [Lib.heap_setCell_same hX]; rfl
      rw [Lib.heap_setCell_same e1]; rfl
    clear hX
    go_enter Tryz.func78, Tryz.ntmps78
    go_wp2_with fail
    exact ⟨rfl, .tuple #[], by simp [results, Tryz.results78], rfl, HW.out.1, HW.out.2⟩
  · have g0 : (e0 == 0) = false := by simpa using h0
    go_enter Tryz.func78, Tryz.ntmps78
    go_wp2_with fail
    exact ⟨rfl, .tuple #[], by simp [results, Tryz.results78], rfl, ⟨rfl, rfl, rfl, rfl, fun _ _ => rfl⟩, hX⟩

end Go.Proofs.YtgpaleifhcdjnaaGreatDoor

/- The document's scope: predicates. -/
namespace Go.Proofs.YtgpaleifhcdjnaaGreatDoor
open Go.RowKit

/-- The document's scope in its box X: arity, names, rules, variables, and what is wrong first. -/
structure RqI (B X : Nat) (st : Sc.St) (vs : List (List UInt8)) (va vn vr vv : Value) (a0 e0 : Int) (w : World) : Prop where
  box : w.heap[X]? = some (.cells #[va, vn, vr, vv, .int .i64 a0, .int .i64 e0] 80 (0, 0))
  oa : w.ownsRow B 3 1 va st.arity.length (intCells st.arity)
  on : w.ownsRow B 9 1 vn st.names.length (strCells st.names)
  ov : w.ownsRow B 9 1 vv vs.length (strCells vs)
  nv : ∀ g, vn.ownBlock = some g → ¬ vv.ownBlock = some g
  xb : X < B
  sz : B ≤ w.heap.size
theorem RqI.below {B X : Nat} {st : Sc.St} {vs : List (List UInt8)} {va vn vr vv : Value} {a0 e0 : Int} {w w' : World} (h : RqI B X st vs va vn vr vv a0 e0 w) (hb : Below w.heap.size w w') : RqI B X st vs va vn vr vv a0 e0 w' :=
  ⟨(hb.block _ (heap_lt h.box)).trans h.box, ownsRow_below h.oa hb, ownsRow_below h.on hb, ownsRow_below h.ov hb, h.nv, h.xb, Nat.le_trans h.sz hb.size⟩
theorem RqI.setX {B X : Nat} {st : Sc.St} {vs : List (List UInt8)} {va vn vr vv : Value} {a0 e0 a1 e1 : Int} {w w' : World} (h : RqI B X st vs va vn vr vv a0 e0 w) (hs : SetB X w w') (hb : w'.heap[X]? = some (.cells #[va, vn, vr, vv, .int .i64 a1, .int .i64 e1] 80 (0, 0))) : RqI B X st vs va vn vr vv a1 e1 w' :=
  ⟨hb, ownsRow_same h.oa fun g _ _ hg _ => hs.block g (by have := h.xb; omega), ownsRow_same h.on fun g _ _ hg _ => hs.block g (by have := h.xb; omega), ownsRow_same h.ov fun g _ _ hg _ => hs.block g (by have := h.xb; omega), h.nv, h.xb, by rw [hs.size]; exact h.sz⟩
theorem FrL.setX {B0 X : Nat} {w w1 w' : World} (h : FrL B0 X w w1) (hs : SetB X w1 w') (h0 : B0 ≤ X) : FrL B0 X w w' :=
  ⟨hs.os.trans h.os, hs.tape.trans h.tape, hs.output.trans h.output, by rw [hs.size]; exact h.size, fun k hk => (hs.block k (by omega)).trans (h.low k hk), fun k cur e fz hh h1 h2 h3 => (hs.block k h1).trans (h.cel k cur e fz hh h1 h2 h3)⟩

theorem own_alone {w w' : World} {B k n : Nat} {e : TypeId} {v : Value} {xs : List Value} (h : w.ownsRow B e k v n xs) (hk : ∀ g, v.ownBlock = some g → w'.heap[g]? = w.heap[g]?) : w'.ownsRow B e k v n xs := by
  obtain ⟨h1, h2⟩ := h
  refine ⟨h1, ?_⟩
  rcases h2 with h2 | ⟨g, cap, cur, rfl, hb, hh, r⟩
  · exact .inl h2
  · exact .inr ⟨g, cap, cur, rfl, hb, (hk g rfl).trans hh, r⟩
theorem RqI.name {B X : Nat} {st : Sc.St} {vs : List (List UInt8)} {va vn vr vv : Value} {a0 e0 : Int} {w1 w2 : World} {name : List UInt8} {g cap : Nat} (h : RqI B X st vs va vn vr vv a0 e0 w1) (hg : w1.grownBy w2 vn.ownBlock) (ho : w2.ownsRow B 9 1 (.slice (some ⟨g, 0, none⟩) (st.names.length + 1) cap) (st.names.length + 1) (strCells st.names ++ [.string ⟨name.toArray⟩])) (hat : vn.ownBlock = some g ∨ g = w1.heap.size) :
    RqI B X ⟨st.names ++ [name], st.arity⟩ vs va (.slice (some ⟨g, 0, none⟩) (st.names.length + 1) cap) vr vv a0 e0 (w2.setCell ⟨X, 1, none⟩ (.slice (some ⟨g, 0, none⟩) (st.names.length + 1) cap)) := by
  have hxb := h.xb
  have hb2 := (hg.block X (by have := h.sz; omega) (own_ne h.on hxb)).trans h.box
  refine ⟨by rw [Lib.heap_setCell_same hb2]; rfl, ownsRow_setCell_below (own_keep h.oa hg h.on (by decide)) hxb _, by simpa [strCells] using ownsRow_setCell_below ho (a := ⟨X, 1, none⟩) hxb (.slice (some ⟨g, 0, none⟩) (st.names.length + 1) cap), ownsRow_setCell_below (own_alone h.ov fun g' hg' => hg.block g' (h.ov.lt g' hg').2 (fun e => h.nv g' e.symm hg')) hxb _, ?_, hxb, by simpa using Nat.le_trans h.sz hg.size⟩
  intro g' hg' hv
  have hgg : g = g' := by simpa [Value.ownBlock] using hg'
  subst hgg
  rcases hat with hat | hat
  · exact h.nv g hat hv
  · have := (h.ov.lt g hv).2
    omega
theorem RqI.ari {B X : Nat} {st : Sc.St} {vs : List (List UInt8)} {va vn vr vv va2 : Value} {a0 e0 n : Int} {w1 w2 : World} (h : RqI B X st vs va vn vr vv a0 e0 w1) (hg : w1.grownBy w2 va.ownBlock) (ho : w2.ownsRow B 3 1 va2 (st.arity.length + 1) (intCells st.arity ++ [.int .i64 n])) :
    RqI B X ⟨st.names, st.arity ++ [n]⟩ vs va2 vn vr vv a0 e0 (w2.setCell ⟨X, 0, none⟩ va2) := by
  have hxb := h.xb
  have hb2 := (hg.block X (by have := h.sz; omega) (own_ne h.oa hxb)).trans h.box
  exact ⟨by rw [Lib.heap_setCell_same hb2]; rfl, by simpa [intCells] using ownsRow_setCell_below ho (a := ⟨X, 0, none⟩) hxb va2, ownsRow_setCell_below (own_keep h.on hg h.oa (by decide)) hxb _, ownsRow_setCell_below (own_keep h.ov hg h.oa (by decide)) hxb _, h.nv, hxb, by simpa using Nat.le_trans h.sz hg.size⟩
theorem FrL.rows {B0 B X k n : Nat} {w w' : World} {e : TypeId} {v : Value} {xs : List Value} (hg : w.grownBy w' v.ownBlock) (ho : w.ownsRow B e k v n xs) (he : e = 3 ∨ e = 9) (h0 : B0 ≤ B) (hB : B ≤ w.heap.size) : FrL B0 X w w' :=
  ⟨hg.os, hg.tape, hg.output, hg.size, fun i hi => hg.block i (by omega) (own_ne ho (by omega)), fun i cur e' fz hh _ h3 h9 => hg.block i (heap_lt hh) (fun hv => by
    rcases ho.2 with ⟨rfl, _⟩ | ⟨g, cap, cur', rfl, _, hbk, _⟩
    · cases hv
    · have hgg : i = g := by simpa [Value.ownBlock] using hv
      subst hgg
      rw [hbk] at hh
      injection hh with hh
      injection hh with _ q _
      rcases he with rfl | rfl
      · exact h3 q.symm
      · exact h9 q.symm)⟩

def PredQ (B0 B X : Nat) (st : Sc.St) (vs : List (List UInt8)) (vr vv : Value) (a0 e0 at_ n : Int) (name : List UInt8) (w : World) (e : Ending) (w' : World) : Prop :=
  ∃ va vn, e = .returned (.int .i64 (st.names.idxOf name)) ∧ FrL B0 X w w' ∧
    if Sc.intD (st.with name n).arity (st.names.idxOf name) = n then RqI B X (st.with name n) vs va vn vr vv a0 e0 w' else RqI B X (st.with name n) vs va vn vr vv (if e0 = 0 then at_ else a0) (if e0 = 0 then 1 else e0) w'

set_option maxRecDepth 100000 in
set_option maxHeartbeats 2000000 in
theorem predQ_old (B0 B X : Nat) (st : Sc.St) (vs : List (List UInt8)) (va vn vr vv : Value) (a0 e0 at_ n : Int) (name : List UInt8) (w : World) (hI : RqI B X st vs va vn vr vv a0 e0 w) (hB0 : B0 ≤ X) (hlen : st.arity.length = st.names.length) (hl : st.names.length ≤ 1000) (hc : st.names.contains name = true) :
    Calls Tryz.prog 44 #[.pointer (some ⟨X, 0, none⟩), .int .i64 at_, .string ⟨name.toArray⟩, .int .i64 n] w (PredQ B0 B X st vs vr vv a0 e0 at_ n name w) := by
  have hidx := idx_lt hc
  have hw : st.with name n = st := by unfold Sc.St.with; rw [if_pos hc]
  have HS : Hid (StrsV w vn st.names) := strsV_own hI.on
  obtain ⟨an, cn, rfl⟩ := own_slice hI.on
  have d1 : w.cell? ⟨X, 1, none⟩ = some (.slice an st.names.length cn) := by rw [Lib.cell_of_heap hI.box]; rfl
  have hsz := hI.sz
  have hxb := hI.xb
  go_enter Tryz.func44, Tryz.ntmps44
  go_wp2_with fail
  refine Calls.mono (placeOf_any st.names name _ _ HS.out (by omega)) ?_
  rintro e w1 ⟨rfl, hb1⟩
  have hI1 := hI.below hb1
  have hf1 : FrL B0 X w w1 := FrL.of_below hb1 (by omega)
  obtain ⟨g, cap, hva, hcell⟩ := own_int hI1.oa (st.names.idxOf name) (by omega)
  subst hva
  have c0 : w1.cell? ⟨X, 0, none⟩ = some (.slice (some ⟨g, 0, none⟩) st.arity.length cap) := by rw [Lib.cell_of_heap hI1.box]; rfl
  have c1 : w1.cell? ⟨X, 1, none⟩ = some (.slice an st.names.length cn) := by rw [Lib.cell_of_heap hI1.box]; rfl
  have HI : Hid _ := hI1
  have HF : Hid _ := hf1
  have HE : Hid (∀ e w', (∃ va vn, e = .returned (.int .i64 (st.names.idxOf name)) ∧ FrL B0 X w w' ∧ if Sc.intD st.arity (st.names.idxOf name) = n then RqI B X st vs va vn vr vv a0 e0 w' else RqI B X st vs va vn vr vv (if e0 = 0 then at_ else a0) (if e0 = 0 then 1 else e0) w') → PredQ B0 B X st vs vr vv a0 e0 at_ n name w e w') := by
    intro e w' h
    unfold PredQ
    rw [hw]
    exact h
  clear hI hI1 hf1 hw hc d1 hb1 HS
  generalize hix : st.names.idxOf name = ix at *
  have g1 : ((ix : Int) == (st.names.length : Int)) = false := by simp; omega
  have g1' : (ix == st.names.length) = false := by simp; omega
  have hixl : ix < st.arity.length := by omega
  clear hix hlen
  cases g2 : (Sc.intD st.arity ix != n)
  · have h2 : Sc.intD st.arity ix = n := by simpa using g2
    have HN : Hid (Sc.intD st.arity ix = n) := h2
    clear h2
    go_wp2_with fail
    go_ret
    exact HE.out _ _ ⟨_, _, rfl, HF.out, by rw [if_pos HN.out]; exact HI.out⟩
  · have h2 : ¬ Sc.intD st.arity ix = n := by simpa using g2
    have HN : Hid (¬ Sc.intD st.arity ix = n) := h2
    clear h2
    go_wp2_with fail
    refine Calls.mono (Wrong_any X _ _ _ _ _ _ at_ 1 _ HI.out.box) ?_
    rintro e w2 ⟨rfl, hs2, hb2⟩
    have HI2 : Hid _ := HI.out.setX hs2 hb2
    have HF2 : Hid _ := HF.out.setX hs2 hB0
    clear hs2 hb2
    go_wp2_with fail
    go_ret
    exact HE.out _ _ ⟨_, _, rfl, HF2.out, by rw [if_neg HN.out]; exact HI2.out⟩

set_option maxRecDepth 100000 in
set_option maxHeartbeats 2000000 in
theorem predQ_new (B0 B X : Nat) (st : Sc.St) (vs : List (List UInt8)) (va vn vr vv : Value) (a0 e0 at_ n : Int) (name : List UInt8) (w : World) (hI : RqI B X st vs va vn vr vv a0 e0 w) (hB0 : B0 ≤ X) (hlen : st.arity.length = st.names.length) (hl : st.names.length ≤ 1000) (hc : st.names.contains name = false) :
    Calls Tryz.prog 44 #[.pointer (some ⟨X, 0, none⟩), .int .i64 at_, .string ⟨name.toArray⟩, .int .i64 n] w (PredQ B0 B X st vs vr vv a0 e0 at_ n name w) := by
  obtain ⟨i0, hi, hz0, hz1, hz2⟩ := info_parts A_info3
  obtain ⟨j0, hj, hy0, hy1, hy2⟩ := info_parts A_info9
  have hidx : st.names.idxOf name = st.names.length := idx_none (by simpa using hc)
  have hw : st.with name n = ⟨st.names ++ [name], st.arity ++ [n]⟩ := by unfold Sc.St.with; rw [hc]; rfl
  have HS : Hid (StrsV w vn st.names) := strsV_own hI.on
  obtain ⟨an, cn, rfl⟩ := own_slice hI.on
  obtain ⟨aa, ca, rfl⟩ := own_slice hI.oa
  have d1 : w.cell? ⟨X, 1, none⟩ = some (.slice an st.names.length cn) := by rw [Lib.cell_of_heap hI.box]; rfl
  have hsz := hI.sz
  have hxb := hI.xb
  go_enter Tryz.func44, Tryz.ntmps44
  go_wp2_with fail
  refine Calls.mono (placeOf_any st.names name _ _ HS.out (by omega)) ?_
  rintro e w1 ⟨rfl, hb1⟩
  have hI1 := hI.below hb1
  have hf1 : FrL B0 X w w1 := FrL.of_below hb1 (by omega)
  have c1 : w1.cell? ⟨X, 1, none⟩ = some (.slice an st.names.length cn) := by rw [Lib.cell_of_heap hI1.box]; rfl
  have HI : Hid _ := hI1
  have HF : Hid _ := hf1
  have HE : Hid (∀ e w', (∃ va vn, e = .returned (.int .i64 st.names.length) ∧ FrL B0 X w w' ∧ RqI B X ⟨st.names ++ [name], st.arity ++ [n]⟩ vs va vn vr vv a0 e0 w') → PredQ B0 B X st vs vr vv a0 e0 at_ n name w e w') := by
    rintro e w' ⟨va, vn, h1, h2, h3⟩
    unfold PredQ
    rw [hw, hidx]
    refine ⟨va, vn, h1, h2, ?_⟩
    rw [if_pos (by simp [Sc.intD, ← hlen])]
    exact h3
  rw [hidx]
  have HLEN : Hid (st.arity.length = st.names.length) := hlen
  have hal : st.arity.length ≤ 1000 := by omega
  have hsz1 := hI1.sz
  clear hI hw hc d1 hb1 HS hidx hlen hI1 hf1
  go_wp2_with (at_builtin; refine wpList_append_lies _ rfl (.tmp 30) (.tmp 32) 23 rfl B 9 j0 _ 1 16 Tryz.underlying23 hj hy0 hy1 hy2 rfl (by decide) _ _ _ rfl (HI.out.on.alloc _) ⟨w1.heap.size, 0, none⟩ 1 1 [.string ⟨name.toArray⟩] rfl rfl ?c1 ?c2 (by decide) ?c3 ?c4 ?c5 _ rfl ?_)
  case c1 =>
    intro j u hj
    match j, hj with
    | 0, hj => simp at hj; subst hj; simp [Addr.add, go_sem]
  case c2 => intro u hu; simp at hu; subst hu; rfl
  case c3 => unfold maxLen; omega
  case c4 => omega
  case c5 => simp; omega
  intro g cap w2 hown2 hgrow2 hat2 hlt2
  have hba : Below w1.heap.size w1 (w1.alloc (.cells #[.string ⟨name.toArray⟩] 9)) := (Below.refl _ _).alloc (Nat.le_refl _) _
  have HIa : Hid _ := HI.out.below hba
  have HF2 : Hid _ := ((HF.out.trans (FrL.of_below hba (by omega))).trans (FrL.rows hgrow2 HIa.out.on (.inr rfl) (by omega) HIa.out.sz)).setX (SetB.one X w2 1 (.slice (some ⟨g, 0, none⟩) (st.names.length + 1) cap)) hB0
  have HI3 : Hid _ := HIa.out.name hgrow2 hown2 (hat2.imp id (fun h => h.trans (by simp)))
  have hb2 := (hgrow2.block X (by have := HIa.out.sz; omega) (own_ne HIa.out.on hxb)).trans HIa.out.box
  have e1 : w2.cell? ⟨X, 1, none⟩ = some (.slice an st.names.length cn) := by rw [Lib.cell_of_heap hb2]; rfl
  have f1 : w2.frozen? ⟨X, 1, none⟩ = false := Lib.frozen_of_heap hb2 1
  have e0' : (w2.setCell ⟨X, 1, none⟩ (.slice (some ⟨g, 0, none⟩) (st.names.length + 1) cap)).cell? ⟨X, 0, none⟩ = some (.slice aa st.arity.length ca) := by rw [Lib.cell_of_heap HI3.out.box]; rfl
  have hsz3 := HI3.out.sz
  clear hown2 hgrow2 hat2 hlt2 hba hb2 HIa HI HF c1 hsz1
  go_upto_region 4 with fail
  generalize w2.setCell ⟨X, 1, none⟩ (.slice (some ⟨g, 0, none⟩) (st.names.length + 1) cap) = w3 at *
  clear e1 f1
  go_wp2_with (at_builtin; refine wpList_append_own _ rfl (.tmp 42) (.tmp 44) 22 rfl B 3 i0 _ 1 8 Tryz.underlying22 hi hz0 hz1 hz2 rfl (by decide) _ _ _ rfl (HI3.out.oa.alloc _) ⟨w3.heap.size, 0, none⟩ 1 1 [.int .i64 n] rfl rfl ?c1 ?c2 ?c3 ?c4 ?c5 ?_)
  case c1 =>
    intro j u hj
    match j, hj with
    | 0, hj => simp at hj; subst hj; simp [Addr.add, go_sem]
  case c2 => intro u hu; simp at hu; subst hu; rfl
  case c3 => unfold maxLen; omega
  case c4 => omega
  case c5 => simp; omega
  intro va4 w4 hown4 hgrow4 _
  have hba : Below w3.heap.size w3 (w3.alloc (.cells #[.int .i64 n] 3)) := (Below.refl _ _).alloc (Nat.le_refl _) _
  have HIb : Hid _ := HI3.out.below hba
  have HF4 : Hid _ := ((HF2.out.trans (FrL.of_below hba (by omega))).trans (FrL.rows hgrow4 HIb.out.oa (.inl rfl) (by omega) HIb.out.sz)).setX (SetB.one X w4 0 va4) hB0
  have HI5 : Hid _ := HIb.out.ari hgrow4 hown4
  have hb4 := (hgrow4.block X (by have := HIb.out.sz; omega) (own_ne HIb.out.oa hxb)).trans HIb.out.box
  have e1 : w4.cell? ⟨X, 0, none⟩ = some (.slice aa st.arity.length ca) := by rw [Lib.cell_of_heap hb4]; rfl
  have f1 : w4.frozen? ⟨X, 0, none⟩ = false := Lib.frozen_of_heap hb4 0
  obtain ⟨g5, cap5, hva, hcell⟩ := own_int HI5.out.oa st.names.length (by simp [HLEN.out])
  simp only [List.length_append, List.length_cons, List.length_nil, Nat.zero_add] at hva
  subst hva
  have hcn : Sc.intD (st.arity ++ [n]) st.names.length = n := by simp [Sc.intD, ← HLEN.out]
  simp only [hcn] at hcell
  have c0 := HI5.out.box
  have c0' : (w4.setCell ⟨X, 0, none⟩ (.slice (some ⟨g5, 0, none⟩) (st.arity.length + 1) cap5)).cell? ⟨X, 0, none⟩ = some (.slice (some ⟨g5, 0, none⟩) (st.arity.length + 1) cap5) := by rw [Lib.cell_of_heap c0]; rfl
  have hlt9 : st.names.length < st.arity.length + 1 := by have := HLEN.out; omega
  have g9 : (n != n) = false := by simp
  clear hown4 hgrow4 hba hb4 HIb HI3 HF2 c0 e0' hsz3
  go_upto_region 5 with fail
  generalize w4.setCell ⟨X, 0, none⟩ (.slice (some ⟨g5, 0, none⟩) (st.arity.length + 1) cap5) = w5 at *
  clear e1 f1
  go_wp2_with fail
  go_ret
  exact HE.out _ _ ⟨_, _, rfl, HF4.out, HI5.out⟩

theorem predQ_any (B0 B X : Nat) (st : Sc.St) (vs : List (List UInt8)) (va vn vr vv : Value) (a0 e0 at_ n : Int) (name : List UInt8) (w : World) (hI : RqI B X st vs va vn vr vv a0 e0 w) (hB0 : B0 ≤ X) (hlen : st.arity.length = st.names.length) (hl : st.names.length ≤ 1000) :
    Calls Tryz.prog 44 #[.pointer (some ⟨X, 0, none⟩), .int .i64 at_, .string ⟨name.toArray⟩, .int .i64 n] w (PredQ B0 B X st vs vr vv a0 e0 at_ n name w) := by
  cases hc : st.names.contains name
  · exact predQ_new B0 B X st vs va vn vr vv a0 e0 at_ n name w hI hB0 hlen hl hc
  · exact predQ_old B0 B X st vs va vn vr vv a0 e0 at_ n name w hI hB0 hlen hl hc

end Go.Proofs.YtgpaleifhcdjnaaGreatDoor

/- The document's check of terms. -/
namespace Go.Proofs.YtgpaleifhcdjnaaGreatDoor
open Go.RowKit

theorem btw_any (n a b : Int) (w : World) : Calls Tryz.prog 26 #[.int .i64 n, .int .i64 a, .int .i64 b] w fun e w' => e = .returned (.bool (Tr.between n a b)) ∧ w' = w := between_any n a b w
set_option maxRecDepth 100000 in
set_option maxHeartbeats 400000 in
theorem refNum_any (n : Int) (w : World) : Calls Tryz.prog 29 #[.int .i64 n] w fun e w' => e = .returned (.bool (Sc.isNum n)) ∧ w' = w := by
  go_enter Tryz.func29, Tryz.ntmps29
  go_wp2_with fail
  refine (btw_any _ _ _ _).mono ?_
  rintro e w1 ⟨rfl, rfl⟩
  go_wp2_with fail
  go_ret
  exact ⟨rfl, rfl⟩

set_option maxRecDepth 100000 in
set_option maxHeartbeats 1000000 in
theorem rpTerms_some (l : List Sc.Term) (vars : Int) (w : World) (n b off cap : Nat) (hv : 0 ≤ vars ∧ vars ≤ 8) (hn : l.length = n) (hmax : n ≤ 9223372036854775807) (hA : ∀ i, i < n → PTermIn w b (off + i * 2) (Sc.termD l i)) :
    Calls Tryz.prog 65 #[.slice (some ⟨b, off, none⟩) n cap, .int .i64 vars] w fun e w' => e = .returned (.int .i64 (Sc.termsErr vars l)) ∧ w' = w := by
  have HN : Hid (l.length = n) := hn
  clear hn
  go_enter Tryz.func65, Tryz.ntmps65
  go_wp2_with fail
  obtain ⟨hv0, hv8⟩ := hv
  go_loopw [5] (fun i wr => ∃ k : Nat, k ≤ n ∧ i = .int .i64 k ∧ Sc.termsErr vars l = Sc.first (Sc.termErr vars) (l.drop k) ∧ wr = w) (fun i _ => n - (intOf i).toNat)
  case atStart => exact ⟨0, Nat.zero_le _, rfl, rfl, rfl⟩
  case round =>
    obtain ⟨k, hk, rfl, hall, rfl⟩ := hrel
    have HA : Hid (Sc.termsErr vars l = Sc.first (Sc.termErr vars) (l.drop k)) := hall
    clear hall
    by_cases hlt : k < n
    · obtain ⟨a0, a1⟩ := hA k hlt
      have HD : Hid (Sc.termsErr vars l = Sc.thn (Sc.termErr vars (Sc.termD l k)) (Sc.first (Sc.termErr vars) (l.drop (k + 1)))) := HA.out.trans (Sc.first_drop _ _ _ k (by rw [HN.out]; exact hlt))
      clear hA HA
      generalize Sc.termD l k = t at *
      go_wp2_with fail
      refine (btw_any _ _ _ _).mono ?_
      rintro e w2 ⟨he, rfl⟩
      cases h1 : Tr.between t.var (-1) (vars - 1)
      · rw [h1] at he
        subst he
        have HV : Hid (Sc.termsErr vars l = 5) := by show _ = _; rw [HD.out, Sc.termErr, h1]; rfl
        clear HD
        go_wp2_with fail
        go_ret
        exact ⟨by rw [HV.out]; rfl, rfl⟩
      · rw [h1] at he
        subst he
        have HT : Hid (Sc.termErr vars t = if !Sc.isNum t.n || (decide (0 ≤ t.var) && t.n != 0) then 3 else 0) := by show _ = _; rw [Sc.termErr, h1]; rfl
        clear h1
        go_wp2_with fail
        refine (refNum_any t.n _).mono ?_
        rintro e w3 ⟨he, rfl⟩
        cases hnum : Sc.isNum t.n
        · rw [hnum] at he
          subst he
          have HV : Hid (Sc.termsErr vars l = 3) := by show _ = _; rw [HD.out, HT.out, hnum]; rfl
          clear HD HT
          go_wp2_with fail
          go_ret
          exact ⟨by rw [HV.out]; rfl, rfl⟩
        · rw [hnum] at he
          subst he
          by_cases h5 : 0 ≤ t.var
          · have g5 : decide (0 ≤ t.var) = true := decide_eq_true h5
            cases g6 : (t.n != 0)
            · have HV : Hid (Sc.termsErr vars l = Sc.first (Sc.termErr vars) (l.drop (k + 1))) := by show _ = _; rw [HD.out, HT.out, hnum, g5, g6]; rfl
              clear HD HT
              go_wp2_with fail
              go_roundw
              case rel => exact ⟨k + 1, by omega, by go_num, HV.out, by trivial⟩
              case measure => simp [intOf]; omega
            · have HV : Hid (Sc.termsErr vars l = 3) := by show _ = _; rw [HD.out, HT.out, hnum, g5, g6]; rfl
              clear HD HT
              go_wp2_with fail
              go_ret
              exact ⟨by rw [HV.out]; rfl, rfl⟩
          · have g5 : decide (0 ≤ t.var) = false := decide_eq_false h5
            have HV : Hid (Sc.termsErr vars l = Sc.first (Sc.termErr vars) (l.drop (k + 1))) := by show _ = _; rw [HD.out, HT.out, hnum, g5]; rfl
            clear HD HT
            go_wp2_with fail
            go_roundw
            case rel => exact ⟨k + 1, by omega, by go_num, HV.out, by trivial⟩
            case measure => simp [intOf]; omega
    · have HV : Hid (Sc.termsErr vars l = 0) := by show _ = _; rw [HA.out, List.drop_of_length_le (by rw [HN.out]; omega)]; rfl
      clear hA
      go_wp2_with fail
      go_ret
      exact ⟨by rw [HV.out]; rfl, rfl⟩

set_option maxRecDepth 100000 in
set_option maxHeartbeats 400000 in
theorem rpTerms_none (w : World) (vars : Int) (ao : Option Addr) (cap : Nat) : Calls Tryz.prog 65 #[.slice ao 0 cap, .int .i64 vars] w fun e w' => e = .returned (.int .i64 0) ∧ w' = w := by
  go_enter Tryz.func65, Tryz.ntmps65
  go_wp2_with fail
  refine wp_loop_rounds 1 ?_
  rw [rounds_succ]
  go_wp2_with fail
  go_ret
  exact ⟨rfl, rfl⟩
theorem rpTerms_any (l : List Sc.Term) (vars : Int) (v : Value) (w : World) (hv : 0 ≤ vars ∧ vars ≤ 8) (hmax : l.length ≤ 9223372036854775807) (hA : PTermsV w v l) :
    Calls Tryz.prog 65 #[v, .int .i64 vars] w fun e w' => e = .returned (.int .i64 (Sc.termsErr vars l)) ∧ w' = w := by
  obtain ⟨ao, cap, rfl, _, hA⟩ := hA
  rcases hA with rfl | ⟨b, off, rfl, hA⟩
  · exact rpTerms_none w vars ao cap
  · exact rpTerms_some l vars w l.length b off cap hv rfl hmax hA

end Go.Proofs.YtgpaleifhcdjnaaGreatDoor

/- The document's scope: terms. -/
namespace Go.Proofs.YtgpaleifhcdjnaaGreatDoor
open Go.RowKit

def Sc.wrongQ (at_ c : Int) (E : Int × Int) : Int × Int := (if E.2 = 0 then at_ else E.1, if E.2 = 0 then c else E.2)
def Sc.errsGo (at_ : Int) : List Tr.Term → Int × Int → Int × Int
  | [], E => E
  | t :: r, E => Sc.errsGo at_ r (if Sc.isNum t.n then E else Sc.wrongQ at_ 3 E)
theorem wrongQ_twice (at_ : Int) (E : Int × Int) : Sc.wrongQ at_ 3 (Sc.wrongQ at_ 3 E) = Sc.wrongQ at_ 3 E := by
  unfold Sc.wrongQ
  by_cases h : E.2 = 0 <;> simp [h]
theorem errsGo_wrong (at_ : Int) : ∀ (l : List Tr.Term) (E : Int × Int), Sc.errsGo at_ l (Sc.wrongQ at_ 3 E) = Sc.wrongQ at_ 3 E := by
  intro l
  induction l with
  | nil => intro E; rfl
  | cons t r ih =>
    intro E
    simp only [Sc.errsGo]
    split
    · exact ih E
    · rw [wrongQ_twice]; exact ih E
theorem errsGo_eq (at_ : Int) : ∀ (l : List Tr.Term) (E : Int × Int), Sc.errsGo at_ l E = if Sc.numsOk l then E else Sc.wrongQ at_ 3 E := by
  intro l
  induction l with
  | nil => intro E; rfl
  | cons t r ih =>
    intro E
    simp only [Sc.errsGo]
    cases h : Sc.isNum t.n
    · rw [if_neg (by simp), errsGo_wrong, if_neg (by simp [Sc.numsOk, h])]
    · rw [if_pos rfl, ih]
      have : Sc.numsOk (t :: r) = Sc.numsOk r := by simp [Sc.numsOk, h]
      rw [this]
theorem errsGo_drop (at_ : Int) (l : List Tr.Term) (k : Nat) (hk : k < l.length) (E : Int × Int) : Sc.errsGo at_ (l.drop k) E = Sc.errsGo at_ (l.drop (k + 1)) (if Sc.isNum (Tr.termD l k).n then E else Sc.wrongQ at_ 3 E) := by
  have hd : l.drop k = Tr.termD l k :: l.drop (k + 1) := by rw [List.drop_eq_getElem_cons hk]; simp [Tr.termD, List.getD_eq_getElem?_getD, hk]
  rw [hd, Sc.errsGo]
section
variable {B X : Nat} {st : Sc.St} {vs : List (List UInt8)} {va vn vr vv : Value} {a0 e0 : Int} {w1 w2 : World}
theorem RqI.keep (h : RqI B X st vs va vn vr vv a0 e0 w1) (hs : w1.heap.size ≤ w2.heap.size) (hb : w2.heap[X]? = w1.heap[X]?) (hk : ∀ g cur e fz, B ≤ g → w1.heap[g]? = some (.cells cur e fz) → (e = 3 ∨ e = 9) → w2.heap[g]? = w1.heap[g]?) : RqI B X st vs va vn vr vv a0 e0 w2 :=
  ⟨hb.trans h.box, ownsRow_same h.oa fun g cur fz hg hh => hk g cur 3 fz hg hh (.inl rfl), ownsRow_same h.on fun g cur fz hg hh => hk g cur 9 fz hg hh (.inr rfl), ownsRow_same h.ov fun g cur fz hg hh => hk g cur 9 fz hg hh (.inr rfl), h.nv, h.xb, Nat.le_trans h.sz hs⟩
theorem RqI.setT {T : Nat} {cur : Array Value} {e : TypeId} {fz : Nat × Nat} (h : RqI B X st vs va vn vr vv a0 e0 w1) (hs : SetB T w1 w2) (ht : w1.heap[T]? = some (.cells cur e fz)) (hT : ¬ X = T) (h3 : ¬ e = 3) (h9 : ¬ e = 9) : RqI B X st vs va vn vr vv a0 e0 w2 :=
  h.keep (Nat.le_of_eq hs.size.symm) (hs.block X hT) fun g cur' e' fz' _ hh he => hs.block g (fun hg => by
    subst hg
    rw [ht] at hh
    injection hh with hh
    injection hh with _ q _
    rcases he with rfl | rfl
    · exact h3 q
    · exact h9 q)
theorem RqI.app {base k n : Nat} {e : TypeId} {v : Value} {xs : List Value} (h : RqI B X st vs va vn vr vv a0 e0 w1) (hg : w1.grownBy w2 v.ownBlock) (ho : w1.ownsRow base e k v n xs) (h3 : ¬ e = 3) (h9 : ¬ e = 9) (h80 : ¬ e = 80) : RqI B X st vs va vn vr vv a0 e0 w2 :=
  h.keep hg.size ((grown_cells hg ho h.box (fun q => h80 q.symm)).trans h.box.symm) fun g cur e' fz _ hh he => (grown_cells hg ho hh (fun q => by rcases he with rfl | rfl; exact h3 q.symm; exact h9 q.symm)).trans hh.symm
theorem RqI.var {name : List UInt8} {g cap : Nat} (h : RqI B X st vs va vn vr vv a0 e0 w1) (hg : w1.grownBy w2 vv.ownBlock) (ho : w2.ownsRow B 9 1 (.slice (some ⟨g, 0, none⟩) (vs.length + 1) cap) (vs.length + 1) (strCells vs ++ [.string ⟨name.toArray⟩])) (hat : vv.ownBlock = some g ∨ g = w1.heap.size) :
    RqI B X st (vs ++ [name]) va vn vr (.slice (some ⟨g, 0, none⟩) (vs.length + 1) cap) a0 e0 (w2.setCell ⟨X, 3, none⟩ (.slice (some ⟨g, 0, none⟩) (vs.length + 1) cap)) := by
  have hxb := h.xb
  have hb2 := (hg.block X (by have := h.sz; omega) (own_ne h.ov hxb)).trans h.box
  refine ⟨by rw [Lib.heap_setCell_same hb2]; rfl, ownsRow_setCell_below (own_keep h.oa hg h.ov (by decide)) hxb _, ownsRow_setCell_below (own_alone h.on fun g' hg' => hg.block g' (h.on.lt g' hg').2 (fun e => h.nv g' hg' e.symm)) hxb _, by simpa [strCells] using ownsRow_setCell_below ho (a := ⟨X, 3, none⟩) hxb (.slice (some ⟨g, 0, none⟩) (vs.length + 1) cap), ?_, hxb, by simpa using Nat.le_trans h.sz hg.size⟩
  intro g' hn hg'
  have hgg : g = g' := by simpa [Value.ownBlock] using hg'
  subst hgg
  rcases hat with hat | hat
  · exact h.nv g hn hat
  · have := (h.on.lt g hn).2
    omega
end

end Go.Proofs.YtgpaleifhcdjnaaGreatDoor

