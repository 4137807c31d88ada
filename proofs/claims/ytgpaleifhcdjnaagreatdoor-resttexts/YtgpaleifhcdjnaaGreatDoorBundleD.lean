/- Own texts, one behind the other (part 4). -/
import Derived.Test.YtgpaleifhcdjnaaGreatDoorBundleC
import Derived.Test.YtgpaleifhcdjnaaGreatDoorRows
import Derived.Test.YtgpaleifhcdjnaaGreatDoorCards
import Derived.Test.YtgpaleifhcdjnaaGreatDoorTie
import Derived.Defers
import Derived.Recover
import Derived.RegionTactic
import Derived.ChangeAlike
import Derived.Deep.QuietTactic
import Derived.BigQuiet
import Derived.Deep.RegionHeld3
import Derived.RegionDies
import Derived.Deep.DeepCutAuto
import Derived.Deep.RegionLaw
/- The parser's rules. -/
namespace Go.Proofs.YtgpaleifhcdjnaaGreatDoor
open Go.RowKit

/-- What rule leaves. -/
def RuleEnd (P : Nat) (L : List Tk.Tok) (en : Int) (w : World) (x : Int ⊕ (Tr.Rule × List Tk.Tok)) (e : Ending) (w' : World) : Prop := match x with
  | .inl a => e = gaveP a ∧ w.grownBy w' (some P)
  | .inr x => ∃ v u, e = .returned (ruleVal x.1 v u) ∧ TermsP w.heap.size w' v x.1.terms ∧ LitsP w.heap.size w' u x.1.body ∧ Went w w' P L en x.2

theorem UInv.out {w wr : World} {B P : Nat} {L : List Tk.Tok} {en : Int} {r : List Tk.Tok} {at_ : Int} {nm : List UInt8} {tv : Value} {ts : List Tr.Term} {fo : Int} {bv : Value} {q : List (Tr.Lit × Value)} (h : UInv w wr B P L en r at_ nm tv ts fo bv q) (a b c d e : Value) :
    TermsP w.heap.size (((((wr.setCell ⟨w.heap.size, 0, none⟩ a).setCell ⟨w.heap.size, 1, none⟩ b).setCell ⟨w.heap.size, 2, none⟩ c).setCell ⟨w.heap.size, 3, none⟩ d).setCell ⟨w.heap.size, 4, none⟩ e) tv ts ∧
      LitsP w.heap.size (((((wr.setCell ⟨w.heap.size, 0, none⟩ a).setCell ⟨w.heap.size, 1, none⟩ b).setCell ⟨w.heap.size, 2, none⟩ c).setCell ⟨w.heap.size, 3, none⟩ d).setCell ⟨w.heap.size, 4, none⟩ e) bv (q.map (·.1)) ∧
      Went w (((((wr.setCell ⟨w.heap.size, 0, none⟩ a).setCell ⟨w.heap.size, 1, none⟩ b).setCell ⟨w.heap.size, 2, none⟩ c).setCell ⟨w.heap.size, 3, none⟩ d).setCell ⟨w.heap.size, 4, none⟩ e) P L en r := by
  have hB := h.ltB
  have h0 : LitsP (B + 1) wr bv (q.map (·.1)) := ⟨q, rfl, rowP_own (by intro c hc; simp at hc; obtain ⟨x, y, _, rfl⟩ := hc; rfl) (by rw [List.length_map]; exact h.own), h.lts⟩
  exact ⟨(h.trm.keep (keeps5 (by omega) _ _ _ _ _ _)).mono (by omega), (h0.keep (keeps5 (by omega) _ _ _ _ _ _)).mono (by omega), h.went.put5 h.lt _ _ _ _ _⟩

theorem A_info49 : (Tryz.prog.info? 61).map (fun i => (i.zero, i.size, i.bytes)) = some (some (.agg #[.int .i64 0, .int .i64 0, .int .i64 0, .string ⟨#[]⟩, .slice none 0 0]), 5, 64) := by kernel_rfl
theorem news_lit (w : World) (x : Tr.Lit) (v : Value) : ∀ j u, (litCells (x, v))[j]? = some u → (w.alloc (.cells #[.int .i64 x.kind, .int .i64 x.at_, .int .i64 x.op, .string ⟨x.name.toArray⟩, v] 61)).cell? ((⟨w.heap.size, 0, none⟩ : Addr).add j) = some u := World.news_of_block (heap_alloc_new w _)
theorem one_lit (x : Tr.Lit) (ao : Option Addr) (n c : Nat) : ∀ u ∈ litCells (x, .slice ao n c), u.oneCell' = true := by intro u hu; simp [litCells] at hu; rcases hu with rfl | rfl | rfl | rfl | rfl <;> rfl

set_option maxRecDepth 100000 in
set_option maxHeartbeats 4000000 in
theorem rule_any (P : Nat) (L : List Tk.Tok) (en : Int) (r : List Tk.Tok) (w : World) (hA : At w P L en r) :
    Calls Tryz.prog 93 #[.pointer (some ⟨P, 0, none⟩)] w (RuleEnd P L en w (Pr.rule en r)) := by
  obtain ⟨i0, hi, hz0, hz1, hz2⟩ := info_parts A_info49
  have HQ : Hid (∀ X, Pr.rule en r = X → ∀ e w', RuleEnd P L en w X e w' → RuleEnd P L en w (Pr.rule en r) e w') := by rintro X rfl e w' h; exact h
  generalize RuleEnd P L en w (Pr.rule en r) = Q at HQ ⊢
  have hpk : Hid _ := peekAt P L en r w hA
  cases hn : (((Pr.hd en r).kind == 1) && !Tr.isWord (Pr.hd en r).text)
  · have hN : Pr.name en r = .inl (Pr.hd en r).at_ := by unfold Pr.name; rw [hn]; rfl
    have HF : Hid (∀ e w', RuleEnd P L en w (.inl (Pr.hd en r).at_) e w' → Q e w') := fun e w' h => HQ.out _ (by rw [Pr.rule, hN]) e w' h
    have HN : Hid (∀ w1, At w1 P L en r → _) := fun w1 h => name_no P L en r w1 h hn
    clear hN HQ
    generalize Pr.hd en r = x at *
    go_enter Tryz.func93, Tryz.ntmps93
    go_wp2_with fail
    refine Calls.mono (hpk.out _ ((Below.refl _ _).alloc (Nat.le_refl _) _)) ?_
    rintro e w1 ⟨rfl, hb0⟩
    have hI := UInv.start hA hb0 x.at_
    go_wp2_with fail
    simp only [fld1]
    go_wp2_with fail
    refine Calls.mono (HN.out _ hI.went.2) ?_
    rintro e w2 ⟨rfl, hb2⟩
    exact ⟨rfl, HF.out _ _ ⟨rfl, ground hI.went.1 hb2⟩⟩
  · have hN : Pr.name en r = .inr ((Pr.hd en r).text, r.tail) := by unfold Pr.name; rw [hn]; rfl
    have HN : Hid (∀ w1, At w1 P L en r → _) := fun w1 h => name_yes P L en r w1 h hn
    have HT : Hid (∀ w1, At w1 P L en r.tail → _) := fun w1 h => terms_any true P L en r.tail w1 h
    unfold TermsEnd at HT
    have HR : Hid (∀ X, (match Pr.terms true en r.tail with
        | .inl p => Sum.inl p
        | .inr y => if (y.1.2 == 0) && Pr.isText en y.2 [46] then .inr ((⟨(Pr.hd en r).at_, (Pr.hd en r).text, y.1.1, y.1.2, []⟩ : Tr.Rule), y.2.tail) else Pr.tailOf (Pr.hd en r).at_ (Pr.hd en r).text y.1.1 y.1.2 en y.2) = X → ∀ e w', RuleEnd P L en w X e w' → Q e w') := by
      intro X hX e w' h
      refine HQ.out X ?_ e w' h
      rw [← hX]
      simp only [Pr.rule, hN]
      cases Pr.terms true en r.tail <;> rfl
    generalize Pr.hd en r = x at *
    clear hN hn HQ
    go_enter Tryz.func93, Tryz.ntmps93
    go_wp2_with fail
    refine Calls.mono (hpk.out _ ((Below.refl _ _).alloc (Nat.le_refl _) _)) ?_
    rintro e w1 ⟨rfl, hb0⟩
    have hI := UInv.start hA hb0 x.at_
    go_wp2_with fail
    simp only [fld1]
    go_wp2_with fail
    refine Calls.mono (HN.out _ hI.went.2) ?_
    rintro e w2 ⟨rfl, hW2⟩
    have hI2 := hI.on hW2
    have hI3 := hI2.setName x.text
    obtain ⟨c0, c1, c2, c3, c4, f1, f0⟩ := hI2.cells
    clear hI hW2 hb0 hpk HN hA
    generalize hB : w1.heap.size = B at *
    go_wp2_with fail
    refine Calls.mono (HT.out _ hI3.went.2) ?_
    clear c0 c1 c2 c3 c4 f1 f0 HT hI2
    have hsz3 := hI3.sz
    generalize w2.setCell ⟨B, 1, none⟩ (.string ⟨x.text.toArray⟩) = w3 at *
    cases hY : Pr.terms true en r.tail with
    | inl a =>
      have HF : Hid (∀ e w', RuleEnd P L en w (.inl a) e w' → Q e w') := fun e w' h => HR.out _ (by rw [hY]) e w' h
      rintro e w4 ⟨rfl, hg4⟩
      exact ⟨rfl, HF.out _ _ ⟨rfl, grownBy_trans hI3.went.1 hg4⟩⟩
    | inr y =>
      obtain ⟨⟨ts, fo⟩, r2⟩ := y
      rintro e w4 ⟨v, rfl, hT, hW4⟩
      have hI4 := (hI3.on hW4)
      have hI5 := hI4.setTerms (hT.mono hsz3) fo
      obtain ⟨c0, c1, c2, c3, c4, f1, f0⟩ := hI4.cells
      obtain ⟨aot, capt, hv, hT'⟩ := hT
      rw [List.length_map] at hv
      subst hv
      have HS : Hid (∀ X, (if (fo == 0) && Pr.isText en r2 [46] then Sum.inr ((⟨x.at_, x.text, ts, fo, []⟩ : Tr.Rule), r2.tail) else Pr.tailOf x.at_ x.text ts fo en r2) = X → ∀ e w', RuleEnd P L en w X e w' → Q e w') := fun X hX e w' h => HR.out _ (by rw [hY]; exact hX) e w' h
      clear HR hY hT'
      cases hf : (fo == 0)
      · have HX : Hid (∀ X, Pr.tailOf x.at_ x.text ts fo en r2 = X → ∀ e w', RuleEnd P L en w X e w' → Q e w') := fun X hX e w' h => HS.out X (by rw [hf]; exact hX) e w' h
        clear HS
        have hI6 := hI5
        cases hm : Pr.isText en r2 [58, 45]
        · have HF : Hid (∀ e w', RuleEnd P L en w (.inl (Pr.hd en r2).at_) e w' → Q e w') := fun e w' h => HX.out _ (by
            have : Pr.must [58, 45] en r2 = .inl (Pr.hd en r2).at_ := by unfold Pr.must; unfold Pr.isText at hm; rw [hm]; rfl
            rw [Pr.tailOf, this]) e w' h
          go_wp2_with fail
          refine (must_no [58, 45] P L en r2 _ hI6.went.2 hm).mono ?_
          rintro e w7 ⟨rfl, hb7⟩
          exact ⟨rfl, HF.out _ _ ⟨rfl, ground hI6.went.1 hb7⟩⟩
        · have HX2 : Hid (∀ X, (match Pr.lits en (r2.tail.length + 1) [] r2.tail with
              | .inl p => Sum.inl p
              | .inr b => match Pr.must [46] en b.2 with
                | .inl p => .inl p
                | .inr r2 => .inr ((⟨x.at_, x.text, ts, fo, b.1⟩ : Tr.Rule), r2)) = X → ∀ e w', RuleEnd P L en w X e w' → Q e w') := by
            intro X hX e w' h
            refine HX.out X ?_ e w' h
            rw [← hX]
            have : Pr.must [58, 45] en r2 = .inr r2.tail := by unfold Pr.must; unfold Pr.isText at hm; rw [hm]; rfl
            simp only [Pr.tailOf, this]
            cases Pr.lits en (r2.tail.length + 1) [] r2.tail with
            | inl a => rfl
            | inr b => cases h : Pr.must [46] en b.2 <;> simp only [h]
          have HM : Hid (∀ w1, At w1 P L en r2 → _) := fun w1 h => must_yes [58, 45] P L en r2 w1 h (by simp) hm
          generalize r2.tail = r3 at *
          clear HX hm
          go_wp2_with fail
          refine Calls.mono (HM.out _ hI6.went.2) ?_
          rintro e w7 ⟨rfl, hW7⟩
          have hI7 := hI6.on hW7
          clear hW7 HM hI6
          obtain ⟨c0, c1, c2, c3, c4, f1, f0⟩ := hI7.cells
          go_upto_region 7 with fail
          cases hL : Pr.lit en r3 with
          | inl a =>
            have HF : Hid (∀ e w', RuleEnd P L en w (.inl a) e w' → Q e w') := fun e w' h => HX2.out _ (by rw [lits_no hL]) e w' h
            have HN : Hid (∀ w1, At w1 P L en r3 → _) := fun w1 h => lit_any P L en r3 w1 h
            rw [hL] at HN
            go_region_dies
            all_goals (refine Calls.mono (HN.out _ (At.keep hI7.went.2 (fun _ _ => rfl))) ?_)
            all_goals rintro e y2 ⟨rfl, hg2⟩
            all_goals exact ⟨rfl, HF.out _ _ ⟨rfl, gone hI7.went.1 hg2 ⟨rfl, rfl, rfl, Nat.le_refl _, fun _ _ => rfl⟩⟩⟩
          | inr l1 =>
            obtain ⟨l1, r4⟩ := l1
            have hl4 : r4.length < r3.length := lit_len hL
            have hlits : Pr.lits en (r3.length + 1) [] r3 = Pr.after en r3.length [l1] r4 := lits_yes hL
            generalize hLX : Pr.lits en (r3.length + 1) [] r3 = LX at HX2
            rw [hlits] at hLX
            have HLX : Hid _ := hLX
            have HN : Hid (∀ w1, At w1 P L en r3 → _) := fun w1 h => lit_any P L en r3 w1 h
            rw [hL] at HN
            clear hL hlits hLX
            go_cut [] (fun wx => ∃ bv lv, UInv w wx B P L en r4 x.at_ x.text (.slice aot ts.length capt) ts fo bv [(l1, lv)])
            case first =>
              go_region_law (first
                | (go_simp; go_at_call 129; refine Calls.mono (HN.out _ (At.keep hI7.went.2 (fun _ _ => rfl))) ?_; rintro e y2 ⟨lv, rfl, hTl, hW2⟩; have hI2 := UInv.on2 hI7 hW2 ⟨rfl, rfl, rfl, Nat.le_refl _, fun _ _ => rfl⟩; have hTl2 := TermsP.mono (B' := B + 1) hTl hI7.sz; obtain ⟨aol, capl, hlv, hTl'⟩ := hTl; simp only [List.length_map] at hlv; subst hlv; obtain ⟨d0, d1, d2, d3, d4, g1, g0⟩ := hI2.cells; have hsz := hI2.sz; dsimp only)
                | (refine step_append_lies _ rfl (.tmp 29) (.tmp 32) 55 rfl (B + 1) 61 i0 _ 5 64 Tryz.underlying55 hi hz0 hz1 hz2 rfl (by decide) (.slice none 0 0) 0 _ ?hs (UInv.below hI2 ((Below.refl _ _).alloc (Nat.le_refl _) _)).own ⟨y2.heap.size, 0, none⟩ 1 1 (litCells (l1, .slice aol l1.terms.length capl)) ?hx rfl ?hn ?ho ?hm ?h6 ?hb ?hB _ rfl ?_
                   case hs => simp [Act.eval]
                   case hx => simp [Act.eval]
                   case hn => exact news_lit _ _ _
                   case ho => exact one_lit _ _ _ _
                   case hm => decide
                   case h6 => decide
                   case hb => decide
                   case hB => (simp; omega)
                   intro g cap y3 hown hgrow hat hlt
                   have hI3 := UInv.put (UInv.below hI2 ((Below.refl _ _).alloc (Nat.le_refl _) _)) hgrow (hTl2.keep (keeps_below _ ((Below.refl _ _).alloc (Nat.le_refl _) _))) hown
                   obtain ⟨_, _, e4, ef⟩ := UInv.app (UInv.below hI2 ((Below.refl _ _).alloc (Nat.le_refl _) _)) hgrow))
              all_goals (go_wp2_with fail; go_meet)
              all_goals exact ⟨_, _, hI3⟩
            case rest =>
              obtain ⟨bv, lv, hI8⟩ := hcut
              obtain ⟨m1, m2, m3⟩ := hI7.went.2.meas
              clear c0 c1 c2 c3 c4 f1 f0 hI7 HN
              go_wp2_with fail
              go_loopw [] (fun wr => ∃ (bv : Value) (q : List (Tr.Lit × Value)) (r5 : List Tk.Tok) (f : Nat), UInv w wr B P L en r5 x.at_ x.text (.slice aot ts.length capt) ts fo bv q ∧ q.length + r5.length ≤ L.length ∧ r5.length ≤ f ∧ Pr.after en f (q.map (·.1)) r5 = LX)
                (fun wr => L.length - nxOf wr P)
              case atStart => exact ⟨bv, [(l1, lv)], r4, r3.length, hI8, by simp; omega, by omega, HLX.out⟩
              case round =>
                obtain ⟨bv, q, r5, f, hI9, hlen, hrf, hAf⟩ := hrel
                have HAf : Hid _ := hAf
                obtain ⟨aob, capb, rfl⟩ := own_slice hI9.own
                clear hAf hI8 HLX
                cases hc : Pr.isText en r5 [44]
                · have hLX2 : LX = .inr (q.map (·.1), r5) := by rw [← HAf.out, Pr.after, hc]; rfl
                  cases hd : Pr.isText en r5 [46]
                  · have HF : Hid (∀ e w', RuleEnd P L en w (.inl (Pr.hd en r5).at_) e w' → Q e w') := fun e w' h => HX2.out _ (by
                      have : Pr.must [46] en r5 = .inl (Pr.hd en r5).at_ := by unfold Pr.must; unfold Pr.isText at hd; rw [hd]; rfl
                      rw [hLX2]; simp only [this]) e w' h
                    clear hLX2 HX2 HAf
                    go_wp2_with fail
                    refine (take_no [44] P L en r5 _ hI9.went.2 hc).mono ?_
                    rintro e w10 ⟨rfl, hb10⟩
                    have hI10 := hI9.below hb10
                    go_wp2_with fail
                    refine (must_no [46] P L en r5 _ hI10.went.2 hd).mono ?_
                    rintro e w11 ⟨rfl, hb11⟩
                    exact ⟨rfl, HF.out _ _ ⟨rfl, ground hI10.went.1 hb11⟩⟩
                  · have HF : Hid (∀ e w', RuleEnd P L en w (.inr (⟨x.at_, x.text, ts, fo, q.map (·.1)⟩, r5.tail)) e w' → Q e w') := fun e w' h => HX2.out _ (by
                      have : Pr.must [46] en r5 = .inr r5.tail := by unfold Pr.must; unfold Pr.isText at hd; rw [hd]; rfl
                      rw [hLX2]; simp only [this]) e w' h
                    clear hLX2 HX2 HAf
                    go_wp2_with fail
                    refine (take_no [44] P L en r5 _ hI9.went.2 hc).mono ?_
                    rintro e w10 ⟨rfl, hb10⟩
                    have hI10 := hI9.below hb10
                    go_wp2_with fail
                    refine (must_yes [46] P L en r5 _ hI10.went.2 (by simp) hd).mono ?_
                    rintro e w11 ⟨rfl, hW11⟩
                    have hI11 := hI10.on hW11
                    obtain ⟨c0, c1, c2, c3, c4, f1, f0⟩ := hI11.cells
                    obtain ⟨x0, x1, x2, x3, x4⟩ := hI11.rcells
                    go_wp2
                    exact bodyPost_ret (v := ruleVal ⟨x.at_, x.text, ts, fo, q.map (·.1)⟩ (.slice aot ts.length capt) (.slice aob q.length capb)) (by simp [results, Tryz.results93, go_sem, x0, x1, x2, x3, x4]) rfl (HF.out _ _ ⟨_, _, rfl, hI11.out _ _ _ _ _⟩)
                · have hl6 := text_len (by simp) hc
                  obtain ⟨f, rfl⟩ : ∃ f', f = f' + 1 := ⟨f - 1, by omega⟩
                  have HL2 : Hid (Pr.lits en (f + 1) (q.map (·.1)) r5.tail = LX) := by
                    have := HAf.out
                    rw [Pr.after, hc] at this
                    exact this
                  have hmeas := hI9.went.2.meas.1
                  go_wp2_with fail
                  refine (take_yes [44] P L en r5 _ hI9.went.2 (by simp) hc).mono ?_
                  rintro e w10 ⟨rfl, hW10⟩
                  have hI10 := hI9.on hW10
                  clear hI9 hW10 HAf hc
                  generalize r5.tail = r6 at *
                  obtain ⟨c0, c1, c2, c3, c4, f1, f0⟩ := hI10.cells
                  go_upto_region 9 with fail
                  cases hL : Pr.lit en r6 with
                  | inl a =>
                    have HF : Hid (∀ e w', RuleEnd P L en w (.inl a) e w' → Q e w') := fun e w' h => HX2.out _ (by rw [← HL2.out, lits_no hL]) e w' h
                    have HN : Hid (∀ w1, At w1 P L en r6 → _) := fun w1 h => lit_any P L en r6 w1 h
                    rw [hL] at HN
                    go_region_dies
                    all_goals (refine Calls.mono (HN.out _ (At.keep hI10.went.2 (fun _ _ => rfl))) ?_)
                    all_goals rintro e y2 ⟨rfl, hg2⟩
                    all_goals exact ⟨rfl, HF.out _ _ ⟨rfl, gone hI10.went.1 hg2 ⟨rfl, rfl, rfl, Nat.le_refl _, fun _ _ => rfl⟩⟩⟩
                  | inr l2 =>
                    obtain ⟨l2, r7⟩ := l2
                    have hl7 : r7.length < r6.length := lit_len hL
                    have HA2 : Hid (Pr.after en f (q.map (·.1) ++ [l2]) r7 = LX) := (lits_yes hL).symm.trans HL2.out
                    have HN : Hid (∀ w1, At w1 P L en r6 → _) := fun w1 h => lit_any P L en r6 w1 h
                    rw [hL] at HN
                    clear hL HL2
                    go_region_law (first
                      | (go_simp; go_at_call 129; refine Calls.mono (HN.out _ (At.keep hI10.went.2 (fun _ _ => rfl))) ?_; rintro e y2 ⟨lv, rfl, hTl, hW2⟩; have hI2 := UInv.on2 hI10 hW2 ⟨rfl, rfl, rfl, Nat.le_refl _, fun _ _ => rfl⟩; have hTl2 := TermsP.mono (B' := B + 1) hTl hI10.sz; obtain ⟨aol, capl, hlv, hTl'⟩ := hTl; simp only [List.length_map] at hlv; subst hlv; obtain ⟨d0, d1, d2, d3, d4, g1, g0⟩ := hI2.cells; have hsz := hI2.sz; dsimp only)
                      | (refine step_append_lies _ rfl (.tmp 38) (.tmp 41) 55 rfl (B + 1) 61 i0 _ 5 64 Tryz.underlying55 hi hz0 hz1 hz2 rfl (by decide) (.slice aob q.length capb) q.length _ ?hs (UInv.below hI2 ((Below.refl _ _).alloc (Nat.le_refl _) _)).own ⟨y2.heap.size, 0, none⟩ 1 1 (litCells (l2, .slice aol l2.terms.length capl)) ?hx rfl ?hn ?ho ?hm ?h6 ?hb ?hB _ rfl ?_
                         case hs => simp [Act.eval]
                         case hx => simp [Act.eval]
                         case hn => exact news_lit _ _ _
                         case ho => exact one_lit _ _ _ _
                         case hm => decide
                         case h6 => (unfold maxLen; omega)
                         case hb => omega
                         case hB => (simp; omega)
                         intro g cap y3 hown hgrow hat hlt
                         have hI3 := UInv.put (UInv.below hI2 ((Below.refl _ _).alloc (Nat.le_refl _) _)) hgrow (hTl2.keep (keeps_below _ ((Below.refl _ _).alloc (Nat.le_refl _) _))) hown
                         obtain ⟨_, _, e4, ef⟩ := UInv.app (UInv.below hI2 ((Below.refl _ _).alloc (Nat.le_refl _) _)) hgrow))
                    all_goals go_wp2_with fail
                    all_goals go_roundw
                    all_goals first
                      | exact ⟨_, q ++ [(l2, _)], r7, f, hI3, by rw [List.length_append]; simp; omega, by omega, by simpa using HA2.out⟩
                      | (rw [hI3.went.2.meas.1, hmeas]; show r7.length < r5.length; omega)
      · obtain rfl : fo = 0 := eq_of_beq hf
        cases hq : Pr.isText en r2 [46]
        · have HX : Hid (∀ X, Pr.tailOf x.at_ x.text ts 0 en r2 = X → ∀ e w', RuleEnd P L en w X e w' → Q e w') := fun X hX e w' h => HS.out X (by rw [hf, hq]; exact hX) e w' h
          clear HS
          go_wp2_with fail
          refine (take_no [46] P L en r2 _ hI5.went.2 hq).mono ?_
          rintro e w6 ⟨rfl, hb6⟩
          have hI6 := hI5.below hb6
          clear hb6 hI5 hI4 hq
          cases hm : Pr.isText en r2 [58, 45]
          · have HF : Hid (∀ e w', RuleEnd P L en w (.inl (Pr.hd en r2).at_) e w' → Q e w') := fun e w' h => HX.out _ (by
              have : Pr.must [58, 45] en r2 = .inl (Pr.hd en r2).at_ := by unfold Pr.must; unfold Pr.isText at hm; rw [hm]; rfl
              rw [Pr.tailOf, this]) e w' h
            go_wp2_with fail
            refine (must_no [58, 45] P L en r2 _ hI6.went.2 hm).mono ?_
            rintro e w7 ⟨rfl, hb7⟩
            exact ⟨rfl, HF.out _ _ ⟨rfl, ground hI6.went.1 hb7⟩⟩
          · have HX2 : Hid (∀ X, (match Pr.lits en (r2.tail.length + 1) [] r2.tail with
                | .inl p => Sum.inl p
                | .inr b => match Pr.must [46] en b.2 with
                  | .inl p => .inl p
                  | .inr r2 => .inr ((⟨x.at_, x.text, ts, 0, b.1⟩ : Tr.Rule), r2)) = X → ∀ e w', RuleEnd P L en w X e w' → Q e w') := by
              intro X hX e w' h
              refine HX.out X ?_ e w' h
              rw [← hX]
              have : Pr.must [58, 45] en r2 = .inr r2.tail := by unfold Pr.must; unfold Pr.isText at hm; rw [hm]; rfl
              simp only [Pr.tailOf, this]
              cases Pr.lits en (r2.tail.length + 1) [] r2.tail with
              | inl a => rfl
              | inr b => cases h : Pr.must [46] en b.2 <;> simp only [h]
            have HM : Hid (∀ w1, At w1 P L en r2 → _) := fun w1 h => must_yes [58, 45] P L en r2 w1 h (by simp) hm
            generalize r2.tail = r3 at *
            clear HX hm
            go_wp2_with fail
            refine Calls.mono (HM.out _ hI6.went.2) ?_
            rintro e w7 ⟨rfl, hW7⟩
            have hI7 := hI6.on hW7
            clear hW7 HM hI6
            obtain ⟨c0, c1, c2, c3, c4, f1, f0⟩ := hI7.cells
            go_upto_region 7 with fail
            cases hL : Pr.lit en r3 with
            | inl a =>
              have HF : Hid (∀ e w', RuleEnd P L en w (.inl a) e w' → Q e w') := fun e w' h => HX2.out _ (by rw [lits_no hL]) e w' h
              have HN : Hid (∀ w1, At w1 P L en r3 → _) := fun w1 h => lit_any P L en r3 w1 h
              rw [hL] at HN
              go_region_dies
              all_goals (refine Calls.mono (HN.out _ (At.keep hI7.went.2 (fun _ _ => rfl))) ?_)
              all_goals rintro e y2 ⟨rfl, hg2⟩
              all_goals exact ⟨rfl, HF.out _ _ ⟨rfl, gone hI7.went.1 hg2 ⟨rfl, rfl, rfl, Nat.le_refl _, fun _ _ => rfl⟩⟩⟩
            | inr l1 =>
              obtain ⟨l1, r4⟩ := l1
              have hl4 : r4.length < r3.length := lit_len hL
              have hlits : Pr.lits en (r3.length + 1) [] r3 = Pr.after en r3.length [l1] r4 := lits_yes hL
              generalize hLX : Pr.lits en (r3.length + 1) [] r3 = LX at HX2
              rw [hlits] at hLX
              have HLX : Hid _ := hLX
              have HN : Hid (∀ w1, At w1 P L en r3 → _) := fun w1 h => lit_any P L en r3 w1 h
              rw [hL] at HN
              clear hL hlits hLX
              go_cut [] (fun wx => ∃ bv lv, UInv w wx B P L en r4 x.at_ x.text (.slice aot ts.length capt) ts 0 bv [(l1, lv)])
              case first =>
                go_region_law (first
                  | (go_simp; go_at_call 129; refine Calls.mono (HN.out _ (At.keep hI7.went.2 (fun _ _ => rfl))) ?_; rintro e y2 ⟨lv, rfl, hTl, hW2⟩; have hI2 := UInv.on2 hI7 hW2 ⟨rfl, rfl, rfl, Nat.le_refl _, fun _ _ => rfl⟩; have hTl2 := TermsP.mono (B' := B + 1) hTl hI7.sz; obtain ⟨aol, capl, hlv, hTl'⟩ := hTl; simp only [List.length_map] at hlv; subst hlv; obtain ⟨d0, d1, d2, d3, d4, g1, g0⟩ := hI2.cells; have hsz := hI2.sz; dsimp only)
                  | (refine step_append_lies _ rfl (.tmp 29) (.tmp 32) 55 rfl (B + 1) 61 i0 _ 5 64 Tryz.underlying55 hi hz0 hz1 hz2 rfl (by decide) (.slice none 0 0) 0 _ ?hs (UInv.below hI2 ((Below.refl _ _).alloc (Nat.le_refl _) _)).own ⟨y2.heap.size, 0, none⟩ 1 1 (litCells (l1, .slice aol l1.terms.length capl)) ?hx rfl ?hn ?ho ?hm ?h6 ?hb ?hB _ rfl ?_
                     case hs => simp [Act.eval]
                     case hx => simp [Act.eval]
                     case hn => exact news_lit _ _ _
                     case ho => exact one_lit _ _ _ _
                     case hm => decide
                     case h6 => decide
                     case hb => decide
                     case hB => (simp; omega)
                     intro g cap y3 hown hgrow hat hlt
                     have hI3 := UInv.put (UInv.below hI2 ((Below.refl _ _).alloc (Nat.le_refl _) _)) hgrow (hTl2.keep (keeps_below _ ((Below.refl _ _).alloc (Nat.le_refl _) _))) hown
                     obtain ⟨_, _, e4, ef⟩ := UInv.app (UInv.below hI2 ((Below.refl _ _).alloc (Nat.le_refl _) _)) hgrow))
                all_goals (go_wp2_with fail; go_meet)
                all_goals exact ⟨_, _, hI3⟩
              case rest =>
                obtain ⟨bv, lv, hI8⟩ := hcut
                obtain ⟨m1, m2, m3⟩ := hI7.went.2.meas
                clear c0 c1 c2 c3 c4 f1 f0 hI7 HN
                go_wp2_with fail
                go_loopw [] (fun wr => ∃ (bv : Value) (q : List (Tr.Lit × Value)) (r5 : List Tk.Tok) (f : Nat), UInv w wr B P L en r5 x.at_ x.text (.slice aot ts.length capt) ts 0 bv q ∧ q.length + r5.length ≤ L.length ∧ r5.length ≤ f ∧ Pr.after en f (q.map (·.1)) r5 = LX)
                  (fun wr => L.length - nxOf wr P)
                case atStart => exact ⟨bv, [(l1, lv)], r4, r3.length, hI8, by simp; omega, by omega, HLX.out⟩
                case round =>
                  obtain ⟨bv, q, r5, f, hI9, hlen, hrf, hAf⟩ := hrel
                  have HAf : Hid _ := hAf
                  obtain ⟨aob, capb, rfl⟩ := own_slice hI9.own
                  clear hAf hI8 HLX
                  cases hc : Pr.isText en r5 [44]
                  · have hLX2 : LX = .inr (q.map (·.1), r5) := by rw [← HAf.out, Pr.after, hc]; rfl
                    cases hd : Pr.isText en r5 [46]
                    · have HF : Hid (∀ e w', RuleEnd P L en w (.inl (Pr.hd en r5).at_) e w' → Q e w') := fun e w' h => HX2.out _ (by
                        have : Pr.must [46] en r5 = .inl (Pr.hd en r5).at_ := by unfold Pr.must; unfold Pr.isText at hd; rw [hd]; rfl
                        rw [hLX2]; simp only [this]) e w' h
                      clear hLX2 HX2 HAf
                      go_wp2_with fail
                      refine (take_no [44] P L en r5 _ hI9.went.2 hc).mono ?_
                      rintro e w10 ⟨rfl, hb10⟩
                      have hI10 := hI9.below hb10
                      go_wp2_with fail
                      refine (must_no [46] P L en r5 _ hI10.went.2 hd).mono ?_
                      rintro e w11 ⟨rfl, hb11⟩
                      exact ⟨rfl, HF.out _ _ ⟨rfl, ground hI10.went.1 hb11⟩⟩
                    · have HF : Hid (∀ e w', RuleEnd P L en w (.inr (⟨x.at_, x.text, ts, 0, q.map (·.1)⟩, r5.tail)) e w' → Q e w') := fun e w' h => HX2.out _ (by
                        have : Pr.must [46] en r5 = .inr r5.tail := by unfold Pr.must; unfold Pr.isText at hd; rw [hd]; rfl
                        rw [hLX2]; simp only [this]) e w' h
                      clear hLX2 HX2 HAf
                      go_wp2_with fail
                      refine (take_no [44] P L en r5 _ hI9.went.2 hc).mono ?_
                      rintro e w10 ⟨rfl, hb10⟩
                      have hI10 := hI9.below hb10
                      go_wp2_with fail
                      refine (must_yes [46] P L en r5 _ hI10.went.2 (by simp) hd).mono ?_
                      rintro e w11 ⟨rfl, hW11⟩
                      have hI11 := hI10.on hW11
                      obtain ⟨c0, c1, c2, c3, c4, f1, f0⟩ := hI11.cells
                      obtain ⟨x0, x1, x2, x3, x4⟩ := hI11.rcells
                      go_wp2
                      exact bodyPost_ret (v := ruleVal ⟨x.at_, x.text, ts, 0, q.map (·.1)⟩ (.slice aot ts.length capt) (.slice aob q.length capb)) (by simp [results, Tryz.results93, go_sem, x0, x1, x2, x3, x4]) rfl (HF.out _ _ ⟨_, _, rfl, hI11.out _ _ _ _ _⟩)
                  · have hl6 := text_len (by simp) hc
                    obtain ⟨f, rfl⟩ : ∃ f', f = f' + 1 := ⟨f - 1, by omega⟩
                    have HL2 : Hid (Pr.lits en (f + 1) (q.map (·.1)) r5.tail = LX) := by
                      have := HAf.out
                      rw [Pr.after, hc] at this
                      exact this
                    have hmeas := hI9.went.2.meas.1
                    go_wp2_with fail
                    refine (take_yes [44] P L en r5 _ hI9.went.2 (by simp) hc).mono ?_
                    rintro e w10 ⟨rfl, hW10⟩
                    have hI10 := hI9.on hW10
                    clear hI9 hW10 HAf hc
                    generalize r5.tail = r6 at *
                    obtain ⟨c0, c1, c2, c3, c4, f1, f0⟩ := hI10.cells
                    go_upto_region 9 with fail
                    cases hL : Pr.lit en r6 with
                    | inl a =>
                      have HF : Hid (∀ e w', RuleEnd P L en w (.inl a) e w' → Q e w') := fun e w' h => HX2.out _ (by rw [← HL2.out, lits_no hL]) e w' h
                      have HN : Hid (∀ w1, At w1 P L en r6 → _) := fun w1 h => lit_any P L en r6 w1 h
                      rw [hL] at HN
                      go_region_dies
                      all_goals (refine Calls.mono (HN.out _ (At.keep hI10.went.2 (fun _ _ => rfl))) ?_)
                      all_goals rintro e y2 ⟨rfl, hg2⟩
                      all_goals exact ⟨rfl, HF.out _ _ ⟨rfl, gone hI10.went.1 hg2 ⟨rfl, rfl, rfl, Nat.le_refl _, fun _ _ => rfl⟩⟩⟩
                    | inr l2 =>
                      obtain ⟨l2, r7⟩ := l2
                      have hl7 : r7.length < r6.length := lit_len hL
                      have HA2 : Hid (Pr.after en f (q.map (·.1) ++ [l2]) r7 = LX) := (lits_yes hL).symm.trans HL2.out
                      have HN : Hid (∀ w1, At w1 P L en r6 → _) := fun w1 h => lit_any P L en r6 w1 h
                      rw [hL] at HN
                      clear hL HL2
                      go_region_law (first
                        | (go_simp; go_at_call 129; refine Calls.mono (HN.out _ (At.keep hI10.went.2 (fun _ _ => rfl))) ?_; rintro e y2 ⟨lv, rfl, hTl, hW2⟩; have hI2 := UInv.on2 hI10 hW2 ⟨rfl, rfl, rfl, Nat.le_refl _, fun _ _ => rfl⟩; have hTl2 := TermsP.mono (B' := B + 1) hTl hI10.sz; obtain ⟨aol, capl, hlv, hTl'⟩ := hTl; simp only [List.length_map] at hlv; subst hlv; obtain ⟨d0, d1, d2, d3, d4, g1, g0⟩ := hI2.cells; have hsz := hI2.sz; dsimp only)
                        | (refine step_append_lies _ rfl (.tmp 38) (.tmp 41) 55 rfl (B + 1) 61 i0 _ 5 64 Tryz.underlying55 hi hz0 hz1 hz2 rfl (by decide) (.slice aob q.length capb) q.length _ ?hs (UInv.below hI2 ((Below.refl _ _).alloc (Nat.le_refl _) _)).own ⟨y2.heap.size, 0, none⟩ 1 1 (litCells (l2, .slice aol l2.terms.length capl)) ?hx rfl ?hn ?ho ?hm ?h6 ?hb ?hB _ rfl ?_
                           case hs => simp [Act.eval]
                           case hx => simp [Act.eval]
                           case hn => exact news_lit _ _ _
                           case ho => exact one_lit _ _ _ _
                           case hm => decide
                           case h6 => (unfold maxLen; omega)
                           case hb => omega
                           case hB => (simp; omega)
                           intro g cap y3 hown hgrow hat hlt
                           have hI3 := UInv.put (UInv.below hI2 ((Below.refl _ _).alloc (Nat.le_refl _) _)) hgrow (hTl2.keep (keeps_below _ ((Below.refl _ _).alloc (Nat.le_refl _) _))) hown
                           obtain ⟨_, _, e4, ef⟩ := UInv.app (UInv.below hI2 ((Below.refl _ _).alloc (Nat.le_refl _) _)) hgrow))
                      all_goals go_wp2_with fail
                      all_goals go_roundw
                      all_goals first
                        | exact ⟨_, q ++ [(l2, _)], r7, f, hI3, by rw [List.length_append]; simp; omega, by omega, by simpa using HA2.out⟩
                        | (rw [hI3.went.2.meas.1, hmeas]; show r7.length < r5.length; omega)
        · have HF : Hid (∀ e w', RuleEnd P L en w (.inr (⟨x.at_, x.text, ts, 0, []⟩, r2.tail)) e w' → Q e w') := fun e w' h => HS.out _ (by rw [hf, hq]; rfl) e w' h
          clear HS
          go_wp2_with fail
          refine (take_yes [46] P L en r2 _ hI5.went.2 (by simp) hq).mono ?_
          rintro e w6 ⟨rfl, hW6⟩
          have hI6 := hI5.on hW6
          clear c0 c1 c2 c3 c4 f1 f0
          obtain ⟨c0, c1, c2, c3, c4, f1, f0⟩ := hI6.cells
          obtain ⟨x0, x1, x2, x3, x4⟩ := hI6.rcells
          go_wp2
          exact bodyPost_ret (v := ruleVal ⟨x.at_, x.text, ts, 0, []⟩ (.slice aot ts.length capt) (.slice none 0 0)) (by simp [results, Tryz.results93, go_sem, x0, x1, x2, x3, x4]) rfl (HF.out _ _ ⟨_, _, rfl, hI6.out _ _ _ _ _⟩)

end Go.Proofs.YtgpaleifhcdjnaaGreatDoor

/- The deferred function of parse. -/
namespace Go.Proofs.YtgpaleifhcdjnaaGreatDoor
open Go.RowKit

set_option maxRecDepth 100000 in
set_option maxHeartbeats 400000 in
theorem catchP_idle (pt pa pe : Addr) (w : World) :
    CallsD Tryz.prog 92 #[.pointer (some pt), .pointer (some pa), .pointer (some pe)] .returning w fun e u' w' => e = .returned (.tuple #[]) ∧ u' = .returning ∧ w' = w := by
  refine callsD_of_wpS Tryz.func92 rfl fun c₀ cs hu => ?_
  apply wpS_seq
  apply wpS_region
  simp [wpOpsS, go_sem, recoverD, hu, Tryz.ntmps92, Exit.thenS]
  refine wpS_of_wp ?_
  rw [show (#[Value.pointer (some pt), Value.pointer (some pa), Value.pointer (some pe)] ++ ((Array.replicate 7 undef).setIfInBounds 1 Value.nilIface).setIfInBounds 0 Value.nilIface) = #[.pointer (some pt), .pointer (some pa), .pointer (some pe), .nilIface, .nilIface, undef, undef, undef, undef, undef] from rfl]
  go_wp2
  refine ⟨rfl, .returning, ?_, .tuple #[], ?_, rfl, rfl, rfl⟩
  · rw [← hu]
  · simp [results, Tryz.results92]

set_option maxRecDepth 100000 in
set_option maxHeartbeats 400000 in
theorem catchP_panicking (bt ba be B : Nat) (tv av ev : Value) (a : Int) (older : List PanicEntry) (w : World)
    (ht : w.cell? ⟨bt, 0, none⟩ = some tv) (ft : w.frozen? ⟨bt, 0, none⟩ = false) (ha : w.cell? ⟨ba, 0, none⟩ = some av) (fa : w.frozen? ⟨ba, 0, none⟩ = false)
    (he : w.cell? ⟨be, 0, none⟩ = some ev) (fe : w.frozen? ⟨be, 0, none⟩ = false) (hB1 : B ≤ bt) (hB2 : bt < ba) (hB3 : ba < be) :
    CallsD Tryz.prog 92 #[.pointer (some ⟨bt, 0, none⟩), .pointer (some ⟨ba, 0, none⟩), .pointer (some ⟨be, 0, none⟩)] (.panicking ({ v := .iface 149 (.int .i64 a), recovered := false } :: older)) w fun e u' w' =>
      e = .returned (.tuple #[]) ∧ u' = .panicking ({ v := .iface 149 (.int .i64 a), recovered := true } :: older) ∧
      w'.cell? ⟨bt, 0, none⟩ = some (.slice none 0 0) ∧ w'.cell? ⟨ba, 0, none⟩ = some (.int .i64 a) ∧ w'.cell? ⟨be, 0, none⟩ = some (.int .i64 1) ∧ Below B w w' := by
  have hta : ∀ w : World, (Instr.typeAssert (.iface 149 (.int .i64 a)) 20 149 false).run Tryz.prog w = .ok (.int .i64 a) w := fun _ => by kernel_rfl
  refine callsD_of_wpS Tryz.func92 rfl fun c₀ cs hu => ?_
  apply wpS_seq
  apply wpS_region
  simp [wpOpsS, go_sem, recoverD, hu, Tryz.ntmps92, Exit.thenS]
  refine wpS_of_wp ?_
  rw [show (#[Value.pointer (some { block := bt, off := 0 }), Value.pointer (some { block := ba, off := 0 }), Value.pointer (some { block := be, off := 0 })] ++
          ((Array.replicate 7 undef).setIfInBounds 1 (Value.iface 149 (Value.int IntKind.i64 a))).setIfInBounds 0 (Value.iface 149 (Value.int IntKind.i64 a))) =
        #[Value.pointer (some { block := bt, off := 0 }), Value.pointer (some { block := ba, off := 0 }), Value.pointer (some { block := be, off := 0 }), (Value.iface 149 (Value.int IntKind.i64 a)), (Value.iface 149 (Value.int IntKind.i64 a)), undef, undef, undef, undef, undef] from rfl]
  have hne : ¬ bt = ba := by omega
  have hne' : ¬ ba = bt := by omega
  have hne2 : ¬ bt = be := by omega
  have hne2' : ¬ be = bt := by omega
  have hne3 : ¬ ba = be := by omega
  have hne3' : ¬ be = ba := by omega
  go_wp2
  go_region
  refine ⟨rfl, _, rfl, .tuple #[], ?_, rfl, rfl, ?_, ?_, ?_, ?_⟩
  · simp [results, Tryz.results92]
  · simp [go_sem, ht]
  · simp [go_sem, ha]
  · simp [go_sem, he]
  · exact ((((Below.refl _ _).setCell (p := ⟨bt, 0, none⟩) hB1 _).setCell (p := ⟨ba, 0, none⟩) (show B ≤ ba by omega) _).setCell (p := ⟨be, 0, none⟩) (show B ≤ be by omega) _).drew

end Go.Proofs.YtgpaleifhcdjnaaGreatDoor

/- The parser, whole. -/
namespace Go.Proofs.YtgpaleifhcdjnaaGreatDoor
open Go.RowKit

/-- What parse leaves. -/
def ParseEnd (L : List Tk.Tok) (en : Int) (w : World) (e : Ending) (w' : World) : Prop := match Pr.rules en L.length [] L with
  | .inl a => e = .returned (.tuple #[.agg #[.slice none 0 0], .int .i64 a, .int .i64 1]) ∧ Below w.heap.size w w'
  | .inr t => ∃ v, e = .returned (.tuple #[.agg #[v], .int .i64 0, .int .i64 0]) ∧ RulesP w.heap.size w' v t ∧ Below w.heap.size w w'

/-- parse under way: its results' blocks, the parser's, the rules so far. -/
structure PInv (w wr : World) (L : List Tk.Tok) (en : Int) (r : List Tk.Tok) (v : Value) (q : List (Tr.Rule × Value × Value)) : Prop where
  bel : Below w.heap.size w wr
  tre : wr.heap[w.heap.size]? = some (.cells #[v] 36)
  plc : wr.heap[w.heap.size + 1]? = some (.cells #[.int .i64 0] 3)
  err : wr.heap[w.heap.size + 2]? = some (.cells #[.int .i64 0] 29)
  par : At wr (w.heap.size + 3) L en r
  own : wr.ownsRow (w.heap.size + 4) 57 5 v q.length (q.map ruleCells).flatten
  rls : ∀ p, p ∈ q → TermsP (w.heap.size + 4) wr p.2.1 p.1.terms ∧ LitsP (w.heap.size + 4) wr p.2.2 p.1.body

section
variable {w wr w' wr' : World} {L : List Tk.Tok} {en : Int} {r r' : List Tk.Tok} {v : Value} {q : List (Tr.Rule × Value × Value)}
theorem PInv.sz (h : PInv w wr L en r v q) : w.heap.size + 4 ≤ wr.heap.size := h.par.lt
theorem below_grown {B P : Nat} {a b c : World} (h : Below B a b) (hg : b.grownBy c (some P)) (hP : B ≤ P) (hs : B ≤ b.heap.size) : Below B a c :=
  ⟨hg.os.trans h.os, hg.tape.trans h.tape, hg.output.trans h.output, Nat.le_trans h.size hg.size, fun k hk => (hg.block k (by omega) (by intro e; injection e; omega)).trans (h.block k hk)⟩
theorem PInv.on (h : PInv w wr L en r v q) (hW : Went wr w' (w.heap.size + 3) L en r') : PInv w w' L en r' v q := by
  have hs := h.sz
  exact { bel := below_grown h.bel hW.1 (by omega) (by omega)
          tre := (hW.1.block _ (heap_lt h.tre) (by intro e; injection e; omega)).trans h.tre
          plc := (hW.1.block _ (heap_lt h.plc) (by intro e; injection e; omega)).trans h.plc
          err := (hW.1.block _ (heap_lt h.err) (by intro e; injection e; omega)).trans h.err
          par := hW.2
          own := ownsRow_grown h.own hW.1 (by omega)
          rls := fun p hp => ⟨(h.rls p hp).1.keep (keeps_grown _ hW.1 (by omega)), (h.rls p hp).2.keep (keeps_grown _ hW.1 (by omega))⟩ }
theorem PInv.below (h : PInv w wr L en r v q) (hb : Below wr.heap.size wr w') : PInv w w' L en r v q := h.on ⟨grownBy_of_below hb _, h.par.below hb⟩
theorem PInv.on2 (h : PInv w wr L en r v q) (hW : Went wr' w' (w.heap.size + 3) L en r') (hb : Below wr.heap.size wr wr') : PInv w w' L en r' v q := (h.below hb).on hW
theorem PInv.cells (h : PInv w wr L en r v q) : wr.cell? ⟨w.heap.size, 0, none⟩ = some v ∧ wr.cell? ⟨w.heap.size + 1, 0, none⟩ = some (.int .i64 0) ∧ wr.cell? ⟨w.heap.size + 2, 0, none⟩ = some (.int .i64 0) ∧
    wr.frozen? ⟨w.heap.size, 0, none⟩ = false ∧ wr.frozen? ⟨w.heap.size + 1, 0, none⟩ = false ∧ wr.frozen? ⟨w.heap.size + 2, 0, none⟩ = false :=
  ⟨by rw [Lib.cell_of_heap h.tre]; rfl, by rw [Lib.cell_of_heap h.plc]; rfl, by rw [Lib.cell_of_heap h.err]; rfl, by simp [World.frozen?, h.tre], by simp [World.frozen?, h.plc], by simp [World.frozen?, h.err]⟩
theorem PInv.app {w3 : World} (h : PInv w wr L en r v q) (hg : wr.grownBy w3 v.ownBlock) : w3.cell? ⟨w.heap.size, 0, none⟩ = some v ∧ w3.frozen? ⟨w.heap.size, 0, none⟩ = false := by
  have e1 := (hg.block _ (heap_lt h.tre) (fun he => by have := (h.own.lt _ he.symm).1; omega)).trans h.tre
  exact ⟨by rw [Lib.cell_of_heap e1]; rfl, by simp [World.frozen?, e1]⟩
theorem PInv.put {w3 : World} {v' : Value} {p : Tr.Rule × Value × Value} (h : PInv w wr L en r v q) (hg : wr.grownBy w3 v.ownBlock) (hT : TermsP (w.heap.size + 4) wr p.2.1 p.1.terms) (hL : LitsP (w.heap.size + 4) wr p.2.2 p.1.body)
    (hown : w3.ownsRow (w.heap.size + 4) 57 5 v' (q.length + 1) ((q.map ruleCells).flatten ++ ruleCells p)) : PInv w (w3.setCell ⟨w.heap.size, 0, none⟩ v') L en r v' (q ++ [p]) := by
  have hs := h.sz
  have hne : ∀ i, i < w.heap.size + 4 → some i ≠ v.ownBlock := fun i hi he => by have := (h.own.lt i he.symm).1; omega
  have hk : Keeps (w.heap.size + 4) wr w3 (fun e => e = 59 ∨ e = 61) := keeps_own hg h.own (by decide)
  have e1 := (hg.block _ (heap_lt h.tre) (hne _ (by omega))).trans h.tre
  exact { bel := (h.bel.grown hg (by omega) (fun k hk => by have := (h.own.lt k hk).1; omega)).setCell (p := ⟨w.heap.size, 0, none⟩) (Nat.le_refl _) _
          tre := by simp [World.setCell, Array.getElem?_modify, e1]
          plc := (Below.heap_setCell _ _ _ _ (show ¬ w.heap.size + 1 = w.heap.size by omega)).trans ((hg.block _ (heap_lt h.plc) (hne _ (by omega))).trans h.plc)
          err := (Below.heap_setCell _ _ _ _ (show ¬ w.heap.size + 2 = w.heap.size by omega)).trans ((hg.block _ (heap_lt h.err) (hne _ (by omega))).trans h.err)
          par := h.par.keep2 fun k hk => (Below.heap_setCell _ _ _ _ (show ¬ k = w.heap.size by omega)).trans (hg.block k (by omega) (hne k (by omega)))
          own := ownsRow_setCell_below (by simpa using hown) (by simp) _
          rls := by
            intro p' hp'
            rw [List.mem_append, List.mem_singleton] at hp'
            rcases hp' with hp' | rfl
            · exact ⟨((h.rls p' hp').1.keep (hk.mono fun _ h => .inl h)).keep (keeps_set _ (by omega) _ _), ((h.rls p' hp').2.keep hk).keep (keeps_set _ (by omega) _ _)⟩
            · exact ⟨(hT.keep (hk.mono fun _ h => .inl h)).keep (keeps_set _ (by omega) _ _), (hL.keep hk).keep (keeps_set _ (by omega) _ _)⟩ }
end

end Go.Proofs.YtgpaleifhcdjnaaGreatDoor

/- The parser, whole: its loop. -/
namespace Go.Proofs.YtgpaleifhcdjnaaGreatDoor
open Go.RowKit

theorem A_info43 : (Tryz.prog.info? 57).map (fun i => (i.zero, i.size, i.bytes)) = some (some (.agg #[.int .i64 0, .string ⟨#[]⟩, .slice none 0 0, .int .i64 0, .slice none 0 0]), 5, 80) := by kernel_rfl
theorem news_rule (w : World) (x : Tr.Rule) (v u : Value) : ∀ j y, (ruleCells (x, v, u))[j]? = some y → (w.alloc (.cells #[.int .i64 x.at_, .string ⟨x.name.toArray⟩, v, .int .i64 x.fold, u] 57)).cell? ((⟨w.heap.size, 0, none⟩ : Addr).add j) = some y := World.news_of_block (heap_alloc_new w _)
theorem one_rule (x : Tr.Rule) (ao : Option Addr) (n c : Nat) (bo : Option Addr) (m d : Nat) : ∀ u ∈ ruleCells (x, .slice ao n c, .slice bo m d), u.oneCell' = true := by intro u hu; simp [ruleCells] at hu; rcases hu with rfl | rfl | rfl | rfl | rfl <;> rfl

theorem PInv.start {w : World} {L : List Tk.Tok} {en : Int} {ao : Option Addr} {cap : Nat} (hT : ToksAt w ao L) (hF : Fit L) :
    PInv w ((((w.alloc (.cells #[.slice none 0 0] 36)).alloc (.cells #[.int .i64 0] 3)).alloc (.cells #[.int .i64 0] 29)).alloc (.cells #[.slice ao L.length cap, .int .i64 0, .int .i64 en] 152)) L en L (.slice none 0 0) [] := by
  have b1 := (Below.refl w.heap.size w).alloc (Nat.le_refl _) (.cells #[.slice none 0 0] 36)
  have b2 := b1.alloc (by simp) (.cells #[.int .i64 0] 3)
  have b3 := b2.alloc (by simp; omega) (.cells #[.int .i64 0] 29)
  have b4 := b3.alloc (by simp; omega) (.cells #[.slice ao L.length cap, .int .i64 0, .int .i64 en] 152)
  have old : ∀ (u : World) (o x : Obj) (k : Nat), u.heap[k]? = some x → (u.alloc o).heap[k]? = some x := fun u o x k hk => (((Below.refl u.heap.size u).alloc (Nat.le_refl _) o).block k (heap_lt hk)).trans hk
  exact { bel := b4
          tre := old _ _ _ _ (old _ _ _ _ (old _ _ _ _ (heap_alloc_new w _)))
          plc := old _ _ _ _ (old _ _ _ _ (by have := heap_alloc_new (w.alloc (.cells #[.slice none 0 0] 36)) (.cells #[.int .i64 0] 3); simpa using this))
          err := old _ _ _ _ (by have := heap_alloc_new ((w.alloc (.cells #[.slice none 0 0] 36)).alloc (.cells #[.int .i64 0] 3)) (.cells #[.int .i64 0] 29); simpa using this)
          par := by
            refine ⟨0, Nat.zero_le _, rfl, hF, ao, cap, by have := heap_alloc_new (((w.alloc (.cells #[.slice none 0 0] 36)).alloc (.cells #[.int .i64 0] 3)).alloc (.cells #[.int .i64 0] 29)) (.cells #[.slice ao L.length cap, .int .i64 0, .int .i64 en] 152); simpa using this, ?_⟩
            rcases hT with h | ⟨b, off, rfl, hc⟩
            · exact .inl h
            · cases L with
              | nil => exact .inl rfl
              | cons t l =>
                refine .inr ⟨b, off, rfl, ?_, fun i hi => ⟨cell_below b4 (hc i hi).1, cell_below b4 (hc i hi).2.1, cell_below b4 (hc i hi).2.2⟩⟩
                have : b < w.heap.size := World.block_lt_of_cell? w _ (hc 0 (by simp)).1
                show b + 3 < w.heap.size + 3
                omega
          own := World.ownsRow_nil _ _ _ _
          rls := fun p hp => absurd hp (by simp) }

/-- Where parse gives up: what its deferred function leaves. -/
theorem parse_gives {w wr wr' w1 : World} {L : List Tk.Tok} {en : Int} {r : List Tk.Tok} {v : Value} {q : List (Tr.Rule × Value × Value)} (h : PInv w wr L en r v q) (hg : wr'.grownBy w1 (some (w.heap.size + 3))) (hb : Below wr.heap.size wr wr') (a : Int) (hX : Pr.rules en L.length [] L = .inl a) (tmps : Array Value)
    (h4 : tmps[4]? = some (.pointer (some ⟨w.heap.size, 0, none⟩))) (h5 : tmps[5]? = some (.pointer (some ⟨w.heap.size + 1, 0, none⟩))) (h6 : tmps[6]? = some (.pointer (some ⟨w.heap.size + 2, 0, none⟩))) :
    Leaves Tryz.prog Tryz.f57 tmps (ParseEnd L en w) [{ target := .fn (.func 92) #[.pointer (some ⟨w.heap.size, 0, none⟩), .pointer (some ⟨w.heap.size + 1, 0, none⟩), .pointer (some ⟨w.heap.size + 2, 0, none⟩)], args := #[] }]
      (.panicking [{ v := .iface 149 (.int .i64 a), recovered := false }]) w1 := by
  obtain ⟨d0, d1, d2, g0, g1, g2⟩ := (h.below hb).cells
  have hs := (h.below hb).sz
  have k0 := grownBy_cell hg (show ¬ w.heap.size = w.heap.size + 3 by omega) d0
  have k1 := grownBy_cell hg (show ¬ w.heap.size + 1 = w.heap.size + 3 by omega) d1
  have k2 := grownBy_cell hg (show ¬ w.heap.size + 2 = w.heap.size + 3 by omega) d2
  have z0 := (grownBy_frozen (o := 0) hg (show ¬ w.heap.size = w.heap.size + 3 by omega) (by omega)).trans g0
  have z1 := (grownBy_frozen (o := 0) hg (show ¬ w.heap.size + 1 = w.heap.size + 3 by omega) (by omega)).trans g1
  have z2 := (grownBy_frozen (o := 0) hg (show ¬ w.heap.size + 2 = w.heap.size + 3 by omega) (by omega)).trans g2
  refine leaves_cons (f := 92) (args := #[.pointer (some ⟨w.heap.size, 0, none⟩), .pointer (some ⟨w.heap.size + 1, 0, none⟩), .pointer (some ⟨w.heap.size + 2, 0, none⟩)]) (by simp) (by simp [go_sem]) ?_
  refine (catchP_panicking w.heap.size (w.heap.size + 1) (w.heap.size + 2) w.heap.size _ _ _ a [] w1 k0 z0 k1 z1 k2 z2 (Nat.le_refl _) (by omega) (by omega)).mono ?_
  rintro e u' w2 ⟨rfl, rfl, y0, y1, y2, hb2⟩
  have hres : (results Tryz.f57 tmps).run Tryz.prog w2 = .ok (.tuple #[.agg #[.slice none 0 0], .int .i64 a, .int .i64 1]) w2 := by
    simp [results, Tryz.results57, go_sem, h4, h5, h6, y0, y1, y2]
  refine ⟨_, hres, ?_⟩
  unfold ParseEnd
  rw [hX]
  exact ⟨rfl, (below_grown (h.below hb).bel hg (by omega) (by omega)).trans hb2⟩

end Go.Proofs.YtgpaleifhcdjnaaGreatDoor

/- The parser, whole: its loop. -/
namespace Go.Proofs.YtgpaleifhcdjnaaGreatDoor
open Go.RowKit

theorem lits_len (en : Int) : ∀ (f : Nat) (acc : List Tr.Lit) (r : List Tk.Tok) (x : List Tr.Lit × List Tk.Tok), Pr.lits en f acc r = .inr x → x.2.length < r.length := by
  intro f
  induction f with
  | zero => intro acc r x h; simp [Pr.lits] at h
  | succ f ih =>
    intro acc r x h
    cases hT : Pr.lit en r with
    | inl a => rw [lits_no hT] at h; simp at h
    | inr y =>
      have hl := lit_len hT
      rw [lits_yes hT] at h
      unfold Pr.after at h
      split at h
      · have := ih _ _ _ h
        have h2 : y.2.tail.length ≤ y.2.length := by simp
        omega
      · simp only [Sum.inr.injEq] at h
        subst h
        exact hl
theorem tailOf_len {at_ : Int} {nm : List UInt8} {l : List Tr.Term} {fo en : Int} {r : List Tk.Tok} {x : Tr.Rule × List Tk.Tok} (h : Pr.tailOf at_ nm l fo en r = .inr x) : x.2.length < r.length := by
  unfold Pr.tailOf at h
  cases hm : Pr.must [58, 45] en r with
  | inl a => rw [hm] at h; simp at h
  | inr r1 =>
    rw [hm] at h
    have h1 := must_len (by simp) hm
    simp only at h
    cases hM : Pr.lits en (r1.length + 1) [] r1 with
    | inl a => rw [hM] at h; simp at h
    | inr y =>
      rw [hM] at h
      have h2 := lits_len _ _ _ _ _ hM
      simp only at h
      cases hm2 : Pr.must [46] en y.2 with
      | inl a => rw [hm2] at h; simp at h
      | inr r3 =>
        rw [hm2] at h
        have h3 := must_len (by simp) hm2
        simp only [Sum.inr.injEq] at h
        subst h
        show r3.length < r.length
        omega
theorem rule_len {en : Int} {r : List Tk.Tok} {x : Tr.Rule × List Tk.Tok} (h : Pr.rule en r = .inr x) : x.2.length < r.length := by
  unfold Pr.rule at h
  cases hn : Pr.name en r with
  | inl a => rw [hn] at h; simp at h
  | inr y =>
    rw [hn] at h
    have h1 := name_len hn
    simp only at h
    cases hT : Pr.terms true en y.2 with
    | inl a => rw [hT] at h; simp at h
    | inr z =>
      rw [hT] at h
      have h2 := terms_len hT
      simp only at h
      split at h
      · simp only [Sum.inr.injEq] at h
        subst h
        have : z.2.tail.length ≤ z.2.length := by simp
        show z.2.tail.length < r.length
        omega
      · have := tailOf_len h
        omega

theorem rules_step {en : Int} {f : Nat} {acc : List Tr.Rule} {r : List Tk.Tok} (h : ¬ r = []) : Pr.rules en (f + 1) acc r = match Pr.rule en r with
    | .inl a => .inl a
    | .inr x => Pr.rules en f (acc ++ [x.1]) x.2 := by
  cases r with
  | nil => exact absurd rfl h
  | cons t l =>
    rw [Pr.rules]
    cases Pr.rule en (t :: l) <;> rfl

/-- Where parse comes to the tokens' end. -/
theorem parse_done {w wr : World} {L : List Tk.Tok} {en : Int} {r : List Tk.Tok} {v : Value} {q : List (Tr.Rule × Value × Value)} (h : PInv w wr L en r v q) (hX : Pr.rules en L.length [] L = .inr (q.map (·.1))) (tmps : Array Value)
    (h4 : tmps[4]? = some (.pointer (some ⟨w.heap.size, 0, none⟩))) (h5 : tmps[5]? = some (.pointer (some ⟨w.heap.size + 1, 0, none⟩))) (h6 : tmps[6]? = some (.pointer (some ⟨w.heap.size + 2, 0, none⟩))) :
    Leaves Tryz.prog Tryz.f57 tmps (ParseEnd L en w) [{ target := .fn (.func 92) #[.pointer (some ⟨w.heap.size, 0, none⟩), .pointer (some ⟨w.heap.size + 1, 0, none⟩), .pointer (some ⟨w.heap.size + 2, 0, none⟩)], args := #[] }]
      .returning (((wr.setCell ⟨w.heap.size, 0, none⟩ v).setCell ⟨w.heap.size + 1, 0, none⟩ (.int .i64 0)).setCell ⟨w.heap.size + 2, 0, none⟩ (.int .i64 0)) := by
  have hs := h.sz
  obtain ⟨c0, c1, c2, _, _, _⟩ := h.cells
  refine leaves_cons (f := 92) (args := #[.pointer (some ⟨w.heap.size, 0, none⟩), .pointer (some ⟨w.heap.size + 1, 0, none⟩), .pointer (some ⟨w.heap.size + 2, 0, none⟩)]) (by simp) (by simp [go_sem]) ?_
  refine (catchP_idle _ _ _ _).mono ?_
  rintro e u' w2 ⟨rfl, rfl, rfl⟩
  have hres : (results Tryz.f57 tmps).run Tryz.prog (((wr.setCell ⟨w.heap.size, 0, none⟩ v).setCell ⟨w.heap.size + 1, 0, none⟩ (.int .i64 0)).setCell ⟨w.heap.size + 2, 0, none⟩ (.int .i64 0)) =
      .ok (.tuple #[.agg #[v], .int .i64 0, .int .i64 0]) (((wr.setCell ⟨w.heap.size, 0, none⟩ v).setCell ⟨w.heap.size + 1, 0, none⟩ (.int .i64 0)).setCell ⟨w.heap.size + 2, 0, none⟩ (.int .i64 0)) := by
    simp [results, Tryz.results57, go_sem, h4, h5, h6, c0, c1, c2]
  refine ⟨_, hres, ?_⟩
  unfold ParseEnd
  rw [hX]
  have hk : ∀ K, Keeps (w.heap.size + 4) wr (((wr.setCell ⟨w.heap.size, 0, none⟩ v).setCell ⟨w.heap.size + 1, 0, none⟩ (.int .i64 0)).setCell ⟨w.heap.size + 2, 0, none⟩ (.int .i64 0)) K := fun K => ((keeps_set _ (by omega) _ _).trans (keeps_set _ (by omega) _ _)).trans (keeps_set _ (by omega) _ _)
  refine ⟨v, rfl, ⟨q, rfl, RowP.mono (RowP.keep (rowP_own (by intro c hc; simp at hc; obtain ⟨x, y, z, _, rfl⟩ := hc; rfl) (by rw [List.length_map]; exact h.own)) (hk (· = 57)) rfl) (by omega), fun p hp => ⟨((h.rls p hp).1.keep (hk _)).mono (by omega), ((h.rls p hp).2.keep (hk _)).mono (by omega)⟩⟩, ?_⟩
  exact ((h.bel.setCell (p := ⟨w.heap.size, 0, none⟩) (Nat.le_refl _) _).setCell (p := ⟨w.heap.size + 1, 0, none⟩) (Nat.le_succ _) _).setCell (p := ⟨w.heap.size + 2, 0, none⟩) (show w.heap.size ≤ w.heap.size + 2 by omega) _

set_option maxRecDepth 100000 in
set_option maxHeartbeats 4000000 in
theorem parse_any (L : List Tk.Tok) (en : Int) (ao : Option Addr) (cap : Nat) (w : World) (hT : ToksAt w ao L) (hF : Fit L) :
    Calls Tryz.prog 57 #[.slice ao L.length cap, .int .i64 en] w (ParseEnd L en w) := by
  obtain ⟨i0, hi, hz0, hz1, hz2⟩ := info_parts A_info43
  have hmf : ∀ (fn : Fn) (first cap : Array Value) (w : World), (Instr.makeFunc fn first cap).run Tryz.prog w = .ok (.func fn first cap) w := fun _ _ _ _ => rfl
  have hst := PInv.start (en := en) (cap := cap) hT hF
  have HQ : Hid (∀ X, Pr.rules en L.length [] L = X → ∀ e w', (match X with
      | .inl a => e = .returned (.tuple #[.agg #[.slice none 0 0], .int .i64 a, .int .i64 1]) ∧ Below w.heap.size w w'
      | .inr t => ∃ v, e = .returned (.tuple #[.agg #[v], .int .i64 0, .int .i64 0]) ∧ RulesP w.heap.size w' v t ∧ Below w.heap.size w w') → ParseEnd L en w e w') := by
    rintro X rfl e w' h; exact h
  go_enter_defers Tryz.func57, Tryz.ntmps57
  go_wp2_with fail
  generalize (((w.alloc (.cells #[.slice none 0 0] 36)).alloc (.cells #[.int .i64 0] 3)).alloc (.cells #[.int .i64 0] 29)).alloc (.cells #[.slice ao L.length cap, .int .i64 0, .int .i64 en] 152) = w0 at *
  clear hT
  go_loopw [] (fun wr => ∃ (v : Value) (q : List (Tr.Rule × Value × Value)) (r : List Tk.Tok) (f : Nat), PInv w wr L en r v q ∧ q.length + r.length ≤ L.length ∧ r.length ≤ f ∧ Pr.rules en f (q.map (·.1)) r = Pr.rules en L.length [] L)
    (fun wr => L.length - nxOf wr (w.heap.size + 3))
  case atStart => exact ⟨.slice none 0 0, [], L, L.length, hst, by simp, Nat.le_refl _, rfl⟩
  case round =>
    obtain ⟨v, q, r, f, hI, hlen, hrf, hX⟩ := hrel
    have HX : Hid _ := hX
    obtain ⟨aov, capv, rfl⟩ := own_slice hI.own
    clear hX hst
    have hm3 := hF.1
    have hmeas := hI.par.meas.1
    obtain ⟨nx, h1, hdr, hF', ao', cap', hbk, hT'⟩ := hI.par
    have q0 : wr.cell? ⟨w.heap.size + 3, 0, none⟩ = some (.slice ao' L.length cap') := by rw [Lib.cell_of_heap hbk]; rfl
    have q1 : wr.cell? ⟨w.heap.size + 3, 1, none⟩ = some (.int .i64 nx) := by rw [Lib.cell_of_heap hbk]; rfl
    clear hbk hT' hF'
    by_cases hlt : nx < L.length
    · have hdc : decide ((nx : Int) < (L.length : Int)) = true := decide_eq_true (by omega)
      have hne : ¬ r = [] := by
        rintro rfl
        have := congrArg List.length hdr
        simp at this
        omega
      obtain ⟨f, rfl⟩ : ∃ f', f = f' + 1 := by
        cases r with
        | nil => exact absurd rfl hne
        | cons t l => exact ⟨f - 1, by simp at hrf; omega⟩
      have hstep := rules_step (en := en) (f := f) (acc := q.map (·.1)) hne
      have HX1 : Hid _ := hstep.symm.trans HX.out
      clear hstep HX hdr
      go_wp2_with fail
      go_quiet (fail)
      go_upto_region 4 with fail
      replace hI : PInv w (wr.drewN nq) L en r (.slice aov q.length capv) q := hI.below ⟨rfl, rfl, rfl, Nat.le_refl _, fun _ _ => rfl⟩
      replace hmeas : L.length - nxOf wr (w.heap.size + 3) = r.length := hmeas
      generalize wr.drewN nq = wq at *
      clear q0 q1
      obtain ⟨c0, c1, c2, f0, f1, f2⟩ := hI.cells
      cases hR : Pr.rule en r with
      | inl a =>
        have hXa : Pr.rules en L.length [] L = .inl a := by rw [← HX1.out, hR]
        have HN : Hid (∀ w1, At w1 (w.heap.size + 3) L en r → _) := fun w1 h => rule_any (w.heap.size + 3) L en r w1 h
        rw [hR] at HN
        have HG : Hid _ := hXa
        clear hXa HX1 HQ
        first | go_region_dies | fail
        all_goals (refine Calls.mono (HN.out _ (At.keep hI.par (fun _ _ => rfl))) ?_)
        all_goals rintro e y2 ⟨rfl, hg2⟩
        all_goals go_wp2_with fail
        all_goals refine parse_gives hI hg2 ⟨rfl, rfl, rfl, Nat.le_refl _, fun _ _ => rfl⟩ a HG.out _ rfl rfl rfl
      | inr x =>
        obtain ⟨u1, r2⟩ := x
        have HX2 : Hid (Pr.rules en f (q.map (·.1) ++ [u1]) r2 = Pr.rules en L.length [] L) := by
          have := HX1.out
          rw [hR] at this
          exact this
        have hl2 : r2.length < r.length := rule_len hR
        have HN : Hid (∀ w1, At w1 (w.heap.size + 3) L en r → _) := fun w1 h => rule_any (w.heap.size + 3) L en r w1 h
        rw [hR] at HN
        clear hR HX1 HQ
        refine wp_region_noPanic ?_
        go_region_law (first
          | (go_simp; go_at_call 93; refine Calls.mono (HN.out _ (At.keep hI.par (fun _ _ => rfl))) ?_; rintro e y2 ⟨tv, uv, rfl, hTt, hTl, hW2⟩; have hI2 := PInv.on2 hI hW2 ⟨rfl, rfl, rfl, Nat.le_refl _, fun _ _ => rfl⟩; have hTt2 := TermsP.mono (B' := w.heap.size + 4) hTt hI.sz; have hTl2 := LitsP.mono (B' := w.heap.size + 4) hTl hI.sz; obtain ⟨aot, capt, htv, hTt'⟩ := hTt; simp only [List.length_map] at htv; subst htv; obtain ⟨qq, hqq, ⟨aol, capl, hlv, hTl'⟩, hqt⟩ := hTl; simp only [List.length_map] at hlv; subst hlv; obtain ⟨d0, d1, d2, g0, g1, g2⟩ := hI2.cells; have hsz := hI2.sz; have hsz1 : w.heap.size < y2.heap.size := Nat.lt_of_lt_of_le (Nat.lt_add_of_pos_right (by decide)) hsz; dsimp only)
          | (refine step_append_lies _ rfl (.tmp 24) (.tmp 27) 34 rfl (w.heap.size + 4) 57 i0 _ 5 80 Tryz.underlying34 hi hz0 hz1 hz2 rfl (by decide) (.slice aov q.length capv) q.length _ ?hs (PInv.below hI2 ((Below.refl _ _).alloc (Nat.le_refl _) _)).own ⟨y2.heap.size, 0, none⟩ 1 1 (ruleCells (u1, .slice aot u1.terms.length capt, .slice aol qq.length capl)) ?hx rfl ?hn ?ho ?hm ?h6 ?hb ?hB _ rfl ?_
             case hs => simp [Act.eval]
             case hx => simp [Act.eval]
             case hn => exact news_rule _ _ _ _
             case ho => exact one_rule _ _ _ _ _ _ _
             case hm => decide
             case h6 => (unfold maxLen; omega)
             case hb => omega
             case hB => (simp; omega)
             intro g cap y3 hown hgrow hat hlt
             have hI3 := PInv.put (PInv.below hI2 ((Below.refl _ _).alloc (Nat.le_refl _) _)) hgrow (hTt2.keep (keeps_below _ ((Below.refl _ _).alloc (Nat.le_refl _) _))) (hTl2.keep (keeps_below _ ((Below.refl _ _).alloc (Nat.le_refl _) _))) hown
             obtain ⟨e0, ef⟩ := PInv.app (PInv.below hI2 ((Below.refl _ _).alloc (Nat.le_refl _) _)) hgrow))
        all_goals refine NoPanic.normal ?_
        all_goals go_wp2_with fail
        all_goals go_roundw
        all_goals first
          | exact ⟨_, q ++ [(u1, _, _)], r2, f, hI3, by rw [List.length_append]; simp; omega, by omega, by simpa using HX2.out⟩
          | (rw [hI3.par.meas.1, hmeas]; omega)
    · have hdc : decide ((nx : Int) < (L.length : Int)) = false := decide_eq_false (by omega)
      have hr : r = [] := by rw [← hdr]; exact List.drop_of_length_le (by omega)
      subst hr
      have hXe : Pr.rules en L.length [] L = .inr (q.map (·.1)) := by
        have := HX.out
        cases f <;> simpa [Pr.rules] using this.symm
      obtain ⟨c0, c1, c2, f0, f1, f2⟩ := hI.cells
      go_wp2_with fail
      go_quiet (fail)
      go_wp2_with fail
      exact parse_done (hI.below (w' := wr.drewN nq) ⟨rfl, rfl, rfl, Nat.le_refl _, fun _ _ => rfl⟩) hXe _ rfl rfl rfl

end Go.Proofs.YtgpaleifhcdjnaaGreatDoor

/- Tokens that are scanned fit the parser: numbers are digits, not many. -/
namespace Go.Proofs.YtgpaleifhcdjnaaGreatDoor
namespace Tk

/-- A token as one stands at the head of bytes that begin a right one. -/
def Good (t : Tok) : Prop := ∃ l, l ≠ [] ∧ errOf l = 0 ∧ t.kind = kindOf l ∧ t.text = l.take (lenOf l)

theorem scanP_good (L : List UInt8) : ∀ (f p : Nat) (acc : List Tok), (∀ t ∈ acc, Good t) → ∀ t ∈ (scanP L f p acc).1, Good t
  | 0, _, acc, h => by rw [scanP]; exact h
  | f + 1, p, acc, h => by
    rw [scanP]
    by_cases h1 : L.length ≤ p
    · rw [if_pos h1]; exact h
    · rw [if_neg h1]
      by_cases h2 : errOf (L.drop p) = 0
      · rw [if_pos h2]
        refine scanP_good L f _ _ fun t ht => ?_
        rw [List.mem_append, List.mem_singleton] at ht
        rcases ht with ht | rfl
        · exact h t ht
        · exact ⟨L.drop p, by intro e; have := congrArg List.length e; simp at this; omega, h2, rfl, rfl⟩
      · rw [if_neg h2]; intro t ht; exact absurd ht (by simp)
theorem scan_good (L : List UInt8) : ∀ t ∈ (scan L).1, Good t := by
  unfold scan
  split
  · intro t ht; exact absurd ht (by simp)
  · exact scanP_good L _ _ _ (fun t ht => absurd ht (by simp))

theorem scanP_length (L : List UInt8) : ∀ (f p : Nat) (acc : List Tok), (scanP L f p acc).1.length ≤ acc.length + f
  | 0, _, acc => by rw [scanP]; simp
  | f + 1, p, acc => by
    rw [scanP]
    by_cases h1 : L.length ≤ p
    · rw [if_pos h1]; simp
    · rw [if_neg h1]
      by_cases h2 : errOf (L.drop p) = 0
      · rw [if_pos h2]
        refine Nat.le_trans (scanP_length L f _ _) ?_
        simp; omega
      · rw [if_neg h2]; simp
theorem scan_length (L : List UInt8) : (scan L).1.length ≤ 5000 := by
  unfold scan
  by_cases h : 5000 < L.length
  · rw [if_pos h]; simp
  · rw [if_neg h]
    have := scanP_length L L.length (sep false L) []
    simp at this
    omega

theorem take_pre (p : Int → Bool) : ∀ (l : List UInt8), ∀ b ∈ l.take (pre p l), p (b.toNat : Int) = true
  | [], b, hb => absurd hb (by simp)
  | c :: r, b, hb => by
    rw [pre] at hb
    by_cases h : p (c.toNat : Int) = true
    · rw [if_pos h, List.take_succ_cons, List.mem_cons] at hb
      rcases hb with rfl | hb
      · exact h
      · exact take_pre p r b hb
    · rw [if_neg h] at hb; exact absurd hb (by simp)

theorem decFrom_digits : ∀ (l : List UInt8) (acc : Nat), (∀ b ∈ l, digit (b.toNat : Int) = true) → ∃ n, Lib.decFrom acc l = some n
  | [], acc, _ => ⟨acc, rfl⟩
  | c :: r, acc, h => by
    have hc := h c (by simp)
    unfold digit at hc
    simp only [Bool.and_eq_true, decide_eq_true_eq] at hc
    have hv : Lib.digitVal c = some (c.toNat - 48) := by unfold Lib.digitVal; rw [if_pos (by omega)]
    obtain ⟨n, hn⟩ := decFrom_digits r (acc * 10 + (c.toNat - 48)) (fun b hb => h b (by simp [hb]))
    exact ⟨n, by unfold Lib.decFrom; rw [hv]; exact hn⟩

/-- The number token: digits, from one to seven. -/
theorem Good.number {t : Tok} (h : Good t) (hk : t.kind = 3) : (∃ c r, t.text = c :: r) ∧ t.text.length ≤ 7 ∧ ∀ b ∈ t.text, digit (b.toNat : Int) = true := by
  obtain ⟨l, hne, he, h1, h2⟩ := h
  match l, hne with
  | c :: r, _ =>
    rw [hk] at h1
    unfold kindOf at h1
    unfold errOf at he
    unfold lenOf at h2
    simp only at h1 he h2
    by_cases hs : small c.toNat = true
    · rw [if_pos hs] at h1; exact absurd h1 (by decide)
    · by_cases hg : great c.toNat = true
      · rw [if_neg hs, if_pos hg] at h1; exact absurd h1 (by decide)
      · by_cases hd : digit c.toNat = true
        · have hsg : ¬ (small c.toNat || great c.toNat) = true := by simp [hs, hg]
          rw [if_neg hsg, if_pos hd] at he h2
          have hp : 1 ≤ pre digit (c :: r) := pre_pos hd
          have hp7 : pre digit (c :: r) ≤ 7 := by
            by_cases h7 : pre digit (c :: r) > 7
            · rw [if_pos h7] at he; exact absurd he (by decide)
            · omega
          refine ⟨?_, ?_, ?_⟩
          · obtain ⟨k, hk⟩ : ∃ k, pre digit (c :: r) = k + 1 := ⟨pre digit (c :: r) - 1, by omega⟩
            exact ⟨c, r.take k, by rw [h2, hk, List.take_succ_cons]⟩
          · rw [h2, List.length_take]; omega
          · rw [h2]; exact take_pre digit _
        · rw [if_neg hs, if_neg hg, if_neg hd] at h1; exact absurd h1 (by decide)

theorem atoi_digits {c : UInt8} {r : List UInt8} (h : ∀ b ∈ c :: r, digit (b.toNat : Int) = true) : ∃ n : Nat, Lib.decFrom 0 (c :: r) = some n ∧ Lib.atoi (c :: r) = some (n : Int) := by
  obtain ⟨n, hn⟩ := decFrom_digits (c :: r) 0 h
  refine ⟨n, hn, ?_⟩
  have hc := h c (by simp)
  unfold digit at hc
  simp only [Bool.and_eq_true, decide_eq_true_eq] at hc
  have h43 : ¬ c = 43 := by rintro rfl; simp at hc
  have h45 : ¬ c = 45 := by rintro rfl; simp at hc
  unfold Lib.atoi
  simp [h43, h45, Lib.decNat, hn]
end Tk

theorem fit_scan (L : List UInt8) : Fit (Tk.scan L).1 := by
  refine ⟨Tk.scan_length L, fun t ht hk => ?_⟩
  obtain ⟨⟨c, r, hcr⟩, h7, hd⟩ := (Tk.scan_good L t ht).number hk
  rw [hcr] at hd h7 ⊢
  obtain ⟨n, _, hn⟩ := Tk.atoi_digits hd
  exact ⟨by omega, n, hn⟩

end Go.Proofs.YtgpaleifhcdjnaaGreatDoor

/- Package tree: Parse answers the tree of a text, or where it is wrong and why. -/
namespace Go.Proofs.YtgpaleifhcdjnaaGreatDoor
open Go.RowKit

/-- What Parse leaves. -/
def ParseTop (X : List Tr.Rule × Int × Int) (w : World) (e : Ending) (w' : World) : Prop :=
  ∃ ao cap, e = .returned (.tuple #[.agg #[.slice ao X.1.length cap], .int .i64 X.2.1, .int .i64 X.2.2]) ∧ RulesP w.heap.size w' (.slice ao X.1.length cap) X.1 ∧ Below w.heap.size w w'

theorem rulesP_nil (B : Nat) (w : World) : RulesP B w (.slice none 0 0) [] := ⟨[], rfl, ⟨none, 0, rfl, .inl rfl⟩, fun _ hp => absurd hp (by simp)⟩
theorem RulesP.mono {B B' : Nat} {w : World} {v : Value} {l : List Tr.Rule} (h : RulesP B w v l) (hB : B' ≤ B) : RulesP B' w v l := by
  obtain ⟨q, h1, h2, h3⟩ := h
  exact ⟨q, h1, h2.mono hB, fun p hp => ⟨(h3 p hp).1.mono hB, (h3 p hp).2.mono hB⟩⟩
theorem RulesP.set {B b : Nat} {w : World} {v : Value} {l : List Tr.Rule} (h : RulesP B w v l) (hB : b < B) (o : Nat) (u : Value) : RulesP B (w.setCell ⟨b, o, none⟩ u) v l := by
  obtain ⟨q, h1, h2, h3⟩ := h
  exact ⟨q, h1, h2.keep (keeps_set (· = 57) hB _ _) rfl, fun p hp => ⟨(h3 p hp).1.keep (keeps_set _ hB _ _), (h3 p hp).2.keep (keeps_set _ hB _ _)⟩⟩
theorem RulesP.slice {B : Nat} {w : World} {v : Value} {l : List Tr.Rule} (h : RulesP B w v l) : ∃ ao cap, v = .slice ao l.length cap := by
  obtain ⟨q, rfl, ⟨ao, cap, hv, _⟩, _⟩ := h
  exact ⟨ao, cap, by rw [hv]; simp⟩
theorem RulesP.below {B : Nat} {w w' : World} {v : Value} {l : List Tr.Rule} (h : RulesP B w v l) (hb : Below w.heap.size w w') : RulesP B w' v l := by
  obtain ⟨q, h1, h2, h3⟩ := h
  exact ⟨q, h1, h2.keep (keeps_below (· = 57) hb) rfl, fun p hp => ⟨(h3 p hp).1.keep (keeps_below _ hb), (h3 p hp).2.keep (keeps_below _ hb)⟩⟩

/-- What Parse makes of what Scan answers. -/
def Pr.parseOf (n : Int) (X : List Tk.Tok × Nat × Int) : List Tr.Rule × Int × Int :=
  if X.2.2 = 0 then match Pr.rules n X.1.length [] X.1 with
    | .inl a => ([], a, 1)
    | .inr t => if Tr.check t = 0 then (t, 0, 0) else ([], 0, Tr.check t)
  else ([], X.2.1, X.2.2)
theorem parse_eq (s : ByteArray) : Pr.parse s.data.toList = Pr.parseOf s.size (Tk.scan s.data.toList) := by
  have h : ((s.data.toList.length : Nat) : Int) = s.size := by rw [Array.length_toList]; rfl
  unfold Pr.parse Pr.parseOf
  rw [h]
  split
  · cases Pr.rules (s.size : Int) (Tk.scan s.data.toList).1.length [] (Tk.scan s.data.toList).1 <;> rfl
  · rfl

/-- The block of a tree that is answered. -/
theorem tree_cell {w1 : World} {b : Nat} {v : Value} (h : w1.heap[b]? = some (.cells #[v] 36)) : w1.cell? ⟨b, 0, none⟩ = some v ∧ w1.frozen? ⟨b, 0, none⟩ = false := ⟨by rw [Lib.cell_of_heap h]; rfl, by simp [World.frozen?, h]⟩

set_option maxRecDepth 100000 in
set_option maxHeartbeats 1000000 in
theorem Parse_any (s : ByteArray) (w : World) : Calls Tryz.prog 22 #[.string s] w (ParseTop (Pr.parse s.data.toList) w) := by
  rw [parse_eq]
  have HS : Hid (∀ w, Calls Tryz.prog 21 #[.string s] w (ScanTop s.data.toList w)) := fun w => Scan_any s w
  have hF : Fit (Tk.scan s.data.toList).1 := fit_scan _
  unfold ScanTop at HS
  rcases hX : Tk.scan s.data.toList with ⟨T, p, E⟩
  rw [hX] at HS hF
  simp only at HS hF
  clear hX
  have HQ : Hid (∀ X, Pr.parseOf s.size (T, p, E) = X → ∀ e w', ParseTop X w e w' → ParseTop (Pr.parseOf s.size (T, p, E)) w e w') := by rintro X rfl e w' h; exact h
  generalize ParseTop (Pr.parseOf s.size (T, p, E)) w = Q at HQ ⊢
  go_enter Tryz.func22, Tryz.ntmps22
  go_wp2_with fail
  refine Calls.mono (HS.out _) ?_
  rintro e w1 ⟨ao, cap, rfl, hown, hb⟩
  have hT := toksAt_own hown
  clear hown HS
  have hres : w1.heap[w.heap.size]? = some (.cells #[.slice none 0 0] 36) := (hb.block _ (by simp)).trans (heap_alloc_new w _)
  have hbw : Below w.heap.size w w1 := ((Below.refl w.heap.size w).alloc (Nat.le_refl _) _).trans (hb.mono (by simp))
  obtain ⟨c0, f0⟩ := tree_cell hres
  cases hE : (E == 0)
  · have HP2 : Hid (Pr.parseOf s.size (T, p, E) = ([], (p : Int), E)) := by
      unfold Pr.parseOf
      rw [if_neg (by intro e; simp only at e; rw [e] at hE; exact absurd hE (by decide))]
      exact rfl
    go_wp2_with fail
    exact bodyPost_ret (v := .tuple #[.agg #[.slice none 0 0], .int .i64 p, .int .i64 E]) (by simp [results, Tryz.results22, go_sem, c0]) rfl (HQ.out _ HP2.out _ _ ⟨none, 0, rfl, rulesP_nil _ _, hbw.setCell (p := ⟨w.heap.size, 0, none⟩) (Nat.le_refl _) _⟩)
  · obtain rfl : E = 0 := eq_of_beq hE
    have HP2 : Hid (Pr.parseOf s.size (T, p, 0) = match Pr.rules s.size T.length [] T with
      | .inl a => ([], a, 1)
      | .inr t => if Tr.check t = 0 then (t, 0, 0) else ([], 0, Tr.check t)) := by
      unfold Pr.parseOf
      rw [if_pos rfl]
      exact rfl
    have HC : Hid (∀ w, ToksAt w ao T → Calls Tryz.prog 57 #[.slice ao T.length cap, .int .i64 s.size] w (ParseEnd T s.size w)) := fun w h => parse_any T s.size ao cap w h hF
    unfold ParseEnd at HC
    go_wp2_with fail
    refine Calls.mono (HC.out _ hT) ?_
    clear HC hE c0 f0 hT hb
    cases hR : Pr.rules s.size T.length [] T with
    | inl a =>
      have HP3 : Hid (Pr.parseOf s.size (T, p, 0) = ([], a, 1)) := by
        have := HP2.out
        rw [hR] at this
        exact this
      clear hR HP2
      rintro e w2 ⟨rfl, hb2⟩
      have hres2 := (hb2.block _ (heap_lt hres)).trans hres
      have hbw2 := hbw.trans (hb2.mono hbw.size)
      obtain ⟨c0, f0⟩ := tree_cell hres2
      have hlt : w.heap.size < w2.heap.size := heap_lt hres2
      go_wp2_with fail
      exact bodyPost_ret (v := .tuple #[.agg #[.slice none 0 0], .int .i64 a, .int .i64 1]) (by simp [results, Tryz.results22, go_sem, c0, hlt]) rfl (HQ.out _ HP3.out _ _ ⟨none, 0, rfl, rulesP_nil _ _, (hbw2.setCell (p := ⟨w.heap.size, 0, none⟩) (Nat.le_refl _) _).alloc (by simp; exact hbw2.size) _⟩)
    | inr t =>
      have HP3 : Hid (Pr.parseOf s.size (T, p, 0) = if Tr.check t = 0 then (t, 0, 0) else ([], 0, Tr.check t)) := by
        have := HP2.out
        rw [hR] at this
        exact this
      clear hR HP2
      rintro e w2 ⟨v, rfl, hP, hb2⟩
      have hres2 := (hb2.block _ (heap_lt hres)).trans hres
      have hbw2 := hbw.trans (hb2.mono hbw.size)
      obtain ⟨c0, f0⟩ := tree_cell hres2
      have hlt : w.heap.size < w2.heap.size := heap_lt hres2
      obtain ⟨aot, capt, rfl⟩ := hP.slice
      have hP1 := hP.below ((Below.refl _ _).alloc (Nat.le_refl _) (.cells #[.slice aot t.length capt] 36))
      have hres3 := (((Below.refl w2.heap.size w2).alloc (Nat.le_refl _) (.cells #[.slice aot t.length capt] 36)).block _ hlt).trans hres2
      have hbw3 := hbw2.alloc hbw2.size (.cells #[.slice aot t.length capt] 36)
      have htr := heap_alloc_new w2 (.cells #[.slice aot t.length capt] 36)
      have HK : Hid (∀ w, RulesV w (.slice aot t.length capt) t → Calls Tryz.prog 41 #[.agg #[.slice aot t.length capt]] w fun e w' => e = .returned (.int .i64 (Tr.check t)) ∧ Below w.heap.size w w') := fun w h => Check_any t _ w h
      go_wp2_with fail
      refine Calls.mono (HK.out _ hP1.toV) ?_
      rintro e w3 ⟨rfl, hb3⟩
      have hres4 := (hb3.block _ (heap_lt hres3)).trans hres3
      have htr4 := (hb3.block _ (heap_lt htr)).trans htr
      have hbw4 := hbw3.trans (hb3.mono hbw3.size)
      have hP4 := hP1.below hb3
      have hlt1 := heap_lt hres
      clear HK hP1 hres3 htr hbw3 hb3 hP hres2 hbw2 hb2 c0 f0
      obtain ⟨c0, f0⟩ := tree_cell hres4
      obtain ⟨c1, f1⟩ := tree_cell htr4
      cases hC : (Tr.check t == 0)
      · have HP4 : Hid (Pr.parseOf s.size (T, p, 0) = ([], 0, Tr.check t)) := by
          have := HP3.out
          rw [if_neg (by intro e; rw [e] at hC; exact absurd hC (by decide))] at this
          exact this
        go_wp2_with fail
        exact bodyPost_ret (v := .tuple #[.agg #[.slice none 0 0], .int .i64 0, .int .i64 (Tr.check t)]) (by simp [results, Tryz.results22, go_sem, c0]) rfl (HQ.out _ HP4.out _ _ ⟨none, 0, rfl, rulesP_nil _ _, hbw4.setCell (p := ⟨w.heap.size, 0, none⟩) (Nat.le_refl _) _⟩)
      · have HP4 : Hid (Pr.parseOf s.size (T, p, 0) = (t, 0, 0)) := by
          have := HP3.out
          rw [if_pos (eq_of_beq hC)] at this
          exact this
        go_wp2_with fail
        exact bodyPost_ret (v := .tuple #[.agg #[.slice aot t.length capt], .int .i64 0, .int .i64 0]) (by simp [results, Tryz.results22, go_sem, c0]) rfl (HQ.out _ HP4.out _ _ ⟨aot, capt, rfl, (hP4.set hlt1 _ _).mono hbw.size, hbw4.setCell (p := ⟨w.heap.size, 0, none⟩) (Nat.le_refl _) _⟩)

end Go.Proofs.YtgpaleifhcdjnaaGreatDoor

/- What is parsed hangs on kinds and texts alone, but for where all begins. -/
namespace Go.Proofs.YtgpaleifhcdjnaaGreatDoor
namespace Pr

def er (t : Tk.Tok) : Tk.Tok := ⟨t.kind, 0, t.text⟩
def erL (x : Tr.Lit) : Tr.Lit := ⟨x.kind, 0, x.op, x.name, x.terms⟩
def erR (r : Tr.Rule) : Tr.Rule := ⟨0, r.name, r.terms, r.fold, r.body.map erL⟩
def zap {α β : Type} (f : α → β) : Int ⊕ (α × List Tk.Tok) → Int ⊕ (β × List Tk.Tok)
  | .inl _ => .inl 0
  | .inr x => .inr (f x.1, x.2.map er)

theorem hd_kind (en : Int) (r : List Tk.Tok) : (hd 0 (r.map er)).kind = (hd en r).kind := by cases r <;> rfl
theorem hd_text (en : Int) (r : List Tk.Tok) : (hd 0 (r.map er)).text = (hd en r).text := by cases r <;> rfl
theorem hd_at (r : List Tk.Tok) : (hd 0 (r.map er)).at_ = 0 := by cases r <;> rfl
theorem tail_er (r : List Tk.Tok) : (r.map er).tail = r.tail.map er := by cases r <;> rfl
theorem isText_er (en : Int) (r : List Tk.Tok) (t : List UInt8) : isText 0 (r.map er) t = isText en r t := by unfold isText; rw [hd_text en]

theorem must_er (t : List UInt8) (en : Int) (r : List Tk.Tok) : must t 0 (r.map er) = match must t en r with | .inl _ => .inl 0 | .inr x => .inr (x.map er) := by
  unfold must
  rw [hd_text en, hd_at, tail_er]
  by_cases h : ((hd en r).text == t) = true
  · rw [if_pos h, if_pos h]
  · rw [if_neg h, if_neg h]
theorem name_er (en : Int) (r : List Tk.Tok) : name 0 (r.map er) = zap id (name en r) := by
  unfold name
  rw [hd_text en, hd_kind en, hd_at, tail_er]
  by_cases h : (((hd en r).kind == 1) && !Tr.isWord (hd en r).text) = true
  · rw [if_pos h, if_pos h]; rfl
  · rw [if_neg h, if_neg h]; rfl
theorem number_er (en : Int) (r : List Tk.Tok) : number 0 (r.map er) = zap id (number en r) := by
  unfold number
  rw [hd_text en, hd_kind en, hd_at, tail_er]
  by_cases h : ((hd en r).kind == 3) = true
  · rw [if_pos h, if_pos h]; rfl
  · rw [if_neg h, if_neg h]; rfl
theorem neg_er (en : Int) (r : List Tk.Tok) : neg 0 (r.map er) = zap id (neg en r) := by
  unfold neg
  rw [hd_text en, hd_at, number_er en]
  by_cases h : ((hd en r).text == [48]) = true
  · rw [if_pos h, if_pos h]; rfl
  · rw [if_neg h, if_neg h]
    cases number en r <;> rfl
theorem term_er (en : Int) (r : List Tk.Tok) : term 0 (r.map er) = zap id (term en r) := by
  unfold term
  rw [hd_text en, hd_kind en, tail_er, must_er [45] en]
  by_cases h : ((hd en r).kind == 2) = true
  · rw [if_pos h, if_pos h]; rfl
  · rw [if_neg h, if_neg h]
    by_cases h2 : ((hd en r).kind == 3) = true
    · rw [if_pos h2, if_pos h2]; rfl
    · rw [if_neg h2, if_neg h2]
      cases must [45] en r with
      | inl a => rfl
      | inr x => exact neg_er en x
theorem foldAt_er (en : Int) (r : List Tk.Tok) : foldAt 0 (r.map er) = ((foldAt en r).1, (foldAt en r).2.map er) := by
  unfold foldAt
  rw [hd_text en, tail_er]
  by_cases h : (Tr.foldOf (hd en r).text != 0) = true
  · rw [if_pos h, if_pos h]
  · rw [if_neg h, if_neg h]
theorem foldMay_er (may : Bool) (en : Int) (r : List Tk.Tok) : foldMay may 0 (r.map er) = ((foldMay may en r).1, (foldMay may en r).2.map er) := by
  unfold foldMay
  cases may
  · rfl
  · exact foldAt_er en r
theorem more_er (may : Bool) (en : Int) : ∀ (f : Nat) (acc : List Tr.Term) (r : List Tk.Tok), more may 0 f acc (r.map er) = zap id (more may en f acc r)
  | 0, _, _ => rfl
  | f + 1, acc, r => by
    unfold more
    rw [foldMay_er may en]
    simp only
    rw [term_er en]
    cases term en (foldMay may en r).2 with
    | inl a => rfl
    | inr x =>
      simp only [zap, id]
      rw [isText_er en, tail_er]
      by_cases h : (((foldMay may en r).1 == 0) && isText en x.2 [44]) = true
      · rw [if_pos h, if_pos h]; exact more_er may en f _ _
      · rw [if_neg h, if_neg h]
theorem inside_er (may : Bool) (en : Int) (r : List Tk.Tok) : inside may 0 (r.map er) = zap id (inside may en r) := by
  unfold inside
  rw [isText_er en, tail_er, List.length_map, more_er may en]
  by_cases h : isText en r [41] = true
  · rw [if_pos h, if_pos h]; rfl
  · rw [if_neg h, if_neg h]
    cases more may en (r.length + 1) [] r with
    | inl a => rfl
    | inr x =>
      simp only [zap, id]
      rw [must_er [41] en]
      cases must [41] en x.2 <;> rfl
theorem terms_er (may : Bool) (en : Int) (r : List Tk.Tok) : terms may 0 (r.map er) = zap id (terms may en r) := by
  unfold terms
  rw [must_er [40] en]
  cases must [40] en r with
  | inl a => rfl
  | inr x => exact inside_er may en x
theorem op_er (en : Int) (r : List Tk.Tok) : op 0 (r.map er) = zap id (op en r) := by
  unfold op
  rw [hd_text en, hd_at, tail_er]
  by_cases h : (opOf (hd en r).text != 0) = true
  · rw [if_pos h, if_pos h]; rfl
  · rw [if_neg h, if_neg h]; rfl
theorem atom_er (kind at_ en : Int) (r : List Tk.Tok) : atom kind 0 0 (r.map er) = zap erL (atom kind at_ en r) := by
  unfold atom
  rw [name_er en]
  cases name en r with
  | inl a => rfl
  | inr x =>
    simp only [zap, id]
    rw [terms_er false en]
    cases terms false en x.2 <;> rfl
theorem calcLit_er (at_ o : Int) (a b : Tr.Term) (en : Int) (r : List Tk.Tok) : calcLit 0 o a b 0 (r.map er) = zap erL (calcLit at_ o a b en r) := by
  unfold calcLit
  rw [must_er [61] en]
  cases must [61] en r with
  | inl p => rfl
  | inr x =>
    simp only
    rw [term_er en]
    cases term en x <;> rfl
theorem reckon_er (at_ en : Int) (r : List Tk.Tok) : reckon 0 0 (r.map er) = zap erL (reckon at_ en r) := by
  unfold reckon
  rw [term_er en]
  cases term en r with
  | inl p => rfl
  | inr a =>
    simp only [zap, id]
    rw [op_er en]
    cases op en a.2 with
    | inl p => rfl
    | inr o =>
      simp only [zap, id]
      rw [term_er en]
      cases term en o.2 with
      | inl p => rfl
      | inr b =>
        simp only [zap, id]
        by_cases h : Tr.between o.1 5 7 = true
        · rw [if_pos h, if_pos h]; exact calcLit_er at_ o.1 a.1 b.1 en b.2
        · rw [if_neg h, if_neg h]; rfl
theorem lit_er (en : Int) (r : List Tk.Tok) : lit 0 (r.map er) = zap erL (lit en r) := by
  unfold lit
  rw [isText_er en, hd_at, hd_kind en, tail_er]
  by_cases h : isText en r [110, 111, 116] = true
  · rw [if_pos h, if_pos h]; exact atom_er 2 _ en _
  · rw [if_neg h, if_neg h]
    by_cases h2 : ((hd en r).kind == 1) = true
    · rw [if_pos h2, if_pos h2]; exact atom_er 1 _ en _
    · rw [if_neg h2, if_neg h2]; exact reckon_er _ en _
theorem lits_er (en : Int) : ∀ (f : Nat) (acc : List Tr.Lit) (r : List Tk.Tok), lits 0 f (acc.map erL) (r.map er) = zap (List.map erL) (lits en f acc r)
  | 0, _, _ => rfl
  | f + 1, acc, r => by
    unfold lits
    rw [lit_er en]
    cases lit en r with
    | inl a => rfl
    | inr x =>
      simp only [zap]
      rw [isText_er en, tail_er, show acc.map erL ++ [erL x.1] = (acc ++ [x.1]).map erL by simp]
      by_cases h : isText en x.2 [44] = true
      · rw [if_pos h, if_pos h]; exact lits_er en f _ _
      · rw [if_neg h, if_neg h]
theorem tailOf_er (at_ : Int) (nm : List UInt8) (l : List Tr.Term) (fo en : Int) (r : List Tk.Tok) : tailOf 0 nm l fo 0 (r.map er) = zap erR (tailOf at_ nm l fo en r) := by
  unfold tailOf
  rw [must_er [58, 45] en]
  cases must [58, 45] en r with
  | inl p => rfl
  | inr x =>
    simp only
    rw [List.length_map, show ([] : List Tr.Lit) = ([] : List Tr.Lit).map erL from rfl, lits_er en]
    simp only [List.map_nil]
    cases lits en (x.length + 1) [] x with
    | inl p => rfl
    | inr b =>
      simp only [zap]
      rw [must_er [46] en]
      cases must [46] en b.2 <;> rfl
theorem rule_er (en : Int) (r : List Tk.Tok) : rule 0 (r.map er) = zap erR (rule en r) := by
  unfold rule
  rw [name_er en, hd_at]
  cases name en r with
  | inl p => rfl
  | inr x =>
    simp only [zap, id]
    rw [terms_er true en]
    cases terms true en x.2 with
    | inl p => rfl
    | inr y =>
      simp only [zap, id]
      rw [isText_er en, tail_er]
      by_cases h : ((y.1.2 == 0) && isText en y.2 [46]) = true
      · rw [if_pos h, if_pos h]; rfl
      · rw [if_neg h, if_neg h]; exact tailOf_er _ _ _ _ en _
theorem rules_er (en : Int) : ∀ (f : Nat) (acc : List Tr.Rule) (r : List Tk.Tok), rules 0 f (acc.map erR) (r.map er) = match rules en f acc r with | .inl _ => .inl 0 | .inr t => .inr (t.map erR)
  | 0, _, _ => rfl
  | f + 1, acc, r => by
    cases r with
    | nil => rfl
    | cons t r =>
      have h := rule_er en (t :: r)
      rw [List.map_cons] at h ⊢
      unfold rules
      simp only
      rw [h]
      cases rule en (t :: r) with
      | inl a => rfl
      | inr x =>
        simp only [zap]
        rw [show acc.map erR ++ [erR x.1] = (acc ++ [x.1]).map erR by simp]
        exact rules_er en f _ _
end Pr
end Go.Proofs.YtgpaleifhcdjnaaGreatDoor

/- What is joined is scanned as it was, and what is scanned is joined: plain lists of bytes. -/
namespace Go.Proofs.YtgpaleifhcdjnaaGreatDoor
open Go.RowKit

theorem pre_take (p : Int → Bool) (l : List UInt8) : Tk.pre p (l.take (Tk.pre p l)) = Tk.pre p l := by
  induction l with
  | nil => rfl
  | cons c r ih =>
    by_cases h : p c.toNat = true
    · rw [Tk.pre, if_pos h, List.take_succ_cons, Tk.pre, if_pos h, ih]
    · rw [Tk.pre, if_neg h]; rfl

/-- All of it is such, and what follows is not. -/
theorem pre_append (p : Int → Bool) : ∀ (t r : List UInt8), Tk.pre p t = t.length → (∀ c s, r = c :: s → p c.toNat = false) → Tk.pre p (t ++ r) = t.length := by
  intro t
  induction t with
  | nil =>
    intro r _ hr
    cases r with
    | nil => rfl
    | cons c s => rw [List.nil_append, Tk.pre, if_neg (by simp [hr c s rfl])]; rfl
  | cons c t ih =>
    intro r ht hr
    by_cases h : p c.toNat = true
    · rw [Tk.pre, if_pos h] at ht
      rw [List.cons_append, Tk.pre, if_pos h, ih r (by simpa using ht) hr]
      rfl
    · rw [Tk.pre, if_neg h] at ht
      exact absurd ht (by simp)

theorem sign_cases (c : UInt8) (r : List UInt8) : (Tk.signLen (c :: r) = 2 ∧ ∃ d s, r = d :: s ∧ ((c = 58 ∧ d = 45) ∨ (c = 60 ∧ d = 61) ∨ (c = 33 ∧ d = 61))) ∨
    (¬ (∃ d s, r = d :: s ∧ ((c = 58 ∧ d = 45) ∨ (c = 60 ∧ d = 61) ∨ (c = 33 ∧ d = 61))) ∧ Tk.signLen (c :: r) = if Tk.isSign c then 1 else 0) := by
  have key : ∀ a b : UInt8, [a, b].isPrefixOf (c :: r) = true ↔ ∃ d s, r = d :: s ∧ c = a ∧ d = b := by
    intro a b
    cases r with
    | nil => simp [List.isPrefixOf]
    | cons d s =>
      simp only [List.isPrefixOf, Bool.and_true, Bool.and_eq_true, beq_iff_eq]
      constructor
      · rintro ⟨rfl, rfl⟩; exact ⟨_, _, rfl, rfl, rfl⟩
      · rintro ⟨d', s', e, rfl, rfl⟩
        injection e with e1 _
        exact ⟨rfl, e1.symm⟩
  by_cases h : ([58, 45].isPrefixOf (c :: r) || [60, 61].isPrefixOf (c :: r) || [33, 61].isPrefixOf (c :: r)) = true
  · left
    refine ⟨by rw [Tk.signLen, if_pos h], ?_⟩
    simp only [Bool.or_eq_true] at h
    rcases h with (h | h) | h
    · obtain ⟨d, s, e, h1, h2⟩ := (key _ _).1 h; exact ⟨d, s, e, .inl ⟨h1, h2⟩⟩
    · obtain ⟨d, s, e, h1, h2⟩ := (key _ _).1 h; exact ⟨d, s, e, .inr (.inl ⟨h1, h2⟩)⟩
    · obtain ⟨d, s, e, h1, h2⟩ := (key _ _).1 h; exact ⟨d, s, e, .inr (.inr ⟨h1, h2⟩)⟩
  · right
    refine ⟨?_, by rw [Tk.signLen, if_neg h]⟩
    rintro ⟨d, s, e, h1 | h1 | h1⟩
    · exact h (by rw [(key 58 45).2 ⟨d, s, e, h1⟩]; rfl)
    · exact h (by rw [(key 60 61).2 ⟨d, s, e, h1⟩]; simp)
    · exact h (by rw [(key 33 61).2 ⟨d, s, e, h1⟩]; simp)

/-- A token stands alone as it stood in the text. -/
theorem tok_take (c : UInt8) (r : List UInt8) (he : Tk.errOf (c :: r) = 0) : Tk.isTok (Tk.kindOf (c :: r)) ((c :: r).take (Tk.lenOf (c :: r))) = true := by
  have hpos := Tk.lenOf_pos (c :: r) (by simp) he
  have hle := Tk.lenOf_le (c :: r)
  obtain ⟨n, hn⟩ : ∃ n, Tk.lenOf (c :: r) = n + 1 := ⟨Tk.lenOf (c :: r) - 1, by omega⟩
  have ht : (c :: r).take (Tk.lenOf (c :: r)) = c :: r.take n := by rw [hn, List.take_succ_cons]
  have hlt : (c :: r.take n).length = Tk.lenOf (c :: r) := by rw [← ht, List.length_take]; omega
  have hlen : Tk.lenOf (c :: r.take n) = Tk.lenOf (c :: r) := by
    rw [lenOf_cons, lenOf_cons] at *
    by_cases h1 : (Tk.small c.toNat || Tk.great c.toNat) = true
    · rw [if_pos h1] at *
      rw [if_pos h1]
      have := pre_take Tk.alnum (c :: r)
      rw [hn, List.take_succ_cons] at this
      rw [this, hn]
    · rw [if_neg h1] at *
      rw [if_neg h1]
      by_cases h2 : Tk.digit c.toNat = true
      · rw [if_pos h2] at *
        rw [if_pos h2]
        have := pre_take Tk.digit (c :: r)
        rw [hn, List.take_succ_cons] at this
        rw [this, hn]
      · rw [if_neg h2] at *
        rw [if_neg h2]
        rcases sign_cases c r with ⟨g1, d, s, rfl, g2⟩ | ⟨g1, g2⟩
        · rw [g1] at hn
          have hn1 : n = 1 := by omega
          subst hn1
          rcases sign_cases c ((d :: s).take 1) with ⟨k1, _⟩ | ⟨k1, _⟩
          · rw [k1, g1]
          · exact absurd ⟨d, [], rfl, g2⟩ k1
        · have hs : Tk.isSign c = true := by
            by_cases hs : Tk.isSign c = true
            · exact hs
            · rw [if_neg hs] at g2; omega
          rw [if_pos hs] at g2
          rw [g2] at hn
          have hn0 : n = 0 := by omega
          subst hn0
          rcases sign_cases c (r.take 0) with ⟨_, d, s, e, _⟩ | ⟨_, k2⟩
          · exact absurd e (by simp)
          · rw [k2, if_pos hs, g2]
  have herr : Tk.errOf (c :: r.take n) = 0 := by
    rw [lenOf_cons, lenOf_cons] at hlen
    rw [errOf_cons] at he ⊢
    by_cases h1 : (Tk.small c.toNat || Tk.great c.toNat) = true
    · rw [if_pos h1] at he ⊢
      rw [if_pos h1, if_pos h1] at hlen
      rw [hlen]; exact he
    · rw [if_neg h1] at he ⊢
      rw [if_neg h1, if_neg h1] at hlen
      by_cases h2 : Tk.digit c.toNat = true
      · rw [if_pos h2] at he ⊢
        rw [if_pos h2, if_pos h2] at hlen
        rw [hlen]; exact he
      · rw [if_neg h2] at he ⊢
        rw [if_neg h2, if_neg h2] at hlen
        rw [hlen]; exact he
  rw [ht]
  refine decide_eq_true ⟨by simp, ?_, herr, ?_, by rw [hlen, hlt]⟩
  · rw [hlt]
    rcases tok_cases c r with ⟨c1, cE⟩ | ⟨c1, cK, c3, cE⟩ | ⟨c1, cK, c3, cE⟩ | ⟨c1, cK, c3, cE⟩ | ⟨c1, cK, c3, c4, c5, cE⟩ | ⟨c1, cK, c3, cE⟩ | ⟨c1, cK, c3, c4, c5, cE⟩ | ⟨c1, cK, cE⟩
    · omega
    · omega
    · omega
    · omega
    · omega
    · omega
    · omega
    · have e2 := lenOf_cons c r
      have e1 := kindOf_cons c r
      rw [cK] at e1
      cases g1 : Tk.small c.toNat
      · cases g2 : Tk.great c.toNat
        · cases g3 : Tk.digit c.toNat
          · rw [g1, g2, g3] at e2
            simp only [Bool.or_self, Bool.false_eq_true, if_false] at e2
            rcases sign_cases c r with ⟨k1, _⟩ | ⟨_, k1⟩
            · omega
            · rw [k1] at e2; split at e2 <;> omega
          · rw [g1, g2, g3] at e1; simp at e1
        · rw [g1, g2] at e1; simp at e1
      · rw [g1] at e1; simp at e1
  · rw [kindOf_cons, kindOf_cons]

/-- What is scanned is a list of such tokens. -/
theorem scanP_toks (L : List UInt8) : ∀ (f p : Nat) (acc : List Tk.Tok), (Tk.scanP L f p acc).2.2 = 0 → ∃ r, (Tk.scanP L f p acc).1 = acc ++ r ∧ (r.all fun t => Tk.isTok t.kind t.text) = true := by
  intro f
  induction f with
  | zero => intro p acc _; exact ⟨[], by simp [Tk.scanP], rfl⟩
  | succ f ih =>
    intro p acc h
    rw [Tk.scanP] at h ⊢
    split
    · exact ⟨[], by simp, rfl⟩
    · rename_i h1
      rw [if_neg h1] at h
      split
      · rename_i h2
        rw [if_pos h2] at h
        obtain ⟨r, hr, ha⟩ := ih _ _ h
        refine ⟨Tk.tokAt L p :: r, by rw [hr]; simp, ?_⟩
        rw [List.all_cons, ha, Bool.and_true]
        have hd := Tk.drop_cons L p (by omega)
        rw [hd] at h2
        show Tk.isTok (Tk.kindOf (L.drop p)) ((L.drop p).take (Tk.lenOf (L.drop p))) = true
        rw [hd]
        exact tok_take _ _ h2
      · rename_i h2
        rw [if_neg h2] at h
        exact absurd h h2
theorem scan_toks (L : List UInt8) (h : (Tk.scan L).2.2 = 0) : Tk.allTok (Tk.scan L).1 (Tk.scan L).1.length = true := by
  unfold Tk.allTok
  rw [List.take_length]
  unfold Tk.scan at h ⊢
  split
  · rfl
  · rename_i h1
    rw [if_neg h1] at h
    obtain ⟨r, hr, ha⟩ := scanP_toks L _ _ _ h
    rw [hr, List.nil_append]
    exact ha

/-- A token with nothing, or a blank, behind it. -/
theorem tok_blank (t r : List UInt8) (k : Int) (h : Tk.isTok k t = true) (hr : ∀ c s, r = c :: s → c = 32) :
    Tk.errOf (t ++ r) = 0 ∧ Tk.kindOf (t ++ r) = k ∧ Tk.lenOf (t ++ r) = t.length ∧ Tk.sep false (t ++ r) = 0 := by
  have h := of_decide_eq_true h
  obtain ⟨h1, h2, h3, h4, h5⟩ := h
  match t, h1 with
  | c :: q, _ =>
    have hp : ∀ p : Int → Bool, p 32 = false → ∀ c s, r = c :: s → p c.toNat = false := fun p hp c s e => by rw [hr c s e]; exact hp
    have hk : Tk.kindOf (c :: (q ++ r)) = k := by rw [kindOf_cons]; rw [kindOf_cons] at h4; exact h4
    have hlen : Tk.lenOf (c :: (q ++ r)) = (c :: q).length := by
      rw [lenOf_cons] at h5 ⊢
      by_cases g1 : (Tk.small c.toNat || Tk.great c.toNat) = true
      · rw [if_pos g1] at h5 ⊢
        exact pre_append Tk.alnum (c :: q) r h5 (hp _ rfl)
      · rw [if_neg g1] at h5 ⊢
        by_cases g2 : Tk.digit c.toNat = true
        · rw [if_pos g2] at h5 ⊢
          exact pre_append Tk.digit (c :: q) r h5 (hp _ rfl)
        · rw [if_neg g2] at h5 ⊢
          rcases sign_cases c q with ⟨k1, d, s, rfl, k2⟩ | ⟨k1, k2⟩
          · rcases sign_cases c (d :: s ++ r) with ⟨m1, _⟩ | ⟨m1, _⟩
            · rw [m1, ← h5, k1]
            · exact absurd ⟨d, s ++ r, rfl, k2⟩ m1
          · have hl : 1 ≤ (c :: q).length := by simp
            have hs : Tk.isSign c = true := by
              by_cases hs : Tk.isSign c = true
              · exact hs
              · rw [if_neg hs] at k2; omega
            rw [if_pos hs] at k2
            rw [k2] at h5
            have hq : q = [] := List.eq_nil_of_length_eq_zero (by simpa using h5.symm)
            subst hq
            rcases sign_cases c ([] ++ r) with ⟨_, d, s, e, m2⟩ | ⟨_, m2⟩
            · have hd : d = 32 := hr d s (by simpa using e)
              subst hd
              rcases m2 with ⟨_, m⟩ | ⟨_, m⟩ | ⟨_, m⟩
              · exact absurd m (by decide)
              · exact absurd m (by decide)
              · exact absurd m (by decide)
            · rw [m2, if_pos hs]; rfl
    have herr : Tk.errOf (c :: (q ++ r)) = 0 := by
      rw [lenOf_cons] at hlen
      rw [lenOf_cons] at h5
      rw [errOf_cons] at h3 ⊢
      by_cases g1 : (Tk.small c.toNat || Tk.great c.toNat) = true
      · rw [if_pos g1] at h3 ⊢
        rw [if_pos g1] at hlen h5
        rw [hlen, ← h5]; exact h3
      · rw [if_neg g1] at h3 ⊢
        rw [if_neg g1] at hlen h5
        by_cases g2 : Tk.digit c.toNat = true
        · rw [if_pos g2] at h3 ⊢
          rw [if_pos g2] at hlen h5
          rw [hlen, ← h5]; exact h3
        · rw [if_neg g2] at h3 ⊢
          rw [if_neg g2] at hlen h5
          rw [hlen, ← h5]; exact h3
    exact ⟨herr, hk, hlen, sep_zero _ _ herr⟩

/-- The texts of tokens, a blank between, from the front. -/
def jn : List Tk.Tok → List UInt8
  | [] => []
  | t :: r => t.text ++ (match r with | [] => [] | _ :: _ => 32 :: jn r)

theorem jn_one (t : Tk.Tok) : jn [t] = t.text := by simp [jn]
theorem jn_more (t u : Tk.Tok) (r : List Tk.Tok) : jn (t :: u :: r) = t.text ++ 32 :: jn (u :: r) := by rw [jn]

theorem jn_snoc : ∀ (l : List Tk.Tok) (t : Tk.Tok), jn (l ++ [t]) = (if l = [] then [] else jn l ++ [32]) ++ t.text := by
  intro l
  induction l with
  | nil => intro t; simp [jn]
  | cons x l ih =>
    intro t
    cases l with
    | nil => simp [jn]
    | cons y l =>
      have := ih t
      rw [if_neg (by simp)] at this ⊢
      rw [List.cons_append, List.cons_append, jn_more, ← List.cons_append, this, jn_more]
      simp

theorem joinTo_jn (l : List Tk.Tok) : ∀ k, k ≤ l.length → Tk.joinTo l k = jn (l.take k) := by
  intro k
  induction k with
  | zero => intro _; rfl
  | succ k ih =>
    intro hk
    have e : tokD l k = l[k]'(by omega) := by rw [tokD, List.getD_eq_getElem?_getD, List.getElem?_eq_getElem (by omega)]; rfl
    rw [List.take_succ_eq_append_getElem (by omega), jn_snoc, Tk.joinTo, ih (by omega), e]
    by_cases h0 : k = 0
    · subst h0; simp
    · rw [if_neg h0, if_neg]
      intro hn
      have := congrArg List.length hn
      rw [List.length_take, List.length_nil] at this
      omega

/-- What is joined is scanned as it was. -/
theorem scan_jn (L : List UInt8) : ∀ (l : List Tk.Tok), (l.all fun t => Tk.isTok t.kind t.text) = true → ∀ (f p : Nat) (acc : List Tk.Tok), L.drop p = jn l → L.length ≤ p + f → ∃ m, Tk.scanP L f p acc = (acc ++ m, 0, 0) ∧ Tk.same false l m = true := by
  intro l
  induction l with
  | nil =>
    intro _ f p acc hd _
    have hl : L.length ≤ p := by
      have := congrArg List.length hd
      rw [List.length_drop] at this
      simp [jn] at this
      omega
    exact ⟨[], by rw [Tk.scanP_end _ _ _ _ hl, List.append_nil], rfl⟩
  | cons t l ih =>
    intro ha f p acc hd hf
    rw [List.all_cons, Bool.and_eq_true] at ha
    obtain ⟨r, hr, hr32, hnext⟩ : ∃ r, jn (t :: l) = t.text ++ r ∧ (∀ c s, r = c :: s → c = 32) ∧ (l = [] ∧ r = [] ∨ r = 32 :: jn l ∧ l ≠ []) := by
      cases l with
      | nil => exact ⟨[], by simp [jn], fun c s e => (by cases e), .inl ⟨rfl, rfl⟩⟩
      | cons u l => exact ⟨32 :: jn (u :: l), jn_more t u l, fun c s e => (by injection e with e1 _; exact e1.symm), .inr ⟨rfl, by simp⟩⟩
    obtain ⟨b1, b2, b3, b4⟩ := tok_blank t.text r t.kind ha.1 hr32
    rw [hr] at hd
    have hpos : 1 ≤ t.text.length := by
      have := of_decide_eq_true ha.1
      rcases hh : t.text with _ | ⟨c, q⟩
      · exact absurd hh this.1
      · simp
    have hlen : L.length = p + t.text.length + r.length := by
      have := congrArg List.length hd
      rw [List.length_drop, List.length_append] at this
      omega
    obtain ⟨f, rfl⟩ : ∃ f', f = f' + 1 := ⟨f - 1, by omega⟩
    have hlt : p < L.length := by omega
    rw [← hd] at b1 b2 b3
    rw [Tk.scanP_yes L f p acc hlt b1, b3]
    have hdr : L.drop (p + t.text.length) = r := by
      rw [← List.drop_drop, hd, List.drop_left]
    have htok : Tk.tokAt L p = ⟨t.kind, p, t.text⟩ := by
      unfold Tk.tokAt
      rw [b2, b3, hd, List.take_left]
    rw [hdr, htok]
    have hone : Tk.sameOne false t ⟨t.kind, p, t.text⟩ = true := by simp [Tk.sameOne]
    rcases hnext with ⟨rfl, rfl⟩ | ⟨rfl, hne⟩
    · have hs0 : Tk.sep false [] = 0 := rfl
      rw [hs0, Tk.scanP_end _ _ _ _ (by rw [hlen]; simp)]
      exact ⟨[⟨t.kind, p, t.text⟩], rfl, by rw [Tk.same, hone]; rfl⟩
    · have hsep : Tk.sep false (32 :: jn l) = 1 := by
        rw [Tk.sep, if_neg (by decide), if_pos (by decide)]
        have : Tk.sep false (jn l) = 0 := by
          cases l with
          | nil => exact absurd rfl hne
          | cons u l =>
            rw [List.all_cons, Bool.and_eq_true] at ha
            obtain ⟨r', hr', hr32'⟩ : ∃ r, jn (u :: l) = u.text ++ r ∧ (∀ c s, r = c :: s → c = 32) := by
              cases l with
              | nil => exact ⟨[], by simp [jn], fun c s e => by cases e⟩
              | cons v l => exact ⟨32 :: jn (v :: l), jn_more u v l, fun c s e => by injection e with e1 _; exact e1.symm⟩
            rw [hr']
            exact (tok_blank u.text r' u.kind ha.2.1 hr32').2.2.2
        rw [this]
      rw [hsep]
      have hdr2 : L.drop (p + t.text.length + 1) = jn l := by
        rw [← List.drop_drop, hdr]; rfl
      obtain ⟨m, hm, hsame⟩ := ih ha.2 f (p + t.text.length + 1) (acc ++ [⟨t.kind, p, t.text⟩]) hdr2 (by omega)
      refine ⟨⟨t.kind, p, t.text⟩ :: m, by rw [hm]; simp, ?_⟩
      rw [Tk.same, hone, hsame]
      rfl

/-- Join, then Scan. -/
theorem join_scan (l : List Tk.Tok) (h : (Tk.join l).2 = 0) : (Tk.scan (Tk.join l).1).2.2 = 0 ∧ Tk.same false l (Tk.scan (Tk.join l).1).1 = true := by
  unfold Tk.join at h ⊢
  by_cases h1 : Tk.allTok l l.length = true
  · rw [if_pos h1] at h ⊢
    by_cases h2 : 5000 < (Tk.joinTo l l.length).length
    · rw [if_pos h2] at h; exact absurd h (by decide)
    · rw [if_neg h2]
      show (Tk.scan (Tk.joinTo l l.length)).2.2 = 0 ∧ Tk.same false l (Tk.scan (Tk.joinTo l l.length)).1 = true
      have hall : (l.all fun t => Tk.isTok t.kind t.text) = true := by
        unfold Tk.allTok at h1; rw [List.take_length] at h1; exact h1
      have hj : Tk.joinTo l l.length = jn l := by rw [joinTo_jn l l.length (Nat.le_refl _), List.take_length]
      rw [hj] at h2 ⊢
      have hsep : Tk.sep false (jn l) = 0 := by
        cases l with
        | nil => rfl
        | cons u l =>
          rw [List.all_cons, Bool.and_eq_true] at hall
          obtain ⟨r', hr', hr32'⟩ : ∃ r, jn (u :: l) = u.text ++ r ∧ (∀ c s, r = c :: s → c = 32) := by
            cases l with
            | nil => exact ⟨[], by simp [jn], fun c s e => by cases e⟩
            | cons v l => exact ⟨32 :: jn (v :: l), jn_more u v l, fun c s e => by injection e with e1 _; exact e1.symm⟩
          rw [hr']
          exact (tok_blank u.text r' u.kind hall.1 hr32').2.2.2
      obtain ⟨m, hm, hs⟩ := scan_jn (jn l) l hall (jn l).length 0 [] rfl (by omega)
      have hsc : Tk.scan (jn l) = (m, 0, 0) := by
        unfold Tk.scan
        rw [if_neg h2, hsep, hm]
        rfl
      rw [hsc]
      exact ⟨rfl, hs⟩
  · rw [if_neg h1] at h; exact absurd h (by decide)

/-- What is scanned is joined, if it is not too long. -/
theorem scan_join (L : List UInt8) (h : (Tk.scan L).2.2 = 0) (h2 : ¬ (Tk.join (Tk.scan L).1).2 = 0) : (Tk.join (Tk.scan L).1).2 = 2 := by
  have ha := scan_toks L h
  unfold Tk.join at h2 ⊢
  rw [if_pos ha] at h2 ⊢
  by_cases h3 : 5000 < (Tk.joinTo (Tk.scan L).1 (Tk.scan L).1.length).length
  · rw [if_pos h3]
  · rw [if_neg h3] at h2; exact absurd rfl h2

end Go.Proofs.YtgpaleifhcdjnaaGreatDoor

/- The document's comparison of two lists of terms. -/
namespace Go.Proofs.YtgpaleifhcdjnaaGreatDoor
open Go.RowKit

namespace Tr
/-- Two lists, thing by thing. -/
def listEq {α : Type} (f : α → α → Bool) : List α → List α → Bool
  | [], [] => true
  | a :: l, b :: m => f a b && listEq f l m
  | _, _ => false
theorem listEq_len {α : Type} (f : α → α → Bool) : ∀ (l m : List α), ¬ l.length = m.length → listEq f l m = false := by
  intro l
  induction l with
  | nil =>
    intro m h
    cases m with
    | nil => exact absurd rfl h
    | cons y b => rfl
  | cons x a ih =>
    intro m h
    cases m with
    | nil => rfl
    | cons y b => rw [listEq, ih b (by simpa using h), Bool.and_false]
theorem listEq_drop {α : Type} (f : α → α → Bool) (d : α) (l m : List α) (i : Nat) (h : i < l.length) (h2 : i < m.length) :
    listEq f (l.drop i) (m.drop i) = (f (l.getD i d) (m.getD i d) && listEq f (l.drop (i + 1)) (m.drop (i + 1))) := by
  rw [List.drop_eq_getElem_cons h, List.drop_eq_getElem_cons h2, listEq]
  simp [List.getD_eq_getElem?_getD, List.getElem?_eq_getElem h, List.getElem?_eq_getElem h2]
def termEq (a b : Term) : Bool := (a.var == b.var) && (a.n == b.n)
def termsEq (l m : List Term) : Bool := listEq termEq l m
end Tr

set_option maxRecDepth 100000 in
set_option maxHeartbeats 1000000 in
theorem sameTerms_loop (la lb : List Tr.Term) (w : World) (n ca cb ba oa bb ob : Nat) (hna : la.length = n) (hnb : lb.length = n) (hmax : n ≤ 9223372036854775807)
    (hA : ∀ i, i < n → TermIn w ba (oa + i * 2) (Tr.termD la i)) (hB : ∀ i, i < n → TermIn w bb (ob + i * 2) (Tr.termD lb i)) :
    Calls Tryz.prog 58 #[.slice (some ⟨ba, oa, none⟩) n ca, .slice (some ⟨bb, ob, none⟩) n cb] w fun e w' => e = .returned (.bool (Tr.termsEq la lb)) ∧ ∃ k, w' = w.drewN k := by
  have HA : Hid (la.length = n) := hna
  have HB : Hid (lb.length = n) := hnb
  clear hna hnb
  have hne : ((n : Int) != (n : Int)) = false := by simp
  go_enter Tryz.func58, Tryz.ntmps58
  go_wp2
  go_loopw [5] (fun i wr => ∃ k nq : Nat, k ≤ n ∧ i = .int .i64 k ∧ Tr.termsEq la lb = Tr.termsEq (la.drop k) (lb.drop k) ∧ wr = w.drewN nq) (fun i _ => n - (intOf i).toNat)
  case atStart => exact ⟨0, 0, Nat.zero_le _, rfl, rfl, rfl⟩
  case round =>
    obtain ⟨k, nq, hk, rfl, hsame, rfl⟩ := hrel
    have HS : Hid (Tr.termsEq la lb = Tr.termsEq (la.drop k) (lb.drop k)) := hsame
    clear hsame
    by_cases hlt : k < n
    · obtain ⟨a0, a1⟩ := hA k hlt
      obtain ⟨b0, b1⟩ := hB k hlt
      have HD : Hid (Tr.termsEq la lb = (Tr.termEq (Tr.termD la k) (Tr.termD lb k) && Tr.termsEq (la.drop (k + 1)) (lb.drop (k + 1)))) := by
        show _ = _
        rw [HS.out]
        exact Tr.listEq_drop _ _ _ _ _ (by rw [HA.out]; exact hlt) (by rw [HB.out]; exact hlt)
      clear hA hB HS
      generalize Tr.termD la k = x at *
      generalize Tr.termD lb k = y at *
      cases h1 : (x.var == y.var)
      · have HV : Hid (Tr.termsEq la lb = false) := by show _ = _; rw [HD.out, Tr.termEq, h1]; rfl
        clear HD
        go_wp2_with fail
        go_quiet (fail)
        go_wp2
        go_ret
        exact ⟨ret_bool HV.out.symm, _, drewN_two _ _ _⟩
      · cases h2 : (x.n == y.n)
        · have HV : Hid (Tr.termsEq la lb = false) := by show _ = _; rw [HD.out, Tr.termEq, h1, h2]; rfl
          clear HD
          go_wp2_with fail
          go_quiet (fail)
          go_wp2
          go_ret
          exact ⟨ret_bool HV.out.symm, _, drewN_two _ _ _⟩
        · have HV : Hid (Tr.termsEq la lb = Tr.termsEq (la.drop (k + 1)) (lb.drop (k + 1))) := by show _ = _; rw [HD.out, Tr.termEq, h1, h2]; rfl
          clear HD
          go_wp2_with fail
          go_quiet (fail)
          go_wp2
          go_roundw
          case rel => exact ⟨k + 1, _, by omega, by go_num, HV.out, rfl⟩
          case measure => simp [intOf]; omega
    · have HV : Hid (Tr.termsEq la lb = true) := by
        show _ = _
        rw [HS.out, List.drop_of_length_le (by rw [HA.out]; omega), List.drop_of_length_le (by rw [HB.out]; omega)]
        rfl
      clear HS hA hB
      go_wp2_with fail
      go_ret
      exact ⟨ret_bool HV.out.symm, _, rfl⟩

set_option maxRecDepth 100000 in
set_option maxHeartbeats 400000 in
theorem sameTerms_diff (w : World) (ao bo : Option Addr) (n m ca cb : Nat) (h : ¬ n = m) :
    Calls Tryz.prog 58 #[.slice ao n ca, .slice bo m cb] w fun e w' => e = .returned (.bool false) ∧ ∃ k, w' = w.drewN k := by
  have hne : ((n : Int) != (m : Int)) = true := bne_iff_ne.2 (by omega)
  go_enter Tryz.func58, Tryz.ntmps58
  go_wp2
  go_ret
  exact ⟨rfl, 0, rfl⟩

set_option maxRecDepth 100000 in
set_option maxHeartbeats 400000 in
theorem sameTerms_none (w : World) (ao bo : Option Addr) (ca cb : Nat) :
    Calls Tryz.prog 58 #[.slice ao 0 ca, .slice bo 0 cb] w fun e w' => e = .returned (.bool true) ∧ ∃ k, w' = w.drewN k := by
  go_enter Tryz.func58, Tryz.ntmps58
  go_wp2
  refine wp_loop_rounds 1 ?_
  rw [rounds_succ]
  go_wp2
  go_ret
  exact ⟨rfl, 0, rfl⟩

/-- sameTerms, whatever lists it is handed. -/
theorem sameTerms_any (la lb : List Tr.Term) (w : World) (va vb : Value) (hA : TermsV w va la) (hB : TermsV w vb lb) (hmax : la.length ≤ 9223372036854775807) :
    Calls Tryz.prog 58 #[va, vb] w fun e w' => e = .returned (.bool (Tr.termsEq la lb)) ∧ ∃ k, w' = w.drewN k := by
  obtain ⟨ao, ca, rfl, hA⟩ := hA
  obtain ⟨bo, cb, rfl, hB⟩ := hB
  by_cases h : la.length = lb.length
  · rcases hA with rfl | ⟨b, off, rfl, hA⟩
    · have hl : lb = [] := List.eq_nil_of_length_eq_zero h.symm
      subst hl
      exact sameTerms_none w ao bo ca cb
    · rcases hB with rfl | ⟨b', off', rfl, hB⟩
      · have hl : la = [] := List.eq_nil_of_length_eq_zero h
        subst hl
        exact sameTerms_none w _ bo ca cb
      · rw [← h]
        exact sameTerms_loop la lb w la.length ca cb b off b' off' rfl h.symm hmax hA (by rw [h]; exact hB)
  · rw [show Tr.termsEq la lb = false from Tr.listEq_len _ la lb h]
    exact sameTerms_diff w ao bo _ _ ca cb h

end Go.Proofs.YtgpaleifhcdjnaaGreatDoor

/- The document's comparison of two trees. -/
namespace Go.Proofs.YtgpaleifhcdjnaaGreatDoor
open Go.RowKit

namespace Tr
def headEq (q : Bool) (a b : Rule) : Bool := !((q && (a.at_ != b.at_)) || !(a.name == b.name) || (a.fold != b.fold) || !(termsEq a.terms b.terms) || ((a.body.length : Int) != (b.body.length : Int)))
def litEq (q : Bool) (x y : Lit) : Bool := !((q && (x.at_ != y.at_)) || (x.kind != y.kind) || (x.op != y.op) || !(x.name == y.name) || !(termsEq x.terms y.terms))
def ruleEq (q : Bool) (a b : Rule) : Bool := headEq q a b && listEq (litEq q) a.body b.body
def treeEq (q : Bool) (l m : List Rule) : Bool := listEq (ruleEq q) l m
end Tr

theorem Tr.headEq_len {q : Bool} {a b : Tr.Rule} (h : Tr.headEq q a b = true) : a.body.length = b.body.length := by
  unfold Tr.headEq at h
  simp only [Bool.not_eq_true', Bool.or_eq_false_iff, bne_eq_false_iff_eq] at h
  have := h.2
  omega

/-- Lists of terms that an int can count. -/
def FitsB (l : List Tr.Lit) : Prop := ∀ i, i < l.length → (Tr.litD l i).terms.length ≤ 9223372036854775807
abbrev rulObj (r : Tr.Rule) (v u : Value) : Obj := .cells #[.int .i64 r.at_, .string ⟨r.name.toArray⟩, v, .int .i64 r.fold, u] 57
theorem rul_cells {w : World} {b : Nat} {r : Tr.Rule} {v u : Value} (h : w.heap[b]? = some (rulObj r v u)) :
    w.cell? ⟨b, 0, none⟩ = some (.int .i64 r.at_) ∧ w.cell? ⟨b, 1, none⟩ = some (.string ⟨r.name.toArray⟩) ∧ w.cell? ⟨b, 2, none⟩ = some v ∧ w.cell? ⟨b, 3, none⟩ = some (.int .i64 r.fold) ∧ w.cell? ⟨b, 4, none⟩ = some u :=
  ⟨by rw [Lib.cell_of_heap h]; rfl, by rw [Lib.cell_of_heap h]; rfl, by rw [Lib.cell_of_heap h]; rfl, by rw [Lib.cell_of_heap h]; rfl, by rw [Lib.cell_of_heap h]; rfl⟩

theorem heap_two (u : World) (o1 o2 : Obj) : ((u.alloc o1).alloc o2).drew.heap[u.heap.size]? = some o1 ∧ ((u.alloc o1).alloc o2).drew.heap[u.heap.size + 1]? = some o2 ∧ Below u.heap.size u ((u.alloc o1).alloc o2).drew := by
  refine ⟨?_, ?_, (((Below.refl _ _).alloc (Nat.le_refl _) _).alloc (by simp) _).drew⟩
  · exact (((Below.refl _ (u.alloc o1)).alloc (Nat.le_refl _) o2).block _ (by simp)).trans (heap_alloc_new u o1)
  · have := heap_alloc_new (u.alloc o1) o2
    simpa [World.drew] using this
theorem lit_cells {w : World} {b : Nat} {x : Tr.Lit} {v : Value} (h : w.heap[b]? = some (litObj x v)) :
    w.cell? ⟨b, 0, none⟩ = some (.int .i64 x.kind) ∧ w.cell? ⟨b, 1, none⟩ = some (.int .i64 x.at_) ∧ w.cell? ⟨b, 2, none⟩ = some (.int .i64 x.op) ∧ w.cell? ⟨b, 3, none⟩ = some (.string ⟨x.name.toArray⟩) ∧ w.cell? ⟨b, 4, none⟩ = some v :=
  ⟨by rw [Lib.cell_of_heap h]; rfl, by rw [Lib.cell_of_heap h]; rfl, by rw [Lib.cell_of_heap h]; rfl, by rw [Lib.cell_of_heap h]; rfl, by rw [Lib.cell_of_heap h]; rfl⟩

set_option maxRecDepth 100000 in
set_option maxHeartbeats 4000000 in
theorem sameTree_loop (l m : List Tr.Rule) (q : Bool) (w : World) (n ca cb ba oa bb ob : Nat) (hna : l.length = n) (hnb : m.length = n) (hmax : n ≤ 9223372036854775807) (hF : ∀ i, i < n → (Tr.ruleD l i).terms.length ≤ 9223372036854775807 ∧ (Tr.ruleD l i).body.length ≤ 9223372036854775807 ∧ FitsB (Tr.ruleD l i).body)
    (hA : ∀ i, i < n → RuleIn w ba (oa + i * 5) (Tr.ruleD l i)) (hB : ∀ i, i < n → RuleIn w bb (ob + i * 5) (Tr.ruleD m i)) :
    Calls Tryz.prog 23 #[.agg #[.slice (some ⟨ba, oa, none⟩) n ca], .agg #[.slice (some ⟨bb, ob, none⟩) n cb], .bool q] w fun e w' => e = .returned (.bool (Tr.treeEq q l m)) ∧ Below w.heap.size w w' := by
  have HA : Hid (l.length = n) := hna
  have HB : Hid (m.length = n) := hnb
  clear hna hnb
  have hne : ((n : Int) != (n : Int)) = false := by simp
  have hbel0 : Below w.heap.size w ((w.alloc (.cells #[.slice (some ⟨ba, oa, none⟩) n ca] 36)).alloc (.cells #[.slice (some ⟨bb, ob, none⟩) n cb] 36)) := ((Below.refl _ _).alloc (Nat.le_refl _) _).alloc (by simp) _
  have ht0 : ((w.alloc (.cells #[.slice (some ⟨ba, oa, none⟩) n ca] 36)).alloc (.cells #[.slice (some ⟨bb, ob, none⟩) n cb] 36)).cell? ⟨w.heap.size, 0, none⟩ = some (.slice (some ⟨ba, oa, none⟩) n ca) := by simp [go_sem]
  have hu0 : ((w.alloc (.cells #[.slice (some ⟨ba, oa, none⟩) n ca] 36)).alloc (.cells #[.slice (some ⟨bb, ob, none⟩) n cb] 36)).cell? ⟨w.heap.size + 1, 0, none⟩ = some (.slice (some ⟨bb, ob, none⟩) n cb) := by simp [go_sem]
  go_enter Tryz.func23, Tryz.ntmps23
  go_wp2_with fail
  generalize hw0 : ((w.alloc (.cells #[.slice (some ⟨ba, oa, none⟩) n ca] 36)).alloc (.cells #[.slice (some ⟨bb, ob, none⟩) n cb] 36)) = w0 at *
  go_loopw [7] (fun i wr => ∃ k : Nat, k ≤ n ∧ i = .int .i64 k ∧ Tr.treeEq q l m = Tr.treeEq q (l.drop k) (m.drop k) ∧ Below w0.heap.size w0 wr) (fun i _ => n - (intOf i).toNat)
  case atStart => exact ⟨0, Nat.zero_le _, rfl, rfl, Below.refl _ _⟩
  case round =>
    obtain ⟨k, hk, rfl, hsame, hbr⟩ := hrel
    have HS : Hid (Tr.treeEq q l m = Tr.treeEq q (l.drop k) (m.drop k)) := hsame
    have ht := cell_below hbr ht0
    have hu := cell_below hbr hu0
    have hbw := hbel0.trans (hbr.mono hbel0.size)
    clear hsame
    by_cases hlt : k < n
    · have HD : Hid (Tr.treeEq q l m = (Tr.ruleEq q (Tr.ruleD l k) (Tr.ruleD m k) && Tr.treeEq q (l.drop (k + 1)) (m.drop (k + 1)))) := by
        show _ = _
        rw [HS.out]
        exact Tr.listEq_drop _ _ _ _ _ (by rw [HA.out]; exact hlt) (by rw [HB.out]; exact hlt)
      obtain ⟨a0, a1, ⟨va, a2, hTa⟩, a3, ua, a4, hLa⟩ := hA k hlt
      obtain ⟨b0, b1, ⟨vb, b2, hTb⟩, b3, ub, b4, hLb⟩ := hB k hlt
      replace a0 := cell_below hbw a0
      replace a1 := cell_below hbw a1
      replace a2 := cell_below hbw a2
      replace a3 := cell_below hbw a3
      replace a4 := cell_below hbw a4
      replace b0 := cell_below hbw b0
      replace b1 := cell_below hbw b1
      replace b2 := cell_below hbw b2
      replace b3 := cell_below hbw b3
      replace b4 := cell_below hbw b4
      replace hTa := termsV_below hTa hbw
      replace hTb := termsV_below hTb hbw
      replace hLa := litsV_below hLa hbw
      replace hLb := litsV_below hLb hbw
      obtain ⟨hmaxT, hmaxB, hmaxL⟩ := hF k hlt
      clear HS hA hB hF
      generalize Tr.ruleD l k = a at *
      generalize Tr.ruleD m k = b at *
      obtain ⟨aota, capta, rfl, hTa'⟩ := hTa
      obtain ⟨aotb, captb, rfl, hTb'⟩ := hTb
      obtain ⟨aola, capla, rfl, hLa'⟩ := hLa
      obtain ⟨aolb, caplb, rfl, hLb'⟩ := hLb
      go_upto_region 6 with fail
      go_cut [8, 9] (fun v8 v9 wx => ∃ pa pb : Nat, v8 = .pointer (some ⟨pa, 0, none⟩) ∧ v9 = .pointer (some ⟨pb, 0, none⟩) ∧ wx.heap[pa]? = some (rulObj a (.slice aota a.terms.length capta) (.slice aola a.body.length capla)) ∧ wx.heap[pb]? = some (rulObj b (.slice aotb b.terms.length captb) (.slice aolb b.body.length caplb)) ∧ Below wr.heap.size wr wx)
      case first =>
        go_region_held3 (fun w' => w'.cell? ⟨w.heap.size, 0, none⟩ = some (.slice (some ⟨ba, oa, none⟩) n ca) ∧ w'.cell? ⟨w.heap.size + 1, 0, none⟩ = some (.slice (some ⟨bb, ob, none⟩) n cb) ∧ w'.cell? ⟨ba, oa + k * 5, none⟩ = some (.int .i64 a.at_) ∧ w'.cell? ⟨ba, oa + k * 5 + 1, none⟩ = some (.string ⟨a.name.toArray⟩) ∧ w'.cell? ⟨ba, oa + k * 5 + 2, none⟩ = some (.slice aota a.terms.length capta) ∧ w'.cell? ⟨ba, oa + k * 5 + 3, none⟩ = some (.int .i64 a.fold) ∧ w'.cell? ⟨ba, oa + k * 5 + 4, none⟩ = some (.slice aola a.body.length capla) ∧
          w'.cell? ⟨bb, ob + k * 5, none⟩ = some (.int .i64 b.at_) ∧ w'.cell? ⟨bb, ob + k * 5 + 1, none⟩ = some (.string ⟨b.name.toArray⟩) ∧ w'.cell? ⟨bb, ob + k * 5 + 2, none⟩ = some (.slice aotb b.terms.length captb) ∧ w'.cell? ⟨bb, ob + k * 5 + 3, none⟩ = some (.int .i64 b.fold) ∧ w'.cell? ⟨bb, ob + k * 5 + 4, none⟩ = some (.slice aolb b.body.length caplb)) (go_keep) (fail)
        all_goals (go_wp2_with fail; go_meet)
        · exact ⟨_, _, rfl, rfl, (heap_two wr _ _).1, (heap_two wr _ _).2.1, (heap_two wr _ _).2.2⟩
        · exact ⟨_, _, rfl, rfl, (heap_two wr _ _).2.1, (heap_two wr _ _).1, (heap_two wr _ _).2.2⟩
      case rest =>
        obtain ⟨pa, pb, rfl, rfl, hpa, hpb, hbx⟩ := hcut
        generalize wc = wx at *
        have hTa : TermsV wx (.slice aota a.terms.length capta) a.terms := termsV_below ⟨aota, capta, rfl, hTa'⟩ hbx
        have hTb : TermsV wx (.slice aotb b.terms.length captb) b.terms := termsV_below ⟨aotb, captb, rfl, hTb'⟩ hbx
        have hLa : LitsV wx (.slice aola a.body.length capla) a.body := litsV_below ⟨aola, capla, rfl, hLa'⟩ hbx
        have hLb : LitsV wx (.slice aolb b.body.length caplb) b.body := litsV_below ⟨aolb, caplb, rfl, hLb'⟩ hbx
        have hbw2 := hbw.trans (hbx.mono hbw.size)
        have hbr2 := hbr.trans (hbx.mono hbr.size)
        have HC : Hid (Calls Tryz.prog 58 #[.slice aota a.terms.length capta, .slice aotb b.terms.length captb] wx fun e w' => e = .returned (.bool (Tr.termsEq a.terms b.terms)) ∧ ∃ k', w' = wx.drewN k') := sameTerms_any a.terms b.terms wx _ _ hTa hTb hmaxT
        clear hTa' hTb' hLa' hLb' hTa hTb ht hu a0 a1 a2 a3 a4 b0 b1 b2 b3 b4
        obtain ⟨c0, c1, c2, c3, c4⟩ := rul_cells hpa
        obtain ⟨d0, d1, d2, d3, d4⟩ := rul_cells hpb
        go_upto_region 7 with fail
        go_cut [75] (fun v75 wz => v75 = .bool (!(Tr.headEq q a b)) ∧ ∃ nz, wz = wx.drewN nz)
        case first =>
          cases q
          · skip
            cases h1 : (a.name == b.name)
            · skip
              go_wp2_with (go_at_call 58; refine Calls.mono HC.out ?_; rintro e y1 ⟨rfl, kq, rfl⟩)
              go_meet
              exact ⟨by simp [Tr.headEq, *], 0, rfl⟩
            · cases h2 : (a.fold != b.fold)
              rotate_left
              · skip
                go_wp2_with (go_at_call 58; refine Calls.mono HC.out ?_; rintro e y1 ⟨rfl, kq, rfl⟩)
                go_meet
                exact ⟨by simp [Tr.headEq, *], 0, rfl⟩
              · cases h3 : Tr.termsEq a.terms b.terms
                · skip
                  go_wp2_with (go_at_call 58; refine Calls.mono HC.out ?_; rintro e y1 ⟨rfl, kq, rfl⟩)
                  go_meet
                  exact ⟨by simp [Tr.headEq, *], kq, rfl⟩
                · cases h4 : ((a.body.length : Int) != (b.body.length : Int))
                  all_goals skip
                  · skip
                    go_wp2_with (go_at_call 58; refine Calls.mono HC.out ?_; rintro e y1 ⟨rfl, kq, rfl⟩)
                    go_meet
                    exact ⟨by simp [Tr.headEq, *], kq, rfl⟩
                  · skip
                    go_wp2_with (go_at_call 58; refine Calls.mono HC.out ?_; rintro e y1 ⟨rfl, kq, rfl⟩)
                    go_meet
                    exact ⟨by simp [Tr.headEq, *], kq, rfl⟩
          · cases h0 : (a.at_ != b.at_)
            · skip
              cases h1 : (a.name == b.name)
              · skip
                go_wp2_with (go_at_call 58; refine Calls.mono HC.out ?_; rintro e y1 ⟨rfl, kq, rfl⟩)
                go_meet
                exact ⟨by simp [Tr.headEq, *], 0, rfl⟩
              · cases h2 : (a.fold != b.fold)
                rotate_left
                · skip
                  go_wp2_with (go_at_call 58; refine Calls.mono HC.out ?_; rintro e y1 ⟨rfl, kq, rfl⟩)
                  go_meet
                  exact ⟨by simp [Tr.headEq, *], 0, rfl⟩
                · cases h3 : Tr.termsEq a.terms b.terms
                  · skip
                    go_wp2_with (go_at_call 58; refine Calls.mono HC.out ?_; rintro e y1 ⟨rfl, kq, rfl⟩)
                    go_meet
                    exact ⟨by simp [Tr.headEq, *], kq, rfl⟩
                  · cases h4 : ((a.body.length : Int) != (b.body.length : Int))
                    all_goals skip
                    · skip
                      go_wp2_with (go_at_call 58; refine Calls.mono HC.out ?_; rintro e y1 ⟨rfl, kq, rfl⟩)
                      go_meet
                      exact ⟨by simp [Tr.headEq, *], kq, rfl⟩
                    · skip
                      go_wp2_with (go_at_call 58; refine Calls.mono HC.out ?_; rintro e y1 ⟨rfl, kq, rfl⟩)
                      go_meet
                      exact ⟨by simp [Tr.headEq, *], kq, rfl⟩
            · skip
              go_wp2_with (go_at_call 58; refine Calls.mono HC.out ?_; rintro e y1 ⟨rfl, kq, rfl⟩)
              go_meet
              exact ⟨by simp [Tr.headEq, *], 0, rfl⟩
        case rest =>
          obtain ⟨rfl, nz, rfl⟩ := hcut
          replace hLa : LitsV (wx.drewN nz) (.slice aola a.body.length capla) a.body := hLa
          replace hLb : LitsV (wx.drewN nz) (.slice aolb b.body.length caplb) b.body := hLb
          replace hpa : (wx.drewN nz).heap[pa]? = some (rulObj a (.slice aota a.terms.length capta) (.slice aola a.body.length capla)) := hpa
          replace hpb : (wx.drewN nz).heap[pb]? = some (rulObj b (.slice aotb b.terms.length captb) (.slice aolb b.body.length caplb)) := hpb
          replace hbw2 : Below w.heap.size w (wx.drewN nz) := below_drewN hbw2 nz
          replace hbr2 : Below w0.heap.size w0 (wx.drewN nz) := below_drewN hbr2 nz
          clear hbx HC c0 c1 c2 c3 c4 d0 d1 d2 d3 d4
          generalize wx.drewN nz = wy at *
          cases hh : Tr.headEq q a b
          · have HV : Hid (Tr.treeEq q l m = false) := by show _ = _; rw [HD.out, Tr.ruleEq, hh]; rfl
            clear HD hLa hLb
            go_wp2_with fail
            go_ret
            exact ⟨ret_bool HV.out.symm, hbw2⟩
          · have hlen : a.body.length = b.body.length := Tr.headEq_len hh
            have HE0 : Hid (Tr.ruleEq q a b = Tr.listEq (Tr.litEq q) a.body b.body) := by show _ = _; rw [Tr.ruleEq, hh]; rfl
            clear hh
            go_wp2_with fail
            go_loopw [10] (fun i wz => ∃ j : Nat, j ≤ a.body.length ∧ i = .int .i64 j ∧ Tr.ruleEq q a b = Tr.listEq (Tr.litEq q) (a.body.drop j) (b.body.drop j) ∧ Below wy.heap.size wy wz) (fun i _ => a.body.length - (intOf i).toNat)
            case atStart => exact ⟨0, Nat.zero_le _, rfl, HE0.out, Below.refl _ _⟩
            case round =>
              obtain ⟨j, hj, rfl, hse, hbz⟩ := hrel
              have HSE : Hid _ := hse
              clear hse HE0
              have hLa2 := litsV_below hLa hbz
              have hLb2 := litsV_below hLb hbz
              have hpa2 := (hbz.block _ (heap_lt hpa)).trans hpa
              have hpb2 := (hbz.block _ (heap_lt hpb)).trans hpb
              have hbw3 := hbw2.trans (hbz.mono hbw2.size)
              have hbr3 := hbr2.trans (hbz.mono hbr2.size)
              obtain ⟨_, _, _, _, c4⟩ := rul_cells hpa2
              obtain ⟨_, _, _, _, d4⟩ := rul_cells hpb2
              have hpal := heap_lt hpa2
              have hpbl := heap_lt hpb2
              generalize hwz : wr = wz at *
              clear hwz
              by_cases hltj : j < a.body.length
              · have HDL : Hid (Tr.ruleEq q a b = (Tr.litEq q (Tr.litD a.body j) (Tr.litD b.body j) && Tr.listEq (Tr.litEq q) (a.body.drop (j + 1)) (b.body.drop (j + 1)))) := by
                  show _ = _
                  rw [HSE.out]
                  exact Tr.listEq_drop _ _ _ _ _ hltj (by omega)
                have hmaxX := hmaxL j hltj
                have hltjb : j < b.body.length := by omega
                obtain ⟨_, _, hv, hLA⟩ := hLa2
                rcases hLA with h | ⟨ba2, oa2, rfl, hcA⟩
                · rw [h] at hltj; exact absurd hltj (by simp)
                injection hv with e1 _ e3
                subst e1 e3
                obtain ⟨_, _, hv, hLB⟩ := hLb2
                rcases hLB with h | ⟨bb2, ob2, rfl, hcB⟩
                · rw [h] at hltjb; exact absurd hltjb (by simp)
                injection hv with e1 _ e3
                subst e1 e3
                obtain ⟨x0, x1, x2, x3, xv, x4, hTx⟩ := hcA j hltj
                obtain ⟨y0, y1, y2, y3, yv, y4, hTy⟩ := hcB j hltjb
                clear hcA hcB HSE
                generalize Tr.litD a.body j = x at *
                generalize Tr.litD b.body j = y at *
                obtain ⟨aotx, captx, rfl, hTx'⟩ := hTx
                obtain ⟨aoty, capty, rfl, hTy'⟩ := hTy
                go_upto_region 12 with fail
                go_cut [11, 12] (fun v8 v9 wq => ∃ px py : Nat, v8 = .pointer (some ⟨px, 0, none⟩) ∧ v9 = .pointer (some ⟨py, 0, none⟩) ∧ wq.heap[px]? = some (litObj x (.slice aotx x.terms.length captx)) ∧ wq.heap[py]? = some (litObj y (.slice aoty y.terms.length capty)) ∧ Below wz.heap.size wz wq)
                case first =>
                  go_region_held3 (fun w' => w'.cell? ⟨pa, 4, none⟩ = some (.slice (some ⟨ba2, oa2, none⟩) a.body.length capla) ∧ w'.cell? ⟨pb, 4, none⟩ = some (.slice (some ⟨bb2, ob2, none⟩) b.body.length caplb) ∧ w'.cell? ⟨ba2, oa2 + j * 5, none⟩ = some (.int .i64 x.kind) ∧ w'.cell? ⟨ba2, oa2 + j * 5 + 1, none⟩ = some (.int .i64 x.at_) ∧ w'.cell? ⟨ba2, oa2 + j * 5 + 2, none⟩ = some (.int .i64 x.op) ∧ w'.cell? ⟨ba2, oa2 + j * 5 + 3, none⟩ = some (.string ⟨x.name.toArray⟩) ∧ w'.cell? ⟨ba2, oa2 + j * 5 + 4, none⟩ = some (.slice aotx x.terms.length captx) ∧
                    w'.cell? ⟨bb2, ob2 + j * 5, none⟩ = some (.int .i64 y.kind) ∧ w'.cell? ⟨bb2, ob2 + j * 5 + 1, none⟩ = some (.int .i64 y.at_) ∧ w'.cell? ⟨bb2, ob2 + j * 5 + 2, none⟩ = some (.int .i64 y.op) ∧ w'.cell? ⟨bb2, ob2 + j * 5 + 3, none⟩ = some (.string ⟨y.name.toArray⟩) ∧ w'.cell? ⟨bb2, ob2 + j * 5 + 4, none⟩ = some (.slice aoty y.terms.length capty)) (go_keep) (fail)
                  all_goals (go_wp2_with fail; go_meet)
                  · exact ⟨_, _, rfl, rfl, (heap_two wz _ _).1, (heap_two wz _ _).2.1, (heap_two wz _ _).2.2⟩
                  · exact ⟨_, _, rfl, rfl, (heap_two wz _ _).2.1, (heap_two wz _ _).1, (heap_two wz _ _).2.2⟩
                case rest =>
                  obtain ⟨px, py, rfl, rfl, hpx, hpy, hbq⟩ := hcut
                  generalize wc = wq at *
                  have hTx : TermsV wq (.slice aotx x.terms.length captx) x.terms := termsV_below ⟨aotx, captx, rfl, hTx'⟩ hbq
                  have hTy : TermsV wq (.slice aoty y.terms.length capty) y.terms := termsV_below ⟨aoty, capty, rfl, hTy'⟩ hbq
                  have HE : Hid (Calls Tryz.prog 58 #[.slice aotx x.terms.length captx, .slice aoty y.terms.length capty] wq fun e w' => e = .returned (.bool (Tr.termsEq x.terms y.terms)) ∧ ∃ k', w' = wq.drewN k') := sameTerms_any x.terms y.terms wq _ _ hTx hTy hmaxX
                  have hbw4 := hbw3.trans (hbq.mono hbw3.size)
                  have hbz4 := hbz.trans (hbq.mono hbz.size)
                  clear hTx hTy hTx' hTy' x0 x1 x2 x3 x4 y0 y1 y2 y3 y4 c4 d4 hpa2 hpb2 hbr3
                  obtain ⟨x0, x1, x2, x3, x4⟩ := lit_cells hpx
                  obtain ⟨y0, y1, y2, y3, y4⟩ := lit_cells hpy
                  go_upto_region 13 with fail
                  go_cut [129] (fun v wk => v = .bool (!(Tr.litEq q x y)) ∧ ∃ nz, wk = wq.drewN nz)
                  case first =>
                    cases q
                    · skip
                      cases h1 : (x.kind != y.kind)
                      rotate_left
                      · skip
                        go_wp2_with (go_at_call 58; refine Calls.mono HE.out ?_; rintro e y1 ⟨rfl, kq, rfl⟩)
                        go_meet
                        exact ⟨by simp [Tr.litEq, *], 0, rfl⟩
                      · cases h2 : (x.op != y.op)
                        rotate_left
                        · skip
                          go_wp2_with (go_at_call 58; refine Calls.mono HE.out ?_; rintro e y1 ⟨rfl, kq, rfl⟩)
                          go_meet
                          exact ⟨by simp [Tr.litEq, *], 0, rfl⟩
                        · cases h3 : (x.name == y.name)
                          · skip
                            go_wp2_with (go_at_call 58; refine Calls.mono HE.out ?_; rintro e y1 ⟨rfl, kq, rfl⟩)
                            go_meet
                            exact ⟨by simp [Tr.litEq, *], 0, rfl⟩
                          · cases h4 : Tr.termsEq x.terms y.terms
                            · skip
                              go_wp2_with (go_at_call 58; refine Calls.mono HE.out ?_; rintro e y1 ⟨rfl, kq, rfl⟩)
                              go_meet
                              exact ⟨by simp [Tr.litEq, *], kq, rfl⟩
                            · skip
                              go_wp2_with (go_at_call 58; refine Calls.mono HE.out ?_; rintro e y1 ⟨rfl, kq, rfl⟩)
                              go_meet
                              exact ⟨by simp [Tr.litEq, *], kq, rfl⟩
                    · cases h0 : (x.at_ != y.at_)
                      · skip
                        cases h1 : (x.kind != y.kind)
                        rotate_left
                        · skip
                          go_wp2_with (go_at_call 58; refine Calls.mono HE.out ?_; rintro e y1 ⟨rfl, kq, rfl⟩)
                          go_meet
                          exact ⟨by simp [Tr.litEq, *], 0, rfl⟩
                        · cases h2 : (x.op != y.op)
                          rotate_left
                          · skip
                            go_wp2_with (go_at_call 58; refine Calls.mono HE.out ?_; rintro e y1 ⟨rfl, kq, rfl⟩)
                            go_meet
                            exact ⟨by simp [Tr.litEq, *], 0, rfl⟩
                          · cases h3 : (x.name == y.name)
                            · skip
                              go_wp2_with (go_at_call 58; refine Calls.mono HE.out ?_; rintro e y1 ⟨rfl, kq, rfl⟩)
                              go_meet
                              exact ⟨by simp [Tr.litEq, *], 0, rfl⟩
                            · cases h4 : Tr.termsEq x.terms y.terms
                              · skip
                                go_wp2_with (go_at_call 58; refine Calls.mono HE.out ?_; rintro e y1 ⟨rfl, kq, rfl⟩)
                                go_meet
                                exact ⟨by simp [Tr.litEq, *], kq, rfl⟩
                              · skip
                                go_wp2_with (go_at_call 58; refine Calls.mono HE.out ?_; rintro e y1 ⟨rfl, kq, rfl⟩)
                                go_meet
                                exact ⟨by simp [Tr.litEq, *], kq, rfl⟩
                      · skip
                        go_wp2_with (go_at_call 58; refine Calls.mono HE.out ?_; rintro e y1 ⟨rfl, kq, rfl⟩)
                        go_meet
                        exact ⟨by simp [Tr.litEq, *], 0, rfl⟩
                  case rest =>
                    obtain ⟨rfl, nz2, rfl⟩ := hcut
                    cases hh2 : Tr.litEq q x y
                    · have HV : Hid (Tr.treeEq q l m = false) := by show _ = _; rw [HD.out, HDL.out, hh2]; rfl
                      clear HD HDL
                      go_wp2_with fail
                      go_ret
                      exact ⟨ret_bool HV.out.symm, below_drewN hbw4 _⟩
                    · have HV : Hid (Tr.ruleEq q a b = Tr.listEq (Tr.litEq q) (a.body.drop (j + 1)) (b.body.drop (j + 1))) := by show _ = _; rw [HDL.out, hh2]; rfl
                      clear HDL
                      go_wp2_with fail
                      go_roundw
                      case rel => exact ⟨j + 1, by omega, by go_num, HV.out, below_drewN hbz4 _⟩
                      case measure => simp [intOf]; omega
              · have HV : Hid (Tr.ruleEq q a b = true) := by
                  show _ = _
                  rw [HSE.out, List.drop_of_length_le (by omega), List.drop_of_length_le (by omega)]
                  rfl
                have HV2 : Hid (Tr.treeEq q l m = Tr.treeEq q (l.drop (k + 1)) (m.drop (k + 1))) := by show _ = _; rw [HD.out, HV.out]; rfl
                clear HD HV HSE
                go_wp2_with fail
                go_roundw
                case rel => exact ⟨k + 1, by omega, by go_num, HV2.out, hbr3⟩
                case measure => simp [intOf]; omega
    · have HV : Hid (Tr.treeEq q l m = true) := by
        show _ = _
        rw [HS.out, List.drop_of_length_le (by rw [HA.out]; omega), List.drop_of_length_le (by rw [HB.out]; omega)]
        rfl
      clear HS hA hB
      go_wp2_with fail
      go_ret
      exact ⟨ret_bool HV.out.symm, hbw⟩

set_option maxRecDepth 100000 in
set_option maxHeartbeats 400000 in
theorem sameTree_diff (q : Bool) (w : World) (ao bo : Option Addr) (n m ca cb : Nat) (h : ¬ n = m) :
    Calls Tryz.prog 23 #[.agg #[.slice ao n ca], .agg #[.slice bo m cb], .bool q] w fun e w' => e = .returned (.bool false) ∧ Below w.heap.size w w' := by
  have hne : ((n : Int) != (m : Int)) = true := bne_iff_ne.2 (by omega)
  have hbel0 : Below w.heap.size w ((w.alloc (.cells #[.slice ao n ca] 36)).alloc (.cells #[.slice bo m cb] 36)) := ((Below.refl _ _).alloc (Nat.le_refl _) _).alloc (by simp) _
  go_enter Tryz.func23, Tryz.ntmps23
  go_wp2_with fail
  go_ret
  exact ⟨rfl, hbel0⟩

set_option maxRecDepth 100000 in
set_option maxHeartbeats 400000 in
theorem sameTree_none (q : Bool) (w : World) (ao bo : Option Addr) (ca cb : Nat) :
    Calls Tryz.prog 23 #[.agg #[.slice ao 0 ca], .agg #[.slice bo 0 cb], .bool q] w fun e w' => e = .returned (.bool true) ∧ Below w.heap.size w w' := by
  have hbel0 : Below w.heap.size w ((w.alloc (.cells #[.slice ao 0 ca] 36)).alloc (.cells #[.slice bo 0 cb] 36)) := ((Below.refl _ _).alloc (Nat.le_refl _) _).alloc (by simp) _
  go_enter Tryz.func23, Tryz.ntmps23
  go_wp2_with fail
  refine wp_loop_rounds 1 ?_
  rw [rounds_succ]
  go_wp2_with fail
  go_ret
  exact ⟨rfl, hbel0⟩

/-- Trees that are not too great for the machine's counters. -/
def Fine (l : List Tr.Rule) : Prop := l.length ≤ 9223372036854775807 ∧ ∀ i, i < l.length → (Tr.ruleD l i).terms.length ≤ 9223372036854775807 ∧ (Tr.ruleD l i).body.length ≤ 9223372036854775807 ∧ FitsB (Tr.ruleD l i).body

/-- SameTree, whatever trees it is handed. -/
theorem sameTree_any (l m : List Tr.Rule) (q : Bool) (w : World) (va vb : Value) (hA : RulesV w va l) (hB : RulesV w vb m) (hF : Fine l) :
    Calls Tryz.prog 23 #[.agg #[va], .agg #[vb], .bool q] w fun e w' => e = .returned (.bool (Tr.treeEq q l m)) ∧ Below w.heap.size w w' := by
  obtain ⟨ao, ca, rfl, hA⟩ := hA
  obtain ⟨bo, cb, rfl, hB⟩ := hB
  by_cases h : l.length = m.length
  · rcases hA with rfl | ⟨b, off, rfl, hA⟩
    · have hl : m = [] := List.eq_nil_of_length_eq_zero h.symm
      subst hl
      exact sameTree_none q w ao bo ca cb
    · rcases hB with rfl | ⟨b', off', rfl, hB⟩
      · have hl : l = [] := List.eq_nil_of_length_eq_zero h
        subst hl
        exact sameTree_none q w _ bo ca cb
      · rw [← h]
        exact sameTree_loop l m q w l.length ca cb b off b' off' rfl h.symm hF.1 hF.2 hA (by rw [h]; exact hB)
  · rw [show Tr.treeEq q l m = false from Tr.listEq_len _ l m h]
    exact sameTree_diff q w ao bo _ _ ca cb h

end Go.Proofs.YtgpaleifhcdjnaaGreatDoor

