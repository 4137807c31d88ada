/- Own texts, one behind the other (part 2). -/
import Derived.Test.YtgpaleifhcdjnaaGreatDoorBundleA
import Derived.Test.YtgpaleifhcdjnaaGreatDoorRows
import Derived.Test.YtgpaleifhcdjnaaGreatDoorCards
import Derived.Test.YtgpaleifhcdjnaaGreatDoorTie
import Derived.Deep.QuietTactic
import Derived.BigQuiet
import Derived.WalkKit
import Derived.WalkSpells
import Derived.WalkLawsBesides
import Derived.Lib.Builder
import Derived.Lib.AppendStr
import Derived.Lib.OthersKept
import Derived.Laws.Externs
import Derived.Lib.UnsafeStr
import Derived.Deep.RegionHeld3
import Derived.Deep.DeepCutAuto
import Derived.Deep.RegionLaw
import Derived.RegionDies
import Derived.Deep.RegionHeld2
import Derived.Lib.Atoi
/- The document's answer: the tokens of a text. -/
namespace Go.Proofs.YtgpaleifhcdjnaaGreatDoor
open Go.RowKit

/-- What is wrong with a token, by its kind and length. -/
theorem tok_cases (c : UInt8) (r : List UInt8) :
    (Tk.lenOf (c :: r) = 0 ∧ Tk.errOf (c :: r) = 1) ∨
    (1 ≤ Tk.lenOf (c :: r) ∧ (Tk.kindOf (c :: r) = 1 ∨ Tk.kindOf (c :: r) = 2) ∧ 12 < Tk.lenOf (c :: r) ∧ Tk.errOf (c :: r) = 2) ∨
    (1 ≤ Tk.lenOf (c :: r) ∧ (Tk.kindOf (c :: r) = 1 ∨ Tk.kindOf (c :: r) = 2) ∧ Tk.lenOf (c :: r) ≤ 12 ∧ Tk.errOf (c :: r) = 0) ∨
    (1 ≤ Tk.lenOf (c :: r) ∧ Tk.kindOf (c :: r) = 3 ∧ 7 < Tk.lenOf (c :: r) ∧ Tk.errOf (c :: r) = 2) ∨
    (1 ≤ Tk.lenOf (c :: r) ∧ Tk.kindOf (c :: r) = 3 ∧ 1 < Tk.lenOf (c :: r) ∧ Tk.lenOf (c :: r) ≤ 7 ∧ (c.toNat : Int) = 48 ∧ Tk.errOf (c :: r) = 1) ∨
    (1 ≤ Tk.lenOf (c :: r) ∧ Tk.kindOf (c :: r) = 3 ∧ Tk.lenOf (c :: r) ≤ 1 ∧ Tk.errOf (c :: r) = 0) ∨
    (1 ≤ Tk.lenOf (c :: r) ∧ Tk.kindOf (c :: r) = 3 ∧ 1 < Tk.lenOf (c :: r) ∧ Tk.lenOf (c :: r) ≤ 7 ∧ ¬ (c.toNat : Int) = 48 ∧ Tk.errOf (c :: r) = 0) ∨
    (1 ≤ Tk.lenOf (c :: r) ∧ Tk.kindOf (c :: r) = 4 ∧ Tk.errOf (c :: r) = 0) := by
  rw [lenOf_cons, kindOf_cons, errOf_cons]
  have pw : (Tk.small c.toNat || Tk.great c.toNat) = true → 1 ≤ Tk.pre Tk.alnum (c :: r) := fun h => Tk.pre_pos (by unfold Tk.alnum; rw [h]; rfl)
  have pd : Tk.digit c.toNat = true → 1 ≤ Tk.pre Tk.digit (c :: r) := fun h => Tk.pre_pos h
  cases h1 : Tk.small c.toNat
  · cases h2 : Tk.great c.toNat
    · cases h3 : Tk.digit c.toNat
      · simp only [Bool.or_self, Bool.false_eq_true, if_false]
        by_cases h : Tk.signLen (c :: r) = 0
        · exact .inl ⟨h, by rw [if_pos h]⟩
        · exact .inr (.inr (.inr (.inr (.inr (.inr (.inr ⟨by omega, trivial, by rw [if_neg h]⟩))))))
      · have p3 := pd h3
        simp only [Bool.or_self, Bool.false_eq_true, if_false, if_true]
        by_cases h : Tk.pre Tk.digit (c :: r) > 7
        · exact .inr (.inr (.inr (.inl ⟨p3, trivial, h, by rw [if_pos h]⟩)))
        · by_cases h' : Tk.pre Tk.digit (c :: r) > 1
          · by_cases h4 : (c.toNat : Int) = 48
            · exact .inr (.inr (.inr (.inr (.inl ⟨p3, trivial, h', by omega, h4, by rw [if_neg h, if_pos ⟨h4, h'⟩]⟩))))
            · exact .inr (.inr (.inr (.inr (.inr (.inr (.inl ⟨p3, trivial, h', by omega, h4, by rw [if_neg h, if_neg (fun x => h4 x.1)]⟩))))))
          · exact .inr (.inr (.inr (.inr (.inr (.inl ⟨p3, trivial, by omega, by rw [if_neg h, if_neg (fun x => h' x.2)]⟩)))))
    · have p2 := pw (by rw [h1, h2]; rfl)
      simp only [Bool.or_true, Bool.false_eq_true, if_false, if_true]
      by_cases h : Tk.pre Tk.alnum (c :: r) > 12
      · exact .inr (.inl ⟨p2, .inr trivial, h, by rw [if_pos h]⟩)
      · exact .inr (.inr (.inl ⟨p2, .inr trivial, by omega, by rw [if_neg h]⟩))
  · have p1 := pw (by rw [h1]; rfl)
    simp only [Bool.true_or, if_true]
    by_cases h : Tk.pre Tk.alnum (c :: r) > 12
    · exact .inr (.inl ⟨p1, .inl trivial, h, by rw [if_pos h]⟩)
    · exact .inr (.inr (.inl ⟨p1, .inl trivial, by omega, by rw [if_neg h]⟩))

theorem sep_open (s : ByteArray) (k : Nat) (h : k < s.size) (hc : (s[k].toNat : Int) = 37) : Tk.sep false (s.data.toList.drop k) = Tk.sep true (s.data.toList.drop (k + 1)) + 1 := by
  rw [drop_at s k h, Tk.sep, if_pos hc]
theorem sep_lf (s : ByteArray) (k : Nat) (h : k < s.size) (hc : (s[k].toNat : Int) = 10) : Tk.sep true (s.data.toList.drop k) = Tk.sep false (s.data.toList.drop (k + 1)) + 1 := by
  rw [drop_at s k h, Tk.sep, if_pos hc]
theorem sep_more (s : ByteArray) (k : Nat) (h : k < s.size) (hc : ¬ (s[k].toNat : Int) = 10) : Tk.sep true (s.data.toList.drop k) = Tk.sep true (s.data.toList.drop (k + 1)) + 1 := by
  rw [drop_at s k h, Tk.sep, if_neg hc]

set_option maxRecDepth 100000 in
set_option maxHeartbeats 400000 in
theorem ScanOf_long (s : ByteArray) (w : World) (hs : 5000 < s.size) : Calls Tryz.prog 49 #[.string s] w (ScanTop s.data.toList w) := by
  have HL : Hid (Tk.scan s.data.toList = ([], 0, 2)) := by
    show _ = _
    unfold Tk.scan
    rw [if_pos (by simpa using hs)]
  go_enter Tryz.func49, Tryz.ntmps49
  go_wp2
  go_ret3
  refine ⟨none, 0, ?_, ?_, Below.refl _ _⟩
  · rw [HL.out]; rfl
  · rw [HL.out]; exact World.ownsRow_nil _ _ _ _

/-- The loop of the document's scan. -/
def RefRel (s : ByteArray) (w : World) (v nt i : Value) (wr : World) : Prop :=
  ∃ (f p : Nat) (b : Bool) (acc : List Tk.Tok) (ao : Option Addr) (cap : Nat), p ≤ s.size ∧ s.size ≤ p + Tk.sep b (s.data.toList.drop p) + f ∧ acc.length ≤ p ∧ v = .slice ao acc.length cap ∧ nt = .bool b ∧ i = .int .i64 p ∧
    Tk.scanP s.data.toList f (p + Tk.sep b (s.data.toList.drop p)) acc = Tk.scan s.data.toList ∧ wr.ownsRow w.heap.size 53 3 (.slice ao acc.length cap) acc.length (allCells acc) ∧ Below w.heap.size w wr

theorem ext_zero (s : ByteArray) (p n : Nat) (h : p < s.size) (hn : 1 ≤ n) : (((s.extract p (p + n))[0]'(by simp; omega)).toNat : Int) = (s[p].toNat : Int) := by
  have h1 : (s.extract p (p + n)).data.toList[0]? = some s[p] := by
    rw [Lib.extract_data, Nat.add_sub_cancel_left, List.getElem?_take, if_pos (by omega), List.getElem?_drop, Nat.add_zero]
    exact List.getElem?_eq_getElem (by simpa using h)
  have h3 : (s.extract p (p + n)).data.toList[0]? = some ((s.extract p (p + n))[0]'(by simp; omega)) := List.getElem?_eq_getElem (by simp; omega)
  rw [h1] at h3
  rw [Option.some.inj h3]

theorem tok_cells (s : ByteArray) (p : Nat) (K : Int) (h : Tk.kindOf (s.data.toList.drop p) = K) : [Value.int .i64 K, .int .i64 p, .string (s.extract p (p + Tk.lenOf (s.data.toList.drop p)))] = tokCells (Tk.tokAt s.data.toList p) := by
  subst h
  rw [extract_take]
  rfl

theorem ref_more (s : ByteArray) (f p : Nat) (acc : List Tk.Tok) (hlt : p < s.size) (hpf : s.size ≤ p + f) (h : Tk.scanP s.data.toList f p acc = Tk.scan s.data.toList) (he : Tk.errOf (s.data.toList.drop p) = 0) :
    ∃ f1, Hid (s.size ≤ p + 1 + f1 ∧ Tk.scanP s.data.toList f1 (p + Tk.lenOf (s.data.toList.drop p) + Tk.sep false (s.data.toList.drop (p + Tk.lenOf (s.data.toList.drop p)))) (acc ++ [Tk.tokAt s.data.toList p]) = Tk.scan s.data.toList) := by
  obtain ⟨f, rfl⟩ : ∃ f', f = f' + 1 := ⟨f - 1, by omega⟩
  exact ⟨f, by omega, (Tk.scanP_yes _ _ _ _ (by simpa using hlt) he).symm.trans h⟩

theorem ref_rel {s : ByteArray} {w w2 : World} {p f1 : Nat} {acc : List Tk.Tok} {ao : Option Addr} {cap : Nat} (hlt : p < s.size) (hlen : Tk.lenOf (s.data.toList.drop p) ≤ (s.data.toList.drop p).length) (hdl : (s.data.toList.drop p).length = s.size - p) (hacc : acc.length ≤ p) (h1 : 1 ≤ Tk.lenOf (s.data.toList.drop p))
    (HF : s.size ≤ p + 1 + f1 ∧ Tk.scanP s.data.toList f1 (p + Tk.lenOf (s.data.toList.drop p) + Tk.sep false (s.data.toList.drop (p + Tk.lenOf (s.data.toList.drop p)))) (acc ++ [Tk.tokAt s.data.toList p]) = Tk.scan s.data.toList)
    (hown : w2.ownsRow w.heap.size 53 3 (.slice ao (acc.length + 1) cap) (acc.length + 1) (allCells acc ++ tokCells (Tk.tokAt s.data.toList p))) (hbel : Below w.heap.size w w2) :
    RefRel s w (.slice ao (acc.length + 1) cap) (.bool false) (.int .i64 ((p : Int) + ((Tk.lenOf (s.data.toList.drop p) : Nat) : Int))) w2 := by
  obtain ⟨g1, g2⟩ := HF
  refine ⟨f1, p + Tk.lenOf (s.data.toList.drop p), false, acc ++ [Tk.tokAt s.data.toList p], ao, cap, by omega, by omega, by simp; omega, by simp, rfl, by go_num, g2, ?_, hbel⟩
  rw [allCells_snoc]
  simpa using hown

set_option maxRecDepth 100000 in
set_option maxHeartbeats 4000000 in
theorem ScanOf_short (s : ByteArray) (w : World) (hs : s.size ≤ 5000) : Calls Tryz.prog 49 #[.string s] w (ScanTop s.data.toList w) := by
  obtain ⟨i0, hi, hz0, hz1, hz2⟩ := info_parts A_info34
  go_enter Tryz.func49, Tryz.ntmps49
  go_wp2_with fail
  go_loopw [5, 6, 7] (fun v nt i wr => RefRel s w v nt i wr) (fun _ _ i _ => s.size - (intOf i).toNat)
  case atStart =>
    refine ⟨s.size, 0, false, [], none, 0, by omega, by omega, Nat.le_refl _, rfl, rfl, rfl, ?_, World.ownsRow_nil _ _ _ _, Below.refl _ _⟩
    unfold Tk.scan
    rw [if_neg (by simpa using hs), List.drop_zero, Nat.zero_add]
    rfl
  case round =>
    obtain ⟨f, p, b, acc, ao, cap, hp, hpf, hacc, rfl, rfl, rfl, hscan, hown, hbel⟩ := hrel
    have HS : Hid (Tk.scanP s.data.toList f (p + Tk.sep b (s.data.toList.drop p)) acc = Tk.scan s.data.toList) := hscan
    clear hscan
    by_cases hlt : p < s.size
    · cases b
      · by_cases b37 : (s[p].toNat : Int) = 37
        · have e : p + Tk.sep false (s.data.toList.drop p) = p + 1 + Tk.sep true (s.data.toList.drop (p + 1)) := by rw [sep_open s p hlt b37]; omega
          rw [e] at HS hpf
          have t37 : ((s[p].toNat : Int) == 37) = true := beq_iff_eq.2 b37
          have t10 : ((s[p].toNat : Int) != 10) = true := bne_iff_ne.2 (by omega)
          clear e b37
          go_wp2_with fail
          go_roundw
          case rel => exact ⟨f, p + 1, true, acc, ao, cap, by omega, hpf, by omega, rfl, rfl, by go_num, HS.out, hown, hbel⟩
          case measure => simp [intOf]; omega
        · have t37 : ((s[p].toNat : Int) == 37) = false := beq_eq_false_iff_ne.2 b37
          by_cases hb : (s[p].toNat : Int) = 32 ∨ (s[p].toNat : Int) = 9 ∨ (s[p].toNat : Int) = 10
          · have e : p + Tk.sep false (s.data.toList.drop p) = p + 1 + Tk.sep false (s.data.toList.drop (p + 1)) := by rw [sep_blank s p hlt hb]; omega
            rw [e] at HS hpf
            clear e b37
            by_cases b1 : (s[p].toNat : Int) = 32
            · have t1 : ((s[p].toNat : Int) == 32) = true := beq_iff_eq.2 b1
              clear b1 hb
              go_wp2_with fail
              go_roundw
              case rel => exact ⟨f, p + 1, false, acc, ao, cap, by omega, hpf, by omega, rfl, rfl, by go_num, HS.out, hown, hbel⟩
              case measure => simp [intOf]; omega
            · have t1 : ((s[p].toNat : Int) == 32) = false := beq_eq_false_iff_ne.2 b1
              by_cases b2 : (s[p].toNat : Int) = 9
              · have t2 : ((s[p].toNat : Int) == 9) = true := beq_iff_eq.2 b2
                clear b1 b2 hb
                go_wp2_with fail
                go_roundw
                case rel => exact ⟨f, p + 1, false, acc, ao, cap, by omega, hpf, by omega, rfl, rfl, by go_num, HS.out, hown, hbel⟩
                case measure => simp [intOf]; omega
              · have t2 : ((s[p].toNat : Int) == 9) = false := beq_eq_false_iff_ne.2 b2
                have t3 : ((s[p].toNat : Int) == 10) = true := beq_iff_eq.2 (by omega)
                clear b1 b2 hb
                go_wp2_with fail
                go_roundw
                case rel => exact ⟨f, p + 1, false, acc, ao, cap, by omega, hpf, by omega, rfl, rfl, by go_num, HS.out, hown, hbel⟩
                case measure => simp [intOf]; omega
          · have e : Tk.sep false (s.data.toList.drop p) = 0 := sep_stop s p hlt b37 hb
            rw [e, Nat.add_zero] at HS hpf
            have t1 : ((s[p].toNat : Int) == 32) = false := beq_eq_false_iff_ne.2 (by omega)
            have t2 : ((s[p].toNat : Int) == 9) = false := beq_eq_false_iff_ne.2 (by omega)
            have t3 : ((s[p].toNat : Int) == 10) = false := beq_eq_false_iff_ne.2 (by omega)
            clear e b37 hb
            have hd := drop_at s p hlt
            have TC := tok_cases s[p] (s.data.toList.drop (p + 1))
            rw [← hd] at TC
            have hlen := Tk.lenOf_le (s.data.toList.drop p)
            have hdl : (s.data.toList.drop p).length = s.size - p := by simp
            clear hd
            have hNO : Hid (∀ c : Int, ¬ c = 0 → Tk.errOf (s.data.toList.drop p) = c → Tk.scan s.data.toList = ([], p, c)) := by
              intro c hc hec
              rw [← hec]
              exact HS.out.symm.trans (Tk.scanP_no _ _ _ _ (by simpa using hlt) (by simpa using hpf) (by omega))
            rcases TC with ⟨c1, cE⟩ | ⟨c1, cK, c3, cE⟩ | ⟨c1, cK, c3, cE⟩ | ⟨c1, cK, c3, cE⟩ | ⟨c1, cK, c3, c4, c5, cE⟩ | ⟨c1, cK, c3, cE⟩ | ⟨c1, cK, c3, c4, c5, cE⟩ | ⟨c1, cK, cE⟩
            · have HN : Hid (_ = _) := hNO.out 1 (by decide) cE
              have HR : Hid (refKind (s.data.toList.drop p) = 0) := by show _ = _; unfold refKind; rw [if_pos c1]
              clear hNO cE HS hi hz0 hz1 hz2
              go_wp2_with fail
              refine (refAt_any s p _ (by omega) hlt).mono ?_
              rintro e w1 ⟨he, rfl⟩
              rw [HR.out] at he
              subst he
              go_wp2_with fail
              go_ret3
              refine ⟨none, 0, ?_, ?_, hbel⟩
              · rw [HN.out]; rfl
              · rw [HN.out]; exact World.ownsRow_nil _ _ _ _
            · rcases cK with cK | cK
              · have HN : Hid (_ = _) := hNO.out 2 (by decide) cE
                have HR : Hid (refKind (s.data.toList.drop p) = 1) := by show _ = _; unfold refKind; rw [if_neg (by omega)]; exact cK
                clear hNO cE cK HS hi hz0 hz1 hz2
                go_wp2_with fail
                refine (refAt_any s p _ (by omega) hlt).mono ?_
                rintro e w1 ⟨he, rfl⟩
                rw [HR.out] at he
                subst he
                go_wp2_with fail
                go_ret3
                refine ⟨none, 0, ?_, ?_, hbel⟩
                · rw [HN.out]; rfl
                · rw [HN.out]; exact World.ownsRow_nil _ _ _ _
              · have HN : Hid (_ = _) := hNO.out 2 (by decide) cE
                have HR : Hid (refKind (s.data.toList.drop p) = 2) := by show _ = _; unfold refKind; rw [if_neg (by omega)]; exact cK
                clear hNO cE cK HS hi hz0 hz1 hz2
                go_wp2_with fail
                refine (refAt_any s p _ (by omega) hlt).mono ?_
                rintro e w1 ⟨he, rfl⟩
                rw [HR.out] at he
                subst he
                go_wp2_with fail
                go_ret3
                refine ⟨none, 0, ?_, ?_, hbel⟩
                · rw [HN.out]; rfl
                · rw [HN.out]; exact World.ownsRow_nil _ _ _ _
            · rcases cK with cK | cK
              · have HR : Hid (refKind (s.data.toList.drop p) = 1) := by show _ = _; unfold refKind; rw [if_neg (by omega)]; exact cK
                have HC := ref_more s f p acc hlt hpf HS.out cE
                obtain ⟨f1, HF⟩ := HC
                have HT : Hid ([Value.int .i64 1, .int .i64 p, .string (s.extract p (p + Tk.lenOf (s.data.toList.drop p)))] = tokCells (Tk.tokAt s.data.toList p)) := tok_cells s p 1 cK
                clear hNO cE cK HS hpf
                have hd12 : decide ((12 : Int) < ((Tk.lenOf (s.data.toList.drop p) : Nat) : Int)) = false := by simp; omega
                go_wp2_with fail
                refine (refAt_any s p _ (by omega) hlt).mono ?_
                rintro e w1 ⟨he, rfl⟩
                rw [HR.out] at he
                subst he
                have hz := hbel.size
                go_wp2_with (at_builtin; refine wpList_append_own _ rfl (.tmp 95) (.tmp 100) 45 rfl w.heap.size 53 i0 _ 3 32 Tryz.underlying45 hi hz0 hz1 hz2 rfl (by decide) _ _ _ rfl (hown.alloc _) ⟨w1.heap.size, 0, none⟩ 1 1 [.int .i64 1, .int .i64 p, .string (s.extract p (p + Tk.lenOf (s.data.toList.drop p)))] rfl rfl ?c1 ?c2 ?c3 ?c4 ?c5 ?_)
                case c1 =>
                  intro j u hj
                  match j, hj with
                  | 0, hj => simp at hj; subst hj; simp [Addr.add, go_sem]
                  | 1, hj => simp at hj; subst hj; simp [Addr.add, go_sem]
                  | 2, hj => simp at hj; subst hj; simp [Addr.add, go_sem]
                case c2 => intro u hu; simp at hu; rcases hu with rfl | rfl | rfl <;> rfl
                case c3 => unfold maxLen; omega
                case c4 => omega
                case c5 => simp; omega
                intro v' w2 hown2 hgrow _
                obtain ⟨ao', cap', rfl⟩ := own_slice hown2
                have hbel2 := (hbel.alloc hz _).grown hgrow (by simp; omega) (fun k hk => (hown.lt k hk).1)
                rw [HT.out] at hown2
                clear hgrow hi hz0 hz1 hz2 hown
                go_wp2_with fail
                go_roundw
                case rel => exact ref_rel hlt hlen hdl hacc c1 HF.out hown2 hbel2
                case measure => simp [intOf]; omega
              · have HR : Hid (refKind (s.data.toList.drop p) = 2) := by show _ = _; unfold refKind; rw [if_neg (by omega)]; exact cK
                have HC := ref_more s f p acc hlt hpf HS.out cE
                obtain ⟨f1, HF⟩ := HC
                have HT : Hid ([Value.int .i64 2, .int .i64 p, .string (s.extract p (p + Tk.lenOf (s.data.toList.drop p)))] = tokCells (Tk.tokAt s.data.toList p)) := tok_cells s p 2 cK
                clear hNO cE cK HS hpf
                have hd12 : decide ((12 : Int) < ((Tk.lenOf (s.data.toList.drop p) : Nat) : Int)) = false := by simp; omega
                go_wp2_with fail
                refine (refAt_any s p _ (by omega) hlt).mono ?_
                rintro e w1 ⟨he, rfl⟩
                rw [HR.out] at he
                subst he
                have hz := hbel.size
                go_wp2_with (at_builtin; refine wpList_append_own _ rfl (.tmp 95) (.tmp 100) 45 rfl w.heap.size 53 i0 _ 3 32 Tryz.underlying45 hi hz0 hz1 hz2 rfl (by decide) _ _ _ rfl (hown.alloc _) ⟨w1.heap.size, 0, none⟩ 1 1 [.int .i64 2, .int .i64 p, .string (s.extract p (p + Tk.lenOf (s.data.toList.drop p)))] rfl rfl ?c1 ?c2 ?c3 ?c4 ?c5 ?_)
                case c1 =>
                  intro j u hj
                  match j, hj with
                  | 0, hj => simp at hj; subst hj; simp [Addr.add, go_sem]
                  | 1, hj => simp at hj; subst hj; simp [Addr.add, go_sem]
                  | 2, hj => simp at hj; subst hj; simp [Addr.add, go_sem]
                case c2 => intro u hu; simp at hu; rcases hu with rfl | rfl | rfl <;> rfl
                case c3 => unfold maxLen; omega
                case c4 => omega
                case c5 => simp; omega
                intro v' w2 hown2 hgrow _
                obtain ⟨ao', cap', rfl⟩ := own_slice hown2
                have hbel2 := (hbel.alloc hz _).grown hgrow (by simp; omega) (fun k hk => (hown.lt k hk).1)
                rw [HT.out] at hown2
                clear hgrow hi hz0 hz1 hz2 hown
                go_wp2_with fail
                go_roundw
                case rel => exact ref_rel hlt hlen hdl hacc c1 HF.out hown2 hbel2
                case measure => simp [intOf]; omega
            · have HN : Hid (_ = _) := hNO.out 2 (by decide) cE
              have HR : Hid (refKind (s.data.toList.drop p) = 3) := by show _ = _; unfold refKind; rw [if_neg (by omega)]; exact cK
              clear hNO cE cK HS hi hz0 hz1 hz2
              go_wp2_with fail
              refine (refAt_any s p _ (by omega) hlt).mono ?_
              rintro e w1 ⟨he, rfl⟩
              rw [HR.out] at he
              subst he
              go_wp2_with fail
              go_ret3
              refine ⟨none, 0, ?_, ?_, hbel⟩
              · rw [HN.out]; rfl
              · rw [HN.out]; exact World.ownsRow_nil _ _ _ _
            · have HN : Hid (_ = _) := hNO.out 1 (by decide) cE
              have HR : Hid (refKind (s.data.toList.drop p) = 3) := by show _ = _; unfold refKind; rw [if_neg (by omega)]; exact cK
              clear hNO cE cK HS hi hz0 hz1 hz2
              have hd7 : decide ((7 : Int) < ((Tk.lenOf (s.data.toList.drop p) : Nat) : Int)) = false := by simp; omega
              have hx : (((s.extract p (p + Tk.lenOf (s.data.toList.drop p)))[0]'(by simp; omega)).toNat : Int) = (s[p].toNat : Int) := ext_zero s p _ hlt (by omega)
              have h48 : ((((s.extract p (p + Tk.lenOf (s.data.toList.drop p)))[0]'(by simp; omega)).toNat : Int) == 48) = true := by rw [hx]; exact beq_iff_eq.2 c5
              clear hx c5
              go_wp2_with fail
              refine (refAt_any s p _ (by omega) hlt).mono ?_
              rintro e w1 ⟨he, rfl⟩
              rw [HR.out] at he
              subst he
              go_wp2_with fail
              go_ret3
              refine ⟨none, 0, ?_, ?_, hbel⟩
              · rw [HN.out]; rfl
              · rw [HN.out]; exact World.ownsRow_nil _ _ _ _
            · have HR : Hid (refKind (s.data.toList.drop p) = 3) := by show _ = _; unfold refKind; rw [if_neg (by omega)]; exact cK
              have HC := ref_more s f p acc hlt hpf HS.out cE
              obtain ⟨f1, HF⟩ := HC
              have HT : Hid ([Value.int .i64 3, .int .i64 p, .string (s.extract p (p + Tk.lenOf (s.data.toList.drop p)))] = tokCells (Tk.tokAt s.data.toList p)) := tok_cells s p 3 cK
              clear hNO cE cK HS hpf
              have hd7 : decide ((7 : Int) < ((Tk.lenOf (s.data.toList.drop p) : Nat) : Int)) = false := by simp; omega
              have hd1 : decide ((1 : Int) < ((Tk.lenOf (s.data.toList.drop p) : Nat) : Int)) = false := by simp; omega
              go_wp2_with fail
              refine (refAt_any s p _ (by omega) hlt).mono ?_
              rintro e w1 ⟨he, rfl⟩
              rw [HR.out] at he
              subst he
              have hz := hbel.size
              go_wp2_with (at_builtin; refine wpList_append_own _ rfl (.tmp 95) (.tmp 100) 45 rfl w.heap.size 53 i0 _ 3 32 Tryz.underlying45 hi hz0 hz1 hz2 rfl (by decide) _ _ _ rfl (hown.alloc _) ⟨w1.heap.size, 0, none⟩ 1 1 [.int .i64 3, .int .i64 p, .string (s.extract p (p + Tk.lenOf (s.data.toList.drop p)))] rfl rfl ?c1 ?c2 ?c3 ?c4 ?c5 ?_)
              case c1 =>
                intro j u hj
                match j, hj with
                | 0, hj => simp at hj; subst hj; simp [Addr.add, go_sem]
                | 1, hj => simp at hj; subst hj; simp [Addr.add, go_sem]
                | 2, hj => simp at hj; subst hj; simp [Addr.add, go_sem]
              case c2 => intro u hu; simp at hu; rcases hu with rfl | rfl | rfl <;> rfl
              case c3 => unfold maxLen; omega
              case c4 => omega
              case c5 => simp; omega
              intro v' w2 hown2 hgrow _
              obtain ⟨ao', cap', rfl⟩ := own_slice hown2
              have hbel2 := (hbel.alloc hz _).grown hgrow (by simp; omega) (fun k hk => (hown.lt k hk).1)
              rw [HT.out] at hown2
              clear hgrow hi hz0 hz1 hz2 hown
              go_wp2_with fail
              go_roundw
              case rel => exact ref_rel hlt hlen hdl hacc c1 HF.out hown2 hbel2
              case measure => simp [intOf]; omega
            · have HR : Hid (refKind (s.data.toList.drop p) = 3) := by show _ = _; unfold refKind; rw [if_neg (by omega)]; exact cK
              have HC := ref_more s f p acc hlt hpf HS.out cE
              obtain ⟨f1, HF⟩ := HC
              have HT : Hid ([Value.int .i64 3, .int .i64 p, .string (s.extract p (p + Tk.lenOf (s.data.toList.drop p)))] = tokCells (Tk.tokAt s.data.toList p)) := tok_cells s p 3 cK
              clear hNO cE cK HS hpf
              have hd7 : decide ((7 : Int) < ((Tk.lenOf (s.data.toList.drop p) : Nat) : Int)) = false := by simp; omega
              have hx : (((s.extract p (p + Tk.lenOf (s.data.toList.drop p)))[0]'(by simp; omega)).toNat : Int) = (s[p].toNat : Int) := ext_zero s p _ hlt (by omega)
              have h48 : ((((s.extract p (p + Tk.lenOf (s.data.toList.drop p)))[0]'(by simp; omega)).toNat : Int) == 48) = false := by rw [hx]; exact beq_eq_false_iff_ne.2 c5
              clear hx c5
              go_wp2_with fail
              refine (refAt_any s p _ (by omega) hlt).mono ?_
              rintro e w1 ⟨he, rfl⟩
              rw [HR.out] at he
              subst he
              have hz := hbel.size
              go_wp2_with (at_builtin; refine wpList_append_own _ rfl (.tmp 95) (.tmp 100) 45 rfl w.heap.size 53 i0 _ 3 32 Tryz.underlying45 hi hz0 hz1 hz2 rfl (by decide) _ _ _ rfl (hown.alloc _) ⟨w1.heap.size, 0, none⟩ 1 1 [.int .i64 3, .int .i64 p, .string (s.extract p (p + Tk.lenOf (s.data.toList.drop p)))] rfl rfl ?c1 ?c2 ?c3 ?c4 ?c5 ?_)
              case c1 =>
                intro j u hj
                match j, hj with
                | 0, hj => simp at hj; subst hj; simp [Addr.add, go_sem]
                | 1, hj => simp at hj; subst hj; simp [Addr.add, go_sem]
                | 2, hj => simp at hj; subst hj; simp [Addr.add, go_sem]
              case c2 => intro u hu; simp at hu; rcases hu with rfl | rfl | rfl <;> rfl
              case c3 => unfold maxLen; omega
              case c4 => omega
              case c5 => simp; omega
              intro v' w2 hown2 hgrow _
              obtain ⟨ao', cap', rfl⟩ := own_slice hown2
              have hbel2 := (hbel.alloc hz _).grown hgrow (by simp; omega) (fun k hk => (hown.lt k hk).1)
              rw [HT.out] at hown2
              clear hgrow hi hz0 hz1 hz2 hown
              go_wp2_with fail
              go_roundw
              case rel => exact ref_rel hlt hlen hdl hacc c1 HF.out hown2 hbel2
              case measure => simp [intOf]; omega
            · have HR : Hid (refKind (s.data.toList.drop p) = 4) := by show _ = _; unfold refKind; rw [if_neg (by omega)]; exact cK
              have HC := ref_more s f p acc hlt hpf HS.out cE
              obtain ⟨f1, HF⟩ := HC
              have HT : Hid ([Value.int .i64 4, .int .i64 p, .string (s.extract p (p + Tk.lenOf (s.data.toList.drop p)))] = tokCells (Tk.tokAt s.data.toList p)) := tok_cells s p 4 cK
              clear hNO cE cK HS hpf
              go_wp2_with fail
              refine (refAt_any s p _ (by omega) hlt).mono ?_
              rintro e w1 ⟨he, rfl⟩
              rw [HR.out] at he
              subst he
              have hz := hbel.size
              go_wp2_with (at_builtin; refine wpList_append_own _ rfl (.tmp 95) (.tmp 100) 45 rfl w.heap.size 53 i0 _ 3 32 Tryz.underlying45 hi hz0 hz1 hz2 rfl (by decide) _ _ _ rfl (hown.alloc _) ⟨w1.heap.size, 0, none⟩ 1 1 [.int .i64 4, .int .i64 p, .string (s.extract p (p + Tk.lenOf (s.data.toList.drop p)))] rfl rfl ?c1 ?c2 ?c3 ?c4 ?c5 ?_)
              case c1 =>
                intro j u hj
                match j, hj with
                | 0, hj => simp at hj; subst hj; simp [Addr.add, go_sem]
                | 1, hj => simp at hj; subst hj; simp [Addr.add, go_sem]
                | 2, hj => simp at hj; subst hj; simp [Addr.add, go_sem]
              case c2 => intro u hu; simp at hu; rcases hu with rfl | rfl | rfl <;> rfl
              case c3 => unfold maxLen; omega
              case c4 => omega
              case c5 => simp; omega
              intro v' w2 hown2 hgrow _
              obtain ⟨ao', cap', rfl⟩ := own_slice hown2
              have hbel2 := (hbel.alloc hz _).grown hgrow (by simp; omega) (fun k hk => (hown.lt k hk).1)
              rw [HT.out] at hown2
              clear hgrow hi hz0 hz1 hz2 hown
              go_wp2_with fail
              go_roundw
              case rel => exact ref_rel hlt hlen hdl hacc c1 HF.out hown2 hbel2
              case measure => simp [intOf]; omega
      · by_cases b10 : (s[p].toNat : Int) = 10
        · have e : p + Tk.sep true (s.data.toList.drop p) = p + 1 + Tk.sep false (s.data.toList.drop (p + 1)) := by rw [sep_lf s p hlt b10]; omega
          rw [e] at HS hpf
          have t10 : ((s[p].toNat : Int) != 10) = false := by simpa using b10
          clear e b10
          go_wp2_with fail
          go_roundw
          case rel => exact ⟨f, p + 1, false, acc, ao, cap, by omega, hpf, by omega, rfl, rfl, by go_num, HS.out, hown, hbel⟩
          case measure => simp [intOf]; omega
        · have e : p + Tk.sep true (s.data.toList.drop p) = p + 1 + Tk.sep true (s.data.toList.drop (p + 1)) := by rw [sep_more s p hlt b10]; omega
          rw [e] at HS hpf
          have t10 : ((s[p].toNat : Int) != 10) = true := bne_iff_ne.2 b10
          clear e b10
          go_wp2_with fail
          go_roundw
          case rel => exact ⟨f, p + 1, true, acc, ao, cap, by omega, hpf, by omega, rfl, rfl, by go_num, HS.out, hown, hbel⟩
          case measure => simp [intOf]; omega
    · have HE : Hid (Tk.scan s.data.toList = (acc, 0, 0)) := HS.out.symm.trans (Tk.scanP_end _ _ _ _ (by simp; omega))
      clear HS
      go_wp2_with fail
      go_ret3
      refine ⟨ao, cap, ?_, ?_, hbel⟩
      · rw [HE.out]; rfl
      · rw [HE.out]; exact hown

end Go.Proofs.YtgpaleifhcdjnaaGreatDoor

/- Lists of tokens in memory. -/
namespace Go.Proofs.YtgpaleifhcdjnaaGreatDoor
open Go.RowKit

namespace Tk
def sameOne (q : Bool) (x y : Tok) : Bool := (x.kind == y.kind) && (x.text == y.text) && (!q || x.at_ == y.at_)
/-- Are two lists of tokens the same? but for where they begin, if q is false. -/
def same (q : Bool) : List Tok → List Tok → Bool
  | [], [] => true
  | x :: a, y :: b => sameOne q x y && same q a b
  | _, _ => false
end Tk

theorem ret_bool {a b : Bool} (h : a = b) : Ending.returned (.bool a) = .returned (.bool b) := by rw [h]

theorem drewN_two (w : World) (a b : Nat) : (w.drewN a).drewN b = w.drewN (a + b) := by simp [World.drewN, Nat.add_assoc]

/-- A token's three cells. -/
def TokIn (w : World) (b off : Nat) (t : Tk.Tok) : Prop :=
  w.cell? ⟨b, off, none⟩ = some (.int .i64 t.kind) ∧ w.cell? ⟨b, off + 1, none⟩ = some (.int .i64 t.at_) ∧ w.cell? ⟨b, off + 2, none⟩ = some (.string ⟨t.text.toArray⟩)

def tokD (l : List Tk.Tok) (i : Nat) : Tk.Tok := l.getD i ⟨0, 0, []⟩
theorem drop_tok (l : List Tk.Tok) (k : Nat) (h : k < l.length) : l.drop k = tokD l k :: l.drop (k + 1) := by
  rw [List.drop_eq_getElem_cons h, tokD, List.getD_eq_getElem?_getD, List.getElem?_eq_getElem h]
  rfl

theorem allCells_get : ∀ (l : List Tk.Tok) (i j : Nat), i < l.length → j < 3 → (allCells l)[i * 3 + j]? = (tokCells (tokD l i))[j]? := by
  intro l
  induction l with
  | nil => intro i j h; exact absurd h (by simp)
  | cons t r ih =>
    intro i j hi hj
    have e : allCells (t :: r) = tokCells t ++ allCells r := by simp [allCells]
    have hl : (tokCells t).length = 3 := rfl
    rw [e]
    cases i with
    | zero => rw [Nat.zero_mul, Nat.zero_add, List.getElem?_append_left (by omega)]; rfl
    | succ i =>
      rw [List.getElem?_append_right (by omega), hl, show (i + 1) * 3 + j - 3 = i * 3 + j from by omega, ih i j (by simpa using hi) hj]
      rfl

/-- A list of tokens behind a slice. -/
def ToksAt (w : World) (ao : Option Addr) (l : List Tk.Tok) : Prop :=
  l = [] ∨ ∃ b off, ao = some ⟨b, off, none⟩ ∧ ∀ i, i < l.length → TokIn w b (off + i * 3) (tokD l i)

/-- A row of the call's own, read as tokens. -/
theorem toksAt_own {w : World} {base n : Nat} {ao : Option Addr} {cap : Nat} {l : List Tk.Tok} (h : w.ownsRow base 53 3 (.slice ao n cap) n (allCells l)) : ToksAt w ao l := by
  rcases h.2 with ⟨hv, h0⟩ | ⟨g, cap', cur, hv, hg, hbk, r⟩
  · left
    have h1 := h.1
    rw [h0, allCells_length] at h1
    exact List.eq_nil_of_length_eq_zero (by omega)
  · right
    have hv' : ao = some ⟨g, 0, none⟩ := by injection hv
    subst hv'
    refine ⟨g, 0, rfl, fun i hi => ?_⟩
    have hc := h.cells (g := g) rfl
    have hget : ∀ j, j < 3 → (allCells l)[i * 3 + j]? = (tokCells (tokD l i))[j]? := fun j hj => allCells_get l i j hi hj
    have hadd : ∀ k, ((⟨g, 0, none⟩ : Addr).add k) = ⟨g, 0 + k, none⟩ := fun _ => by simp [Addr.add]; exact fun h => h.symm
    refine ⟨?_, ?_, ?_⟩
    · have := hc (i * 3 + 0) _ ((hget 0 (by omega)).trans rfl)
      rw [hadd] at this
      simpa using this
    · have := hc (i * 3 + 1) _ ((hget 1 (by omega)).trans rfl)
      rw [hadd] at this
      simpa [Nat.add_assoc] using this
    · have := hc (i * 3 + 2) _ ((hget 2 (by omega)).trans rfl)
      rw [hadd] at this
      simpa [Nat.add_assoc] using this

end Go.Proofs.YtgpaleifhcdjnaaGreatDoor

/- When a text is just one token. -/
namespace Go.Proofs.YtgpaleifhcdjnaaGreatDoor
open Go.RowKit

namespace Tk
/-- Is a text just one token of a kind, as Scan tells? -/
def alone (k : Int) (t : List UInt8) : Bool := ((scan t).2.2 == 0) && (((scan t).1.length : Int) == 1) && ((tokD (scan t).1 0).kind == k) && ((tokD (scan t).1 0).text == t)
/-- Is a text just one token of a kind? -/
def isTok (k : Int) (t : List UInt8) : Bool := decide (t ≠ [] ∧ t.length ≤ 5000 ∧ errOf t = 0 ∧ kindOf t = k ∧ lenOf t = t.length)
end Tk

theorem sep_zero (c : UInt8) (r : List UInt8) (he : Tk.errOf (c :: r) = 0) : Tk.sep false (c :: r) = 0 := by
  have h := tok_cases c r
  have hk : ¬ ((c.toNat : Int) = 37 ∨ (c.toNat : Int) = 32 ∨ (c.toNat : Int) = 9 ∨ (c.toNat : Int) = 10) := by
    intro hc
    have h1 : Tk.small c.toNat = false := by unfold Tk.small; rcases hc with h | h | h | h <;> rw [h] <;> rfl
    have h2 : Tk.great c.toNat = false := by unfold Tk.great; rcases hc with h | h | h | h <;> rw [h] <;> rfl
    have h3 : Tk.digit c.toNat = false := by unfold Tk.digit; rcases hc with h | h | h | h <;> rw [h] <;> rfl
    have h4 : Tk.signLen (c :: r) = 0 := by
      have hn : c.toNat = 37 ∨ c.toNat = 32 ∨ c.toNat = 9 ∨ c.toNat = 10 := by omega
      have hc' : c = 37 ∨ c = 32 ∨ c = 9 ∨ c = 10 := by
        rcases hn with h | h | h | h
        · exact .inl (UInt8.toNat_inj.1 h)
        · exact .inr (.inl (UInt8.toNat_inj.1 h))
        · exact .inr (.inr (.inl (UInt8.toNat_inj.1 h)))
        · exact .inr (.inr (.inr (UInt8.toNat_inj.1 h)))
      rcases hc' with rfl | rfl | rfl | rfl <;> simp [Tk.signLen, Tk.isSign, List.isPrefixOf]
    rw [errOf_cons, h1, h2, h3] at he
    simp [h4] at he
  rw [Tk.sep, if_neg (fun h => hk (.inl h)), if_neg (fun h => hk (.inr h))]

theorem isTok_scan (k : Int) (t : List UInt8) (h : Tk.isTok k t = true) : Tk.scan t = ([{ kind := k, at_ := 0, text := t }], 0, 0) := by
  have h := of_decide_eq_true h
  obtain ⟨h1, h2, h3, h4, h5⟩ := h
  match t, h1 with
  | c :: r, _ =>
    unfold Tk.scan
    rw [if_neg (by omega), sep_zero c r h3]
    have hl : (c :: r).length = r.length + 1 := rfl
    rw [hl, Tk.scanP, if_neg (by simp), List.drop_zero, if_pos h3, Tk.scanP_end _ _ _ _ (by omega)]
    simp only [List.nil_append, Tk.tokAt, List.drop_zero, h4, h5]
    rw [List.take_length]
    rfl

theorem alone_of_isTok (k : Int) (t : List UInt8) (h : Tk.isTok k t = true) : Tk.alone k t = true := by
  unfold Tk.alone
  rw [isTok_scan k t h]
  simp [tokD]

/-- What scanP puts in front stays there. -/
theorem scanP_front (L : List UInt8) : ∀ (f p : Nat) (acc : List Tk.Tok), (Tk.scanP L f p acc).2.2 = 0 → ∃ r, (Tk.scanP L f p acc).1 = acc ++ r := by
  intro f
  induction f with
  | zero => intro p acc _; exact ⟨[], by simp [Tk.scanP]⟩
  | succ f ih =>
    intro p acc h
    rw [Tk.scanP] at h ⊢
    split
    · exact ⟨[], by simp⟩
    · rename_i h1
      rw [if_neg h1] at h
      split
      · rename_i h2
        rw [if_pos h2] at h
        obtain ⟨r, hr⟩ := ih _ _ h
        exact ⟨Tk.tokAt L p :: r, by rw [hr]; simp⟩
      · rename_i h2
        rw [if_neg h2] at h
        exact absurd h h2

theorem isTok_of_alone (k : Int) (t : List UInt8) (h : Tk.alone k t = true) : Tk.isTok k t = true := by
  unfold Tk.alone at h
  simp only [Bool.and_eq_true, beq_iff_eq] at h
  obtain ⟨⟨⟨h1, h2⟩, h3⟩, h4⟩ := h
  have hl : t.length ≤ 5000 := by
    by_cases hh : 5000 < t.length
    · exfalso
      rw [Tk.scan, if_pos hh] at h1
      exact absurd h1 (by decide)
    · omega
  have hs : Tk.scan t = Tk.scanP t t.length (Tk.sep false t) [] := by rw [Tk.scan, if_neg (by omega)]
  have hsl := Tk.sep_le false t
  rw [hs] at h1 h2 h3 h4
  generalize hp : Tk.sep false t = p at *
  have hlt : p < t.length := by
    rcases Nat.lt_or_ge p t.length with hh | hh
    · exact hh
    · exfalso
      rw [Tk.scanP_end _ _ _ _ hh] at h2
      exact absurd h2 (by decide)
  have he : Tk.errOf (t.drop p) = 0 := by
    by_cases hh : Tk.errOf (t.drop p) = 0
    · exact hh
    · exfalso
      rw [Tk.scanP_no _ _ _ _ hlt (by omega) hh] at h1
      exact hh h1
  obtain ⟨f, hf⟩ : ∃ f, t.length = f + 1 := ⟨t.length - 1, by omega⟩
  rw [hf, Tk.scanP_yes _ _ _ _ hlt he] at h1 h3 h4
  obtain ⟨r, hr⟩ := scanP_front t _ _ _ h1
  rw [hr] at h3 h4
  have e3 : (Tk.tokAt t p).kind = k := h3
  have e4 : (Tk.tokAt t p).text = t := h4
  have e5 : (t.drop p).take (Tk.lenOf (t.drop p)) = t := e4
  have e6 := congrArg List.length e5
  rw [List.length_take, List.length_drop] at e6
  have p0 : p = 0 := by omega
  subst p0
  rw [List.drop_zero] at e6 he
  have e7 : Tk.kindOf t = k := by have := e3; rw [Tk.tokAt, List.drop_zero] at this; exact this
  have hle := Tk.lenOf_le t
  refine decide_eq_true ⟨?_, hl, he, e7, by omega⟩
  intro hn
  rw [hn] at hlt
  exact absurd hlt (by simp)

theorem alone_eq (k : Int) (t : List UInt8) : Tk.alone k t = Tk.isTok k t := by
  rw [Bool.eq_iff_iff]
  exact ⟨isTok_of_alone k t, alone_of_isTok k t⟩

end Go.Proofs.YtgpaleifhcdjnaaGreatDoor

/- Trees, plain: what Check says; nothing of the program stands here. -/
namespace Go.Proofs.YtgpaleifhcdjnaaGreatDoor
namespace Tr

structure Term where
  var : List UInt8
  n : Int
structure Lit where
  kind : Int
  at_ : Int
  op : Int
  name : List UInt8
  terms : List Term
structure Rule where
  at_ : Int
  name : List UInt8
  terms : List Term
  fold : Int
  body : List Lit

def foldOf (s : List UInt8) : Int :=
  if s == [99, 111, 117, 110, 116] then 1 else if s == [115, 117, 109] then 2 else if s == [108, 101, 97, 115, 116] then 3 else if s == [109, 111, 115, 116] then 4 else 0
def isWord (s : List UInt8) : Bool := (s == [110, 111, 116]) || (foldOf s != 0)
def isName (s : List UInt8) : Bool := Tk.isTok 1 s && !isWord s
def between (n a b : Int) : Bool := decide (a ≤ n) && decide (n ≤ b)
def termOk (t : Term) : Bool := if t.var.isEmpty then between t.n (-9999999) 9999999 else (t.n == 0) && Tk.isTok 2 t.var
def termsOk (l : List Term) : Bool := l.all termOk
def foldOk (f : Int) (terms body : Nat) : Bool := (f == 0) || (between f 1 4 && decide (0 < terms) && decide (0 < body))
def litOk (l : Lit) : Bool :=
  termsOk l.terms && (if l.kind = 1 ∨ l.kind = 2 then (l.op == 0) && isName l.name
    else if l.kind = 3 then between l.op 1 4 && l.name.isEmpty && ((l.terms.length : Int) == 2)
    else if l.kind = 4 then between l.op 5 7 && l.name.isEmpty && ((l.terms.length : Int) == 3) else false)
def litsOk (l : List Lit) : Bool := l.all litOk
def ruleOk (r : Rule) : Bool := isName r.name && termsOk r.terms && foldOk r.fold r.terms.length r.body.length && litsOk r.body
def litsMany (l : List Lit) : Bool := l.any fun x => decide (3 < x.terms.length)
def ruleMany (r : Rule) : Bool := decide (4 < r.body.length) || decide (3 < r.terms.length) || litsMany r.body
def many (l : List Rule) : Bool := decide (12 < l.length) || l.any ruleMany
def check (l : List Rule) : Int := if many l then 2 else if l.all ruleOk then 0 else 1

def termD (l : List Term) (i : Nat) : Term := l.getD i ⟨[], 0⟩
def litD (l : List Lit) (i : Nat) : Lit := l.getD i ⟨0, 0, 0, [], []⟩
def ruleD (l : List Rule) (i : Nat) : Rule := l.getD i ⟨0, [], [], 0, []⟩
end Tr

/-- An 'all' along an index. -/
theorem all_drop {α : Type} (p : α → Bool) (l : List α) (d : α) (k : Nat) (h : k < l.length) : (l.drop k).all p = (p (l.getD k d) && (l.drop (k + 1)).all p) := by
  rw [List.drop_eq_getElem_cons h, List.all_cons, List.getD_eq_getElem?_getD, List.getElem?_eq_getElem h]
  rfl
theorem any_drop {α : Type} (p : α → Bool) (l : List α) (d : α) (k : Nat) (h : k < l.length) : (l.drop k).any p = (p (l.getD k d) || (l.drop (k + 1)).any p) := by
  rw [List.drop_eq_getElem_cons h, List.any_cons, List.getD_eq_getElem?_getD, List.getElem?_eq_getElem h]
  rfl

end Go.Proofs.YtgpaleifhcdjnaaGreatDoor

/- Programs, plain: what Check says of them; nothing of the program stands here. -/
namespace Go.Proofs.YtgpaleifhcdjnaaGreatDoor
namespace Sc

structure Term where
  var : Int
  n : Int
structure Lit where
  kind : Int
  op : Int
  pred : Int
  terms : List Term
structure Rule where
  pred : Int
  terms : List Term
  fold : Int
  body : List Lit
  vars : Int
structure Prog where
  arity : List Int
  names : List (List UInt8)
  rules : List Rule

def termD (l : List Term) (i : Nat) : Term := l.getD i ⟨0, 0⟩
def litD (l : List Lit) (i : Nat) : Lit := l.getD i ⟨0, 0, 0, []⟩
def ruleD (l : List Rule) (i : Nat) : Rule := l.getD i ⟨0, [], 0, [], 0⟩
def intD (l : List Int) (i : Nat) : Int := l.getD i 0
def strD (l : List (List UInt8)) (i : Nat) : List UInt8 := l.getD i []

/-- What is wrong first. -/
def first {α : Type} (f : α → Int) : List α → Int
  | [] => 0
  | x :: r => if f x = 0 then first f r else f x
/-- One behind the other. -/
def thn (a b : Int) : Int := if a = 0 then b else a
def isNum (n : Int) : Bool := Tr.between n (-1000000) 1000000
def termErr (vars : Int) (t : Term) : Int :=
  if Tr.between t.var (-1) (vars - 1) then (if !isNum t.n || (decide (0 ≤ t.var) && t.n != 0) then 3 else 0) else 5
def termsErr (vars : Int) (l : List Term) : Int := first (termErr vars) l
def isPred (ar : List Int) (k : Int) : Bool := Tr.between k 0 ((ar.length : Int) - 1)
def litErr (ar : List Int) (l : Lit) : Int :=
  if l.kind = 1 ∨ l.kind = 2 then
    (if l.op ≠ 0 then 3 else if isPred ar l.pred then (if (l.terms.length : Int) ≠ intD ar l.pred.toNat then 1 else 0) else 5)
  else if l.kind = 3 then (if Tr.between l.op 1 4 then (if l.pred ≠ 0 ∨ ¬ l.terms.length = 2 then 1 else 0) else 3)
  else if l.kind = 4 then (if Tr.between l.op 5 7 then (if l.pred ≠ 0 ∨ ¬ l.terms.length = 3 then 1 else 0) else 3)
  else 7
def litAll (ar : List Int) (vars : Int) (l : Lit) : Int := thn (litErr ar l) (termsErr vars l.terms)

/-- Which variables are bound, so far. -/
def known (b : List Bool) (t : Term) : Bool := decide (t.var < 0) || b.getD t.var.toNat false
def bind1 (b : List Bool) (t : Term) : List Bool := if 0 ≤ t.var then b.set t.var.toNat true else b
def bindAll (b : List Bool) (l : List Term) : List Bool := l.foldl bind1 b
/-- The terms that a literal binds. -/
def binds (b : List Bool) (l : Lit) : List Term :=
  if l.kind = 1 then l.terms else if l.kind = 4 ∧ known b (termD l.terms 0) = true ∧ known b (termD l.terms 1) = true then l.terms.drop 2 else []
def bindLit (b : List Bool) (l : Lit) : List Bool := bindAll b (binds b l)
def round (body : List Lit) (b : List Bool) : List Bool := body.foldl bindLit b
def rounds (body : List Lit) : Nat → List Bool → List Bool
  | 0, b => b
  | n + 1, b => rounds body n (round body b)
def safe (r : Rule) : Bool := (rounds r.body r.body.length (List.replicate r.vars.toNat false)).all id

def ruleErr (ar : List Int) (r : Rule) : Int :=
  if isPred ar r.pred then
    thn (if (r.terms.length : Int) ≠ intD ar r.pred.toNat then 1 else 0) (
    thn (if Tr.between r.vars 0 8 then 0 else 3) (
    thn (termsErr r.vars r.terms) (
    thn (if Tr.between r.fold 0 4 then 0 else 7) (
    thn (if r.fold ≠ 0 ∧ (r.terms.length = 0 ∨ r.body.length = 0) then 1 else 0) (
    thn (if 4 < r.body.length then 2 else 0) (
    thn (first (litAll ar r.vars) r.body) (if safe r then 0 else 4)))))))
  else 5
/-- Predicate i: its number of terms, its name, and that no name ahead is the same. -/
def predErr (ar : List Int) (names : List (List UInt8)) (i : Nat) : Int :=
  thn (if Tr.between (intD ar i) 0 3 then 0 else 3) (thn (if Tr.isName (strD names i) then 0 else 1) (if (names.take i).contains (strD names i) then 6 else 0))
def check (p : Prog) : Int :=
  if 10 < p.arity.length ∨ 12 < p.rules.length then 2
  else if ¬ p.names.length = p.arity.length then 1
  else thn (first (predErr p.arity p.names) (List.range p.names.length)) (first (ruleErr p.arity) p.rules)
/-- A fact of a program that is right. -/
def factErr (p : Prog) (pred : Int) (args : List Int) : Int :=
  if isPred p.arity pred then thn (if (args.length : Int) ≠ intD p.arity pred.toNat then 1 else 0) (if args.all isNum then 0 else 3) else 5
def fact (p : Prog) (pred : Int) (args : List Int) : Int := thn (check p) (factErr p pred args)

theorem thn_zero (b : Int) : thn 0 b = b := rfl
theorem thn_ne {a : Int} (b : Int) (h : ¬ a = 0) : thn a b = a := by unfold thn; rw [if_neg h]
theorem first_drop {α : Type} (f : α → Int) (d : α) (l : List α) (k : Nat) (h : k < l.length) : first f (l.drop k) = thn (f (l.getD k d)) (first f (l.drop (k + 1))) := by
  rw [List.drop_eq_getElem_cons h, first, thn]
  simp [List.getD_eq_getElem?_getD, List.getElem?_eq_getElem h]
theorem first_end {α : Type} (f : α → Int) (l : List α) : first f (l.drop l.length) = 0 := by rw [List.drop_length]; rfl

/-! ### One round for each literal is enough -/
theorem known_le {b c : List Bool} (h : ∀ i : Nat, b.getD i false = true → c.getD i false = true) (t : Term) (hk : known b t = true) : known c t = true := by
  unfold known at hk ⊢
  rcases Bool.or_eq_true _ _ ▸ hk with h1 | h1
  · simp [h1]
  · rw [h _ h1, Bool.or_true]
def Le (b c : List Bool) : Prop := b.length = c.length ∧ ∀ i : Nat, b.getD i false = true → c.getD i false = true
theorem Le.refl (b : List Bool) : Le b b := ⟨rfl, fun _ h => h⟩
theorem Le.trans {a b c : List Bool} (h : Le a b) (k : Le b c) : Le a c := ⟨h.1.trans k.1, fun i hi => k.2 i (h.2 i hi)⟩
theorem bind1_le (b : List Bool) (t : Term) : Le b (bind1 b t) := by
  unfold bind1
  split
  · refine ⟨by simp, fun i hi => ?_⟩
    rw [List.getD_eq_getElem?_getD] at hi ⊢
    rw [List.getElem?_set]
    split
    · rename_i h
      subst h
      split
      · rfl
      · rename_i h2
        rw [List.getElem?_eq_none (by omega)] at hi
        exact hi
    · exact hi
  · exact Le.refl b
theorem bindAll_le (l : List Term) : ∀ b : List Bool, Le b (bindAll b l) := by
  induction l with
  | nil => exact Le.refl
  | cons t r ih => exact fun b => (bind1_le b t).trans (ih (bind1 b t))
theorem bindLit_le (b : List Bool) (l : Lit) : Le b (bindLit b l) := bindAll_le _ b
theorem round_le (body : List Lit) : ∀ b : List Bool, Le b (round body b) := by
  induction body with
  | nil => exact Le.refl
  | cons t r ih => exact fun b => (bindLit_le b t).trans (ih (bindLit b t))
/-- All that these terms bind is bound. -/
def Has (b : List Bool) (l : List Term) : Prop := ∀ t, t ∈ l → 0 ≤ t.var → t.var.toNat < b.length → b.getD t.var.toNat false = true
theorem Has.le {b c : List Bool} {l : List Term} (h : Has b l) (k : Le b c) : Has c l := fun t ht h0 hl => k.2 _ (h t ht h0 (by rw [k.1]; exact hl))
theorem bind1_has {b : List Bool} {t : Term} (h : 0 ≤ t.var → t.var.toNat < b.length → b.getD t.var.toNat false = true) : bind1 b t = b := by
  unfold bind1
  split
  · rename_i h0
    apply List.ext_getElem?
    intro i
    rw [List.getElem?_set]
    split
    · rename_i hi
      subst hi
      split
      · rename_i hl
        have := h h0 hl
        rw [List.getD_eq_getElem?_getD, List.getElem?_eq_getElem hl] at this
        rw [List.getElem?_eq_getElem hl]
        simp at this
        rw [this]
      · rename_i hl
        rw [List.getElem?_eq_none (by omega)]
    · rfl
  · rfl
theorem bindAll_has (l : List Term) : ∀ {b : List Bool}, Has b l → bindAll b l = b := by
  induction l with
  | nil => exact fun _ => rfl
  | cons t r ih =>
    intro b h
    show bindAll (bind1 b t) r = b
    rw [bind1_has (h t List.mem_cons_self)]
    exact ih fun x hx => h x (List.mem_cons_of_mem _ hx)
theorem has_bind1 (b : List Bool) (t : Term) (h0 : 0 ≤ t.var) (hl : t.var.toNat < b.length) : (bind1 b t).getD t.var.toNat false = true := by
  unfold bind1
  rw [if_pos h0, List.getD_eq_getElem?_getD, List.getElem?_set_self hl]
  rfl
theorem has_bindAll (l : List Term) : ∀ b : List Bool, Has (bindAll b l) l := by
  induction l with
  | nil => exact fun _ t ht => absurd ht (by simp)
  | cons t r ih =>
    intro b x hx h0 hl
    have hle : Le (bind1 b t) (bindAll (bind1 b t) r) := bindAll_le r _
    rcases List.mem_cons.mp hx with rfl | hx
    · refine hle.2 _ (has_bind1 b x h0 ?_)
      have h1 := (bind1_le b x).1
      have h2 := hle.1
      show x.var.toNat < b.length
      rw [h1, h2]
      exact hl
    · exact ih (bind1 b t) x hx h0 hl
/-- A literal that is ready binds all its terms of that kind. -/
def ready (b : List Bool) (l : Lit) : Bool := (l.kind == 1) || ((l.kind == 4) && known b (termD l.terms 0) && known b (termD l.terms 1))
def out (l : Lit) : List Term := if l.kind = 1 then l.terms else l.terms.drop 2
theorem binds_ready (b : List Bool) (l : Lit) : binds b l = if ready b l then out l else [] := by
  unfold binds ready out
  by_cases h1 : l.kind = 1
  · simp [h1]
  · by_cases h4 : l.kind = 4
    · cases hk0 : known b (termD l.terms 0) <;> cases hk1 : known b (termD l.terms 1) <;> simp [h4]
    · simp [h1, h4]
theorem ready_le {b c : List Bool} (h : Le b c) {l : Lit} (hr : ready b l = true) : ready c l = true := by
  unfold ready at hr ⊢
  rcases Bool.or_eq_true _ _ ▸ hr with h1 | h1
  · simp [h1]
  · simp only [Bool.and_eq_true] at h1
    simp [h1.1.1, known_le h.2 _ h1.1.2, known_le h.2 _ h1.2]
/-- What was ready ahead of a round is bound behind it. -/
theorem round_has (body : List Lit) : ∀ (b : List Bool) (l : Lit), l ∈ body → ready b l = true → Has (round body b) (out l) := by
  induction body with
  | nil => exact fun _ l hl => absurd hl (by simp)
  | cons x r ih =>
    intro b l hl hr
    rcases List.mem_cons.mp hl with rfl | hl
    · refine Has.le ?_ (round_le r (bindLit b l))
      unfold bindLit
      rw [binds_ready, if_pos hr]
      exact has_bindAll _ _
    · exact ih (bindLit b x) l hl (ready_le (bindLit_le b x) hr)
/-- Where all that is ready is bound, a round binds nothing. -/
theorem round_fix (body : List Lit) : ∀ (b : List Bool), (∀ l, l ∈ body → ready b l = true → Has b (out l)) → round body b = b := by
  induction body with
  | nil => exact fun _ _ => rfl
  | cons x r ih =>
    intro b h
    have hx : bindLit b x = b := by
      unfold bindLit
      rw [binds_ready]
      split
      · rename_i hr
        exact bindAll_has _ (h x List.mem_cons_self hr)
      · rfl
    show round r (bindLit b x) = b
    rw [hx]
    exact ih b fun l hl => h l (List.mem_cons_of_mem _ hl)
def many (body : List Lit) (b : List Bool) : Nat := body.countP (ready b)
theorem many_le {body : List Lit} {b c : List Bool} (h : Le b c) : many body b ≤ many body c := List.countP_mono_left fun _ _ => ready_le h
theorem many_eq {b c : List Bool} (h : Le b c) : ∀ {body : List Lit}, many body c ≤ many body b → ∀ l, l ∈ body → ready c l = true → ready b l = true := by
  intro body
  induction body with
  | nil => exact fun _ l hl => absurd hl (by simp)
  | cons x r ih =>
    intro hm l hl hr
    have h1 : many r b ≤ many r c := many_le h
    simp only [many, List.countP_cons] at hm h1
    have h2 : ready b x = true → ready c x = true := ready_le h
    rcases List.mem_cons.mp hl with rfl | hl
    · cases hb : ready b l with
      | true => rfl
      | false => rw [hb, hr] at hm; simp at hm; omega
    · refine ih ?_ l hl hr
      show List.countP (ready c) r ≤ List.countP (ready b) r
      cases hb : ready b x with
      | true => rw [hb, h2 hb] at hm; simpa using hm
      | false =>
        cases hc : ready c x with
        | true => rw [hb, hc] at hm; simp at hm; omega
        | false => rw [hb, hc] at hm; simpa using hm
/-- Where a round makes nothing ready, the next one binds nothing. -/
theorem round_still (body : List Lit) (b : List Bool) (h : many body (round body b) ≤ many body b) : round body (round body b) = round body b :=
  round_fix body _ fun l hl hr => round_has body b l hl (many_eq (round_le body b) h l hl hr)
theorem rounds_fix (body : List Lit) : ∀ (n : Nat) (b : List Bool), round body b = b → rounds body n b = b := by
  intro n
  induction n with
  | zero => exact fun _ _ => rfl
  | succ n ih => intro b h; rw [rounds, h]; exact ih b h
theorem rounds_more (body : List Lit) : ∀ (n : Nat) (b : List Bool), body.length ≤ n + many body b → rounds body (n + 2) b = rounds body (n + 1) b := by
  intro n
  induction n with
  | zero =>
    intro b h
    have hc : many body (round body b) ≤ many body b := Nat.le_trans List.countP_le_length (by simpa using h)
    exact round_still body b hc
  | succ n ih =>
    intro b h
    by_cases hm : many body (round body b) ≤ many body b
    · have hf := round_still body b hm
      show rounds body (n + 2) (round body b) = rounds body (n + 1) (round body b)
      rw [rounds_fix body _ _ hf, rounds_fix body _ _ hf]
    · exact ih (round body b) (by omega)
theorem rounds_enough (body : List Lit) (b : List Bool) : rounds body (body.length + 1) b = rounds body body.length b := by
  by_cases h0 : many body b = 0
  · have hf : round body b = b := round_fix body b fun l hl hr => by
      have := List.countP_eq_zero.mp h0 l hl
      exact absurd hr this
    rw [rounds_fix body _ _ hf, rounds_fix body _ _ hf]
  · have hl : many body b ≤ body.length := List.countP_le_length
    obtain ⟨n, hn⟩ : ∃ n, body.length = n + 1 := ⟨body.length - 1, by omega⟩
    rw [hn]
    exact rounds_more body n b (by omega)
end Sc

end Go.Proofs.YtgpaleifhcdjnaaGreatDoor

/- Names and numbers, plain: what Resolve says of a tree. -/
namespace Go.Proofs.YtgpaleifhcdjnaaGreatDoor
namespace Sc

structure St where
  names : List (List UInt8)
  arity : List Int
/-- Where it is wrong, and why. -/
abbrev Bad := Int × Int
def St.with (st : St) (name : List UInt8) (n : Int) : St := if st.names.contains name then st else ⟨st.names ++ [name], st.arity ++ [n]⟩
def predStep (st : St) (at_ : Int) (name : List UInt8) (n : Int) : Bad ⊕ (Int × St) :=
  if intD (st.with name n).arity (st.names.idxOf name) = n then .inr ((st.names.idxOf name : Int), st.with name n) else .inl (at_, 1)
def more (vs : List (List UInt8)) (s : List UInt8) : List (List UInt8) := if vs.contains s then vs else vs ++ [s]
def termStep (vs : List (List UInt8)) (t : Tr.Term) : Term := if t.var.isEmpty then ⟨-1, t.n⟩ else ⟨(vs.idxOf t.var : Int), 0⟩
def varsStep (vs : List (List UInt8)) (t : Tr.Term) : List (List UInt8) := if t.var.isEmpty then vs else more vs t.var
def termsGo : List Tr.Term → List (List UInt8) → List Term
  | [], _ => []
  | t :: r, vs => termStep vs t :: termsGo r (varsStep vs t)
def varsGo : List Tr.Term → List (List UInt8) → List (List UInt8)
  | [], vs => vs
  | t :: r, vs => varsGo r (varsStep vs t)
def numsOk (l : List Tr.Term) : Bool := l.all fun t => isNum t.n
def termsStep (vs : List (List UInt8)) (at_ : Int) (l : List Tr.Term) : Bad ⊕ (List Term × List (List UInt8)) :=
  if numsOk l then .inr (termsGo l vs, varsGo l vs) else .inl (at_, 3)
def litStep (st : St) (vs : List (List UInt8)) (x : Tr.Lit) : Bad ⊕ (Lit × St × List (List UInt8)) :=
  match (if x.kind = 1 ∨ x.kind = 2 then predStep st x.at_ x.name x.terms.length else .inr (0, st)) with
  | .inl e => .inl e
  | .inr (k, st1) =>
    match termsStep vs x.at_ x.terms with
    | .inl e => .inl e
    | .inr (l, vs1) => .inr (⟨x.kind, x.op, k, l⟩, st1, vs1)
def litsGo : List Tr.Lit → St → List (List UInt8) → Bad ⊕ (List Lit × St × List (List UInt8))
  | [], st, vs => .inr ([], st, vs)
  | x :: r, st, vs =>
    match litStep st vs x with
    | .inl e => .inl e
    | .inr (l, st1, vs1) =>
      match litsGo r st1 vs1 with
      | .inl e => .inl e
      | .inr (ls, st2, vs2) => .inr (l :: ls, st2, vs2)
def ruleStep (st : St) (r : Tr.Rule) : Bad ⊕ (Rule × St) :=
  match predStep st r.at_ r.name r.terms.length with
  | .inl e => .inl e
  | .inr (k, st1) =>
    match termsStep [] r.at_ r.terms with
    | .inl e => .inl e
    | .inr (l, vs) =>
      match litsGo r.body st1 vs with
      | .inl e => .inl e
      | .inr (b, st2, vs2) => .inr (⟨k, l, r.fold, b, vs2.length⟩, st2)
def rulesGo : List Tr.Rule → St → Bad ⊕ (List Rule × St)
  | [], st => .inr ([], st)
  | r :: l, st =>
    match ruleStep st r with
    | .inl e => .inl e
    | .inr (x, st1) =>
      match rulesGo l st1 with
      | .inl e => .inl e
      | .inr (xs, st2) => .inr (x :: xs, st2)
/-- A tree that Check has passed, resolved. -/
def resolve (t : List Tr.Rule) : Bad ⊕ Prog :=
  match rulesGo t ⟨[], []⟩ with
  | .inl e => .inl e
  | .inr (rs, st) => .inr ⟨st.arity, st.names, rs⟩
/-- Resolve: the program, where it is wrong, and why. -/
def resolveOf (t : List Tr.Rule) : Prog × Int × Int :=
  if Tr.check t = 0 then
    match resolve t with
    | .inl e => (⟨[], [], []⟩, e.1, e.2)
    | .inr p => if check p = 0 then (p, 0, 0) else (⟨[], [], []⟩, 0, check p)
  else (⟨[], [], []⟩, 0, 4)
end Sc

end Go.Proofs.YtgpaleifhcdjnaaGreatDoor

/- The document's scan of any text; lists of tokens that are kept. -/
namespace Go.Proofs.YtgpaleifhcdjnaaGreatDoor
open Go.RowKit

theorem ScanOf_any (s : ByteArray) (w : World) : Calls Tryz.prog 49 #[.string s] w (ScanTop s.data.toList w) := by
  by_cases h : 5000 < s.size
  · exact ScanOf_long s w h
  · exact ScanOf_short s w (by omega)

theorem toksAt_below {w w' : World} {ao : Option Addr} {l : List Tk.Tok} (h : ToksAt w ao l) (hb : Below w.heap.size w w') : ToksAt w' ao l := by
  rcases h with h | ⟨b, off, rfl, hc⟩
  · exact .inl h
  · refine .inr ⟨b, off, rfl, fun i hi => ?_⟩
    obtain ⟨a0, a1, a2⟩ := hc i hi
    have hbw : b < w.heap.size := World.block_lt_of_cell? w _ a0
    exact ⟨(hb.cell (p := ⟨b, _, none⟩) hbw).trans a0, (hb.cell (p := ⟨b, _, none⟩) hbw).trans a1, (hb.cell (p := ⟨b, _, none⟩) hbw).trans a2⟩

/-- No more tokens than bytes. -/
theorem scanP_many (L : List UInt8) : ∀ (f p : Nat) (acc : List Tk.Tok), acc.length ≤ p → p ≤ L.length → (Tk.scanP L f p acc).1.length ≤ L.length := by
  intro f
  induction f with
  | zero => intro p acc h1 h2; rw [Tk.scanP]; exact Nat.le_trans h1 h2
  | succ f ih =>
    intro p acc h1 h2
    rw [Tk.scanP]
    split
    · exact Nat.le_trans h1 h2
    · split
      · rename_i h3 h4
        have g1 := Tk.lenOf_le (L.drop p)
        have g2 := Tk.lenOf_pos (L.drop p) (by intro e; have := congrArg List.length e; simp at this; omega) h4
        rw [List.length_drop] at g1
        have g3 := Tk.sep_le false (L.drop (p + Tk.lenOf (L.drop p)))
        rw [List.length_drop] at g3
        refine ih _ _ ?_ ?_
        · rw [List.length_append]; simp; omega
        · omega
      · simp
theorem scan_many (L : List UInt8) : (Tk.scan L).1.length ≤ 5000 := by
  unfold Tk.scan
  split
  · simp
  · have := scanP_many L L.length (Tk.sep false L) [] (Nat.zero_le _) (Tk.sep_le false L)
    omega

end Go.Proofs.YtgpaleifhcdjnaaGreatDoor

/- Trees in memory: what is read behind a slice. -/
namespace Go.Proofs.YtgpaleifhcdjnaaGreatDoor
open Go.RowKit

def TermIn (w : World) (b off : Nat) (t : Tr.Term) : Prop :=
  w.cell? ⟨b, off, none⟩ = some (.string ⟨t.var.toArray⟩) ∧ w.cell? ⟨b, off + 1, none⟩ = some (.int .i64 t.n)
def TermsAt (w : World) (ao : Option Addr) (l : List Tr.Term) : Prop :=
  l = [] ∨ ∃ b off, ao = some ⟨b, off, none⟩ ∧ ∀ i, i < l.length → TermIn w b (off + i * 2) (Tr.termD l i)
/-- A slice value with terms behind it. -/
def TermsV (w : World) (v : Value) (l : List Tr.Term) : Prop := ∃ ao cap, v = .slice ao l.length cap ∧ TermsAt w ao l
def LitIn (w : World) (b off : Nat) (x : Tr.Lit) : Prop :=
  w.cell? ⟨b, off, none⟩ = some (.int .i64 x.kind) ∧ w.cell? ⟨b, off + 1, none⟩ = some (.int .i64 x.at_) ∧ w.cell? ⟨b, off + 2, none⟩ = some (.int .i64 x.op) ∧ w.cell? ⟨b, off + 3, none⟩ = some (.string ⟨x.name.toArray⟩) ∧
    ∃ v, w.cell? ⟨b, off + 4, none⟩ = some v ∧ TermsV w v x.terms
def LitsAt (w : World) (ao : Option Addr) (l : List Tr.Lit) : Prop :=
  l = [] ∨ ∃ b off, ao = some ⟨b, off, none⟩ ∧ ∀ i, i < l.length → LitIn w b (off + i * 5) (Tr.litD l i)
def LitsV (w : World) (v : Value) (l : List Tr.Lit) : Prop := ∃ ao cap, v = .slice ao l.length cap ∧ LitsAt w ao l
def RuleIn (w : World) (b off : Nat) (r : Tr.Rule) : Prop :=
  w.cell? ⟨b, off, none⟩ = some (.int .i64 r.at_) ∧ w.cell? ⟨b, off + 1, none⟩ = some (.string ⟨r.name.toArray⟩) ∧ (∃ v, w.cell? ⟨b, off + 2, none⟩ = some v ∧ TermsV w v r.terms) ∧ w.cell? ⟨b, off + 3, none⟩ = some (.int .i64 r.fold) ∧
    ∃ v, w.cell? ⟨b, off + 4, none⟩ = some v ∧ LitsV w v r.body
def RulesAt (w : World) (ao : Option Addr) (l : List Tr.Rule) : Prop :=
  l = [] ∨ ∃ b off, ao = some ⟨b, off, none⟩ ∧ ∀ i, i < l.length → RuleIn w b (off + i * 5) (Tr.ruleD l i)
def RulesV (w : World) (v : Value) (l : List Tr.Rule) : Prop := ∃ ao cap, v = .slice ao l.length cap ∧ RulesAt w ao l

theorem cell_below {w w' : World} (hb : Below w.heap.size w w') {b o : Nat} {v : Value} (h : w.cell? ⟨b, o, none⟩ = some v) : w'.cell? ⟨b, o, none⟩ = some v :=
  (hb.cell (p := ⟨b, o, none⟩) (World.block_lt_of_cell? w _ h)).trans h

theorem termsAt_below {w w' : World} {ao : Option Addr} {l : List Tr.Term} (h : TermsAt w ao l) (hb : Below w.heap.size w w') : TermsAt w' ao l := by
  rcases h with h | ⟨b, off, rfl, hc⟩
  · exact .inl h
  · exact .inr ⟨b, off, rfl, fun i hi => ⟨cell_below hb (hc i hi).1, cell_below hb (hc i hi).2⟩⟩
theorem termsV_below {w w' : World} {v : Value} {l : List Tr.Term} (h : TermsV w v l) (hb : Below w.heap.size w w') : TermsV w' v l := by
  obtain ⟨ao, cap, rfl, h⟩ := h
  exact ⟨ao, cap, rfl, termsAt_below h hb⟩
theorem litIn_below {w w' : World} {b off : Nat} {x : Tr.Lit} (h : LitIn w b off x) (hb : Below w.heap.size w w') : LitIn w' b off x := by
  obtain ⟨h0, h1, h2, h3, v, h4, h5⟩ := h
  exact ⟨cell_below hb h0, cell_below hb h1, cell_below hb h2, cell_below hb h3, v, cell_below hb h4, termsV_below h5 hb⟩
theorem litsAt_below {w w' : World} {ao : Option Addr} {l : List Tr.Lit} (h : LitsAt w ao l) (hb : Below w.heap.size w w') : LitsAt w' ao l := by
  rcases h with h | ⟨b, off, rfl, hc⟩
  · exact .inl h
  · exact .inr ⟨b, off, rfl, fun i hi => litIn_below (hc i hi) hb⟩
theorem litsV_below {w w' : World} {v : Value} {l : List Tr.Lit} (h : LitsV w v l) (hb : Below w.heap.size w w') : LitsV w' v l := by
  obtain ⟨ao, cap, rfl, h⟩ := h
  exact ⟨ao, cap, rfl, litsAt_below h hb⟩
theorem ruleIn_below {w w' : World} {b off : Nat} {x : Tr.Rule} (h : RuleIn w b off x) (hb : Below w.heap.size w w') : RuleIn w' b off x := by
  obtain ⟨h0, h1, ⟨v, h2, h3⟩, h4, u, h5, h6⟩ := h
  exact ⟨cell_below hb h0, cell_below hb h1, ⟨v, cell_below hb h2, termsV_below h3 hb⟩, cell_below hb h4, u, cell_below hb h5, litsV_below h6 hb⟩
theorem rulesAt_below {w w' : World} {ao : Option Addr} {l : List Tr.Rule} (h : RulesAt w ao l) (hb : Below w.heap.size w w') : RulesAt w' ao l := by
  rcases h with h | ⟨b, off, rfl, hc⟩
  · exact .inl h
  · exact .inr ⟨b, off, rfl, fun i hi => ruleIn_below (hc i hi) hb⟩
theorem rulesV_below {w w' : World} {v : Value} {l : List Tr.Rule} (h : RulesV w v l) (hb : Below w.heap.size w w') : RulesV w' v l := by
  obtain ⟨ao, cap, rfl, h⟩ := h
  exact ⟨ao, cap, rfl, rulesAt_below h hb⟩

/-- The values of a struct that is handed on. -/
abbrev termVal (t : Tr.Term) : Value := .agg #[.string ⟨t.var.toArray⟩, .int .i64 t.n]
abbrev litVal (x : Tr.Lit) (v : Value) : Value := .agg #[.int .i64 x.kind, .int .i64 x.at_, .int .i64 x.op, .string ⟨x.name.toArray⟩, v]
abbrev ruleVal (r : Tr.Rule) (v u : Value) : Value := .agg #[.int .i64 r.at_, .string ⟨r.name.toArray⟩, v, .int .i64 r.fold, u]

end Go.Proofs.YtgpaleifhcdjnaaGreatDoor

/- Programs in memory: what is read behind slices. -/
namespace Go.Proofs.YtgpaleifhcdjnaaGreatDoor
open Go.RowKit

def IntsAt (w : World) (ao : Option Addr) (l : List Int) : Prop :=
  l = [] ∨ ∃ b off, ao = some ⟨b, off, none⟩ ∧ ∀ i, i < l.length → w.cell? ⟨b, off + i, none⟩ = some (.int .i64 (Sc.intD l i))
def IntsV (w : World) (v : Value) (l : List Int) : Prop := ∃ ao cap, v = .slice ao l.length cap ∧ IntsAt w ao l
def StrsAt (w : World) (ao : Option Addr) (l : List (List UInt8)) : Prop :=
  l = [] ∨ ∃ b off, ao = some ⟨b, off, none⟩ ∧ ∀ i, i < l.length → w.cell? ⟨b, off + i, none⟩ = some (.string ⟨(Sc.strD l i).toArray⟩)
def StrsV (w : World) (v : Value) (l : List (List UInt8)) : Prop := ∃ ao cap, v = .slice ao l.length cap ∧ StrsAt w ao l
def PTermIn (w : World) (b off : Nat) (t : Sc.Term) : Prop :=
  w.cell? ⟨b, off, none⟩ = some (.int .i64 t.var) ∧ w.cell? ⟨b, off + 1, none⟩ = some (.int .i64 t.n)
def PTermsAt (w : World) (ao : Option Addr) (l : List Sc.Term) : Prop :=
  l = [] ∨ ∃ b off, ao = some ⟨b, off, none⟩ ∧ ∀ i, i < l.length → PTermIn w b (off + i * 2) (Sc.termD l i)
def PTermsV (w : World) (v : Value) (l : List Sc.Term) : Prop := ∃ ao cap, v = .slice ao l.length cap ∧ l.length ≤ cap ∧ PTermsAt w ao l
def PLitIn (w : World) (b off : Nat) (x : Sc.Lit) : Prop :=
  w.cell? ⟨b, off, none⟩ = some (.int .i64 x.kind) ∧ w.cell? ⟨b, off + 1, none⟩ = some (.int .i64 x.op) ∧ w.cell? ⟨b, off + 2, none⟩ = some (.int .i64 x.pred) ∧
    ∃ v, w.cell? ⟨b, off + 3, none⟩ = some v ∧ PTermsV w v x.terms
def PLitsAt (w : World) (ao : Option Addr) (l : List Sc.Lit) : Prop :=
  l = [] ∨ ∃ b off, ao = some ⟨b, off, none⟩ ∧ ∀ i, i < l.length → PLitIn w b (off + i * 4) (Sc.litD l i)
def PLitsV (w : World) (v : Value) (l : List Sc.Lit) : Prop := ∃ ao cap, v = .slice ao l.length cap ∧ PLitsAt w ao l
def PRuleIn (w : World) (b off : Nat) (r : Sc.Rule) : Prop :=
  w.cell? ⟨b, off, none⟩ = some (.int .i64 r.pred) ∧ (∃ v, w.cell? ⟨b, off + 1, none⟩ = some v ∧ PTermsV w v r.terms) ∧ w.cell? ⟨b, off + 2, none⟩ = some (.int .i64 r.fold) ∧
    (∃ v, w.cell? ⟨b, off + 3, none⟩ = some v ∧ PLitsV w v r.body) ∧ w.cell? ⟨b, off + 4, none⟩ = some (.int .i64 r.vars)
def PRulesAt (w : World) (ao : Option Addr) (l : List Sc.Rule) : Prop :=
  l = [] ∨ ∃ b off, ao = some ⟨b, off, none⟩ ∧ ∀ i, i < l.length → PRuleIn w b (off + i * 5) (Sc.ruleD l i)
def PRulesV (w : World) (v : Value) (l : List Sc.Rule) : Prop := ∃ ao cap, v = .slice ao l.length cap ∧ PRulesAt w ao l
/-- A program's value. -/
abbrev progVal (va vn vr : Value) : Value := .agg #[va, vn, vr]
structure ProgV (w : World) (va vn vr : Value) (p : Sc.Prog) : Prop where
  ar : IntsV w va p.arity
  nm : StrsV w vn p.names
  rl : PRulesV w vr p.rules

theorem intsV_below {w w' : World} {v : Value} {l : List Int} (h : IntsV w v l) (hb : Below w.heap.size w w') : IntsV w' v l := by
  obtain ⟨ao, cap, rfl, h⟩ := h
  refine ⟨ao, cap, rfl, ?_⟩
  rcases h with h | ⟨b, off, rfl, hc⟩
  · exact .inl h
  · exact .inr ⟨b, off, rfl, fun i hi => cell_below hb (hc i hi)⟩
theorem strsV_below {w w' : World} {v : Value} {l : List (List UInt8)} (h : StrsV w v l) (hb : Below w.heap.size w w') : StrsV w' v l := by
  obtain ⟨ao, cap, rfl, h⟩ := h
  refine ⟨ao, cap, rfl, ?_⟩
  rcases h with h | ⟨b, off, rfl, hc⟩
  · exact .inl h
  · exact .inr ⟨b, off, rfl, fun i hi => cell_below hb (hc i hi)⟩
theorem ptermsV_below {w w' : World} {v : Value} {l : List Sc.Term} (h : PTermsV w v l) (hb : Below w.heap.size w w') : PTermsV w' v l := by
  obtain ⟨ao, cap, rfl, hc, h⟩ := h
  refine ⟨ao, cap, rfl, hc, ?_⟩
  rcases h with h | ⟨b, off, rfl, hc⟩
  · exact .inl h
  · exact .inr ⟨b, off, rfl, fun i hi => ⟨cell_below hb (hc i hi).1, cell_below hb (hc i hi).2⟩⟩
theorem plitIn_below {w w' : World} {b off : Nat} {x : Sc.Lit} (h : PLitIn w b off x) (hb : Below w.heap.size w w') : PLitIn w' b off x := by
  obtain ⟨h0, h1, h2, v, h3, h4⟩ := h
  exact ⟨cell_below hb h0, cell_below hb h1, cell_below hb h2, v, cell_below hb h3, ptermsV_below h4 hb⟩
theorem plitsV_below {w w' : World} {v : Value} {l : List Sc.Lit} (h : PLitsV w v l) (hb : Below w.heap.size w w') : PLitsV w' v l := by
  obtain ⟨ao, cap, rfl, h⟩ := h
  refine ⟨ao, cap, rfl, ?_⟩
  rcases h with h | ⟨b, off, rfl, hc⟩
  · exact .inl h
  · exact .inr ⟨b, off, rfl, fun i hi => plitIn_below (hc i hi) hb⟩
theorem pruleIn_below {w w' : World} {b off : Nat} {x : Sc.Rule} (h : PRuleIn w b off x) (hb : Below w.heap.size w w') : PRuleIn w' b off x := by
  obtain ⟨h0, ⟨v, h1, h2⟩, h3, ⟨u, h4, h5⟩, h6⟩ := h
  exact ⟨cell_below hb h0, ⟨v, cell_below hb h1, ptermsV_below h2 hb⟩, cell_below hb h3, ⟨u, cell_below hb h4, plitsV_below h5 hb⟩, cell_below hb h6⟩
theorem prulesV_below {w w' : World} {v : Value} {l : List Sc.Rule} (h : PRulesV w v l) (hb : Below w.heap.size w w') : PRulesV w' v l := by
  obtain ⟨ao, cap, rfl, h⟩ := h
  refine ⟨ao, cap, rfl, ?_⟩
  rcases h with h | ⟨b, off, rfl, hc⟩
  · exact .inl h
  · exact .inr ⟨b, off, rfl, fun i hi => pruleIn_below (hc i hi) hb⟩
theorem ProgV.below {w w' : World} {va vn vr : Value} {p : Sc.Prog} (h : ProgV w va vn vr p) (hb : Below w.heap.size w w') : ProgV w' va vn vr p := ⟨intsV_below h.ar hb, strsV_below h.nm hb, prulesV_below h.rl hb⟩

/-- The values of structs that are handed on. -/
abbrev ptermVal (t : Sc.Term) : Value := .agg #[.int .i64 t.var, .int .i64 t.n]
abbrev plitVal (x : Sc.Lit) (v : Value) : Value := .agg #[.int .i64 x.kind, .int .i64 x.op, .int .i64 x.pred, v]
abbrev pruleVal (r : Sc.Rule) (v u : Value) : Value := .agg #[.int .i64 r.pred, v, .int .i64 r.fold, u, .int .i64 r.vars]

/-- Lengths that are lengths. -/
def LitFit (x : Sc.Lit) : Prop := x.terms.length ≤ 9223372036854775807
def RuleFit (r : Sc.Rule) : Prop := r.terms.length ≤ 9223372036854775807 ∧ r.body.length ≤ 9223372036854775807 ∧ ∀ i, i < r.body.length → LitFit (Sc.litD r.body i)
structure ProgFit (p : Sc.Prog) : Prop where
  ar : p.arity.length ≤ 9223372036854775807
  nm : p.names.length ≤ 9223372036854775807
  rl : p.rules.length ≤ 9223372036854775807
  rs : ∀ i, i < p.rules.length → RuleFit (Sc.ruleD p.rules i)

end Go.Proofs.YtgpaleifhcdjnaaGreatDoor

/- Package token: is a token the only one of its text? -/
namespace Go.Proofs.YtgpaleifhcdjnaaGreatDoor
open Go.RowKit

abbrev tokObjOf (t : Tk.Tok) : Obj := .cells #[.int .i64 t.kind, .int .i64 t.at_, .string ⟨t.text.toArray⟩] 53

theorem boxCell {w w1 : World} {t : Tk.Tok} (hb : Below (w.alloc (tokObjOf t)).heap.size (w.alloc (tokObjOf t)) w1) :
    w1.cell? ⟨w.heap.size, 0, none⟩ = some (.int .i64 t.kind) ∧ w1.cell? ⟨w.heap.size, 1, none⟩ = some (.int .i64 t.at_) ∧ w1.cell? ⟨w.heap.size, 2, none⟩ = some (.string ⟨t.text.toArray⟩) := by
  obtain ⟨hc, hf⟩ := bcell hb
  have h : w.heap.size < (w.alloc (tokObjOf t)).heap.size := by simp
  refine ⟨?_, ?_, ?_⟩
  · rw [hc _ _ h]; simp [go_sem]
  · rw [hc _ _ h]; simp [go_sem]
  · rw [hc _ _ h]; simp [go_sem]

theorem below_box {w w1 : World} {o : Obj} (hb : Below (w.alloc o).heap.size (w.alloc o) w1) : Below w.heap.size w w1 :=
  ((Below.refl _ _).alloc (Nat.le_refl _) _).trans (hb.mono (by simp))

set_option maxRecDepth 100000 in
set_option maxHeartbeats 1000000 in
theorem alone_any (t : Tk.Tok) (w : World) :
    Calls Tryz.prog 79 #[tokVal t] w fun e w' => e = .returned (.bool (Tk.alone t.kind t.text)) ∧ Below w.heap.size w w' := by
  have HV : Hid (Tk.alone t.kind t.text = (((Tk.scan t.text).2.2 == 0) && (((Tk.scan t.text).1.length : Int) == 1) && ((tokD (Tk.scan t.text).1 0).kind == t.kind) && ((tokD (Tk.scan t.text).1 0).text == t.text))) := rfl
  generalize Tk.alone t.kind t.text = V at *
  have hS := fun w => Scan_any ⟨t.text.toArray⟩ w
  have hd : (⟨t.text.toArray⟩ : ByteArray).data.toList = t.text := List.toList_toArray
  rw [hd] at hS
  unfold ScanTop at hS
  generalize Tk.scan t.text = X at *
  have HS : Hid (_) := hS
  clear hS hd
  go_enter Tryz.func79, Tryz.ntmps79
  go_wp2_with fail
  refine (HS.out _).mono ?_
  rintro e w1 ⟨ao, cap, rfl, hown, hb⟩
  obtain ⟨c0, c1, c2⟩ := boxCell hb
  have hT0 : 0 < X.1.length → ∃ b off, ao = some ⟨b, off, none⟩ ∧ TokIn w1 b off (tokD X.1 0) := fun h0 => by
    rcases toksAt_own hown with h | ⟨b, off, rfl, hc⟩
    · rw [h] at h0; exact absurd h0 (by simp)
    · exact ⟨b, off, rfl, by simpa using hc 0 h0⟩
  have hbel := below_box hb
  clear hown hb HS
  generalize tokD X.1 0 = x at *
  cases g1 : (X.2.2 == 0)
  · have HF : Hid (V = false) := by show _ = _; rw [HV.out, g1]; rfl
    clear HV
    go_wp2_with fail
    go_quiet (fail)
    go_wp2
    go_ret
    exact ⟨ret_bool HF.out.symm, below_drewN hbel _⟩
  · cases g2 : ((X.1.length : Int) == 1)
    · have HF : Hid (V = false) := by show _ = _; rw [HV.out, g2]; simp
      clear HV
      go_wp2_with fail
      go_quiet (fail)
      go_wp2
      go_ret
      exact ⟨ret_bool HF.out.symm, below_drewN hbel _⟩
    · have hpos : 0 < X.1.length := by have := beq_iff_eq.1 g2; omega
      obtain ⟨b, off, rfl, d0, d1, d2⟩ := hT0 hpos
      clear hT0
      cases g3 : (x.kind == t.kind)
      · have HF : Hid (V = false) := by show _ = _; rw [HV.out, g3]; simp
        clear HV
        go_wp2_with fail
        go_quiet (fail)
        go_wp2
        go_ret
        exact ⟨ret_bool HF.out.symm, below_drewN hbel _⟩
      · cases g4 : (x.text == t.text)
        · have HF : Hid (V = false) := by show _ = _; rw [HV.out, g4]; simp
          clear HV
          go_wp2_with fail
          go_quiet (fail)
          go_wp2
          go_ret
          exact ⟨ret_bool HF.out.symm, below_drewN hbel _⟩
        · have HF : Hid (V = true) := by show _ = _; rw [HV.out, g1, g2, g3, g4]; rfl
          clear HV
          go_wp2_with fail
          go_quiet (fail)
          go_wp2
          go_ret
          exact ⟨ret_bool HF.out.symm, below_drewN hbel _⟩

end Go.Proofs.YtgpaleifhcdjnaaGreatDoor

/- The writers of a strings.Builder at this program: what they leave, and that other blocks stand. -/
namespace Go.Proofs.YtgpaleifhcdjnaaGreatDoor
open Go.RowKit

theorem A_info44 : (Tryz.prog.info? 133).map (·.size) = some 2 := by kernel_rfl
theorem A_lies44 : liesAt Tryz.prog Tryz.prog.depth 133 (2 / Tryz.prog.cellsOf 133) 0 133 1 = true := by kernel_rfl
theorem A_info5 : (Tryz.prog.info? 5).map (fun i => (i.zero, i.size, i.bytes)) = some (some (.int .u8 0), 1, 1) := by kernel_rfl

set_option maxRecDepth 100000 in
set_option maxHeartbeats 1000000 in
theorem check_used (b : Nat) (w : World) (h0 : w.cell? ⟨b, 0, none⟩ = some (.pointer (some ⟨b, 0, none⟩))) :
    Calls Tryz.prog 110 #[.pointer (some ⟨b, 0, none⟩)] w fun e w' => e = .returned (.tuple #[]) ∧ w' = w := by
  obtain ⟨j, hj, _⟩ := Option.map_eq_some_iff.1 A_info44
  go_enter Tryz.func110, Tryz.ntmps110
  go_wp2
  rw [Lib.run_neq_ptr_same w _ Tryz.underlying131 hj]
  go_wp2
  go_end0
  exact ⟨rfl, rfl⟩

set_option maxRecDepth 100000 in
set_option maxHeartbeats 1000000 in
theorem check_fresh (b : Nat) (w : World) (h0 : w.cell? ⟨b, 0, none⟩ = some (.pointer none)) (hsh : w.shape? b = some (133, 2)) (hfz : w.frozen? ⟨b, 0, none⟩ = false) :
    Calls Tryz.prog 110 #[.pointer (some ⟨b, 0, none⟩)] w fun e w' => e = .returned (.tuple #[]) ∧ w' = w.setCell ⟨b, 0, none⟩ (.pointer (some ⟨b, 0, none⟩)) := by
  obtain ⟨j, hj, hjs⟩ := Option.map_eq_some_iff.1 A_info44
  go_enter Tryz.func110, Tryz.ntmps110
  go_wp2
  rw [Lib.run_to_unsafe w ⟨b, 0, none⟩ Tryz.underlying131 Tryz.underlying184 hj (by rw [hjs]; decide) hsh (Nat.zero_lt_succ 1)]
  simp only [Result.andThen]
  rw [Oper.upon_value]
  go_wp2
  rw [run_callFunc_extern Tryz.func146 (by kernel_rfl) (by kernel_rfl) (by kernel_rfl) (e := Extern.AbiNoEscape.same) (by kernel_rfl)]
  rw [Lib.run_noEscape]
  simp only [Result.andThen]
  rw [Oper.upon_value]
  go_wp2
  rw [Lib.run_from_unsafe w ⟨b, 0, none⟩ Tryz.underlying184 Tryz.underlying131 hj hsh A_lies44]
  simp only [Result.andThen]
  rw [Oper.upon_value]
  go_wp2
  go_end0
  exact ⟨rfl, rfl⟩

theorem check_any (B b : Nat) (bs : List Value) (w : World) (h : Lib.IsBuilder 133 5 B b bs w) :
    Calls Tryz.prog 110 #[.pointer (some ⟨b, 0, none⟩)] w fun e w' => e = .returned (.tuple #[]) ∧ (Lib.BuilderAt 133 5 B b (.pointer (some ⟨b, 0, none⟩)) bs w' ∧ Below B w w' ∧ Lib.OthersKept 5 (some b) w w') := by
  rcases h with h | h
  · refine (check_fresh b w h.cell0 h.shape h.frozen0).mono ?_
    rintro e w' ⟨rfl, rfl⟩
    exact ⟨rfl, h.used _, (Below.refl B w).setCell (p := ⟨b, 0, none⟩) h.1 _, (Lib.OthersKept.refl 5 (some b) w).setCell ⟨b, 0, none⟩ rfl _⟩
  · refine (check_used b w h.cell0).mono ?_
    rintro e w' ⟨rfl, rfl⟩
    exact ⟨rfl, h, Below.refl B _, Lib.OthersKept.refl _ _ _⟩

theorem own_kind {w : World} {B : Nat} {v : Value} {n : Nat} {xs : List Value} (h : w.ownsRow B 5 1 v n xs) : ∀ g, v.ownBlock = some g → ∃ c fz, w.heap[g]? = some (.cells c 5 fz) := by
  intro g hg
  rcases h.2 with ⟨rfl, _⟩ | ⟨g', cap, cur, rfl, _, hgg, _⟩
  · simp [Value.ownBlock] at hg
  · simp [Value.ownBlock] at hg
    subst hg
    exact ⟨cur, _, hgg⟩

set_option maxRecDepth 100000 in
set_option maxHeartbeats 1000000 in
theorem writeByte_any (B b : Nat) (bs : List Value) (c : Int) (w : World) (h : Lib.IsBuilder 133 5 B b bs w) (hlen : bs.length + 1 ≤ 140737488355328) (hBw : B ≤ w.heap.size) :
    Calls Tryz.prog 80 #[.pointer (some ⟨b, 0, none⟩), .int .u8 c] w fun e w' => e = .returned .nilIface ∧ (Lib.BuilderAt 133 5 B b (.pointer (some ⟨b, 0, none⟩)) (bs ++ [.int .u8 c]) w' ∧ Below B w w' ∧ Lib.OthersKept 5 (some b) w w') := by
  obtain ⟨i0, hi, hz0, hz1, hz2⟩ := info_parts A_info5
  go_enter Tryz.func80, Tryz.ntmps80
  go_wp2_with (go_at_call 110; refine (check_any B b bs _ h).mono ?_)
  rintro e w1 ⟨rfl, h1, hb1, hk1⟩
  obtain ⟨hB, v, hbk, hown, hne⟩ := h1
  have c0 : w1.cell? ⟨b, 0, none⟩ = some (.pointer (some ⟨b, 0, none⟩)) := by rw [Lib.cell_of_heap hbk]; rfl
  have c1 : w1.cell? ⟨b, 1, none⟩ = some v := by rw [Lib.cell_of_heap hbk]; rfl
  go_wp2_with (at_builtin; refine wpList_append_own _ rfl _ _ 103 rfl B 5 i0 (.int .u8 0) 1 1 Tryz.underlying103 hi hz0 hz1 hz2 rfl (by decide) _ _ _ rfl (hown.alloc _) ⟨w1.heap.size, 0, none⟩ 1 1 [.int .u8 c] rfl rfl ?c1 ?c2 ?c3 ?c4 ?c5 ?_)
  case c1 =>
    intro j u hj
    match j, hj with
    | 0, hj => simp at hj; subst hj; simp [Addr.add]
  case c2 => intro u hu; simp at hu; subst hu; rfl
  case c3 => unfold maxLen; omega
  case c4 => omega
  case c5 => have := hb1.size; simp; omega
  intro v' w2 hown' hgrow _
  have hlt : b < w1.heap.size := Lib.BuilderAt.lt (T := 133) (e := 5) ⟨hB, v, hbk, hown, hne⟩
  have hb2 : w2.heap[b]? = some (.cells #[.pointer (some ⟨b, 0, none⟩), v] 133 (0, 0)) := by
    rw [hgrow.block b (by simp; omega) (fun e => hne e.symm), Lib.alloc_old w1 _ b hlt]
    exact hbk
  have d0 : w2.cell? ⟨b, 0, none⟩ = some (.pointer (some ⟨b, 0, none⟩)) := by rw [Lib.cell_of_heap hb2]; rfl
  have d1 : w2.cell? ⟨b, 1, none⟩ = some v := by rw [Lib.cell_of_heap hb2]; rfl
  have f1 : w2.frozen? ⟨b, 1, none⟩ = false := Lib.frozen_of_heap hb2 1
  obtain ⟨g, cap, rfl⟩ : ∃ g cap, v' = .slice (some ⟨g, 0, none⟩) (bs.length + 1) cap := by
    rcases hown'.2 with ⟨_, h0⟩ | ⟨g, cap, cur, hv, _⟩
    · omega
    · exact ⟨g, cap, hv⟩
  have hk2 : Lib.OthersKept 5 (some b) w w2 := (hk1.alloc _).grown hgrow (own_kind (hown.alloc _))
  go_wp2
  go_ret
  refine ⟨rfl, ?_, ?_, ?_⟩
  · exact Lib.BuilderAt.put (T := 133) (e := 5) hB hb2 (bs' := bs ++ [.int .u8 c]) (by simpa using hown') (by decide)
  · exact ((hb1.alloc (by have := hb1.size; omega) _).grown hgrow (by have := hb1.size; simp; omega) (fun k hk => (hown.lt k hk).1)).setCell (p := ⟨b, 1, none⟩) hB _
  · exact hk2.setCell ⟨b, 1, none⟩ rfl _

set_option maxRecDepth 100000 in
set_option maxHeartbeats 1000000 in
theorem writeString_any (B b : Nat) (bs : List Value) (s : ByteArray) (w : World) (h : Lib.IsBuilder 133 5 B b bs w) (hlen : bs.length + s.size ≤ 140737488355328) (hBw : B ≤ w.heap.size) :
    Calls Tryz.prog 81 #[.pointer (some ⟨b, 0, none⟩), .string s] w fun e w' => e = .returned (.tuple #[.int .i64 s.size, .nilIface]) ∧ (Lib.BuilderAt 133 5 B b (.pointer (some ⟨b, 0, none⟩)) (bs ++ Lib.strCells s) w' ∧ Below B w w' ∧ Lib.OthersKept 5 (some b) w w') := by
  obtain ⟨i0, hi, hz0, hz1, hz2⟩ := info_parts A_info5
  go_enter Tryz.func81, Tryz.ntmps81
  go_wp2_with (go_at_call 110; refine (check_any B b bs _ h).mono ?_)
  rintro e w1 ⟨rfl, h1, hb1, hk1⟩
  obtain ⟨hB, v, hbk, hown, hne⟩ := h1
  have c0 : w1.cell? ⟨b, 0, none⟩ = some (.pointer (some ⟨b, 0, none⟩)) := by rw [Lib.cell_of_heap hbk]; rfl
  have c1 : w1.cell? ⟨b, 1, none⟩ = some v := by rw [Lib.cell_of_heap hbk]; rfl
  go_wp2_with (at_builtin; refine Lib.wpList_append_own_string _ rfl _ _ 103 9 rfl B 5 i0 Tryz.underlying103 Tryz.underlying9 hi hz0 hz1 hz2 _ _ _ rfl hown s rfl ?c3 ?c4 ?c5 ?_)
  case c3 => unfold maxLen; omega
  case c4 => omega
  case c5 => have := hb1.size; omega
  intro v' w2 hown' hgrow _
  have hlt : b < w1.heap.size := Lib.BuilderAt.lt (T := 133) (e := 5) ⟨hB, v, hbk, hown, hne⟩
  have hb2 : w2.heap[b]? = some (.cells #[.pointer (some ⟨b, 0, none⟩), v] 133 (0, 0)) := by
    rw [hgrow.block b hlt (fun e => hne e.symm)]
    exact hbk
  have d0 : w2.cell? ⟨b, 0, none⟩ = some (.pointer (some ⟨b, 0, none⟩)) := by rw [Lib.cell_of_heap hb2]; rfl
  have d1 : w2.cell? ⟨b, 1, none⟩ = some v := by rw [Lib.cell_of_heap hb2]; rfl
  have f1 : w2.frozen? ⟨b, 1, none⟩ = false := Lib.frozen_of_heap hb2 1
  obtain ⟨ao, n', cap, rfl⟩ : ∃ ao n' cap, v' = .slice ao n' cap := by
    rcases hown'.2 with ⟨hv, _⟩ | ⟨g, cap, cur, hv, _⟩
    · exact ⟨_, _, _, hv⟩
    · exact ⟨_, _, _, hv⟩
  have hk2 : Lib.OthersKept 5 (some b) w w2 := hk1.grown hgrow (own_kind hown)
  go_wp2
  go_ret2
  refine ⟨rfl, ?_, ?_, ?_⟩
  · exact Lib.BuilderAt.put (T := 133) (e := 5) hB hb2 (bs' := bs ++ Lib.strCells s) (by simpa [Lib.strCells_length] using hown') (by decide)
  · exact (hb1.grown hgrow (by have := hb1.size; omega) (fun k hk => (hown.lt k hk).1)).setCell (p := ⟨b, 1, none⟩) hB _
  · exact hk2.setCell ⟨b, 1, none⟩ rfl _

end Go.Proofs.YtgpaleifhcdjnaaGreatDoor

/- Package token: Join answers the texts of tokens with a blank between, or why not. -/
namespace Go.Proofs.YtgpaleifhcdjnaaGreatDoor
open Go.RowKit

namespace Tk
/-- The texts of the first k tokens, a blank between. -/
def joinTo (l : List Tok) : Nat → List UInt8
  | 0 => []
  | k + 1 => (if k = 0 then [] else joinTo l k ++ [32]) ++ (tokD l k).text
/-- Are the first k tokens each the only one of its text? -/
def allTok (l : List Tok) (k : Nat) : Bool := (l.take k).all fun t => isTok t.kind t.text
/-- What Join answers. -/
def join (l : List Tok) : List UInt8 × Int :=
  if allTok l l.length then (if 5000 < (joinTo l l.length).length then ([], 2) else (joinTo l l.length, 0)) else ([], 1)

theorem allTok_snoc (l : List Tok) (k : Nat) (h : k < l.length) : allTok l (k + 1) = (allTok l k && isTok (tokD l k).kind (tokD l k).text) := by
  unfold allTok
  rw [List.take_succ_eq_append_getElem h, List.all_append]
  have e : tokD l k = l[k] := by rw [tokD, List.getD_eq_getElem?_getD, List.getElem?_eq_getElem h]; rfl
  rw [e]
  simp
theorem allTok_no (l : List Tok) (k : Nat) (h : k < l.length) (hk : isTok (tokD l k).kind (tokD l k).text = false) : allTok l l.length = false := by
  have e : tokD l k = l[k] := by rw [tokD, List.getD_eq_getElem?_getD, List.getElem?_eq_getElem h]; rfl
  rw [e] at hk
  unfold allTok
  rw [List.take_length]
  rw [← Bool.not_eq_true] at hk ⊢
  intro ha
  exact hk (List.all_eq_true.1 ha _ (List.getElem_mem h))
theorem isTok_len (k : Int) (t : List UInt8) (h : isTok k t = true) : t.length ≤ 12 := by
  have h := of_decide_eq_true h
  obtain ⟨h1, h2, h3, h4, h5⟩ := h
  match t, h1 with
  | c :: r, _ =>
    rcases tok_cases c r with ⟨c1, cE⟩ | ⟨c1, cK, c3, cE⟩ | ⟨c1, cK, c3, cE⟩ | ⟨c1, cK, c3, cE⟩ | ⟨c1, cK, c3, c4, c5, cE⟩ | ⟨c1, cK, c3, cE⟩ | ⟨c1, cK, c3, c4, c5, cE⟩ | ⟨c1, cK, cE⟩
    · omega
    · omega
    · omega
    · omega
    · omega
    · omega
    · omega
    · have e2 := lenOf_cons c r
      have e1 := kindOf_cons c r
      rw [cK] at e1
      cases g1 : Tk.small c.toNat
      · cases g2 : Tk.great c.toNat
        · cases g3 : Tk.digit c.toNat
          · rw [g1, g2, g3] at e2
            simp only [Bool.or_self, Bool.false_eq_true, if_false] at e2
            have e3 : Tk.signLen (c :: r) ≤ 2 := by
              unfold Tk.signLen
              split
              · omega
              · dsimp only; split <;> omega
            omega
          · rw [g1, g2, g3] at e1; simp at e1
        · rw [g1, g2] at e1; simp at e1
      · rw [g1] at e1; simp at e1
theorem joinTo_len (l : List Tok) : ∀ k, k ≤ l.length → allTok l k = true → (joinTo l k).length ≤ 13 * k := by
  intro k
  induction k with
  | zero => intro _ _; exact Nat.le_refl 0
  | succ k ih =>
    intro hk ha
    rw [allTok_snoc l k (by omega), Bool.and_eq_true] at ha
    have h1 := ih (by omega) ha.1
    have h2 := isTok_len _ _ ha.2
    rw [joinTo]
    split
    · simp; omega
    · simp; omega
end Tk

theorem builder_below {N : Nat} {bs : List Value} {w w' : World} (h : Lib.IsBuilder 133 5 N N bs w) (hb : Below w.heap.size w w') : Lib.IsBuilder 133 5 N N bs w' := by
  have key : ∀ p, Lib.BuilderAt 133 5 N N p bs w → Lib.BuilderAt 133 5 N N p bs w' := fun p h => by
    have hlt := h.lt
    obtain ⟨h1, v, h2, h3, h4⟩ := h
    exact ⟨h1, v, by rw [hb.block N hlt]; exact h2, ownsRow_below h3 hb, h4⟩
  rcases h with h | h
  · exact .inl (key _ h)
  · exact .inr (key _ h)

theorem builder_lt {N : Nat} {bs : List Value} {w : World} (h : Lib.IsBuilder 133 5 N N bs w) : N < w.heap.size := by
  rcases h with h | h
  · exact h.lt
  · exact h.lt

/-- A block of a token stands where the builder writes. -/
theorem kept_tok {N T : Nat} {t : Tk.Tok} {w w' : World} (hk : Lib.OthersKept 5 (some N) w w') (hne : ¬ T = N) (h : w.heap[T]? = some (tokObjOf t)) : w'.heap[T]? = some (tokObjOf t) := by
  refine hk T _ h (fun e => hne (Option.some.inj e)) ?_
  intro c fz e
  injection e with _ e2 _
  exact absurd e2 (by decide)

set_option maxRecDepth 100000 in
set_option maxHeartbeats 2000000 in
theorem Join_some (l : List Tk.Tok) (w : World) (n b off cap : Nat) (hn : l.length = n) (hmax : n ≤ 4398046511104)
    (hA : ∀ i, i < n → TokIn w b (off + i * 3) (tokD l i)) :
    Calls Tryz.prog 47 #[.slice (some ⟨b, off, none⟩) n cap] w fun e w' => e = .returned (.tuple #[.string ⟨(Tk.join l).1.toArray⟩, .int .i64 (Tk.join l).2]) ∧ Below w.heap.size w w' := by
  have HN : Hid (l.length = n) := hn
  clear hn
  go_enter Tryz.func47, Tryz.ntmps47
  go_wp2_with fail
  go_loopw [9] (fun i wr => ∃ k : Nat, k ≤ n ∧ i = .int .i64 k ∧ Tk.allTok l k = true ∧ Lib.IsBuilder 133 5 w.heap.size w.heap.size (Lib.byteCells (Tk.joinTo l k)) wr ∧ Below w.heap.size w wr) (fun i _ => n - (intOf i).toNat)
  case atStart => exact ⟨0, Nat.zero_le _, rfl, rfl, Lib.fresh_isBuilder 133 5 w, (Below.refl _ _).alloc (Nat.le_refl _) _⟩
  case round =>
    obtain ⟨k, hk, rfl, hall, hbu, hbel⟩ := hrel
    have HA : Hid (Tk.allTok l k = true) := hall
    clear hall
    have hNw := builder_lt hbu
    have hlen := Tk.joinTo_len l k (by rw [HN.out]; exact hk) HA.out
    by_cases hlt : k < n
    · obtain ⟨a0, a1, a2⟩ := hA k hlt
      have hbw : b < w.heap.size := World.block_lt_of_cell? w _ a0
      have a0' : wr.cell? ⟨b, off + k * 3, none⟩ = some (.int .i64 (tokD l k).kind) := (hbel.cell (p := ⟨b, _, none⟩) hbw).trans a0
      have a1' : wr.cell? ⟨b, off + k * 3 + 1, none⟩ = some (.int .i64 (tokD l k).at_) := (hbel.cell (p := ⟨b, _, none⟩) hbw).trans a1
      have a2' : wr.cell? ⟨b, off + k * 3 + 2, none⟩ = some (.string ⟨(tokD l k).text.toArray⟩) := (hbel.cell (p := ⟨b, _, none⟩) hbw).trans a2
      clear a0 a1 a2 hA
      go_wp2_with fail
      refine (alone_any (tokD l k) _).mono ?_
      rintro e w1 ⟨he, hb1⟩
      rw [alone_eq] at he
      subst he
      have hb0 : Below wr.heap.size wr w1 := below_box hb1
      have hbel1 : Below w.heap.size w w1 := hbel.trans (hb0.mono (by omega))
      cases hT : Tk.isTok (tokD l k).kind (tokD l k).text
      · have HF : Hid (Tk.join l = ([], 1)) := by
          show _ = _
          unfold Tk.join
          rw [if_neg (by rw [Tk.allTok_no l k (by rw [HN.out]; exact hlt) hT]; simp)]
        clear hT hb1 a0' a1' a2'
        go_wp2_with fail
        go_ret2
        refine ⟨?_, hbel1⟩
        rw [HF.out]
        rfl
      · have HT : Hid (Tk.allTok l (k + 1) = true) := by
          show _ = _
          rw [Tk.allTok_snoc l k (by rw [HN.out]; exact hlt), HA.out, hT]
          rfl
        have h12 := Tk.isTok_len _ _ hT
        have hbu1 := builder_below hbu hb0
        have hblk : w1.heap[wr.heap.size]? = some (tokObjOf (tokD l k)) := by
          rw [hb1.block wr.heap.size (by simp)]
          exact heap_alloc_new wr _
        obtain ⟨x0, x1, x2⟩ := boxCell hb1
        have hz1 : w.heap.size ≤ w1.heap.size := hbel1.size
        clear hT hb1 a0' a1' a2' hbu hb0
        by_cases hk0 : 0 < k
        · have HJ : Hid (Lib.byteCells (Tk.joinTo l k) ++ [.int .u8 32] ++ Lib.strCells ⟨(tokD l k).text.toArray⟩ = Lib.byteCells (Tk.joinTo l (k + 1))) := by
            show _ = _
            rw [Tk.joinTo, if_neg (by omega), Lib.byteCells_append, Lib.byteCells_append]
            rfl
          go_wp2_with fail
          refine (writeByte_any w.heap.size w.heap.size _ 32 _ hbu1 (by rw [Lib.byteCells_length]; omega) hz1).mono ?_
          rintro e w2 ⟨rfl, hB2, hbel2, hk2⟩
          have hblk2 := kept_tok hk2 (by omega) hblk
          have d2 : w2.cell? ⟨wr.heap.size, 2, none⟩ = some (.string ⟨(tokD l k).text.toArray⟩) := by rw [Lib.cell_of_heap hblk2]; rfl
          have hz2 : w.heap.size ≤ w2.heap.size := by have := hbel2.size; omega
          clear hk2 hblk hblk2 hbu1 x0 x1 x2
          go_wp2_with fail
          refine (writeString_any w.heap.size w.heap.size _ _ _ (.inr hB2) (by show _ + (tokD l k).text.toArray.size ≤ _; simp [Lib.byteCells_length]; omega) hz2).mono ?_
          rintro e w3 ⟨rfl, hB3, hbel3, _⟩
          rw [HJ.out] at hB3
          have hbel4 := (hbel1.trans hbel2).trans hbel3
          clear hB2 d2 HJ
          go_wp2
          go_roundw
          case rel => exact ⟨k + 1, by omega, by go_num, HT.out, .inr hB3, hbel4⟩
          case measure => simp [intOf]; omega
        · have hd : decide ((0 : Int) < (k : Int)) = false := by simp; omega
          have HJ : Hid (Lib.byteCells (Tk.joinTo l k) ++ Lib.strCells ⟨(tokD l k).text.toArray⟩ = Lib.byteCells (Tk.joinTo l (k + 1))) := by
            show _ = _
            have e0 : k = 0 := by omega
            rw [e0, Tk.joinTo, Tk.joinTo, if_pos rfl]
            rfl
          go_wp2_with fail
          refine (writeString_any w.heap.size w.heap.size _ _ _ hbu1 (by show _ + (tokD l k).text.toArray.size ≤ _; simp [Lib.byteCells_length]; omega) hz1).mono ?_
          rintro e w3 ⟨rfl, hB3, hbel3, _⟩
          rw [HJ.out] at hB3
          have hbel4 := hbel1.trans hbel3
          clear hbu1 HJ x0 x1 x2 hblk
          go_wp2
          go_roundw
          case rel => exact ⟨k + 1, by omega, by go_num, HT.out, .inr hB3, hbel4⟩
          case measure => simp [intOf]; omega
    · have hkn : k = n := by omega
      have HL : Hid (k = l.length) := by show _ = _; rw [HN.out]; exact hkn
      clear hkn
      have HA2 : Hid (Tk.allTok l l.length = true) := by have := HA.out; rw [HL.out] at this; exact this
      clear hA
      by_cases h5 : 5000 < (Tk.joinTo l k).length
      · have HF : Hid (Tk.join l = ([], 2)) := by
          show _ = _
          unfold Tk.join
          rw [if_pos HA2.out, if_pos (by rw [← HL.out]; exact h5)]
        go_wp2_with (go_at_call 82; refine (Tryz.Builder_Len _ _ _ _ hbu).mono ?_; rintro e w' ⟨rfl, rfl⟩; rw [Lib.byteCells_length])
        go_ret2
        refine ⟨?_, hbel⟩
        rw [HF.out]
        rfl
      · have HF : Hid (Tk.join l = (Tk.joinTo l k, 0)) := by
          show _ = _
          unfold Tk.join
          rw [if_pos HA2.out, if_neg (by rw [← HL.out]; exact h5), HL.out]
        go_wp2_with (first | (go_at_call 82; refine (Tryz.Builder_Len _ _ _ _ hbu).mono ?_; rintro e w' ⟨rfl, rfl⟩; rw [Lib.byteCells_length]) | (go_at_call 83; refine (Tryz.Builder_String_any _ _ _ _ hbu (by omega)).mono ?_; rintro e w2 ⟨rfl, hbel2⟩))
        go_ret2
        refine ⟨?_, hbel.trans hbel2⟩
        rw [HF.out]
        rfl

end Go.Proofs.YtgpaleifhcdjnaaGreatDoor

/- Package token: Join, whatever tokens it is handed. -/
namespace Go.Proofs.YtgpaleifhcdjnaaGreatDoor
open Go.RowKit

set_option maxRecDepth 100000 in
set_option maxHeartbeats 400000 in
theorem Join_none (w : World) (ao : Option Addr) (cap : Nat) :
    Calls Tryz.prog 47 #[.slice ao 0 cap] w fun e w' => e = .returned (.tuple #[.string ⟨#[]⟩, .int .i64 0]) ∧ Below w.heap.size w w' := by
  have hbu : Lib.IsBuilder 133 5 w.heap.size w.heap.size (Lib.byteCells []) (w.alloc (.cells #[.pointer none, .slice none 0 0] 133)) := Lib.fresh_isBuilder 133 5 w
  have hbel : Below w.heap.size w (w.alloc (.cells #[.pointer none, .slice none 0 0] 133)) := (Below.refl _ _).alloc (Nat.le_refl _) _
  go_enter Tryz.func47, Tryz.ntmps47
  go_wp2_with fail
  refine wp_loop_rounds 1 ?_
  rw [rounds_succ]
  go_wp2_with (first | (go_at_call 82; refine (Tryz.Builder_Len _ _ _ _ hbu).mono ?_; rintro e w' ⟨rfl, rfl⟩; rw [Lib.byteCells_length]) | (go_at_call 83; refine (Tryz.Builder_String_any _ _ _ _ hbu (by simp)).mono ?_; rintro e w2 ⟨rfl, hbel2⟩))
  go_ret2
  exact ⟨rfl, hbel.trans hbel2⟩

/-- Join, whatever tokens it is handed. -/
theorem Join_any (l : List Tk.Tok) (w : World) (ao : Option Addr) (cap : Nat) (hmax : l.length ≤ 4398046511104) (hA : ToksAt w ao l) :
    Calls Tryz.prog 47 #[.slice ao l.length cap] w fun e w' => e = .returned (.tuple #[.string ⟨(Tk.join l).1.toArray⟩, .int .i64 (Tk.join l).2]) ∧ Below w.heap.size w w' := by
  rcases hA with rfl | ⟨b, off, rfl, hA⟩
  · exact Join_none w ao cap
  · exact Join_some l w l.length b off cap rfl hmax hA

end Go.Proofs.YtgpaleifhcdjnaaGreatDoor

/- Package tree: words, names and terms. -/
namespace Go.Proofs.YtgpaleifhcdjnaaGreatDoor
open Go.RowKit

set_option maxRecDepth 100000 in
set_option maxHeartbeats 400000 in
theorem foldOf_any (s : List UInt8) (w : World) : Calls Tryz.prog 157 #[.string ⟨s.toArray⟩] w fun e w' => e = .returned (.int .i64 (Tr.foldOf s)) ∧ w' = w := by
  unfold Tr.foldOf
  cases h1 : (s == [99, 111, 117, 110, 116])
  · cases h2 : (s == [115, 117, 109])
    · cases h3 : (s == [108, 101, 97, 115, 116])
      · cases h4 : (s == [109, 111, 115, 116])
        · go_enter Tryz.func157, Tryz.ntmps157
          go_wp2
          go_ret
          exact ⟨rfl, rfl⟩
        · go_enter Tryz.func157, Tryz.ntmps157
          go_wp2
          go_ret
          exact ⟨rfl, rfl⟩
      · go_enter Tryz.func157, Tryz.ntmps157
        go_wp2
        go_ret
        exact ⟨rfl, rfl⟩
    · go_enter Tryz.func157, Tryz.ntmps157
      go_wp2
      go_ret
      exact ⟨rfl, rfl⟩
  · go_enter Tryz.func157, Tryz.ntmps157
    go_wp2
    go_ret
    exact ⟨rfl, rfl⟩

set_option maxRecDepth 100000 in
set_option maxHeartbeats 400000 in
theorem isWord_any (s : List UInt8) (w : World) : Calls Tryz.prog 139 #[.string ⟨s.toArray⟩] w fun e w' => e = .returned (.bool (Tr.isWord s)) ∧ w' = w := by
  unfold Tr.isWord
  cases h1 : (s == [110, 111, 116])
  · go_enter Tryz.func139, Tryz.ntmps139
    go_wp2_with (go_at_call 157; refine (foldOf_any _ _).mono ?_; rintro e w' ⟨rfl, rfl⟩)
    go_ret
    exact ⟨rfl, rfl⟩
  · go_enter Tryz.func139, Tryz.ntmps139
    go_wp2
    go_ret
    exact ⟨rfl, rfl⟩

set_option maxRecDepth 100000 in
set_option maxHeartbeats 400000 in
theorem isTest_any (n : Int) (w : World) : Calls Tryz.prog 141 #[.int .i64 n] w fun e w' => e = .returned (.bool (Tr.between n 1 4)) ∧ w' = w := by
  unfold Tr.between
  by_cases h : 1 ≤ n
  · go_enter Tryz.func141, Tryz.ntmps141
    go_wp2
    go_ret
    exact ⟨by simp [h], rfl⟩
  · have hd : decide (1 ≤ n) = false := by simpa using h
    go_enter Tryz.func141, Tryz.ntmps141
    go_wp2
    go_ret
    exact ⟨rfl, rfl⟩

set_option maxRecDepth 100000 in
set_option maxHeartbeats 400000 in
theorem isCalc_any (n : Int) (w : World) : Calls Tryz.prog 142 #[.int .i64 n] w fun e w' => e = .returned (.bool (Tr.between n 5 7)) ∧ w' = w := by
  unfold Tr.between
  by_cases h : 5 ≤ n
  · go_enter Tryz.func142, Tryz.ntmps142
    go_wp2
    go_ret
    exact ⟨by simp [h], rfl⟩
  · have hd : decide (5 ≤ n) = false := by simpa using h
    go_enter Tryz.func142, Tryz.ntmps142
    go_wp2
    go_ret
    exact ⟨rfl, rfl⟩

theorem join_one (k : Int) (s : List UInt8) : ((Tk.join [⟨k, 0, s⟩]).2 == 0) = Tk.isTok k s := by
  have e1 : Tk.allTok [⟨k, 0, s⟩] 1 = Tk.isTok k s := by simp [Tk.allTok]
  have e2 : Tk.joinTo [⟨k, 0, s⟩] 1 = s := by simp [Tk.joinTo, tokD]
  unfold Tk.join
  rw [List.length_singleton, e1, e2]
  cases h : Tk.isTok k s
  · rfl
  · have := Tk.isTok_len k s h
    rw [if_pos rfl, if_neg (by omega)]
    rfl

set_option maxRecDepth 100000 in
set_option maxHeartbeats 400000 in
theorem isToken_any (s : List UInt8) (k : Int) (w : World) : Calls Tryz.prog 138 #[.string ⟨s.toArray⟩, .int .i64 k] w fun e w' => e = .returned (.bool (Tk.isTok k s)) ∧ Below w.heap.size w w' := by
  have HJ := join_one k s
  have hA : ToksAt (w.alloc (.cells #[.int .i64 k, .int .i64 0, .string ⟨s.toArray⟩] 53)) (some ⟨w.heap.size, 0, none⟩) [⟨k, 0, s⟩] := by
    refine .inr ⟨w.heap.size, 0, rfl, fun i hi => ?_⟩
    have : i = 0 := by simpa using hi
    subst this
    exact ⟨by simp [go_sem, tokD], by simp [go_sem, tokD], by simp [go_sem, tokD]⟩
  have HC : Hid (_) := Join_any [⟨k, 0, s⟩] _ _ 1 (by simp) hA
  rw [← HJ]
  generalize Tk.join [⟨k, 0, s⟩] = J at *
  clear hA HJ
  go_enter Tryz.func138, Tryz.ntmps138
  go_wp2_with fail
  refine Calls.mono HC.out ?_
  rintro e w1 ⟨rfl, hb⟩
  go_wp2
  go_ret
  exact ⟨rfl, below_box hb⟩

set_option maxRecDepth 100000 in
set_option maxHeartbeats 400000 in
theorem isName_any (s : List UInt8) (w : World) : Calls Tryz.prog 103 #[.string ⟨s.toArray⟩] w fun e w' => e = .returned (.bool (Tr.isName s)) ∧ Below w.heap.size w w' := by
  unfold Tr.isName
  cases h1 : Tk.isTok 1 s
  · go_enter Tryz.func103, Tryz.ntmps103
    go_wp2_with fail
    refine (isToken_any s 1 w).mono ?_
    rintro e w1 ⟨he, hb⟩
    rw [h1] at he
    subst he
    go_wp2
    go_ret
    exact ⟨rfl, hb⟩
  · go_enter Tryz.func103, Tryz.ntmps103
    go_wp2_with fail
    refine (isToken_any s 1 w).mono ?_
    rintro e w1 ⟨he, hb⟩
    rw [h1] at he
    subst he
    go_wp2_with (go_at_call 139; refine (isWord_any _ _).mono ?_; rintro e w' ⟨rfl, rfl⟩)
    go_ret
    exact ⟨rfl, hb⟩

end Go.Proofs.YtgpaleifhcdjnaaGreatDoor

/- Package scope: giving up, and the small steps of Check. -/
namespace Go.Proofs.YtgpaleifhcdjnaaGreatDoor
open Go.RowKit

abbrev gaveF (a c : Int) : Ending := .panicked [{ v := .iface 71 (.agg #[.int .i64 a, .int .i64 c]), recovered := false }]
abbrev goneOn : Ending := .returned (.tuple #[])
/-- How a check ends: it gives up with what is wrong, or goes on. -/
def finE (x : Int) : Ending := if x = 0 then goneOn else gaveF 0 x
theorem finE_zero : finE 0 = goneOn := rfl
theorem finE_ne {x : Int} (h : ¬ x = 0) : finE x = gaveF 0 x := by unfold finE; rw [if_neg h]

set_option maxRecDepth 100000 in
set_option maxHeartbeats 400000 in
theorem refuseAt_yes (a c : Int) (w : World) : Calls Tryz.prog 71 #[.int .i64 a, .bool true, .int .i64 c] w fun e w' => e = gaveF a c ∧ Below w.heap.size w w' := by
  go_enter Tryz.func71, Tryz.ntmps71
  go_wp2
  exact ⟨rfl, rfl, Below.refl _ _⟩
set_option maxRecDepth 100000 in
set_option maxHeartbeats 400000 in
theorem refuseAt_no (a c : Int) (w : World) : Calls Tryz.prog 71 #[.int .i64 a, .bool false, .int .i64 c] w fun e w' => e = goneOn ∧ w' = w := by
  go_enter Tryz.func71, Tryz.ntmps71
  go_wp2
  exact ⟨rfl, .tuple #[], by simp [results, Tryz.results71], rfl, rfl⟩
set_option maxRecDepth 100000 in
set_option maxHeartbeats 400000 in
theorem refuse_yes (c : Int) (w : World) : Calls Tryz.prog 35 #[.bool true, .int .i64 c] w fun e w' => e = gaveF 0 c ∧ Below w.heap.size w w' := by
  go_enter Tryz.func35, Tryz.ntmps35
  go_wp2_with fail
  refine (refuseAt_yes _ _ _).mono ?_
  rintro e w1 ⟨rfl, hb⟩
  go_wp2
  exact ⟨rfl, rfl, hb⟩
set_option maxRecDepth 100000 in
set_option maxHeartbeats 400000 in
theorem refuse_no (c : Int) (w : World) : Calls Tryz.prog 35 #[.bool false, .int .i64 c] w fun e w' => e = goneOn ∧ w' = w := by
  go_enter Tryz.func35, Tryz.ntmps35
  go_wp2_with fail
  refine (refuseAt_no _ _ _).mono ?_
  rintro e w1 ⟨rfl, rfl⟩
  go_wp2
  exact ⟨rfl, .tuple #[], by simp [results, Tryz.results35], rfl, rfl⟩
set_option maxRecDepth 100000 in
set_option maxHeartbeats 400000 in
theorem isNumber_any (n : Int) (w : World) : Calls Tryz.prog 39 #[.int .i64 n] w fun e w' => e = .returned (.bool (Sc.isNum n)) ∧ w' = w := by
  unfold Sc.isNum Tr.between
  by_cases h : -1000000 ≤ n
  · go_enter Tryz.func39, Tryz.ntmps39
    go_wp2
    go_ret
    exact ⟨by simp [h], rfl⟩
  · have hd : decide (-1000000 ≤ n) = false := by simpa using h
    go_enter Tryz.func39, Tryz.ntmps39
    go_wp2
    go_ret
    exact ⟨rfl, rfl⟩
set_option maxRecDepth 100000 in
set_option maxHeartbeats 400000 in
theorem isPred_any (ar : List Int) (ao : Option Addr) (cap : Nat) (vn vr : Value) (k : Int) (w : World) : Calls Tryz.prog 36 #[progVal (.slice ao ar.length cap) vn vr, .int .i64 k] w fun e w' => e = .returned (.bool (Sc.isPred ar k)) ∧ Below w.heap.size w w' := by
  unfold Sc.isPred Tr.between
  by_cases h : 0 ≤ k
  · go_enter Tryz.func36, Tryz.ntmps36
    go_wp2
    go_ret
    refine ⟨?_, (Below.refl _ _).alloc (Nat.le_refl _) _⟩
    congr 2
    simp [h]
    omega
  · have hd : decide (0 ≤ k) = false := by simpa using h
    go_enter Tryz.func36, Tryz.ntmps36
    go_wp2
    go_ret
    exact ⟨rfl, (Below.refl _ _).alloc (Nat.le_refl _) _⟩

set_option maxRecDepth 100000 in
set_option maxHeartbeats 1000000 in
theorem checkTerms_some (l : List Sc.Term) (vars : Int) (w : World) (n b off cap : Nat) (hn : l.length = n) (hmax : n ≤ 9223372036854775807) (hA : ∀ i, i < n → PTermIn w b (off + i * 2) (Sc.termD l i)) :
    Calls Tryz.prog 100 #[.slice (some ⟨b, off, none⟩) n cap, .int .i64 vars] w fun e w' => e = finE (Sc.termsErr vars l) ∧ Below w.heap.size w w' := by
  have HN : Hid (l.length = n) := hn
  clear hn
  go_enter Tryz.func100, Tryz.ntmps100
  go_wp2_with fail
  go_loopw [8] (fun i wr => ∃ k : Nat, k ≤ n ∧ i = .int .i64 k ∧ Sc.termsErr vars l = Sc.first (Sc.termErr vars) (l.drop k) ∧ Below w.heap.size w wr) (fun i _ => n - (intOf i).toNat)
  case atStart => exact ⟨0, Nat.zero_le _, rfl, rfl, Below.refl _ _⟩
  case round =>
    obtain ⟨k, hk, rfl, hall, hbel⟩ := hrel
    have HA : Hid (Sc.termsErr vars l = Sc.first (Sc.termErr vars) (l.drop k)) := hall
    clear hall
    by_cases hlt : k < n
    · obtain ⟨a0, a1⟩ := hA k hlt
      have hbw : b < w.heap.size := World.block_lt_of_cell? w _ a0
      have a0' := (hbel.cell (p := ⟨b, off + k * 2, none⟩) hbw).trans a0
      have a1' := (hbel.cell (p := ⟨b, off + k * 2 + 1, none⟩) hbw).trans a1
      have HD : Hid (Sc.termsErr vars l = Sc.thn (Sc.termErr vars (Sc.termD l k)) (Sc.first (Sc.termErr vars) (l.drop (k + 1)))) := HA.out.trans (Sc.first_drop _ _ _ k (by rw [HN.out]; exact hlt))
      clear a0 a1 hA HA
      generalize Sc.termD l k = t at *
      by_cases h1 : t.var < -1
      · have HV : Hid (Sc.termsErr vars l = 5) := by
          show _ = _
          rw [HD.out]
          have : ¬ (-1 : Int) ≤ t.var := by omega
          simp [Sc.termErr, Sc.thn, Tr.between, this]
        clear HD
        have g1 : decide (t.var < -1) = true := decide_eq_true h1
        go_wp2_with fail
        refine (refuse_yes 5 _).mono ?_
        rintro e w1 ⟨rfl, hb1⟩
        have hb2 := hbel.trans ((below_box hb1).mono hbel.size)
        go_wp2_with fail
        exact ⟨rfl, by rw [HV.out]; rfl, hb2⟩
      · have g1 : decide (t.var < -1) = false := decide_eq_false h1
        by_cases h2 : vars ≤ t.var
        · have HV : Hid (Sc.termsErr vars l = 5) := by
            show _ = _
            rw [HD.out]
            have : ¬ t.var ≤ vars - 1 := by omega
            simp [Sc.termErr, Sc.thn, Tr.between, this]
          clear HD
          have g2 : decide (vars ≤ t.var) = true := decide_eq_true h2
          go_wp2_with fail
          refine (refuse_yes 5 _).mono ?_
          rintro e w1 ⟨rfl, hb1⟩
          have hb2 := hbel.trans ((below_box hb1).mono hbel.size)
          go_wp2_with fail
          exact ⟨rfl, by rw [HV.out]; rfl, hb2⟩
        · have g2 : decide (vars ≤ t.var) = false := decide_eq_false h2
          have hT : Hid (Sc.termErr vars t = if !Sc.isNum t.n || (decide (0 ≤ t.var) && t.n != 0) then 3 else 0) := by
            show _ = _
            have h3 : (-1 : Int) ≤ t.var := by omega
            have h4 : t.var ≤ vars - 1 := by omega
            simp [Sc.termErr, Tr.between, h3, h4]
          go_wp2_with fail
          refine (refuse_no 5 _).mono ?_
          rintro e w1 ⟨rfl, rfl⟩
          go_wp2_with fail
          refine (isNumber_any t.n _).mono ?_
          rintro e wn ⟨he, rfl⟩
          cases hnum : Sc.isNum t.n
          · rw [hnum] at he
            subst he
            have HV : Hid (Sc.termsErr vars l = 3) := by show _ = _; rw [HD.out, hT.out, hnum]; rfl
            clear HD hT
            go_wp2_with fail
            refine (refuse_yes 3 _).mono ?_
            rintro e w1 ⟨rfl, hb1⟩
            have hb2 := hbel.trans ((below_box hb1).mono hbel.size)
            go_wp2_with fail
            exact ⟨rfl, by rw [HV.out]; rfl, hb2⟩
          · rw [hnum] at he
            subst he
            by_cases h5 : 0 ≤ t.var
            · have g5 : decide (0 ≤ t.var) = true := decide_eq_true h5
              cases g6 : (t.n != 0)
              · have HV : Hid (Sc.termsErr vars l = Sc.first (Sc.termErr vars) (l.drop (k + 1))) := by show _ = _; rw [HD.out, hT.out, hnum, g5, g6]; rfl
                clear HD hT
                go_wp2_with fail
                refine (refuse_no 3 _).mono ?_
                rintro e w1 ⟨rfl, rfl⟩
                go_wp2_with fail
                have hb2 := hbel.alloc hbel.size (.cells #[.int .i64 t.var, .int .i64 t.n] 130)
                go_roundw
                case rel => exact ⟨k + 1, by omega, by go_num, HV.out, hb2⟩
                case measure => simp [intOf]; omega
              · have HV : Hid (Sc.termsErr vars l = 3) := by show _ = _; rw [HD.out, hT.out, hnum, g5, g6]; rfl
                clear HD hT
                go_wp2_with fail
                refine (refuse_yes 3 _).mono ?_
                rintro e w1 ⟨rfl, hb1⟩
                have hb2 := hbel.trans ((below_box hb1).mono hbel.size)
                go_wp2_with fail
                exact ⟨rfl, by rw [HV.out]; rfl, hb2⟩
            · have g5 : decide (0 ≤ t.var) = false := decide_eq_false h5
              have HV : Hid (Sc.termsErr vars l = Sc.first (Sc.termErr vars) (l.drop (k + 1))) := by show _ = _; rw [HD.out, hT.out, hnum, g5]; rfl
              clear HD hT
              go_wp2_with fail
              refine (refuse_no 3 _).mono ?_
              rintro e w1 ⟨rfl, rfl⟩
              go_wp2_with fail
              have hb2 := hbel.alloc hbel.size (.cells #[.int .i64 t.var, .int .i64 t.n] 130)
              go_roundw
              case rel => exact ⟨k + 1, by omega, by go_num, HV.out, hb2⟩
              case measure => simp [intOf]; omega
    · have HV : Hid (Sc.termsErr vars l = 0) := by show _ = _; rw [HA.out, List.drop_of_length_le (by rw [HN.out]; omega)]; rfl
      clear hA
      go_wp2_with fail
      exact ⟨rfl, .tuple #[], by simp [results, Tryz.results100], by rw [HV.out]; rfl, hbel⟩

set_option maxRecDepth 100000 in
set_option maxHeartbeats 400000 in
theorem checkTerms_none (w : World) (vars : Int) (ao : Option Addr) (cap : Nat) : Calls Tryz.prog 100 #[.slice ao 0 cap, .int .i64 vars] w fun e w' => e = goneOn ∧ Below w.heap.size w w' := by
  go_enter Tryz.func100, Tryz.ntmps100
  go_wp2_with fail
  refine wp_loop_rounds 1 ?_
  rw [rounds_succ]
  go_wp2_with fail
  exact ⟨rfl, .tuple #[], by simp [results, Tryz.results100], rfl, Below.refl _ _⟩
theorem checkTerms_any (l : List Sc.Term) (vars : Int) (v : Value) (w : World) (hmax : l.length ≤ 9223372036854775807) (hA : PTermsV w v l) :
    Calls Tryz.prog 100 #[v, .int .i64 vars] w fun e w' => e = finE (Sc.termsErr vars l) ∧ Below w.heap.size w w' := by
  obtain ⟨ao, cap, rfl, _, hA⟩ := hA
  rcases hA with rfl | ⟨b, off, rfl, hA⟩
  · exact checkTerms_none w vars ao cap
  · exact checkTerms_some l vars w l.length b off cap rfl hmax hA

end Go.Proofs.YtgpaleifhcdjnaaGreatDoor

/- Package scope: a literal but for its terms. -/
namespace Go.Proofs.YtgpaleifhcdjnaaGreatDoor
open Go.RowKit

theorem nat_of {ar : List Int} {k : Int} (h : Sc.isPred ar k = true) : ∃ n : Nat, k = n ∧ n < ar.length := by
  unfold Sc.isPred Tr.between at h
  simp at h
  exact ⟨k.toNat, by omega, by omega⟩
theorem below_two (w : World) (o1 o2 : Obj) : Below w.heap.size w ((w.alloc o1).alloc o2) := ((Below.refl _ _).alloc (Nat.le_refl _) _).alloc (by simp) _
theorem two_blocks {w w3 : World} {o1 o2 : Obj} (hb : Below ((w.alloc o1).alloc o2).heap.size ((w.alloc o1).alloc o2) w3) : w3.heap[w.heap.size]? = some o1 ∧ w3.heap[w.heap.size + 1]? = some o2 := by
  constructor
  · exact (hb.block _ (by simp; omega)).trans ((((Below.refl _ (w.alloc o1)).alloc (Nat.le_refl _) o2).block _ (by simp)).trans (heap_alloc_new w o1))
  · have := heap_alloc_new (w.alloc o1) o2
    exact (hb.block _ (by simp)).trans (by simpa using this)
theorem ints_at {w : World} {ao : Option Addr} {ar : List Int} (h : IntsAt w ao ar) (n : Nat) (hn : n < ar.length) : ∃ b off, ao = some ⟨b, off, none⟩ ∧ w.cell? ⟨b, off + n, none⟩ = some (.int .i64 (Sc.intD ar n)) := by
  rcases h with h | ⟨b, off, ha, hc⟩
  · rw [h] at hn; exact absurd hn (by simp)
  · exact ⟨b, off, ha, hc n hn⟩

set_option maxRecDepth 100000 in
set_option maxHeartbeats 1000000 in
theorem checkLit_pred (ar : List Int) (ao : Option Addr) (cap : Nat) (vn vr : Value) (kind op pred : Int) (ts : List Sc.Term) (at_ : Option Addr) (ct : Nat) (w : World) (hA : IntsAt w ao ar) (hk : kind = 1 ∨ kind = 2) :
    Calls Tryz.prog 101 #[progVal (.slice ao ar.length cap) vn vr, plitVal ⟨kind, op, pred, ts⟩ (.slice at_ ts.length ct)] w fun e w' => e = finE (Sc.litErr ar ⟨kind, op, pred, ts⟩) ∧ Below w.heap.size w w' := by
  have hb0 : Below w.heap.size w ((w.alloc (.cells #[.slice ao ar.length cap, vn, vr] 26)).alloc (.cells #[.int .i64 kind, .int .i64 op, .int .i64 pred, .slice at_ ts.length ct] 84)) := below_two w _ _
  have HL : Hid (Sc.litErr ar ⟨kind, op, pred, ts⟩ = if op ≠ 0 then 3 else if Sc.isPred ar pred then (if (ts.length : Int) ≠ Sc.intD ar pred.toNat then 1 else 0) else 5) := by
    show _ = _
    simp only [Sc.litErr]
    rw [if_pos hk]
  have hkk : kind = 1 ∨ (kind == 1) = false ∧ kind = 2 := by rcases hk with h | h <;> simp [h]
  clear hk
  cases g1 : (op != 0)
  · have h0 : op = 0 := by simpa using g1
    cases g2 : Sc.isPred ar pred
    · have HV : Hid (Sc.litErr ar ⟨kind, op, pred, ts⟩ = 5) := by show _ = _; rw [HL.out, h0, g2]; rfl
      clear HL hA h0
      rcases hkk with rfl | ⟨gk, rfl⟩
      all_goals
        go_enter Tryz.func101, Tryz.ntmps101
        go_wp2_with fail
        refine (refuse_no 3 _).mono ?_
        rintro e w1 ⟨rfl, rfl⟩
        go_wp2_with fail
        refine (isPred_any ar ao cap vn vr pred _).mono ?_
        rintro e w2 ⟨he, hb2⟩
        rw [g2] at he
        subst he
        go_wp2_with fail
        refine (refuse_yes 5 _).mono ?_
        rintro e w3 ⟨rfl, hb3⟩
        go_wp2_with fail
        have hb23 := hb2.trans (hb3.mono hb2.size)
        exact ⟨rfl, by rw [HV.out]; rfl, hb0.trans (hb23.mono hb0.size)⟩
    · obtain ⟨n, rfl, hn⟩ := nat_of g2
      obtain ⟨b, off, rfl, hc⟩ := ints_at hA n hn
      have hbw : b < w.heap.size := World.block_lt_of_cell? w _ hc
      have hcc : ∀ y, Below w.heap.size w y → y.cell? ⟨b, off + n, none⟩ = some (.int .i64 (Sc.intD ar n)) := fun y hy => cell_below hy hc
      have HC : Hid _ := hcc
      clear hcc hc hA
      cases g3 : ((ts.length : Int) != Sc.intD ar n)
      · have HV : Hid (Sc.litErr ar ⟨kind, op, n, ts⟩ = 0) := by
          show _ = _
          rw [HL.out, h0, g2]
          have : (ts.length : Int) = Sc.intD ar n := by simpa using g3
          simp [this]
        clear HL h0
        rcases hkk with rfl | ⟨gk, rfl⟩
        all_goals
          go_enter Tryz.func101, Tryz.ntmps101
          go_wp2_with fail
          refine (refuse_no 3 _).mono ?_
          rintro e w1 ⟨rfl, rfl⟩
          go_wp2_with fail
          refine (isPred_any ar _ cap vn vr n _).mono ?_
          rintro e w2 ⟨he, hb2⟩
          rw [g2] at he
          subst he
          go_wp2_with fail
          refine (refuse_no 5 _).mono ?_
          rintro e w3 ⟨rfl, rfl⟩
          have hb02 := hb0.trans (hb2.mono hb0.size)
          have hq := HC.out _ hb02
          obtain ⟨x1, x2⟩ := two_blocks hb2
          have c0 : w3.cell? ⟨w.heap.size, 0, none⟩ = some (.slice (some ⟨b, off, none⟩) ar.length cap) := by rw [Lib.cell_of_heap x1]; rfl
          have c1 : w3.cell? ⟨w.heap.size + 1, 2, none⟩ = some (.int .i64 n) := by rw [Lib.cell_of_heap x2]; rfl
          have c2 : w3.cell? ⟨w.heap.size + 1, 3, none⟩ = some (.slice at_ ts.length ct) := by rw [Lib.cell_of_heap x2]; rfl
          clear x1 x2 hb2 hb0 HC
          go_upto_region 7 with fail
          go_region_held3 (fun y => y.cell? ⟨w.heap.size, 0, none⟩ = some (.slice (some ⟨b, off, none⟩) ar.length cap) ∧ y.cell? ⟨w.heap.size + 1, 2, none⟩ = some (.int .i64 n) ∧ y.cell? ⟨w.heap.size + 1, 3, none⟩ = some (.slice at_ ts.length ct) ∧ y.cell? ⟨b, off + n, none⟩ = some (.int .i64 (Sc.intD ar n))) (go_keep) ((go_at_call 35; refine Calls.mono (refuse_no 1 _) ?_; rintro e y ⟨rfl, rfl⟩))
          all_goals go_wp2_with fail
          all_goals exact ⟨rfl, .tuple #[], by simp [results, Tryz.results101], by rw [HV.out]; rfl, below_drewN hb02 _⟩
      · have HV : Hid (Sc.litErr ar ⟨kind, op, n, ts⟩ = 1) := by
          show _ = _
          rw [HL.out, h0, g2]
          have : ¬ (ts.length : Int) = Sc.intD ar n := by simpa using g3
          simp [this]
        clear HL h0
        rcases hkk with rfl | ⟨gk, rfl⟩
        all_goals
          go_enter Tryz.func101, Tryz.ntmps101
          go_wp2_with fail
          refine (refuse_no 3 _).mono ?_
          rintro e w1 ⟨rfl, rfl⟩
          go_wp2_with fail
          refine (isPred_any ar _ cap vn vr n _).mono ?_
          rintro e w2 ⟨he, hb2⟩
          rw [g2] at he
          subst he
          go_wp2_with fail
          refine (refuse_no 5 _).mono ?_
          rintro e w3 ⟨rfl, rfl⟩
          have hb02 := hb0.trans (hb2.mono hb0.size)
          have hq := HC.out _ hb02
          obtain ⟨x1, x2⟩ := two_blocks hb2
          have c0 : w3.cell? ⟨w.heap.size, 0, none⟩ = some (.slice (some ⟨b, off, none⟩) ar.length cap) := by rw [Lib.cell_of_heap x1]; rfl
          have c1 : w3.cell? ⟨w.heap.size + 1, 2, none⟩ = some (.int .i64 n) := by rw [Lib.cell_of_heap x2]; rfl
          have c2 : w3.cell? ⟨w.heap.size + 1, 3, none⟩ = some (.slice at_ ts.length ct) := by rw [Lib.cell_of_heap x2]; rfl
          clear x1 x2 hb2 hb0 HC
          go_upto_region 7 with fail
          refine wp_region_held_drew (S := (fun y => y.cell? ⟨w.heap.size, 0, none⟩ = some (.slice (some ⟨b, off, none⟩) ar.length cap) ∧ y.cell? ⟨w.heap.size + 1, 2, none⟩ = some (.int .i64 n) ∧ y.cell? ⟨w.heap.size + 1, 3, none⟩ = some (.slice at_ ts.length ct) ∧ y.cell? ⟨b, off + n, none⟩ = some (.int .i64 (Sc.intD ar n)))) (by kernel_rfl) (by go_keep) (fun hHeld => ?_)
          refine wpAnyH_take (i := 0) (v := ?v0x0) rfl (by kernel_rfl) (by kernel_rfl) (by kernel_rfl) (fun _ _ _ h => h) (Or.inl ⟨by rfl, ?hy0x0⟩) (by assumption) ?_
          case hy0x0 =>
            intro w hSw
            (try dsimp only at hSw)
            go_simp
            try with_reducible rfl
          try simp only [Act.put, List.setIfInBounds_toArray]
          refine wpAnyH_take (i := 1) (v := ?v1x1) rfl (by kernel_rfl) (by kernel_rfl) (by kernel_rfl) (fun _ _ _ h => h) (Or.inl ⟨by rfl, ?hy1x1⟩) (by assumption) ?_
          case hy1x1 =>
            intro w hSw
            (try dsimp only at hSw)
            go_simp
            try with_reducible rfl
          try simp only [Act.put]
          refine wpAnyH_take (i := 2) (v := ?v2x2) rfl (by kernel_rfl) (by kernel_rfl) (by kernel_rfl) (fun _ _ _ h => h) (Or.inl ⟨by rfl, ?hy2x2⟩) (by assumption) ?_
          case hy2x2 =>
            intro w hSw
            (try dsimp only at hSw)
            go_simp
            try with_reducible rfl
          try simp only [Act.put]
          refine wpAnyH_take (i := 3) (v := ?v3x3) rfl (by kernel_rfl) (by kernel_rfl) (by kernel_rfl) (fun _ _ _ h => h) (Or.inl ⟨by rfl, ?hy3x3⟩) (by assumption) ?_
          case hy3x3 =>
            intro w hSw
            (try dsimp only at hSw)
            go_simp
            try with_reducible rfl
          try simp only [Act.put]
          refine wpAnyH_take (i := 4) (v := ?v4x4) rfl (by kernel_rfl) (by kernel_rfl) (by kernel_rfl) (fun _ _ _ h => h) (Or.inl ⟨by rfl, ?hy4x4⟩) (by assumption) ?_
          case hy4x4 =>
            intro w hSw
            (try dsimp only at hSw)
            go_simp
            try with_reducible rfl
          try simp only [Act.put]
          refine wpAnyH_take (i := 5) (v := ?v5x5) rfl (by kernel_rfl) (by kernel_rfl) (by kernel_rfl) (fun _ _ _ h => h) (Or.inl ⟨by rfl, ?hy5x5⟩) (by assumption) ?_
          case hy5x5 =>
            intro w hSw
            (try dsimp only at hSw)
            go_simp
            try with_reducible rfl
          try simp only [Act.put]
          refine wpAnyH_take (i := 6) (v := ?v6x6) rfl (by kernel_rfl) (by kernel_rfl) (by kernel_rfl) (fun _ _ _ h => h) (Or.inl ⟨by rfl, ?hy6x6⟩) (by assumption) ?_
          case hy6x6 =>
            intro w hSw
            (try dsimp only at hSw)
            go_simp
            try with_reducible rfl
          try simp only [Act.put]
          refine wpAnyH_take (i := 7) (v := ?v7x7) rfl (by kernel_rfl) (by kernel_rfl) (by kernel_rfl) (fun _ _ _ h => h) (Or.inl ⟨by rfl, ?hy7x7⟩) (by assumption) ?_
          case hy7x7 =>
            intro w hSw
            (try dsimp only at hSw)
            go_simp
            try with_reducible rfl
          try simp only [Act.put]
          refine wpAnyH_take (i := 8) (v := ?v8x8) rfl (by kernel_rfl) (by kernel_rfl) (by kernel_rfl) (fun _ _ _ h => h) (Or.inl ⟨by rfl, ?hy8x8⟩) (by assumption) ?_
          case hy8x8 =>
            intro w hSw
            (try dsimp only at hSw)
            go_simp
            try with_reducible rfl
          try simp only [Act.put]
          refine wpAnyH_take (i := 9) (v := ?v9x9) rfl (by kernel_rfl) (by kernel_rfl) (by kernel_rfl) (fun _ _ _ h => h) (Or.inl ⟨by rfl, ?hy9x9⟩) (by assumption) ?_
          case hy9x9 =>
            intro w hSw
            (try dsimp only at hSw)
            go_simp
            try with_reducible rfl
          try simp only [Act.put]
          refine wpAnyH_ready (rs := [10]) (by kernel_rfl) (by simp) ?_
          refine AllReadyH.cons rfl (fun K hK => ?_) AllReadyH.nil
          go_simp
          go_at_call 35
          refine Calls.mono (refuse_yes 1 _) ?_
          rintro e y2 ⟨rfl, hb4⟩
          exact ⟨rfl, by rw [HV.out]; rfl, hb02.drew.trans (hb4.mono hb02.size)⟩
  · have HV : Hid (Sc.litErr ar ⟨kind, op, pred, ts⟩ = 3) := by show _ = _; rw [HL.out, if_pos (by simpa using g1)]
    clear HL hA
    rcases hkk with rfl | ⟨gk, rfl⟩
    all_goals
      go_enter Tryz.func101, Tryz.ntmps101
      go_wp2_with fail
      refine (refuse_yes 3 _).mono ?_
      rintro e w1 ⟨rfl, hb1⟩
      go_wp2_with fail
      exact ⟨rfl, by rw [HV.out]; rfl, hb0.trans (hb1.mono hb0.size)⟩

end Go.Proofs.YtgpaleifhcdjnaaGreatDoor

/- Package scope: literals that reckon, and what is no literal. -/
namespace Go.Proofs.YtgpaleifhcdjnaaGreatDoor
open Go.RowKit

set_option maxRecDepth 100000 in
set_option maxHeartbeats 1000000 in
theorem checkLit_3 (ar : List Int) (va vn vr : Value) (op pred : Int) (ts : List Sc.Term) (at_ : Option Addr) (ct : Nat) (w : World) :
    Calls Tryz.prog 101 #[progVal va vn vr, plitVal ⟨3, op, pred, ts⟩ (.slice at_ ts.length ct)] w fun e w' => e = finE (Sc.litErr ar ⟨3, op, pred, ts⟩) ∧ Below w.heap.size w w' := by
  have hb0 : Below w.heap.size w ((w.alloc (.cells #[va, vn, vr] 26)).alloc (.cells #[.int .i64 3, .int .i64 op, .int .i64 pred, .slice at_ ts.length ct] 84)) := below_two w _ _
  have HL : Hid (Sc.litErr ar ⟨3, op, pred, ts⟩ = if Tr.between op 1 4 then (if pred ≠ 0 ∨ ¬ ts.length = 2 then 1 else 0) else 3) := by
    show _ = _
    simp [Sc.litErr]
  by_cases h1 : op < 1
  · have HV : Hid (Sc.litErr ar ⟨3, op, pred, ts⟩ = 3) := by
      show _ = _
      have : ¬ 1 ≤ op := by omega
      rw [HL.out]; simp [Tr.between, this]
    have g1 : decide (op < 1) = true := decide_eq_true h1
    clear HL
    go_enter Tryz.func101, Tryz.ntmps101
    go_wp2_with fail
    refine (refuse_yes 3 _).mono ?_
    rintro e w1 ⟨rfl, hb1⟩
    go_wp2_with fail
    exact ⟨rfl, by rw [HV.out]; rfl, hb0.trans (hb1.mono hb0.size)⟩
  · have g1 : decide (op < 1) = false := decide_eq_false h1
    by_cases h2 : 4 < op
    · have HV : Hid (Sc.litErr ar ⟨3, op, pred, ts⟩ = 3) := by
        show _ = _
        have : ¬ op ≤ 4 := by omega
        rw [HL.out]; simp [Tr.between, this]
      have g2 : decide (4 < op) = true := decide_eq_true h2
      clear HL
      go_enter Tryz.func101, Tryz.ntmps101
      go_wp2_with fail
      refine (refuse_yes 3 _).mono ?_
      rintro e w1 ⟨rfl, hb1⟩
      go_wp2_with fail
      exact ⟨rfl, by rw [HV.out]; rfl, hb0.trans (hb1.mono hb0.size)⟩
    · have g2 : decide (4 < op) = false := decide_eq_false h2
      have HL2 : Hid (Sc.litErr ar ⟨3, op, pred, ts⟩ = if pred ≠ 0 ∨ ¬ ts.length = 2 then 1 else 0) := by
        show _ = _
        have p1 : 1 ≤ op := by omega
        have p2 : op ≤ 4 := by omega
        rw [HL.out]; simp [Tr.between, p1, p2]
      clear HL
      cases g3 : (pred != 0)
      · have p0 : pred = 0 := by simpa using g3
        by_cases h4 : ts.length = 2
        · have HV : Hid (Sc.litErr ar ⟨3, op, pred, ts⟩ = 0) := by show _ = _; rw [HL2.out]; simp [p0, h4]
          have g4 : ((ts.length : Int) != 2) = false := by rw [h4]; rfl
          clear HL2 p0 h4
          go_enter Tryz.func101, Tryz.ntmps101
          go_wp2_with fail
          refine (refuse_no 3 _).mono ?_
          rintro e w1 ⟨rfl, rfl⟩
          go_wp2_with fail
          refine (refuse_no 1 _).mono ?_
          rintro e w1 ⟨rfl, rfl⟩
          go_wp2_with fail
          exact ⟨rfl, .tuple #[], by simp [results, Tryz.results101], by rw [HV.out]; rfl, hb0⟩
        · have HV : Hid (Sc.litErr ar ⟨3, op, pred, ts⟩ = 1) := by show _ = _; rw [HL2.out]; simp [h4]
          have g4 : ((ts.length : Int) != 2) = true := by simp; omega
          clear HL2 p0 h4
          go_enter Tryz.func101, Tryz.ntmps101
          go_wp2_with fail
          refine (refuse_no 3 _).mono ?_
          rintro e w1 ⟨rfl, rfl⟩
          go_wp2_with fail
          refine (refuse_yes 1 _).mono ?_
          rintro e w1 ⟨rfl, hb1⟩
          go_wp2_with fail
          exact ⟨rfl, by rw [HV.out]; rfl, hb0.trans (hb1.mono hb0.size)⟩
      · have p0 : ¬ pred = 0 := by simpa using g3
        have HV : Hid (Sc.litErr ar ⟨3, op, pred, ts⟩ = 1) := by show _ = _; rw [HL2.out]; simp [p0]
        clear HL2 p0
        go_enter Tryz.func101, Tryz.ntmps101
        go_wp2_with fail
        refine (refuse_no 3 _).mono ?_
        rintro e w1 ⟨rfl, rfl⟩
        go_wp2_with fail
        refine (refuse_yes 1 _).mono ?_
        rintro e w1 ⟨rfl, hb1⟩
        go_wp2_with fail
        exact ⟨rfl, by rw [HV.out]; rfl, hb0.trans (hb1.mono hb0.size)⟩

set_option maxRecDepth 100000 in
set_option maxHeartbeats 1000000 in
theorem checkLit_4 (ar : List Int) (va vn vr : Value) (op pred : Int) (ts : List Sc.Term) (at_ : Option Addr) (ct : Nat) (w : World) :
    Calls Tryz.prog 101 #[progVal va vn vr, plitVal ⟨4, op, pred, ts⟩ (.slice at_ ts.length ct)] w fun e w' => e = finE (Sc.litErr ar ⟨4, op, pred, ts⟩) ∧ Below w.heap.size w w' := by
  have hb0 : Below w.heap.size w ((w.alloc (.cells #[va, vn, vr] 26)).alloc (.cells #[.int .i64 4, .int .i64 op, .int .i64 pred, .slice at_ ts.length ct] 84)) := below_two w _ _
  have HL : Hid (Sc.litErr ar ⟨4, op, pred, ts⟩ = if Tr.between op 5 7 then (if pred ≠ 0 ∨ ¬ ts.length = 3 then 1 else 0) else 3) := by
    show _ = _
    simp [Sc.litErr]
  by_cases h1 : op < 5
  · have HV : Hid (Sc.litErr ar ⟨4, op, pred, ts⟩ = 3) := by
      show _ = _
      have : ¬ 5 ≤ op := by omega
      rw [HL.out]; simp [Tr.between, this]
    have g1 : decide (op < 5) = true := decide_eq_true h1
    clear HL
    go_enter Tryz.func101, Tryz.ntmps101
    go_wp2_with fail
    refine (refuse_yes 3 _).mono ?_
    rintro e w1 ⟨rfl, hb1⟩
    go_wp2_with fail
    exact ⟨rfl, by rw [HV.out]; rfl, hb0.trans (hb1.mono hb0.size)⟩
  · have g1 : decide (op < 5) = false := decide_eq_false h1
    by_cases h2 : 7 < op
    · have HV : Hid (Sc.litErr ar ⟨4, op, pred, ts⟩ = 3) := by
        show _ = _
        have : ¬ op ≤ 7 := by omega
        rw [HL.out]; simp [Tr.between, this]
      have g2 : decide (7 < op) = true := decide_eq_true h2
      clear HL
      go_enter Tryz.func101, Tryz.ntmps101
      go_wp2_with fail
      refine (refuse_yes 3 _).mono ?_
      rintro e w1 ⟨rfl, hb1⟩
      go_wp2_with fail
      exact ⟨rfl, by rw [HV.out]; rfl, hb0.trans (hb1.mono hb0.size)⟩
    · have g2 : decide (7 < op) = false := decide_eq_false h2
      have HL2 : Hid (Sc.litErr ar ⟨4, op, pred, ts⟩ = if pred ≠ 0 ∨ ¬ ts.length = 3 then 1 else 0) := by
        show _ = _
        have p1 : 5 ≤ op := by omega
        have p2 : op ≤ 7 := by omega
        rw [HL.out]; simp [Tr.between, p1, p2]
      clear HL
      cases g3 : (pred != 0)
      · have p0 : pred = 0 := by simpa using g3
        by_cases h4 : ts.length = 3
        · have HV : Hid (Sc.litErr ar ⟨4, op, pred, ts⟩ = 0) := by show _ = _; rw [HL2.out]; simp [p0, h4]
          have g4 : ((ts.length : Int) != 3) = false := by rw [h4]; rfl
          clear HL2 p0 h4
          go_enter Tryz.func101, Tryz.ntmps101
          go_wp2_with fail
          refine (refuse_no 3 _).mono ?_
          rintro e w1 ⟨rfl, rfl⟩
          go_wp2_with fail
          refine (refuse_no 1 _).mono ?_
          rintro e w1 ⟨rfl, rfl⟩
          go_wp2_with fail
          exact ⟨rfl, .tuple #[], by simp [results, Tryz.results101], by rw [HV.out]; rfl, hb0⟩
        · have HV : Hid (Sc.litErr ar ⟨4, op, pred, ts⟩ = 1) := by show _ = _; rw [HL2.out]; simp [h4]
          have g4 : ((ts.length : Int) != 3) = true := by simp; omega
          clear HL2 p0 h4
          go_enter Tryz.func101, Tryz.ntmps101
          go_wp2_with fail
          refine (refuse_no 3 _).mono ?_
          rintro e w1 ⟨rfl, rfl⟩
          go_wp2_with fail
          refine (refuse_yes 1 _).mono ?_
          rintro e w1 ⟨rfl, hb1⟩
          go_wp2_with fail
          exact ⟨rfl, by rw [HV.out]; rfl, hb0.trans (hb1.mono hb0.size)⟩
      · have p0 : ¬ pred = 0 := by simpa using g3
        have HV : Hid (Sc.litErr ar ⟨4, op, pred, ts⟩ = 1) := by show _ = _; rw [HL2.out]; simp [p0]
        clear HL2 p0
        go_enter Tryz.func101, Tryz.ntmps101
        go_wp2_with fail
        refine (refuse_no 3 _).mono ?_
        rintro e w1 ⟨rfl, rfl⟩
        go_wp2_with fail
        refine (refuse_yes 1 _).mono ?_
        rintro e w1 ⟨rfl, hb1⟩
        go_wp2_with fail
        exact ⟨rfl, by rw [HV.out]; rfl, hb0.trans (hb1.mono hb0.size)⟩

set_option maxRecDepth 100000 in
set_option maxHeartbeats 1000000 in
theorem checkLit_else (ar : List Int) (va vn vr : Value) (kind op pred : Int) (ts : List Sc.Term) (at_ : Option Addr) (ct : Nat) (w : World) (h1 : ¬ kind = 1) (h2 : ¬ kind = 2) (h3 : ¬ kind = 3) (h4 : ¬ kind = 4) :
    Calls Tryz.prog 101 #[progVal va vn vr, plitVal ⟨kind, op, pred, ts⟩ (.slice at_ ts.length ct)] w fun e w' => e = finE (Sc.litErr ar ⟨kind, op, pred, ts⟩) ∧ Below w.heap.size w w' := by
  have hb0 : Below w.heap.size w ((w.alloc (.cells #[va, vn, vr] 26)).alloc (.cells #[.int .i64 kind, .int .i64 op, .int .i64 pred, .slice at_ ts.length ct] 84)) := below_two w _ _
  have HV : Hid (Sc.litErr ar ⟨kind, op, pred, ts⟩ = 7) := by show _ = _; simp [Sc.litErr, h1, h2, h3, h4]
  have g1 : (kind == 1) = false := by simpa using h1
  have g2 : (kind == 2) = false := by simpa using h2
  have g3 : (kind == 3) = false := by simpa using h3
  have g4 : (kind == 4) = false := by simpa using h4
  clear h1 h2 h3 h4
  go_enter Tryz.func101, Tryz.ntmps101
  go_wp2_with fail
  refine (refuse_yes 7 _).mono ?_
  rintro e w1 ⟨rfl, hb1⟩
  go_wp2_with fail
  exact ⟨rfl, by rw [HV.out]; rfl, hb0.trans (hb1.mono hb0.size)⟩

/-- A literal, all but its terms. -/
theorem checkLit_any (ar : List Int) (va vn vr : Value) (x : Sc.Lit) (v : Value) (w : World) (hA : IntsV w va ar) (hT : ∃ ao cap, v = .slice ao x.terms.length cap) :
    Calls Tryz.prog 101 #[progVal va vn vr, plitVal x v] w fun e w' => e = finE (Sc.litErr ar x) ∧ Below w.heap.size w w' := by
  obtain ⟨kind, op, pred, ts⟩ := x
  obtain ⟨at_, ct, rfl⟩ := hT
  obtain ⟨ao, cap, rfl, hA⟩ := hA
  by_cases h : kind = 1 ∨ kind = 2
  · exact checkLit_pred ar ao cap vn vr kind op pred ts at_ ct w hA h
  · by_cases h3 : kind = 3
    · subst h3; exact checkLit_3 ar _ vn vr op pred ts at_ ct w
    · by_cases h4 : kind = 4
      · subst h4; exact checkLit_4 ar _ vn vr op pred ts at_ ct w
      · exact checkLit_else ar _ vn vr kind op pred ts at_ ct w (fun e => h (.inl e)) (fun e => h (.inr e)) h3 h4

end Go.Proofs.YtgpaleifhcdjnaaGreatDoor

/- What the parser answers, plain: tokens in, a tree or a place out. -/
namespace Go.Proofs.YtgpaleifhcdjnaaGreatDoor
namespace Pr

/-- The next token; behind the last one, one of no kind at the text's end. -/
def hd (en : Int) (r : List Tk.Tok) : Tk.Tok := match r with | [] => ⟨0, en, []⟩ | t :: _ => t
/-- The number of digits. -/
def num (s : List UInt8) : Int := (Lib.atoi s).getD 0
def must (t : List UInt8) (en : Int) (r : List Tk.Tok) : Int ⊕ List Tk.Tok := if (hd en r).text == t then .inr r.tail else .inl (hd en r).at_
def name (en : Int) (r : List Tk.Tok) : Int ⊕ (List UInt8 × List Tk.Tok) :=
  if ((hd en r).kind == 1) && !Tr.isWord (hd en r).text then .inr ((hd en r).text, r.tail) else .inl (hd en r).at_
def number (en : Int) (r : List Tk.Tok) : Int ⊕ (Int × List Tk.Tok) := if (hd en r).kind == 3 then .inr (num (hd en r).text, r.tail) else .inl (hd en r).at_
/-- What stands behind a '-'. -/
def neg (en : Int) (r : List Tk.Tok) : Int ⊕ (Tr.Term × List Tk.Tok) :=
  if (hd en r).text == [48] then .inl (hd en r).at_ else match number en r with
    | .inl a => .inl a
    | .inr x => .inr (⟨[], -x.1⟩, x.2)
def term (en : Int) (r : List Tk.Tok) : Int ⊕ (Tr.Term × List Tk.Tok) :=
  if (hd en r).kind == 2 then .inr (⟨(hd en r).text, 0⟩, r.tail)
  else if (hd en r).kind == 3 then .inr (⟨[], num (hd en r).text⟩, r.tail)
  else match must [45] en r with
    | .inl a => .inl a
    | .inr r1 => neg en r1
/-- A fold, if the next token is one. -/
def foldAt (en : Int) (r : List Tk.Tok) : Int × List Tk.Tok := if Tr.foldOf (hd en r).text != 0 then (Tr.foldOf (hd en r).text, r.tail) else (0, r)
def foldMay (may : Bool) (en : Int) (r : List Tk.Tok) : Int × List Tk.Tok := if may then foldAt en r else (0, r)
def isText (en : Int) (r : List Tk.Tok) (t : List UInt8) : Bool := (hd en r).text == t
/-- Terms from here on, a comma between, behind those that came. -/
def more (may : Bool) (en : Int) : Nat → List Tr.Term → List Tk.Tok → Int ⊕ ((List Tr.Term × Int) × List Tk.Tok)
  | 0, _, _ => .inl 0
  | f + 1, acc, r => match term en (foldMay may en r).2 with
    | .inl a => .inl a
    | .inr x => if ((foldMay may en r).1 == 0) && isText en x.2 [44] then more may en f (acc ++ [x.1]) x.2.tail else .inr ((acc ++ [x.1], (foldMay may en r).1), x.2)
/-- What stands behind the bracket. -/
def inside (may : Bool) (en : Int) (r : List Tk.Tok) : Int ⊕ ((List Tr.Term × Int) × List Tk.Tok) :=
  if isText en r [41] then .inr (([], 0), r.tail) else match more may en (r.length + 1) [] r with
    | .inl a => .inl a
    | .inr x => match must [41] en x.2 with
      | .inl a => .inl a
      | .inr r3 => .inr (x.1, r3)
def terms (may : Bool) (en : Int) (r : List Tk.Tok) : Int ⊕ ((List Tr.Term × Int) × List Tk.Tok) := match must [40] en r with
  | .inl a => .inl a
  | .inr r1 => inside may en r1
def opOf (s : List UInt8) : Int :=
  if s == [60] then 1 else if s == [60, 61] then 2 else if s == [61] then 3 else if s == [33, 61] then 4 else if s == [43] then 5 else if s == [45] then 6 else if s == [42] then 7 else 0
def op (en : Int) (r : List Tk.Tok) : Int ⊕ (Int × List Tk.Tok) := if opOf (hd en r).text != 0 then .inr (opOf (hd en r).text, r.tail) else .inl (hd en r).at_
/-- A name and terms. -/
def atom (kind at_ : Int) (en : Int) (r : List Tk.Tok) : Int ⊕ (Tr.Lit × List Tk.Tok) := match name en r with
  | .inl a => .inl a
  | .inr x => match terms false en x.2 with
    | .inl a => .inl a
    | .inr y => .inr (⟨kind, at_, 0, x.1, y.1.1⟩, y.2)
def calcLit (at_ o : Int) (a b : Tr.Term) (en : Int) (r : List Tk.Tok) : Int ⊕ (Tr.Lit × List Tk.Tok) := match must [61] en r with
  | .inl p => .inl p
  | .inr r1 => match term en r1 with
    | .inl p => .inl p
    | .inr z => .inr (⟨4, at_, o, [], [a, b, z.1]⟩, z.2)
def reckon (at_ : Int) (en : Int) (r : List Tk.Tok) : Int ⊕ (Tr.Lit × List Tk.Tok) := match term en r with
  | .inl p => .inl p
  | .inr a => match op en a.2 with
    | .inl p => .inl p
    | .inr o => match term en o.2 with
      | .inl p => .inl p
      | .inr b => if Tr.between o.1 5 7 then calcLit at_ o.1 a.1 b.1 en b.2 else .inr (⟨3, at_, o.1, [], [a.1, b.1]⟩, b.2)
def lit (en : Int) (r : List Tk.Tok) : Int ⊕ (Tr.Lit × List Tk.Tok) :=
  if isText en r [110, 111, 116] then atom 2 (hd en r).at_ en r.tail
  else if (hd en r).kind == 1 then atom 1 (hd en r).at_ en r
  else reckon (hd en r).at_ en r
def lits (en : Int) : Nat → List Tr.Lit → List Tk.Tok → Int ⊕ (List Tr.Lit × List Tk.Tok)
  | 0, _, _ => .inl 0
  | f + 1, acc, r => match lit en r with
    | .inl a => .inl a
    | .inr x => if isText en x.2 [44] then lits en f (acc ++ [x.1]) x.2.tail else .inr (acc ++ [x.1], x.2)
/-- What stands behind a head that is no fact. -/
def tailOf (at_ : Int) (nm : List UInt8) (l : List Tr.Term) (fo : Int) (en : Int) (r : List Tk.Tok) : Int ⊕ (Tr.Rule × List Tk.Tok) := match must [58, 45] en r with
  | .inl p => .inl p
  | .inr r1 => match lits en (r1.length + 1) [] r1 with
    | .inl p => .inl p
    | .inr b => match must [46] en b.2 with
      | .inl p => .inl p
      | .inr r2 => .inr (⟨at_, nm, l, fo, b.1⟩, r2)
def rule (en : Int) (r : List Tk.Tok) : Int ⊕ (Tr.Rule × List Tk.Tok) := match name en r with
  | .inl p => .inl p
  | .inr x => match terms true en x.2 with
    | .inl p => .inl p
    | .inr y => if (y.1.2 == 0) && isText en y.2 [46] then .inr (⟨(hd en r).at_, x.1, y.1.1, y.1.2, []⟩, y.2.tail) else tailOf (hd en r).at_ x.1 y.1.1 y.1.2 en y.2
def rules (en : Int) : Nat → List Tr.Rule → List Tk.Tok → Int ⊕ List Tr.Rule
  | 0, acc, _ => .inr acc
  | f + 1, acc, r => match r with
    | [] => .inr acc
    | _ :: _ => match rule en r with
      | .inl a => .inl a
      | .inr x => rules en f (acc ++ [x.1]) x.2
/-- What Parse answers: a tree, where it is wrong, and why. -/
def parse (L : List UInt8) : List Tr.Rule × Int × Int :=
  if (Tk.scan L).2.2 = 0 then match rules L.length ((Tk.scan L).1.length) [] (Tk.scan L).1 with
    | .inl a => ([], a, 1)
    | .inr t => if Tr.check t = 0 then (t, 0, 0) else ([], 0, Tr.check t)
  else ([], (Tk.scan L).2.1, (Tk.scan L).2.2)
end Pr
end Go.Proofs.YtgpaleifhcdjnaaGreatDoor

