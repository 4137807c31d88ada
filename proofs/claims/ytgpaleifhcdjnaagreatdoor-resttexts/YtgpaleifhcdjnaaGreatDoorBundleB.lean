/- Own texts, one behind the other (part 2). -/
import Derived.Test.YtgpaleifhcdjnaaGreatDoorBundleA
import Derived.Test.YtgpaleifhcdjnaaGreatDoorRows
import Derived.Test.YtgpaleifhcdjnaaGreatDoorCards
import Derived.Test.YtgpaleifhcdjnaaGreatDoorTie
import Derived.Deep.QuietTactic
import Derived.BigQuiet
import Derived.Lib.Atoi
import Derived.WalkKit
import Derived.WalkSpells
import Derived.WalkLawsBesides
import Derived.Lib.Builder
import Derived.Lib.AppendStr
import Derived.Lib.OthersKept
import Derived.Laws.Externs
import Derived.Lib.UnsafeStr
import Derived.RegionTactic
import Derived.BigRegion
/- The document's answer: the tokens of a text. -/
namespace Go.Proofs.YtgpaleifhcdjnaaGreatDoor
open Go.RowKit

/-- What is wrong with a token, by its kind and length. -/
theorem tok_cases (c : UInt8) (r : List UInt8) :
    (Tk.lenOf (c :: r) = 0 ∧ Tk.errOf (c :: r) = 1) ∨
    (1 ≤ Tk.lenOf (c :: r) ∧ (Tk.kindOf (c :: r) = 1 ∨ Tk.kindOf (c :: r) = 2) ∧ 12 < Tk.lenOf (c :: r) ∧ Tk.errOf (c :: r) = 2) ∨
    (1 ≤ Tk.lenOf (c :: r) ∧ (Tk.kindOf (c :: r) = 1 ∨ Tk.kindOf (c :: r) = 2) ∧ Tk.lenOf (c :: r) ≤ 12 ∧ Tk.errOf (c :: r) = 0) ∨
    (1 ≤ Tk.lenOf (c :: r) ∧ Tk.kindOf (c :: r) = 3 ∧ 7 < Tk.lenOf (c :: r) ∧ Tk.errOf (c :: r) = 2) ∨
    (1 ≤ Tk.lenOf (c :: r) ∧ Tk.kindOf (c :: r) = 3 ∧ 1 < Tk.lenOf (c :: r) ∧ Tk.lenOf (c :: r) ≤ 7 ∧ (c.toNat : Int) = 48 ∧ Tk.errOf (c :: r) = 1) ∨
    (1 ≤ Tk.lenOf (c :: r) ∧ Tk.kindOf (c :: r) = 3 ∧ Tk.lenOf (c :: r) ≤ 1 ∧ Tk.errOf (c :: r) = 0) ∨
    (1 ≤ Tk.lenOf (c :: r) ∧ Tk.kindOf (c :: r) = 3 ∧ 1 < Tk.lenOf (c :: r) ∧ Tk.lenOf (c :: r) ≤ 7 ∧ ¬ (c.toNat : Int) = 48 ∧ Tk.errOf (c :: r) = 0) ∨
    (1 ≤ Tk.lenOf (c :: r) ∧ Tk.kindOf (c :: r) = 4 ∧ Tk.errOf (c :: r) = 0) := by
  rw [lenOf_cons, kindOf_cons, errOf_cons]
  have pw : (Tk.small c.toNat || Tk.great c.toNat) = true → 1 ≤ Tk.pre Tk.alnum (c :: r) := fun h => Tk.pre_pos (by unfold Tk.alnum; rw [h]; rfl)
  have pd : Tk.digit c.toNat = true → 1 ≤ Tk.pre Tk.digit (c :: r) := fun h => Tk.pre_pos h
  cases h1 : Tk.small c.toNat
  · cases h2 : Tk.great c.toNat
    · cases h3 : Tk.digit c.toNat
      · simp only [Bool.or_self, Bool.false_eq_true, if_false]
        by_cases h : Tk.signLen (c :: r) = 0
        · exact .inl ⟨h, by rw [if_pos h]⟩
        · exact .inr (.inr (.inr (.inr (.inr (.inr (.inr ⟨by omega, trivial, by rw [if_neg h]⟩))))))
      · have p3 := pd h3
        simp only [Bool.or_self, Bool.false_eq_true, if_false, if_true]
        by_cases h : Tk.pre Tk.digit (c :: r) > 7
        · exact .inr (.inr (.inr (.inl ⟨p3, trivial, h, by rw [if_pos h]⟩)))
        · by_cases h' : Tk.pre Tk.digit (c :: r) > 1
          · by_cases h4 : (c.toNat : Int) = 48
            · exact .inr (.inr (.inr (.inr (.inl ⟨p3, trivial, h', by omega, h4, by rw [if_neg h, if_pos ⟨h4, h'⟩]⟩))))
            · exact .inr (.inr (.inr (.inr (.inr (.inr (.inl ⟨p3, trivial, h', by omega, h4, by rw [if_neg h, if_neg (fun x => h4 x.1)]⟩))))))
          · exact .inr (.inr (.inr (.inr (.inr (.inl ⟨p3, trivial, by omega, by rw [if_neg h, if_neg (fun x => h' x.2)]⟩)))))
    · have p2 := pw (by rw [h1, h2]; rfl)
      simp only [Bool.or_true, Bool.false_eq_true, if_false, if_true]
      by_cases h : Tk.pre Tk.alnum (c :: r) > 12
      · exact .inr (.inl ⟨p2, .inr trivial, h, by rw [if_pos h]⟩)
      · exact .inr (.inr (.inl ⟨p2, .inr trivial, by omega, by rw [if_neg h]⟩))
  · have p1 := pw (by rw [h1]; rfl)
    simp only [Bool.true_or, if_true]
    by_cases h : Tk.pre Tk.alnum (c :: r) > 12
    · exact .inr (.inl ⟨p1, .inl trivial, h, by rw [if_pos h]⟩)
    · exact .inr (.inr (.inl ⟨p1, .inl trivial, by omega, by rw [if_neg h]⟩))

theorem sep_open (s : ByteArray) (k : Nat) (h : k < s.size) (hc : (s[k].toNat : Int) = 37) : Tk.sep false (s.data.toList.drop k) = Tk.sep true (s.data.toList.drop (k + 1)) + 1 := by
  rw [drop_at s k h, Tk.sep, if_pos hc]
theorem sep_lf (s : ByteArray) (k : Nat) (h : k < s.size) (hc : (s[k].toNat : Int) = 10) : Tk.sep true (s.data.toList.drop k) = Tk.sep false (s.data.toList.drop (k + 1)) + 1 := by
  rw [drop_at s k h, Tk.sep, if_pos hc]
theorem sep_more (s : ByteArray) (k : Nat) (h : k < s.size) (hc : ¬ (s[k].toNat : Int) = 10) : Tk.sep true (s.data.toList.drop k) = Tk.sep true (s.data.toList.drop (k + 1)) + 1 := by
  rw [drop_at s k h, Tk.sep, if_neg hc]

set_option maxRecDepth 100000 in
set_option maxHeartbeats 400000 in
theorem ScanOf_long (s : ByteArray) (w : World) (hs : 5000 < s.size) : Calls Tryz.prog 49 #[.string s] w (ScanTop s.data.toList w) := by
  have HL : Hid (Tk.scan s.data.toList = ([], 0, 2)) := by
    show _ = _
    unfold Tk.scan
    rw [if_pos (by simpa using hs)]
  go_enter Tryz.func49, Tryz.ntmps49
  go_wp2
  go_ret3
  refine ⟨none, 0, ?_, ?_, Below.refl _ _⟩
  · rw [HL.out]; rfl
  · rw [HL.out]; exact World.ownsRow_nil _ _ _ _

/-- The loop of the document's scan. -/
def RefRel (s : ByteArray) (w : World) (v nt i : Value) (wr : World) : Prop :=
  ∃ (f p : Nat) (b : Bool) (acc : List Tk.Tok) (ao : Option Addr) (cap : Nat), p ≤ s.size ∧ s.size ≤ p + Tk.sep b (s.data.toList.drop p) + f ∧ acc.length ≤ p ∧ v = .slice ao acc.length cap ∧ nt = .bool b ∧ i = .int .i64 p ∧
    Tk.scanP s.data.toList f (p + Tk.sep b (s.data.toList.drop p)) acc = Tk.scan s.data.toList ∧ wr.ownsRow w.heap.size 53 3 (.slice ao acc.length cap) acc.length (allCells acc) ∧ Below w.heap.size w wr

theorem ext_zero (s : ByteArray) (p n : Nat) (h : p < s.size) (hn : 1 ≤ n) : (((s.extract p (p + n))[0]'(by simp; omega)).toNat : Int) = (s[p].toNat : Int) := by
  have h1 : (s.extract p (p + n)).data.toList[0]? = some s[p] := by
    rw [Lib.extract_data, Nat.add_sub_cancel_left, List.getElem?_take, if_pos (by omega), List.getElem?_drop, Nat.add_zero]
    exact List.getElem?_eq_getElem (by simpa using h)
  have h3 : (s.extract p (p + n)).data.toList[0]? = some ((s.extract p (p + n))[0]'(by simp; omega)) := List.getElem?_eq_getElem (by simp; omega)
  rw [h1] at h3
  rw [Option.some.inj h3]

theorem tok_cells (s : ByteArray) (p : Nat) (K : Int) (h : Tk.kindOf (s.data.toList.drop p) = K) : [Value.int .i64 K, .int .i64 p, .string (s.extract p (p + Tk.lenOf (s.data.toList.drop p)))] = tokCells (Tk.tokAt s.data.toList p) := by
  subst h
  rw [extract_take]
  rfl

theorem ref_more (s : ByteArray) (f p : Nat) (acc : List Tk.Tok) (hlt : p < s.size) (hpf : s.size ≤ p + f) (h : Tk.scanP s.data.toList f p acc = Tk.scan s.data.toList) (he : Tk.errOf (s.data.toList.drop p) = 0) :
    ∃ f1, Hid (s.size ≤ p + 1 + f1 ∧ Tk.scanP s.data.toList f1 (p + Tk.lenOf (s.data.toList.drop p) + Tk.sep false (s.data.toList.drop (p + Tk.lenOf (s.data.toList.drop p)))) (acc ++ [Tk.tokAt s.data.toList p]) = Tk.scan s.data.toList) := by
  obtain ⟨f, rfl⟩ : ∃ f', f = f' + 1 := ⟨f - 1, by omega⟩
  exact ⟨f, by omega, (Tk.scanP_yes _ _ _ _ (by simpa using hlt) he).symm.trans h⟩

theorem ref_rel {s : ByteArray} {w w2 : World} {p f1 : Nat} {acc : List Tk.Tok} {ao : Option Addr} {cap : Nat} (hlt : p < s.size) (hlen : Tk.lenOf (s.data.toList.drop p) ≤ (s.data.toList.drop p).length) (hdl : (s.data.toList.drop p).length = s.size - p) (hacc : acc.length ≤ p) (h1 : 1 ≤ Tk.lenOf (s.data.toList.drop p))
    (HF : s.size ≤ p + 1 + f1 ∧ Tk.scanP s.data.toList f1 (p + Tk.lenOf (s.data.toList.drop p) + Tk.sep false (s.data.toList.drop (p + Tk.lenOf (s.data.toList.drop p)))) (acc ++ [Tk.tokAt s.data.toList p]) = Tk.scan s.data.toList)
    (hown : w2.ownsRow w.heap.size 53 3 (.slice ao (acc.length + 1) cap) (acc.length + 1) (allCells acc ++ tokCells (Tk.tokAt s.data.toList p))) (hbel : Below w.heap.size w w2) :
    RefRel s w (.slice ao (acc.length + 1) cap) (.bool false) (.int .i64 ((p : Int) + ((Tk.lenOf (s.data.toList.drop p) : Nat) : Int))) w2 := by
  obtain ⟨g1, g2⟩ := HF
  refine ⟨f1, p + Tk.lenOf (s.data.toList.drop p), false, acc ++ [Tk.tokAt s.data.toList p], ao, cap, by omega, by omega, by simp; omega, by simp, rfl, by go_num, g2, ?_, hbel⟩
  rw [allCells_snoc]
  simpa using hown

set_option maxRecDepth 100000 in
set_option maxHeartbeats 4000000 in
theorem ScanOf_short (s : ByteArray) (w : World) (hs : s.size ≤ 5000) : Calls Tryz.prog 49 #[.string s] w (ScanTop s.data.toList w) := by
  obtain ⟨i0, hi, hz0, hz1, hz2⟩ := info_parts A_info34
  go_enter Tryz.func49, Tryz.ntmps49
  go_wp2_with fail
  go_loopw [5, 6, 7] (fun v nt i wr => RefRel s w v nt i wr) (fun _ _ i _ => s.size - (intOf i).toNat)
  case atStart =>
    refine ⟨s.size, 0, false, [], none, 0, by omega, by omega, Nat.le_refl _, rfl, rfl, rfl, ?_, World.ownsRow_nil _ _ _ _, Below.refl _ _⟩
    unfold Tk.scan
    rw [if_neg (by simpa using hs), List.drop_zero, Nat.zero_add]
    rfl
  case round =>
    obtain ⟨f, p, b, acc, ao, cap, hp, hpf, hacc, rfl, rfl, rfl, hscan, hown, hbel⟩ := hrel
    have HS : Hid (Tk.scanP s.data.toList f (p + Tk.sep b (s.data.toList.drop p)) acc = Tk.scan s.data.toList) := hscan
    clear hscan
    by_cases hlt : p < s.size
    · cases b
      · by_cases b37 : (s[p].toNat : Int) = 37
        · have e : p + Tk.sep false (s.data.toList.drop p) = p + 1 + Tk.sep true (s.data.toList.drop (p + 1)) := by rw [sep_open s p hlt b37]; omega
          rw [e] at HS hpf
          have t37 : ((s[p].toNat : Int) == 37) = true := beq_iff_eq.2 b37
          have t10 : ((s[p].toNat : Int) != 10) = true := bne_iff_ne.2 (by omega)
          clear e b37
          go_wp2_with fail
          go_roundw
          case rel => exact ⟨f, p + 1, true, acc, ao, cap, by omega, hpf, by omega, rfl, rfl, by go_num, HS.out, hown, hbel⟩
          case measure => simp [intOf]; omega
        · have t37 : ((s[p].toNat : Int) == 37) = false := beq_eq_false_iff_ne.2 b37
          by_cases hb : (s[p].toNat : Int) = 32 ∨ (s[p].toNat : Int) = 9 ∨ (s[p].toNat : Int) = 10
          · have e : p + Tk.sep false (s.data.toList.drop p) = p + 1 + Tk.sep false (s.data.toList.drop (p + 1)) := by rw [sep_blank s p hlt hb]; omega
            rw [e] at HS hpf
            clear e b37
            by_cases b1 : (s[p].toNat : Int) = 32
            · have t1 : ((s[p].toNat : Int) == 32) = true := beq_iff_eq.2 b1
              clear b1 hb
              go_wp2_with fail
              go_roundw
              case rel => exact ⟨f, p + 1, false, acc, ao, cap, by omega, hpf, by omega, rfl, rfl, by go_num, HS.out, hown, hbel⟩
              case measure => simp [intOf]; omega
            · have t1 : ((s[p].toNat : Int) == 32) = false := beq_eq_false_iff_ne.2 b1
              by_cases b2 : (s[p].toNat : Int) = 9
              · have t2 : ((s[p].toNat : Int) == 9) = true := beq_iff_eq.2 b2
                clear b1 b2 hb
                go_wp2_with fail
                go_roundw
                case rel => exact ⟨f, p + 1, false, acc, ao, cap, by omega, hpf, by omega, rfl, rfl, by go_num, HS.out, hown, hbel⟩
                case measure => simp [intOf]; omega
              · have t2 : ((s[p].toNat : Int) == 9) = false := beq_eq_false_iff_ne.2 b2
                have t3 : ((s[p].toNat : Int) == 10) = true := beq_iff_eq.2 (by omega)
                clear b1 b2 hb
                go_wp2_with fail
                go_roundw
                case rel => exact ⟨f, p + 1, false, acc, ao, cap, by omega, hpf, by omega, rfl, rfl, by go_num, HS.out, hown, hbel⟩
                case measure => simp [intOf]; omega
          · have e : Tk.sep false (s.data.toList.drop p) = 0 := sep_stop s p hlt b37 hb
            rw [e, Nat.add_zero] at HS hpf
            have t1 : ((s[p].toNat : Int) == 32) = false := beq_eq_false_iff_ne.2 (by omega)
            have t2 : ((s[p].toNat : Int) == 9) = false := beq_eq_false_iff_ne.2 (by omega)
            have t3 : ((s[p].toNat : Int) == 10) = false := beq_eq_false_iff_ne.2 (by omega)
            clear e b37 hb
            have hd := drop_at s p hlt
            have TC := tok_cases s[p] (s.data.toList.drop (p + 1))
            rw [← hd] at TC
            have hlen := Tk.lenOf_le (s.data.toList.drop p)
            have hdl : (s.data.toList.drop p).length = s.size - p := by simp
            clear hd
            have hNO : Hid (∀ c : Int, ¬ c = 0 → Tk.errOf (s.data.toList.drop p) = c → Tk.scan s.data.toList = ([], p, c)) := by
              intro c hc hec
              rw [← hec]
              exact HS.out.symm.trans (Tk.scanP_no _ _ _ _ (by simpa using hlt) (by simpa using hpf) (by omega))
            rcases TC with ⟨c1, cE⟩ | ⟨c1, cK, c3, cE⟩ | ⟨c1, cK, c3, cE⟩ | ⟨c1, cK, c3, cE⟩ | ⟨c1, cK, c3, c4, c5, cE⟩ | ⟨c1, cK, c3, cE⟩ | ⟨c1, cK, c3, c4, c5, cE⟩ | ⟨c1, cK, cE⟩
            · have HN : Hid (_ = _) := hNO.out 1 (by decide) cE
              have HR : Hid (refKind (s.data.toList.drop p) = 0) := by show _ = _; unfold refKind; rw [if_pos c1]
              clear hNO cE HS hi hz0 hz1 hz2
              go_wp2_with fail
              refine (refAt_any s p _ (by omega) hlt).mono ?_
              rintro e w1 ⟨he, rfl⟩
              rw [HR.out] at he
              subst he
              go_wp2_with fail
              go_ret3
              refine ⟨none, 0, ?_, ?_, hbel⟩
              · rw [HN.out]; rfl
              · rw [HN.out]; exact World.ownsRow_nil _ _ _ _
            · rcases cK with cK | cK
              · have HN : Hid (_ = _) := hNO.out 2 (by decide) cE
                have HR : Hid (refKind (s.data.toList.drop p) = 1) := by show _ = _; unfold refKind; rw [if_neg (by omega)]; exact cK
                clear hNO cE cK HS hi hz0 hz1 hz2
                go_wp2_with fail
                refine (refAt_any s p _ (by omega) hlt).mono ?_
                rintro e w1 ⟨he, rfl⟩
                rw [HR.out] at he
                subst he
                go_wp2_with fail
                go_ret3
                refine ⟨none, 0, ?_, ?_, hbel⟩
                · rw [HN.out]; rfl
                · rw [HN.out]; exact World.ownsRow_nil _ _ _ _
              · have HN : Hid (_ = _) := hNO.out 2 (by decide) cE
                have HR : Hid (refKind (s.data.toList.drop p) = 2) := by show _ = _; unfold refKind; rw [if_neg (by omega)]; exact cK
                clear hNO cE cK HS hi hz0 hz1 hz2
                go_wp2_with fail
                refine (refAt_any s p _ (by omega) hlt).mono ?_
                rintro e w1 ⟨he, rfl⟩
                rw [HR.out] at he
                subst he
                go_wp2_with fail
                go_ret3
                refine ⟨none, 0, ?_, ?_, hbel⟩
                · rw [HN.out]; rfl
                · rw [HN.out]; exact World.ownsRow_nil _ _ _ _
            · rcases cK with cK | cK
              · have HR : Hid (refKind (s.data.toList.drop p) = 1) := by show _ = _; unfold refKind; rw [if_neg (by omega)]; exact cK
                have HC := ref_more s f p acc hlt hpf HS.out cE
                obtain ⟨f1, HF⟩ := HC
                have HT : Hid ([Value.int .i64 1, .int .i64 p, .string (s.extract p (p + Tk.lenOf (s.data.toList.drop p)))] = tokCells (Tk.tokAt s.data.toList p)) := tok_cells s p 1 cK
                clear hNO cE cK HS hpf
                have hd12 : decide ((12 : Int) < ((Tk.lenOf (s.data.toList.drop p) : Nat) : Int)) = false := by simp; omega
                go_wp2_with fail
                refine (refAt_any s p _ (by omega) hlt).mono ?_
                rintro e w1 ⟨he, rfl⟩
                rw [HR.out] at he
                subst he
                have hz := hbel.size
                go_wp2_with (at_builtin; refine wpList_append_own _ rfl (.tmp 95) (.tmp 100) 45 rfl w.heap.size 53 i0 _ 3 32 Tryz.underlying45 hi hz0 hz1 hz2 rfl (by decide) _ _ _ rfl (hown.alloc _) ⟨w1.heap.size, 0, none⟩ 1 1 [.int .i64 1, .int .i64 p, .string (s.extract p (p + Tk.lenOf (s.data.toList.drop p)))] rfl rfl ?c1 ?c2 ?c3 ?c4 ?c5 ?_)
                case c1 =>
                  intro j u hj
                  match j, hj with
                  | 0, hj => simp at hj; subst hj; simp [Addr.add, go_sem]
                  | 1, hj => simp at hj; subst hj; simp [Addr.add, go_sem]
                  | 2, hj => simp at hj; subst hj; simp [Addr.add, go_sem]
                case c2 => intro u hu; simp at hu; rcases hu with rfl | rfl | rfl <;> rfl
                case c3 => unfold maxLen; omega
                case c4 => omega
                case c5 => simp; omega
                intro v' w2 hown2 hgrow _
                obtain ⟨ao', cap', rfl⟩ := own_slice hown2
                have hbel2 := (hbel.alloc hz _).grown hgrow (by simp; omega) (fun k hk => (hown.lt k hk).1)
                rw [HT.out] at hown2
                clear hgrow hi hz0 hz1 hz2 hown
                go_wp2_with fail
                go_roundw
                case rel => exact ref_rel hlt hlen hdl hacc c1 HF.out hown2 hbel2
                case measure => simp [intOf]; omega
              · have HR : Hid (refKind (s.data.toList.drop p) = 2) := by show _ = _; unfold refKind; rw [if_neg (by omega)]; exact cK
                have HC := ref_more s f p acc hlt hpf HS.out cE
                obtain ⟨f1, HF⟩ := HC
                have HT : Hid ([Value.int .i64 2, .int .i64 p, .string (s.extract p (p + Tk.lenOf (s.data.toList.drop p)))] = tokCells (Tk.tokAt s.data.toList p)) := tok_cells s p 2 cK
                clear hNO cE cK HS hpf
                have hd12 : decide ((12 : Int) < ((Tk.lenOf (s.data.toList.drop p) : Nat) : Int)) = false := by simp; omega
                go_wp2_with fail
                refine (refAt_any s p _ (by omega) hlt).mono ?_
                rintro e w1 ⟨he, rfl⟩
                rw [HR.out] at he
                subst he
                have hz := hbel.size
                go_wp2_with (at_builtin; refine wpList_append_own _ rfl (.tmp 95) (.tmp 100) 45 rfl w.heap.size 53 i0 _ 3 32 Tryz.underlying45 hi hz0 hz1 hz2 rfl (by decide) _ _ _ rfl (hown.alloc _) ⟨w1.heap.size, 0, none⟩ 1 1 [.int .i64 2, .int .i64 p, .string (s.extract p (p + Tk.lenOf (s.data.toList.drop p)))] rfl rfl ?c1 ?c2 ?c3 ?c4 ?c5 ?_)
                case c1 =>
                  intro j u hj
                  match j, hj with
                  | 0, hj => simp at hj; subst hj; simp [Addr.add, go_sem]
                  | 1, hj => simp at hj; subst hj; simp [Addr.add, go_sem]
                  | 2, hj => simp at hj; subst hj; simp [Addr.add, go_sem]
                case c2 => intro u hu; simp at hu; rcases hu with rfl | rfl | rfl <;> rfl
                case c3 => unfold maxLen; omega
                case c4 => omega
                case c5 => simp; omega
                intro v' w2 hown2 hgrow _
                obtain ⟨ao', cap', rfl⟩ := own_slice hown2
                have hbel2 := (hbel.alloc hz _).grown hgrow (by simp; omega) (fun k hk => (hown.lt k hk).1)
                rw [HT.out] at hown2
                clear hgrow hi hz0 hz1 hz2 hown
                go_wp2_with fail
                go_roundw
                case rel => exact ref_rel hlt hlen hdl hacc c1 HF.out hown2 hbel2
                case measure => simp [intOf]; omega
            · have HN : Hid (_ = _) := hNO.out 2 (by decide) cE
              have HR : Hid (refKind (s.data.toList.drop p) = 3) := by show _ = _; unfold refKind; rw [if_neg (by omega)]; exact cK
              clear hNO cE cK HS hi hz0 hz1 hz2
              go_wp2_with fail
              refine (refAt_any s p _ (by omega) hlt).mono ?_
              rintro e w1 ⟨he, rfl⟩
              rw [HR.out] at he
              subst he
              go_wp2_with fail
              go_ret3
              refine ⟨none, 0, ?_, ?_, hbel⟩
              · rw [HN.out]; rfl
              · rw [HN.out]; exact World.ownsRow_nil _ _ _ _
            · have HN : Hid (_ = _) := hNO.out 1 (by decide) cE
              have HR : Hid (refKind (s.data.toList.drop p) = 3) := by show _ = _; unfold refKind; rw [if_neg (by omega)]; exact cK
              clear hNO cE cK HS hi hz0 hz1 hz2
              have hd7 : decide ((7 : Int) < ((Tk.lenOf (s.data.toList.drop p) : Nat) : Int)) = false := by simp; omega
              have hx : (((s.extract p (p + Tk.lenOf (s.data.toList.drop p)))[0]'(by simp; omega)).toNat : Int) = (s[p].toNat : Int) := ext_zero s p _ hlt (by omega)
              have h48 : ((((s.extract p (p + Tk.lenOf (s.data.toList.drop p)))[0]'(by simp; omega)).toNat : Int) == 48) = true := by rw [hx]; exact beq_iff_eq.2 c5
              clear hx c5
              go_wp2_with fail
              refine (refAt_any s p _ (by omega) hlt).mono ?_
              rintro e w1 ⟨he, rfl⟩
              rw [HR.out] at he
              subst he
              go_wp2_with fail
              go_ret3
              refine ⟨none, 0, ?_, ?_, hbel⟩
              · rw [HN.out]; rfl
              · rw [HN.out]; exact World.ownsRow_nil _ _ _ _
            · have HR : Hid (refKind (s.data.toList.drop p) = 3) := by show _ = _; unfold refKind; rw [if_neg (by omega)]; exact cK
              have HC := ref_more s f p acc hlt hpf HS.out cE
              obtain ⟨f1, HF⟩ := HC
              have HT : Hid ([Value.int .i64 3, .int .i64 p, .string (s.extract p (p + Tk.lenOf (s.data.toList.drop p)))] = tokCells (Tk.tokAt s.data.toList p)) := tok_cells s p 3 cK
              clear hNO cE cK HS hpf
              have hd7 : decide ((7 : Int) < ((Tk.lenOf (s.data.toList.drop p) : Nat) : Int)) = false := by simp; omega
              have hd1 : decide ((1 : Int) < ((Tk.lenOf (s.data.toList.drop p) : Nat) : Int)) = false := by simp; omega
              go_wp2_with fail
              refine (refAt_any s p _ (by omega) hlt).mono ?_
              rintro e w1 ⟨he, rfl⟩
              rw [HR.out] at he
              subst he
              have hz := hbel.size
              go_wp2_with (at_builtin; refine wpList_append_own _ rfl (.tmp 95) (.tmp 100) 45 rfl w.heap.size 53 i0 _ 3 32 Tryz.underlying45 hi hz0 hz1 hz2 rfl (by decide) _ _ _ rfl (hown.alloc _) ⟨w1.heap.size, 0, none⟩ 1 1 [.int .i64 3, .int .i64 p, .string (s.extract p (p + Tk.lenOf (s.data.toList.drop p)))] rfl rfl ?c1 ?c2 ?c3 ?c4 ?c5 ?_)
              case c1 =>
                intro j u hj
                match j, hj with
                | 0, hj => simp at hj; subst hj; simp [Addr.add, go_sem]
                | 1, hj => simp at hj; subst hj; simp [Addr.add, go_sem]
                | 2, hj => simp at hj; subst hj; simp [Addr.add, go_sem]
              case c2 => intro u hu; simp at hu; rcases hu with rfl | rfl | rfl <;> rfl
              case c3 => unfold maxLen; omega
              case c4 => omega
              case c5 => simp; omega
              intro v' w2 hown2 hgrow _
              obtain ⟨ao', cap', rfl⟩ := own_slice hown2
              have hbel2 := (hbel.alloc hz _).grown hgrow (by simp; omega) (fun k hk => (hown.lt k hk).1)
              rw [HT.out] at hown2
              clear hgrow hi hz0 hz1 hz2 hown
              go_wp2_with fail
              go_roundw
              case rel => exact ref_rel hlt hlen hdl hacc c1 HF.out hown2 hbel2
              case measure => simp [intOf]; omega
            · have HR : Hid (refKind (s.data.toList.drop p) = 3) := by show _ = _; unfold refKind; rw [if_neg (by omega)]; exact cK
              have HC := ref_more s f p acc hlt hpf HS.out cE
              obtain ⟨f1, HF⟩ := HC
              have HT : Hid ([Value.int .i64 3, .int .i64 p, .string (s.extract p (p + Tk.lenOf (s.data.toList.drop p)))] = tokCells (Tk.tokAt s.data.toList p)) := tok_cells s p 3 cK
              clear hNO cE cK HS hpf
              have hd7 : decide ((7 : Int) < ((Tk.lenOf (s.data.toList.drop p) : Nat) : Int)) = false := by simp; omega
              have hx : (((s.extract p (p + Tk.lenOf (s.data.toList.drop p)))[0]'(by simp; omega)).toNat : Int) = (s[p].toNat : Int) := ext_zero s p _ hlt (by omega)
              have h48 : ((((s.extract p (p + Tk.lenOf (s.data.toList.drop p)))[0]'(by simp; omega)).toNat : Int) == 48) = false := by rw [hx]; exact beq_eq_false_iff_ne.2 c5
              clear hx c5
              go_wp2_with fail
              refine (refAt_any s p _ (by omega) hlt).mono ?_
              rintro e w1 ⟨he, rfl⟩
              rw [HR.out] at he
              subst he
              have hz := hbel.size
              go_wp2_with (at_builtin; refine wpList_append_own _ rfl (.tmp 95) (.tmp 100) 45 rfl w.heap.size 53 i0 _ 3 32 Tryz.underlying45 hi hz0 hz1 hz2 rfl (by decide) _ _ _ rfl (hown.alloc _) ⟨w1.heap.size, 0, none⟩ 1 1 [.int .i64 3, .int .i64 p, .string (s.extract p (p + Tk.lenOf (s.data.toList.drop p)))] rfl rfl ?c1 ?c2 ?c3 ?c4 ?c5 ?_)
              case c1 =>
                intro j u hj
                match j, hj with
                | 0, hj => simp at hj; subst hj; simp [Addr.add, go_sem]
                | 1, hj => simp at hj; subst hj; simp [Addr.add, go_sem]
                | 2, hj => simp at hj; subst hj; simp [Addr.add, go_sem]
              case c2 => intro u hu; simp at hu; rcases hu with rfl | rfl | rfl <;> rfl
              case c3 => unfold maxLen; omega
              case c4 => omega
              case c5 => simp; omega
              intro v' w2 hown2 hgrow _
              obtain ⟨ao', cap', rfl⟩ := own_slice hown2
              have hbel2 := (hbel.alloc hz _).grown hgrow (by simp; omega) (fun k hk => (hown.lt k hk).1)
              rw [HT.out] at hown2
              clear hgrow hi hz0 hz1 hz2 hown
              go_wp2_with fail
              go_roundw
              case rel => exact ref_rel hlt hlen hdl hacc c1 HF.out hown2 hbel2
              case measure => simp [intOf]; omega
            · have HR : Hid (refKind (s.data.toList.drop p) = 4) := by show _ = _; unfold refKind; rw [if_neg (by omega)]; exact cK
              have HC := ref_more s f p acc hlt hpf HS.out cE
              obtain ⟨f1, HF⟩ := HC
              have HT : Hid ([Value.int .i64 4, .int .i64 p, .string (s.extract p (p + Tk.lenOf (s.data.toList.drop p)))] = tokCells (Tk.tokAt s.data.toList p)) := tok_cells s p 4 cK
              clear hNO cE cK HS hpf
              go_wp2_with fail
              refine (refAt_any s p _ (by omega) hlt).mono ?_
              rintro e w1 ⟨he, rfl⟩
              rw [HR.out] at he
              subst he
              have hz := hbel.size
              go_wp2_with (at_builtin; refine wpList_append_own _ rfl (.tmp 95) (.tmp 100) 45 rfl w.heap.size 53 i0 _ 3 32 Tryz.underlying45 hi hz0 hz1 hz2 rfl (by decide) _ _ _ rfl (hown.alloc _) ⟨w1.heap.size, 0, none⟩ 1 1 [.int .i64 4, .int .i64 p, .string (s.extract p (p + Tk.lenOf (s.data.toList.drop p)))] rfl rfl ?c1 ?c2 ?c3 ?c4 ?c5 ?_)
              case c1 =>
                intro j u hj
                match j, hj with
                | 0, hj => simp at hj; subst hj; simp [Addr.add, go_sem]
                | 1, hj => simp at hj; subst hj; simp [Addr.add, go_sem]
                | 2, hj => simp at hj; subst hj; simp [Addr.add, go_sem]
              case c2 => intro u hu; simp at hu; rcases hu with rfl | rfl | rfl <;> rfl
              case c3 => unfold maxLen; omega
              case c4 => omega
              case c5 => simp; omega
              intro v' w2 hown2 hgrow _
              obtain ⟨ao', cap', rfl⟩ := own_slice hown2
              have hbel2 := (hbel.alloc hz _).grown hgrow (by simp; omega) (fun k hk => (hown.lt k hk).1)
              rw [HT.out] at hown2
              clear hgrow hi hz0 hz1 hz2 hown
              go_wp2_with fail
              go_roundw
              case rel => exact ref_rel hlt hlen hdl hacc c1 HF.out hown2 hbel2
              case measure => simp [intOf]; omega
      · by_cases b10 : (s[p].toNat : Int) = 10
        · have e : p + Tk.sep true (s.data.toList.drop p) = p + 1 + Tk.sep false (s.data.toList.drop (p + 1)) := by rw [sep_lf s p hlt b10]; omega
          rw [e] at HS hpf
          have t10 : ((s[p].toNat : Int) != 10) = false := by simpa using b10
          clear e b10
          go_wp2_with fail
          go_roundw
          case rel => exact ⟨f, p + 1, false, acc, ao, cap, by omega, hpf, by omega, rfl, rfl, by go_num, HS.out, hown, hbel⟩
          case measure => simp [intOf]; omega
        · have e : p + Tk.sep true (s.data.toList.drop p) = p + 1 + Tk.sep true (s.data.toList.drop (p + 1)) := by rw [sep_more s p hlt b10]; omega
          rw [e] at HS hpf
          have t10 : ((s[p].toNat : Int) != 10) = true := bne_iff_ne.2 b10
          clear e b10
          go_wp2_with fail
          go_roundw
          case rel => exact ⟨f, p + 1, true, acc, ao, cap, by omega, hpf, by omega, rfl, rfl, by go_num, HS.out, hown, hbel⟩
          case measure => simp [intOf]; omega
    · have HE : Hid (Tk.scan s.data.toList = (acc, 0, 0)) := HS.out.symm.trans (Tk.scanP_end _ _ _ _ (by simp; omega))
      clear HS
      go_wp2_with fail
      go_ret3
      refine ⟨ao, cap, ?_, ?_, hbel⟩
      · rw [HE.out]; rfl
      · rw [HE.out]; exact hown

end Go.Proofs.YtgpaleifhcdjnaaGreatDoor

/- Lists of tokens in memory. -/
namespace Go.Proofs.YtgpaleifhcdjnaaGreatDoor
open Go.RowKit

namespace Tk
def sameOne (q : Bool) (x y : Tok) : Bool := (x.kind == y.kind) && (x.text == y.text) && (!q || x.at_ == y.at_)
/-- Are two lists of tokens the same? but for where they begin, if q is false. -/
def same (q : Bool) : List Tok → List Tok → Bool
  | [], [] => true
  | x :: a, y :: b => sameOne q x y && same q a b
  | _, _ => false
end Tk

theorem ret_bool {a b : Bool} (h : a = b) : Ending.returned (.bool a) = .returned (.bool b) := by rw [h]

theorem drewN_two (w : World) (a b : Nat) : (w.drewN a).drewN b = w.drewN (a + b) := by simp [World.drewN, Nat.add_assoc]

/-- A token's three cells. -/
def TokIn (w : World) (b off : Nat) (t : Tk.Tok) : Prop :=
  w.cell? ⟨b, off, none⟩ = some (.int .i64 t.kind) ∧ w.cell? ⟨b, off + 1, none⟩ = some (.int .i64 t.at_) ∧ w.cell? ⟨b, off + 2, none⟩ = some (.string ⟨t.text.toArray⟩)

def tokD (l : List Tk.Tok) (i : Nat) : Tk.Tok := l.getD i ⟨0, 0, []⟩
theorem drop_tok (l : List Tk.Tok) (k : Nat) (h : k < l.length) : l.drop k = tokD l k :: l.drop (k + 1) := by
  rw [List.drop_eq_getElem_cons h, tokD, List.getD_eq_getElem?_getD, List.getElem?_eq_getElem h]
  rfl

theorem allCells_get : ∀ (l : List Tk.Tok) (i j : Nat), i < l.length → j < 3 → (allCells l)[i * 3 + j]? = (tokCells (tokD l i))[j]? := by
  intro l
  induction l with
  | nil => intro i j h; exact absurd h (by simp)
  | cons t r ih =>
    intro i j hi hj
    have e : allCells (t :: r) = tokCells t ++ allCells r := by simp [allCells]
    have hl : (tokCells t).length = 3 := rfl
    rw [e]
    cases i with
    | zero => rw [Nat.zero_mul, Nat.zero_add, List.getElem?_append_left (by omega)]; rfl
    | succ i =>
      rw [List.getElem?_append_right (by omega), hl, show (i + 1) * 3 + j - 3 = i * 3 + j from by omega, ih i j (by simpa using hi) hj]
      rfl

/-- A list of tokens behind a slice. -/
def ToksAt (w : World) (ao : Option Addr) (l : List Tk.Tok) : Prop :=
  l = [] ∨ ∃ b off, ao = some ⟨b, off, none⟩ ∧ ∀ i, i < l.length → TokIn w b (off + i * 3) (tokD l i)

/-- A row of the call's own, read as tokens. -/
theorem toksAt_own {w : World} {base n : Nat} {ao : Option Addr} {cap : Nat} {l : List Tk.Tok} (h : w.ownsRow base 53 3 (.slice ao n cap) n (allCells l)) : ToksAt w ao l := by
  rcases h.2 with ⟨hv, h0⟩ | ⟨g, cap', cur, hv, hg, hbk, r⟩
  · left
    have h1 := h.1
    rw [h0, allCells_length] at h1
    exact List.eq_nil_of_length_eq_zero (by omega)
  · right
    have hv' : ao = some ⟨g, 0, none⟩ := by injection hv
    subst hv'
    refine ⟨g, 0, rfl, fun i hi => ?_⟩
    have hc := h.cells (g := g) rfl
    have hget : ∀ j, j < 3 → (allCells l)[i * 3 + j]? = (tokCells (tokD l i))[j]? := fun j hj => allCells_get l i j hi hj
    have hadd : ∀ k, ((⟨g, 0, none⟩ : Addr).add k) = ⟨g, 0 + k, none⟩ := fun _ => by simp [Addr.add]; exact fun h => h.symm
    refine ⟨?_, ?_, ?_⟩
    · have := hc (i * 3 + 0) _ ((hget 0 (by omega)).trans rfl)
      rw [hadd] at this
      simpa using this
    · have := hc (i * 3 + 1) _ ((hget 1 (by omega)).trans rfl)
      rw [hadd] at this
      simpa [Nat.add_assoc] using this
    · have := hc (i * 3 + 2) _ ((hget 2 (by omega)).trans rfl)
      rw [hadd] at this
      simpa [Nat.add_assoc] using this

end Go.Proofs.YtgpaleifhcdjnaaGreatDoor

/- When a text is just one token. -/
namespace Go.Proofs.YtgpaleifhcdjnaaGreatDoor
open Go.RowKit

namespace Tk
/-- Is a text just one token of a kind, as Scan tells? -/
def alone (k : Int) (t : List UInt8) : Bool := ((scan t).2.2 == 0) && (((scan t).1.length : Int) == 1) && ((tokD (scan t).1 0).kind == k) && ((tokD (scan t).1 0).text == t)
/-- Is a text just one token of a kind? -/
def isTok (k : Int) (t : List UInt8) : Bool := decide (t ≠ [] ∧ t.length ≤ 5000 ∧ errOf t = 0 ∧ kindOf t = k ∧ lenOf t = t.length)
end Tk

theorem sep_zero (c : UInt8) (r : List UInt8) (he : Tk.errOf (c :: r) = 0) : Tk.sep false (c :: r) = 0 := by
  have h := tok_cases c r
  have hk : ¬ ((c.toNat : Int) = 37 ∨ (c.toNat : Int) = 32 ∨ (c.toNat : Int) = 9 ∨ (c.toNat : Int) = 10) := by
    intro hc
    have h1 : Tk.small c.toNat = false := by unfold Tk.small; rcases hc with h | h | h | h <;> rw [h] <;> rfl
    have h2 : Tk.great c.toNat = false := by unfold Tk.great; rcases hc with h | h | h | h <;> rw [h] <;> rfl
    have h3 : Tk.digit c.toNat = false := by unfold Tk.digit; rcases hc with h | h | h | h <;> rw [h] <;> rfl
    have h4 : Tk.signLen (c :: r) = 0 := by
      have hn : c.toNat = 37 ∨ c.toNat = 32 ∨ c.toNat = 9 ∨ c.toNat = 10 := by omega
      have hc' : c = 37 ∨ c = 32 ∨ c = 9 ∨ c = 10 := by
        rcases hn with h | h | h | h
        · exact .inl (UInt8.toNat_inj.1 h)
        · exact .inr (.inl (UInt8.toNat_inj.1 h))
        · exact .inr (.inr (.inl (UInt8.toNat_inj.1 h)))
        · exact .inr (.inr (.inr (UInt8.toNat_inj.1 h)))
      rcases hc' with rfl | rfl | rfl | rfl <;> simp [Tk.signLen, Tk.isSign, List.isPrefixOf]
    rw [errOf_cons, h1, h2, h3] at he
    simp [h4] at he
  rw [Tk.sep, if_neg (fun h => hk (.inl h)), if_neg (fun h => hk (.inr h))]

theorem isTok_scan (k : Int) (t : List UInt8) (h : Tk.isTok k t = true) : Tk.scan t = ([{ kind := k, at_ := 0, text := t }], 0, 0) := by
  have h := of_decide_eq_true h
  obtain ⟨h1, h2, h3, h4, h5⟩ := h
  match t, h1 with
  | c :: r, _ =>
    unfold Tk.scan
    rw [if_neg (by omega), sep_zero c r h3]
    have hl : (c :: r).length = r.length + 1 := rfl
    rw [hl, Tk.scanP, if_neg (by simp), List.drop_zero, if_pos h3, Tk.scanP_end _ _ _ _ (by omega)]
    simp only [List.nil_append, Tk.tokAt, List.drop_zero, h4, h5]
    rw [List.take_length]
    rfl

theorem alone_of_isTok (k : Int) (t : List UInt8) (h : Tk.isTok k t = true) : Tk.alone k t = true := by
  unfold Tk.alone
  rw [isTok_scan k t h]
  simp [tokD]

/-- What scanP puts in front stays there. -/
theorem scanP_front (L : List UInt8) : ∀ (f p : Nat) (acc : List Tk.Tok), (Tk.scanP L f p acc).2.2 = 0 → ∃ r, (Tk.scanP L f p acc).1 = acc ++ r := by
  intro f
  induction f with
  | zero => intro p acc _; exact ⟨[], by simp [Tk.scanP]⟩
  | succ f ih =>
    intro p acc h
    rw [Tk.scanP] at h ⊢
    split
    · exact ⟨[], by simp⟩
    · rename_i h1
      rw [if_neg h1] at h
      split
      · rename_i h2
        rw [if_pos h2] at h
        obtain ⟨r, hr⟩ := ih _ _ h
        exact ⟨Tk.tokAt L p :: r, by rw [hr]; simp⟩
      · rename_i h2
        rw [if_neg h2] at h
        exact absurd h h2

theorem isTok_of_alone (k : Int) (t : List UInt8) (h : Tk.alone k t = true) : Tk.isTok k t = true := by
  unfold Tk.alone at h
  simp only [Bool.and_eq_true, beq_iff_eq] at h
  obtain ⟨⟨⟨h1, h2⟩, h3⟩, h4⟩ := h
  have hl : t.length ≤ 5000 := by
    by_cases hh : 5000 < t.length
    · exfalso
      rw [Tk.scan, if_pos hh] at h1
      exact absurd h1 (by decide)
    · omega
  have hs : Tk.scan t = Tk.scanP t t.length (Tk.sep false t) [] := by rw [Tk.scan, if_neg (by omega)]
  have hsl := Tk.sep_le false t
  rw [hs] at h1 h2 h3 h4
  generalize hp : Tk.sep false t = p at *
  have hlt : p < t.length := by
    rcases Nat.lt_or_ge p t.length with hh | hh
    · exact hh
    · exfalso
      rw [Tk.scanP_end _ _ _ _ hh] at h2
      exact absurd h2 (by decide)
  have he : Tk.errOf (t.drop p) = 0 := by
    by_cases hh : Tk.errOf (t.drop p) = 0
    · exact hh
    · exfalso
      rw [Tk.scanP_no _ _ _ _ hlt (by omega) hh] at h1
      exact hh h1
  obtain ⟨f, hf⟩ : ∃ f, t.length = f + 1 := ⟨t.length - 1, by omega⟩
  rw [hf, Tk.scanP_yes _ _ _ _ hlt he] at h1 h3 h4
  obtain ⟨r, hr⟩ := scanP_front t _ _ _ h1
  rw [hr] at h3 h4
  have e3 : (Tk.tokAt t p).kind = k := h3
  have e4 : (Tk.tokAt t p).text = t := h4
  have e5 : (t.drop p).take (Tk.lenOf (t.drop p)) = t := e4
  have e6 := congrArg List.length e5
  rw [List.length_take, List.length_drop] at e6
  have p0 : p = 0 := by omega
  subst p0
  rw [List.drop_zero] at e6 he
  have e7 : Tk.kindOf t = k := by have := e3; rw [Tk.tokAt, List.drop_zero] at this; exact this
  have hle := Tk.lenOf_le t
  refine decide_eq_true ⟨?_, hl, he, e7, by omega⟩
  intro hn
  rw [hn] at hlt
  exact absurd hlt (by simp)

theorem alone_eq (k : Int) (t : List UInt8) : Tk.alone k t = Tk.isTok k t := by
  rw [Bool.eq_iff_iff]
  exact ⟨isTok_of_alone k t, alone_of_isTok k t⟩

end Go.Proofs.YtgpaleifhcdjnaaGreatDoor

/- Trees, plain: what Check says; nothing of the program stands here. -/
namespace Go.Proofs.YtgpaleifhcdjnaaGreatDoor
namespace Tr

structure Term where
  var : List UInt8
  n : Int
structure Lit where
  kind : Int
  at_ : Int
  op : Int
  name : List UInt8
  terms : List Term
structure Rule where
  at_ : Int
  name : List UInt8
  terms : List Term
  fold : Int
  body : List Lit

def foldOf (s : List UInt8) : Int :=
  if s == [99, 111, 117, 110, 116] then 1 else if s == [115, 117, 109] then 2 else if s == [108, 101, 97, 115, 116] then 3 else if s == [109, 111, 115, 116] then 4 else 0
def isWord (s : List UInt8) : Bool := (s == [110, 111, 116]) || (foldOf s != 0)
def isName (s : List UInt8) : Bool := Tk.isTok 1 s && !isWord s
def between (n a b : Int) : Bool := decide (a ≤ n) && decide (n ≤ b)
def termOk (t : Term) : Bool := if t.var.isEmpty then between t.n (-9999999) 9999999 else (t.n == 0) && Tk.isTok 2 t.var
def termsOk (l : List Term) : Bool := l.all termOk
def foldOk (f : Int) (terms body : Nat) : Bool := (f == 0) || (between f 1 4 && decide (0 < terms) && decide (0 < body))
def litOk (l : Lit) : Bool :=
  termsOk l.terms && (if l.kind = 1 ∨ l.kind = 2 then (l.op == 0) && isName l.name
    else if l.kind = 3 then between l.op 1 4 && l.name.isEmpty && ((l.terms.length : Int) == 2)
    else if l.kind = 4 then between l.op 5 7 && l.name.isEmpty && ((l.terms.length : Int) == 3) else false)
def litsOk (l : List Lit) : Bool := l.all litOk
def ruleOk (r : Rule) : Bool := isName r.name && termsOk r.terms && foldOk r.fold r.terms.length r.body.length && litsOk r.body
def litsMany (l : List Lit) : Bool := l.any fun x => decide (3 < x.terms.length)
def ruleMany (r : Rule) : Bool := decide (4 < r.body.length) || decide (3 < r.terms.length) || litsMany r.body
def many (l : List Rule) : Bool := decide (12 < l.length) || l.any ruleMany
def check (l : List Rule) : Int := if many l then 2 else if l.all ruleOk then 0 else 1

def termD (l : List Term) (i : Nat) : Term := l.getD i ⟨[], 0⟩
def litD (l : List Lit) (i : Nat) : Lit := l.getD i ⟨0, 0, 0, [], []⟩
def ruleD (l : List Rule) (i : Nat) : Rule := l.getD i ⟨0, [], [], 0, []⟩
end Tr

/-- An 'all' along an index. -/
theorem all_drop {α : Type} (p : α → Bool) (l : List α) (d : α) (k : Nat) (h : k < l.length) : (l.drop k).all p = (p (l.getD k d) && (l.drop (k + 1)).all p) := by
  rw [List.drop_eq_getElem_cons h, List.all_cons, List.getD_eq_getElem?_getD, List.getElem?_eq_getElem h]
  rfl
theorem any_drop {α : Type} (p : α → Bool) (l : List α) (d : α) (k : Nat) (h : k < l.length) : (l.drop k).any p = (p (l.getD k d) || (l.drop (k + 1)).any p) := by
  rw [List.drop_eq_getElem_cons h, List.any_cons, List.getD_eq_getElem?_getD, List.getElem?_eq_getElem h]
  rfl

end Go.Proofs.YtgpaleifhcdjnaaGreatDoor

/- What the parser answers, plain: tokens in, a tree or a place out. -/
namespace Go.Proofs.YtgpaleifhcdjnaaGreatDoor
namespace Pr

/-- The next token; behind the last one, one of no kind at the text's end. -/
def hd (en : Int) (r : List Tk.Tok) : Tk.Tok := match r with | [] => ⟨0, en, []⟩ | t :: _ => t
/-- The number of digits. -/
def num (s : List UInt8) : Int := (Lib.atoi s).getD 0
def must (t : List UInt8) (en : Int) (r : List Tk.Tok) : Int ⊕ List Tk.Tok := if (hd en r).text == t then .inr r.tail else .inl (hd en r).at_
def name (en : Int) (r : List Tk.Tok) : Int ⊕ (List UInt8 × List Tk.Tok) :=
  if ((hd en r).kind == 1) && !Tr.isWord (hd en r).text then .inr ((hd en r).text, r.tail) else .inl (hd en r).at_
def number (en : Int) (r : List Tk.Tok) : Int ⊕ (Int × List Tk.Tok) := if (hd en r).kind == 3 then .inr (num (hd en r).text, r.tail) else .inl (hd en r).at_
/-- What stands behind a '-'. -/
def neg (en : Int) (r : List Tk.Tok) : Int ⊕ (Tr.Term × List Tk.Tok) :=
  if (hd en r).text == [48] then .inl (hd en r).at_ else match number en r with
    | .inl a => .inl a
    | .inr x => .inr (⟨[], -x.1⟩, x.2)
def term (en : Int) (r : List Tk.Tok) : Int ⊕ (Tr.Term × List Tk.Tok) :=
  if (hd en r).kind == 2 then .inr (⟨(hd en r).text, 0⟩, r.tail)
  else if (hd en r).kind == 3 then .inr (⟨[], num (hd en r).text⟩, r.tail)
  else match must [45] en r with
    | .inl a => .inl a
    | .inr r1 => neg en r1
/-- A fold, if the next token is one. -/
def foldAt (en : Int) (r : List Tk.Tok) : Int × List Tk.Tok := if Tr.foldOf (hd en r).text != 0 then (Tr.foldOf (hd en r).text, r.tail) else (0, r)
def foldMay (may : Bool) (en : Int) (r : List Tk.Tok) : Int × List Tk.Tok := if may then foldAt en r else (0, r)
def isText (en : Int) (r : List Tk.Tok) (t : List UInt8) : Bool := (hd en r).text == t
/-- Terms from here on, a comma between, behind those that came. -/
def more (may : Bool) (en : Int) : Nat → List Tr.Term → List Tk.Tok → Int ⊕ ((List Tr.Term × Int) × List Tk.Tok)
  | 0, _, _ => .inl 0
  | f + 1, acc, r => match term en (foldMay may en r).2 with
    | .inl a => .inl a
    | .inr x => if ((foldMay may en r).1 == 0) && isText en x.2 [44] then more may en f (acc ++ [x.1]) x.2.tail else .inr ((acc ++ [x.1], (foldMay may en r).1), x.2)
/-- What stands behind the bracket. -/
def inside (may : Bool) (en : Int) (r : List Tk.Tok) : Int ⊕ ((List Tr.Term × Int) × List Tk.Tok) :=
  if isText en r [41] then .inr (([], 0), r.tail) else match more may en (r.length + 1) [] r with
    | .inl a => .inl a
    | .inr x => match must [41] en x.2 with
      | .inl a => .inl a
      | .inr r3 => .inr (x.1, r3)
def terms (may : Bool) (en : Int) (r : List Tk.Tok) : Int ⊕ ((List Tr.Term × Int) × List Tk.Tok) := match must [40] en r with
  | .inl a => .inl a
  | .inr r1 => inside may en r1
def opOf (s : List UInt8) : Int :=
  if s == [60] then 1 else if s == [60, 61] then 2 else if s == [61] then 3 else if s == [33, 61] then 4 else if s == [43] then 5 else if s == [45] then 6 else if s == [42] then 7 else 0
def op (en : Int) (r : List Tk.Tok) : Int ⊕ (Int × List Tk.Tok) := if opOf (hd en r).text != 0 then .inr (opOf (hd en r).text, r.tail) else .inl (hd en r).at_
/-- A name and terms. -/
def atom (kind at_ : Int) (en : Int) (r : List Tk.Tok) : Int ⊕ (Tr.Lit × List Tk.Tok) := match name en r with
  | .inl a => .inl a
  | .inr x => match terms false en x.2 with
    | .inl a => .inl a
    | .inr y => .inr (⟨kind, at_, 0, x.1, y.1.1⟩, y.2)
def calcLit (at_ o : Int) (a b : Tr.Term) (en : Int) (r : List Tk.Tok) : Int ⊕ (Tr.Lit × List Tk.Tok) := match must [61] en r with
  | .inl p => .inl p
  | .inr r1 => match term en r1 with
    | .inl p => .inl p
    | .inr z => .inr (⟨4, at_, o, [], [a, b, z.1]⟩, z.2)
def reckon (at_ : Int) (en : Int) (r : List Tk.Tok) : Int ⊕ (Tr.Lit × List Tk.Tok) := match term en r with
  | .inl p => .inl p
  | .inr a => match op en a.2 with
    | .inl p => .inl p
    | .inr o => match term en o.2 with
      | .inl p => .inl p
      | .inr b => if Tr.between o.1 5 7 then calcLit at_ o.1 a.1 b.1 en b.2 else .inr (⟨3, at_, o.1, [], [a.1, b.1]⟩, b.2)
def lit (en : Int) (r : List Tk.Tok) : Int ⊕ (Tr.Lit × List Tk.Tok) :=
  if isText en r [110, 111, 116] then atom 2 (hd en r).at_ en r.tail
  else if (hd en r).kind == 1 then atom 1 (hd en r).at_ en r
  else reckon (hd en r).at_ en r
def lits (en : Int) : Nat → List Tr.Lit → List Tk.Tok → Int ⊕ (List Tr.Lit × List Tk.Tok)
  | 0, _, _ => .inl 0
  | f + 1, acc, r => match lit en r with
    | .inl a => .inl a
    | .inr x => if isText en x.2 [44] then lits en f (acc ++ [x.1]) x.2.tail else .inr (acc ++ [x.1], x.2)
/-- What stands behind a head that is no fact. -/
def tailOf (at_ : Int) (nm : List UInt8) (l : List Tr.Term) (fo : Int) (en : Int) (r : List Tk.Tok) : Int ⊕ (Tr.Rule × List Tk.Tok) := match must [58, 45] en r with
  | .inl p => .inl p
  | .inr r1 => match lits en (r1.length + 1) [] r1 with
    | .inl p => .inl p
    | .inr b => match must [46] en b.2 with
      | .inl p => .inl p
      | .inr r2 => .inr (⟨at_, nm, l, fo, b.1⟩, r2)
def rule (en : Int) (r : List Tk.Tok) : Int ⊕ (Tr.Rule × List Tk.Tok) := match name en r with
  | .inl p => .inl p
  | .inr x => match terms true en x.2 with
    | .inl p => .inl p
    | .inr y => if (y.1.2 == 0) && isText en y.2 [46] then .inr (⟨(hd en r).at_, x.1, y.1.1, y.1.2, []⟩, y.2.tail) else tailOf (hd en r).at_ x.1 y.1.1 y.1.2 en y.2
def rules (en : Int) : Nat → List Tr.Rule → List Tk.Tok → Int ⊕ List Tr.Rule
  | 0, acc, _ => .inr acc
  | f + 1, acc, r => match r with
    | [] => .inr acc
    | _ :: _ => match rule en r with
      | .inl a => .inl a
      | .inr x => rules en f (acc ++ [x.1]) x.2
/-- What Parse answers: a tree, where it is wrong, and why. -/
def parse (L : List UInt8) : List Tr.Rule × Int × Int :=
  if (Tk.scan L).2.2 = 0 then match rules L.length ((Tk.scan L).1.length) [] (Tk.scan L).1 with
    | .inl a => ([], a, 1)
    | .inr t => if Tr.check t = 0 then (t, 0, 0) else ([], 0, Tr.check t)
  else ([], (Tk.scan L).2.1, (Tk.scan L).2.2)
end Pr
end Go.Proofs.YtgpaleifhcdjnaaGreatDoor

/- The document's scan of any text; lists of tokens that are kept. -/
namespace Go.Proofs.YtgpaleifhcdjnaaGreatDoor
open Go.RowKit

theorem ScanOf_any (s : ByteArray) (w : World) : Calls Tryz.prog 49 #[.string s] w (ScanTop s.data.toList w) := by
  by_cases h : 5000 < s.size
  · exact ScanOf_long s w h
  · exact ScanOf_short s w (by omega)

theorem toksAt_below {w w' : World} {ao : Option Addr} {l : List Tk.Tok} (h : ToksAt w ao l) (hb : Below w.heap.size w w') : ToksAt w' ao l := by
  rcases h with h | ⟨b, off, rfl, hc⟩
  · exact .inl h
  · refine .inr ⟨b, off, rfl, fun i hi => ?_⟩
    obtain ⟨a0, a1, a2⟩ := hc i hi
    have hbw : b < w.heap.size := World.block_lt_of_cell? w _ a0
    exact ⟨(hb.cell (p := ⟨b, _, none⟩) hbw).trans a0, (hb.cell (p := ⟨b, _, none⟩) hbw).trans a1, (hb.cell (p := ⟨b, _, none⟩) hbw).trans a2⟩

/-- No more tokens than bytes. -/
theorem scanP_many (L : List UInt8) : ∀ (f p : Nat) (acc : List Tk.Tok), acc.length ≤ p → p ≤ L.length → (Tk.scanP L f p acc).1.length ≤ L.length := by
  intro f
  induction f with
  | zero => intro p acc h1 h2; rw [Tk.scanP]; exact Nat.le_trans h1 h2
  | succ f ih =>
    intro p acc h1 h2
    rw [Tk.scanP]
    split
    · exact Nat.le_trans h1 h2
    · split
      · rename_i h3 h4
        have g1 := Tk.lenOf_le (L.drop p)
        have g2 := Tk.lenOf_pos (L.drop p) (by intro e; have := congrArg List.length e; simp at this; omega) h4
        rw [List.length_drop] at g1
        have g3 := Tk.sep_le false (L.drop (p + Tk.lenOf (L.drop p)))
        rw [List.length_drop] at g3
        refine ih _ _ ?_ ?_
        · rw [List.length_append]; simp; omega
        · omega
      · simp
theorem scan_many (L : List UInt8) : (Tk.scan L).1.length ≤ 5000 := by
  unfold Tk.scan
  split
  · simp
  · have := scanP_many L L.length (Tk.sep false L) [] (Nat.zero_le _) (Tk.sep_le false L)
    omega

end Go.Proofs.YtgpaleifhcdjnaaGreatDoor

/- Trees in memory: what is read behind a slice. -/
namespace Go.Proofs.YtgpaleifhcdjnaaGreatDoor
open Go.RowKit

def TermIn (w : World) (b off : Nat) (t : Tr.Term) : Prop :=
  w.cell? ⟨b, off, none⟩ = some (.string ⟨t.var.toArray⟩) ∧ w.cell? ⟨b, off + 1, none⟩ = some (.int .i64 t.n)
def TermsAt (w : World) (ao : Option Addr) (l : List Tr.Term) : Prop :=
  l = [] ∨ ∃ b off, ao = some ⟨b, off, none⟩ ∧ ∀ i, i < l.length → TermIn w b (off + i * 2) (Tr.termD l i)
/-- A slice value with terms behind it. -/
def TermsV (w : World) (v : Value) (l : List Tr.Term) : Prop := ∃ ao cap, v = .slice ao l.length cap ∧ TermsAt w ao l
def LitIn (w : World) (b off : Nat) (x : Tr.Lit) : Prop :=
  w.cell? ⟨b, off, none⟩ = some (.int .i64 x.kind) ∧ w.cell? ⟨b, off + 1, none⟩ = some (.int .i64 x.at_) ∧ w.cell? ⟨b, off + 2, none⟩ = some (.int .i64 x.op) ∧ w.cell? ⟨b, off + 3, none⟩ = some (.string ⟨x.name.toArray⟩) ∧
    ∃ v, w.cell? ⟨b, off + 4, none⟩ = some v ∧ TermsV w v x.terms
def LitsAt (w : World) (ao : Option Addr) (l : List Tr.Lit) : Prop :=
  l = [] ∨ ∃ b off, ao = some ⟨b, off, none⟩ ∧ ∀ i, i < l.length → LitIn w b (off + i * 5) (Tr.litD l i)
def LitsV (w : World) (v : Value) (l : List Tr.Lit) : Prop := ∃ ao cap, v = .slice ao l.length cap ∧ LitsAt w ao l
def RuleIn (w : World) (b off : Nat) (r : Tr.Rule) : Prop :=
  w.cell? ⟨b, off, none⟩ = some (.int .i64 r.at_) ∧ w.cell? ⟨b, off + 1, none⟩ = some (.string ⟨r.name.toArray⟩) ∧ (∃ v, w.cell? ⟨b, off + 2, none⟩ = some v ∧ TermsV w v r.terms) ∧ w.cell? ⟨b, off + 3, none⟩ = some (.int .i64 r.fold) ∧
    ∃ v, w.cell? ⟨b, off + 4, none⟩ = some v ∧ LitsV w v r.body
def RulesAt (w : World) (ao : Option Addr) (l : List Tr.Rule) : Prop :=
  l = [] ∨ ∃ b off, ao = some ⟨b, off, none⟩ ∧ ∀ i, i < l.length → RuleIn w b (off + i * 5) (Tr.ruleD l i)
def RulesV (w : World) (v : Value) (l : List Tr.Rule) : Prop := ∃ ao cap, v = .slice ao l.length cap ∧ RulesAt w ao l

theorem cell_below {w w' : World} (hb : Below w.heap.size w w') {b o : Nat} {v : Value} (h : w.cell? ⟨b, o, none⟩ = some v) : w'.cell? ⟨b, o, none⟩ = some v :=
  (hb.cell (p := ⟨b, o, none⟩) (World.block_lt_of_cell? w _ h)).trans h

theorem termsAt_below {w w' : World} {ao : Option Addr} {l : List Tr.Term} (h : TermsAt w ao l) (hb : Below w.heap.size w w') : TermsAt w' ao l := by
  rcases h with h | ⟨b, off, rfl, hc⟩
  · exact .inl h
  · exact .inr ⟨b, off, rfl, fun i hi => ⟨cell_below hb (hc i hi).1, cell_below hb (hc i hi).2⟩⟩
theorem termsV_below {w w' : World} {v : Value} {l : List Tr.Term} (h : TermsV w v l) (hb : Below w.heap.size w w') : TermsV w' v l := by
  obtain ⟨ao, cap, rfl, h⟩ := h
  exact ⟨ao, cap, rfl, termsAt_below h hb⟩
theorem litIn_below {w w' : World} {b off : Nat} {x : Tr.Lit} (h : LitIn w b off x) (hb : Below w.heap.size w w') : LitIn w' b off x := by
  obtain ⟨h0, h1, h2, h3, v, h4, h5⟩ := h
  exact ⟨cell_below hb h0, cell_below hb h1, cell_below hb h2, cell_below hb h3, v, cell_below hb h4, termsV_below h5 hb⟩
theorem litsAt_below {w w' : World} {ao : Option Addr} {l : List Tr.Lit} (h : LitsAt w ao l) (hb : Below w.heap.size w w') : LitsAt w' ao l := by
  rcases h with h | ⟨b, off, rfl, hc⟩
  · exact .inl h
  · exact .inr ⟨b, off, rfl, fun i hi => litIn_below (hc i hi) hb⟩
theorem litsV_below {w w' : World} {v : Value} {l : List Tr.Lit} (h : LitsV w v l) (hb : Below w.heap.size w w') : LitsV w' v l := by
  obtain ⟨ao, cap, rfl, h⟩ := h
  exact ⟨ao, cap, rfl, litsAt_below h hb⟩
theorem ruleIn_below {w w' : World} {b off : Nat} {x : Tr.Rule} (h : RuleIn w b off x) (hb : Below w.heap.size w w') : RuleIn w' b off x := by
  obtain ⟨h0, h1, ⟨v, h2, h3⟩, h4, u, h5, h6⟩ := h
  exact ⟨cell_below hb h0, cell_below hb h1, ⟨v, cell_below hb h2, termsV_below h3 hb⟩, cell_below hb h4, u, cell_below hb h5, litsV_below h6 hb⟩
theorem rulesAt_below {w w' : World} {ao : Option Addr} {l : List Tr.Rule} (h : RulesAt w ao l) (hb : Below w.heap.size w w') : RulesAt w' ao l := by
  rcases h with h | ⟨b, off, rfl, hc⟩
  · exact .inl h
  · exact .inr ⟨b, off, rfl, fun i hi => ruleIn_below (hc i hi) hb⟩
theorem rulesV_below {w w' : World} {v : Value} {l : List Tr.Rule} (h : RulesV w v l) (hb : Below w.heap.size w w') : RulesV w' v l := by
  obtain ⟨ao, cap, rfl, h⟩ := h
  exact ⟨ao, cap, rfl, rulesAt_below h hb⟩

/-- The values of a struct that is handed on. -/
abbrev termVal (t : Tr.Term) : Value := .agg #[.string ⟨t.var.toArray⟩, .int .i64 t.n]
abbrev litVal (x : Tr.Lit) (v : Value) : Value := .agg #[.int .i64 x.kind, .int .i64 x.at_, .int .i64 x.op, .string ⟨x.name.toArray⟩, v]
abbrev ruleVal (r : Tr.Rule) (v u : Value) : Value := .agg #[.int .i64 r.at_, .string ⟨r.name.toArray⟩, v, .int .i64 r.fold, u]

end Go.Proofs.YtgpaleifhcdjnaaGreatDoor

/- Package token: is a token the only one of its text? -/
namespace Go.Proofs.YtgpaleifhcdjnaaGreatDoor
open Go.RowKit

abbrev tokObjOf (t : Tk.Tok) : Obj := .cells #[.int .i64 t.kind, .int .i64 t.at_, .string ⟨t.text.toArray⟩] 53

theorem boxCell {w w1 : World} {t : Tk.Tok} (hb : Below (w.alloc (tokObjOf t)).heap.size (w.alloc (tokObjOf t)) w1) :
    w1.cell? ⟨w.heap.size, 0, none⟩ = some (.int .i64 t.kind) ∧ w1.cell? ⟨w.heap.size, 1, none⟩ = some (.int .i64 t.at_) ∧ w1.cell? ⟨w.heap.size, 2, none⟩ = some (.string ⟨t.text.toArray⟩) := by
  obtain ⟨hc, hf⟩ := bcell hb
  have h : w.heap.size < (w.alloc (tokObjOf t)).heap.size := by simp
  refine ⟨?_, ?_, ?_⟩
  · rw [hc _ _ h]; simp [go_sem]
  · rw [hc _ _ h]; simp [go_sem]
  · rw [hc _ _ h]; simp [go_sem]

theorem below_box {w w1 : World} {o : Obj} (hb : Below (w.alloc o).heap.size (w.alloc o) w1) : Below w.heap.size w w1 :=
  ((Below.refl _ _).alloc (Nat.le_refl _) _).trans (hb.mono (by simp))

set_option maxRecDepth 100000 in
set_option maxHeartbeats 1000000 in
theorem alone_any (t : Tk.Tok) (w : World) :
    Calls Tryz.prog 79 #[tokVal t] w fun e w' => e = .returned (.bool (Tk.alone t.kind t.text)) ∧ Below w.heap.size w w' := by
  have HV : Hid (Tk.alone t.kind t.text = (((Tk.scan t.text).2.2 == 0) && (((Tk.scan t.text).1.length : Int) == 1) && ((tokD (Tk.scan t.text).1 0).kind == t.kind) && ((tokD (Tk.scan t.text).1 0).text == t.text))) := rfl
  generalize Tk.alone t.kind t.text = V at *
  have hS := fun w => Scan_any ⟨t.text.toArray⟩ w
  have hd : (⟨t.text.toArray⟩ : ByteArray).data.toList = t.text := List.toList_toArray
  rw [hd] at hS
  unfold ScanTop at hS
  generalize Tk.scan t.text = X at *
  have HS : Hid (_) := hS
  clear hS hd
  go_enter Tryz.func79, Tryz.ntmps79
  go_wp2_with fail
  refine (HS.out _).mono ?_
  rintro e w1 ⟨ao, cap, rfl, hown, hb⟩
  obtain ⟨c0, c1, c2⟩ := boxCell hb
  have hT0 : 0 < X.1.length → ∃ b off, ao = some ⟨b, off, none⟩ ∧ TokIn w1 b off (tokD X.1 0) := fun h0 => by
    rcases toksAt_own hown with h | ⟨b, off, rfl, hc⟩
    · rw [h] at h0; exact absurd h0 (by simp)
    · exact ⟨b, off, rfl, by simpa using hc 0 h0⟩
  have hbel := below_box hb
  clear hown hb HS
  generalize tokD X.1 0 = x at *
  cases g1 : (X.2.2 == 0)
  · have HF : Hid (V = false) := by show _ = _; rw [HV.out, g1]; rfl
    clear HV
    go_wp2_with fail
    go_quiet (fail)
    go_wp2
    go_ret
    exact ⟨ret_bool HF.out.symm, below_drewN hbel _⟩
  · cases g2 : ((X.1.length : Int) == 1)
    · have HF : Hid (V = false) := by show _ = _; rw [HV.out, g2]; simp
      clear HV
      go_wp2_with fail
      go_quiet (fail)
      go_wp2
      go_ret
      exact ⟨ret_bool HF.out.symm, below_drewN hbel _⟩
    · have hpos : 0 < X.1.length := by have := beq_iff_eq.1 g2; omega
      obtain ⟨b, off, rfl, d0, d1, d2⟩ := hT0 hpos
      clear hT0
      cases g3 : (x.kind == t.kind)
      · have HF : Hid (V = false) := by show _ = _; rw [HV.out, g3]; simp
        clear HV
        go_wp2_with fail
        go_quiet (fail)
        go_wp2
        go_ret
        exact ⟨ret_bool HF.out.symm, below_drewN hbel _⟩
      · cases g4 : (x.text == t.text)
        · have HF : Hid (V = false) := by show _ = _; rw [HV.out, g4]; simp
          clear HV
          go_wp2_with fail
          go_quiet (fail)
          go_wp2
          go_ret
          exact ⟨ret_bool HF.out.symm, below_drewN hbel _⟩
        · have HF : Hid (V = true) := by show _ = _; rw [HV.out, g1, g2, g3, g4]; rfl
          clear HV
          go_wp2_with fail
          go_quiet (fail)
          go_wp2
          go_ret
          exact ⟨ret_bool HF.out.symm, below_drewN hbel _⟩

end Go.Proofs.YtgpaleifhcdjnaaGreatDoor

/- The writers of a strings.Builder at this program: what they leave, and that other blocks stand. -/
namespace Go.Proofs.YtgpaleifhcdjnaaGreatDoor
open Go.RowKit

theorem A_info44 : (Tryz.prog.info? 133).map (·.size) = some 2 := by kernel_rfl
theorem A_lies44 : liesAt Tryz.prog Tryz.prog.depth 133 (2 / Tryz.prog.cellsOf 133) 0 133 1 = true := by kernel_rfl
theorem A_info5 : (Tryz.prog.info? 5).map (fun i => (i.zero, i.size, i.bytes)) = some (some (.int .u8 0), 1, 1) := by kernel_rfl

set_option maxRecDepth 100000 in
set_option maxHeartbeats 1000000 in
theorem check_used (b : Nat) (w : World) (h0 : w.cell? ⟨b, 0, none⟩ = some (.pointer (some ⟨b, 0, none⟩))) :
    Calls Tryz.prog 110 #[.pointer (some ⟨b, 0, none⟩)] w fun e w' => e = .returned (.tuple #[]) ∧ w' = w := by
  obtain ⟨j, hj, _⟩ := Option.map_eq_some_iff.1 A_info44
  go_enter Tryz.func110, Tryz.ntmps110
  go_wp2
  rw [Lib.run_neq_ptr_same w _ Tryz.underlying131 hj]
  go_wp2
  go_end0
  exact ⟨rfl, rfl⟩

set_option maxRecDepth 100000 in
set_option maxHeartbeats 1000000 in
theorem check_fresh (b : Nat) (w : World) (h0 : w.cell? ⟨b, 0, none⟩ = some (.pointer none)) (hsh : w.shape? b = some (133, 2)) (hfz : w.frozen? ⟨b, 0, none⟩ = false) :
    Calls Tryz.prog 110 #[.pointer (some ⟨b, 0, none⟩)] w fun e w' => e = .returned (.tuple #[]) ∧ w' = w.setCell ⟨b, 0, none⟩ (.pointer (some ⟨b, 0, none⟩)) := by
  obtain ⟨j, hj, hjs⟩ := Option.map_eq_some_iff.1 A_info44
  go_enter Tryz.func110, Tryz.ntmps110
  go_wp2
  rw [Lib.run_to_unsafe w ⟨b, 0, none⟩ Tryz.underlying131 Tryz.underlying184 hj (by rw [hjs]; decide) hsh (Nat.zero_lt_succ 1)]
  simp only [Result.andThen]
  rw [Oper.upon_value]
  go_wp2
  rw [run_callFunc_extern Tryz.func146 (by kernel_rfl) (by kernel_rfl) (by kernel_rfl) (e := Extern.AbiNoEscape.same) (by kernel_rfl)]
  rw [Lib.run_noEscape]
  simp only [Result.andThen]
  rw [Oper.upon_value]
  go_wp2
  rw [Lib.run_from_unsafe w ⟨b, 0, none⟩ Tryz.underlying184 Tryz.underlying131 hj hsh A_lies44]
  simp only [Result.andThen]
  rw [Oper.upon_value]
  go_wp2
  go_end0
  exact ⟨rfl, rfl⟩

theorem check_any (B b : Nat) (bs : List Value) (w : World) (h : Lib.IsBuilder 133 5 B b bs w) :
    Calls Tryz.prog 110 #[.pointer (some ⟨b, 0, none⟩)] w fun e w' => e = .returned (.tuple #[]) ∧ (Lib.BuilderAt 133 5 B b (.pointer (some ⟨b, 0, none⟩)) bs w' ∧ Below B w w' ∧ Lib.OthersKept 5 (some b) w w') := by
  rcases h with h | h
  · refine (check_fresh b w h.cell0 h.shape h.frozen0).mono ?_
    rintro e w' ⟨rfl, rfl⟩
    exact ⟨rfl, h.used _, (Below.refl B w).setCell (p := ⟨b, 0, none⟩) h.1 _, (Lib.OthersKept.refl 5 (some b) w).setCell ⟨b, 0, none⟩ rfl _⟩
  · refine (check_used b w h.cell0).mono ?_
    rintro e w' ⟨rfl, rfl⟩
    exact ⟨rfl, h, Below.refl B _, Lib.OthersKept.refl _ _ _⟩

theorem own_kind {w : World} {B : Nat} {v : Value} {n : Nat} {xs : List Value} (h : w.ownsRow B 5 1 v n xs) : ∀ g, v.ownBlock = some g → ∃ c fz, w.heap[g]? = some (.cells c 5 fz) := by
  intro g hg
  rcases h.2 with ⟨rfl, _⟩ | ⟨g', cap, cur, rfl, _, hgg, _⟩
  · simp [Value.ownBlock] at hg
  · simp [Value.ownBlock] at hg
    subst hg
    exact ⟨cur, _, hgg⟩

set_option maxRecDepth 100000 in
set_option maxHeartbeats 1000000 in
theorem writeByte_any (B b : Nat) (bs : List Value) (c : Int) (w : World) (h : Lib.IsBuilder 133 5 B b bs w) (hlen : bs.length + 1 ≤ 140737488355328) (hBw : B ≤ w.heap.size) :
    Calls Tryz.prog 80 #[.pointer (some ⟨b, 0, none⟩), .int .u8 c] w fun e w' => e = .returned .nilIface ∧ (Lib.BuilderAt 133 5 B b (.pointer (some ⟨b, 0, none⟩)) (bs ++ [.int .u8 c]) w' ∧ Below B w w' ∧ Lib.OthersKept 5 (some b) w w') := by
  obtain ⟨i0, hi, hz0, hz1, hz2⟩ := info_parts A_info5
  go_enter Tryz.func80, Tryz.ntmps80
  go_wp2_with (go_at_call 110; refine (check_any B b bs _ h).mono ?_)
  rintro e w1 ⟨rfl, h1, hb1, hk1⟩
  obtain ⟨hB, v, hbk, hown, hne⟩ := h1
  have c0 : w1.cell? ⟨b, 0, none⟩ = some (.pointer (some ⟨b, 0, none⟩)) := by rw [Lib.cell_of_heap hbk]; rfl
  have c1 : w1.cell? ⟨b, 1, none⟩ = some v := by rw [Lib.cell_of_heap hbk]; rfl
  go_wp2_with (at_builtin; refine wpList_append_own _ rfl _ _ 103 rfl B 5 i0 (.int .u8 0) 1 1 Tryz.underlying103 hi hz0 hz1 hz2 rfl (by decide) _ _ _ rfl (hown.alloc _) ⟨w1.heap.size, 0, none⟩ 1 1 [.int .u8 c] rfl rfl ?c1 ?c2 ?c3 ?c4 ?c5 ?_)
  case c1 =>
    intro j u hj
    match j, hj with
    | 0, hj => simp at hj; subst hj; simp [Addr.add]
  case c2 => intro u hu; simp at hu; subst hu; rfl
  case c3 => unfold maxLen; omega
  case c4 => omega
  case c5 => have := hb1.size; simp; omega
  intro v' w2 hown' hgrow _
  have hlt : b < w1.heap.size := Lib.BuilderAt.lt (T := 133) (e := 5) ⟨hB, v, hbk, hown, hne⟩
  have hb2 : w2.heap[b]? = some (.cells #[.pointer (some ⟨b, 0, none⟩), v] 133 (0, 0)) := by
    rw [hgrow.block b (by simp; omega) (fun e => hne e.symm), Lib.alloc_old w1 _ b hlt]
    exact hbk
  have d0 : w2.cell? ⟨b, 0, none⟩ = some (.pointer (some ⟨b, 0, none⟩)) := by rw [Lib.cell_of_heap hb2]; rfl
  have d1 : w2.cell? ⟨b, 1, none⟩ = some v := by rw [Lib.cell_of_heap hb2]; rfl
  have f1 : w2.frozen? ⟨b, 1, none⟩ = false := Lib.frozen_of_heap hb2 1
  obtain ⟨g, cap, rfl⟩ : ∃ g cap, v' = .slice (some ⟨g, 0, none⟩) (bs.length + 1) cap := by
    rcases hown'.2 with ⟨_, h0⟩ | ⟨g, cap, cur, hv, _⟩
    · omega
    · exact ⟨g, cap, hv⟩
  have hk2 : Lib.OthersKept 5 (some b) w w2 := (hk1.alloc _).grown hgrow (own_kind (hown.alloc _))
  go_wp2
  go_ret
  refine ⟨rfl, ?_, ?_, ?_⟩
  · exact Lib.BuilderAt.put (T := 133) (e := 5) hB hb2 (bs' := bs ++ [.int .u8 c]) (by simpa using hown') (by decide)
  · exact ((hb1.alloc (by have := hb1.size; omega) _).grown hgrow (by have := hb1.size; simp; omega) (fun k hk => (hown.lt k hk).1)).setCell (p := ⟨b, 1, none⟩) hB _
  · exact hk2.setCell ⟨b, 1, none⟩ rfl _

set_option maxRecDepth 100000 in
set_option maxHeartbeats 1000000 in
theorem writeString_any (B b : Nat) (bs : List Value) (s : ByteArray) (w : World) (h : Lib.IsBuilder 133 5 B b bs w) (hlen : bs.length + s.size ≤ 140737488355328) (hBw : B ≤ w.heap.size) :
    Calls Tryz.prog 81 #[.pointer (some ⟨b, 0, none⟩), .string s] w fun e w' => e = .returned (.tuple #[.int .i64 s.size, .nilIface]) ∧ (Lib.BuilderAt 133 5 B b (.pointer (some ⟨b, 0, none⟩)) (bs ++ Lib.strCells s) w' ∧ Below B w w' ∧ Lib.OthersKept 5 (some b) w w') := by
  obtain ⟨i0, hi, hz0, hz1, hz2⟩ := info_parts A_info5
  go_enter Tryz.func81, Tryz.ntmps81
  go_wp2_with (go_at_call 110; refine (check_any B b bs _ h).mono ?_)
  rintro e w1 ⟨rfl, h1, hb1, hk1⟩
  obtain ⟨hB, v, hbk, hown, hne⟩ := h1
  have c0 : w1.cell? ⟨b, 0, none⟩ = some (.pointer (some ⟨b, 0, none⟩)) := by rw [Lib.cell_of_heap hbk]; rfl
  have c1 : w1.cell? ⟨b, 1, none⟩ = some v := by rw [Lib.cell_of_heap hbk]; rfl
  go_wp2_with (at_builtin; refine Lib.wpList_append_own_string _ rfl _ _ 103 9 rfl B 5 i0 Tryz.underlying103 Tryz.underlying9 hi hz0 hz1 hz2 _ _ _ rfl hown s rfl ?c3 ?c4 ?c5 ?_)
  case c3 => unfold maxLen; omega
  case c4 => omega
  case c5 => have := hb1.size; omega
  intro v' w2 hown' hgrow _
  have hlt : b < w1.heap.size := Lib.BuilderAt.lt (T := 133) (e := 5) ⟨hB, v, hbk, hown, hne⟩
  have hb2 : w2.heap[b]? = some (.cells #[.pointer (some ⟨b, 0, none⟩), v] 133 (0, 0)) := by
    rw [hgrow.block b hlt (fun e => hne e.symm)]
    exact hbk
  have d0 : w2.cell? ⟨b, 0, none⟩ = some (.pointer (some ⟨b, 0, none⟩)) := by rw [Lib.cell_of_heap hb2]; rfl
  have d1 : w2.cell? ⟨b, 1, none⟩ = some v := by rw [Lib.cell_of_heap hb2]; rfl
  have f1 : w2.frozen? ⟨b, 1, none⟩ = false := Lib.frozen_of_heap hb2 1
  obtain ⟨ao, n', cap, rfl⟩ : ∃ ao n' cap, v' = .slice ao n' cap := by
    rcases hown'.2 with ⟨hv, _⟩ | ⟨g, cap, cur, hv, _⟩
    · exact ⟨_, _, _, hv⟩
    · exact ⟨_, _, _, hv⟩
  have hk2 : Lib.OthersKept 5 (some b) w w2 := hk1.grown hgrow (own_kind hown)
  go_wp2
  go_ret2
  refine ⟨rfl, ?_, ?_, ?_⟩
  · exact Lib.BuilderAt.put (T := 133) (e := 5) hB hb2 (bs' := bs ++ Lib.strCells s) (by simpa [Lib.strCells_length] using hown') (by decide)
  · exact (hb1.grown hgrow (by have := hb1.size; omega) (fun k hk => (hown.lt k hk).1)).setCell (p := ⟨b, 1, none⟩) hB _
  · exact hk2.setCell ⟨b, 1, none⟩ rfl _

end Go.Proofs.YtgpaleifhcdjnaaGreatDoor

/- Package token: Join answers the texts of tokens with a blank between, or why not. -/
namespace Go.Proofs.YtgpaleifhcdjnaaGreatDoor
open Go.RowKit

namespace Tk
/-- The texts of the first k tokens, a blank between. -/
def joinTo (l : List Tok) : Nat → List UInt8
  | 0 => []
  | k + 1 => (if k = 0 then [] else joinTo l k ++ [32]) ++ (tokD l k).text
/-- Are the first k tokens each the only one of its text? -/
def allTok (l : List Tok) (k : Nat) : Bool := (l.take k).all fun t => isTok t.kind t.text
/-- What Join answers. -/
def join (l : List Tok) : List UInt8 × Int :=
  if allTok l l.length then (if 5000 < (joinTo l l.length).length then ([], 2) else (joinTo l l.length, 0)) else ([], 1)

theorem allTok_snoc (l : List Tok) (k : Nat) (h : k < l.length) : allTok l (k + 1) = (allTok l k && isTok (tokD l k).kind (tokD l k).text) := by
  unfold allTok
  rw [List.take_succ_eq_append_getElem h, List.all_append]
  have e : tokD l k = l[k] := by rw [tokD, List.getD_eq_getElem?_getD, List.getElem?_eq_getElem h]; rfl
  rw [e]
  simp
theorem allTok_no (l : List Tok) (k : Nat) (h : k < l.length) (hk : isTok (tokD l k).kind (tokD l k).text = false) : allTok l l.length = false := by
  have e : tokD l k = l[k] := by rw [tokD, List.getD_eq_getElem?_getD, List.getElem?_eq_getElem h]; rfl
  rw [e] at hk
  unfold allTok
  rw [List.take_length]
  rw [← Bool.not_eq_true] at hk ⊢
  intro ha
  exact hk (List.all_eq_true.1 ha _ (List.getElem_mem h))
theorem isTok_len (k : Int) (t : List UInt8) (h : isTok k t = true) : t.length ≤ 12 := by
  have h := of_decide_eq_true h
  obtain ⟨h1, h2, h3, h4, h5⟩ := h
  match t, h1 with
  | c :: r, _ =>
    rcases tok_cases c r with ⟨c1, cE⟩ | ⟨c1, cK, c3, cE⟩ | ⟨c1, cK, c3, cE⟩ | ⟨c1, cK, c3, cE⟩ | ⟨c1, cK, c3, c4, c5, cE⟩ | ⟨c1, cK, c3, cE⟩ | ⟨c1, cK, c3, c4, c5, cE⟩ | ⟨c1, cK, cE⟩
    · omega
    · omega
    · omega
    · omega
    · omega
    · omega
    · omega
    · have e2 := lenOf_cons c r
      have e1 := kindOf_cons c r
      rw [cK] at e1
      cases g1 : Tk.small c.toNat
      · cases g2 : Tk.great c.toNat
        · cases g3 : Tk.digit c.toNat
          · rw [g1, g2, g3] at e2
            simp only [Bool.or_self, Bool.false_eq_true, if_false] at e2
            have e3 : Tk.signLen (c :: r) ≤ 2 := by
              unfold Tk.signLen
              split
              · omega
              · dsimp only; split <;> omega
            omega
          · rw [g1, g2, g3] at e1; simp at e1
        · rw [g1, g2] at e1; simp at e1
      · rw [g1] at e1; simp at e1
theorem joinTo_len (l : List Tok) : ∀ k, k ≤ l.length → allTok l k = true → (joinTo l k).length ≤ 13 * k := by
  intro k
  induction k with
  | zero => intro _ _; exact Nat.le_refl 0
  | succ k ih =>
    intro hk ha
    rw [allTok_snoc l k (by omega), Bool.and_eq_true] at ha
    have h1 := ih (by omega) ha.1
    have h2 := isTok_len _ _ ha.2
    rw [joinTo]
    split
    · simp; omega
    · simp; omega
end Tk

theorem builder_below {N : Nat} {bs : List Value} {w w' : World} (h : Lib.IsBuilder 133 5 N N bs w) (hb : Below w.heap.size w w') : Lib.IsBuilder 133 5 N N bs w' := by
  have key : ∀ p, Lib.BuilderAt 133 5 N N p bs w → Lib.BuilderAt 133 5 N N p bs w' := fun p h => by
    have hlt := h.lt
    obtain ⟨h1, v, h2, h3, h4⟩ := h
    exact ⟨h1, v, by rw [hb.block N hlt]; exact h2, ownsRow_below h3 hb, h4⟩
  rcases h with h | h
  · exact .inl (key _ h)
  · exact .inr (key _ h)

theorem builder_lt {N : Nat} {bs : List Value} {w : World} (h : Lib.IsBuilder 133 5 N N bs w) : N < w.heap.size := by
  rcases h with h | h
  · exact h.lt
  · exact h.lt

/-- A block of a token stands where the builder writes. -/
theorem kept_tok {N T : Nat} {t : Tk.Tok} {w w' : World} (hk : Lib.OthersKept 5 (some N) w w') (hne : ¬ T = N) (h : w.heap[T]? = some (tokObjOf t)) : w'.heap[T]? = some (tokObjOf t) := by
  refine hk T _ h (fun e => hne (Option.some.inj e)) ?_
  intro c fz e
  injection e with _ e2 _
  exact absurd e2 (by decide)

set_option maxRecDepth 100000 in
set_option maxHeartbeats 2000000 in
theorem Join_some (l : List Tk.Tok) (w : World) (n b off cap : Nat) (hn : l.length = n) (hmax : n ≤ 4398046511104)
    (hA : ∀ i, i < n → TokIn w b (off + i * 3) (tokD l i)) :
    Calls Tryz.prog 47 #[.slice (some ⟨b, off, none⟩) n cap] w fun e w' => e = .returned (.tuple #[.string ⟨(Tk.join l).1.toArray⟩, .int .i64 (Tk.join l).2]) ∧ Below w.heap.size w w' := by
  have HN : Hid (l.length = n) := hn
  clear hn
  go_enter Tryz.func47, Tryz.ntmps47
  go_wp2_with fail
  go_loopw [9] (fun i wr => ∃ k : Nat, k ≤ n ∧ i = .int .i64 k ∧ Tk.allTok l k = true ∧ Lib.IsBuilder 133 5 w.heap.size w.heap.size (Lib.byteCells (Tk.joinTo l k)) wr ∧ Below w.heap.size w wr) (fun i _ => n - (intOf i).toNat)
  case atStart => exact ⟨0, Nat.zero_le _, rfl, rfl, Lib.fresh_isBuilder 133 5 w, (Below.refl _ _).alloc (Nat.le_refl _) _⟩
  case round =>
    obtain ⟨k, hk, rfl, hall, hbu, hbel⟩ := hrel
    have HA : Hid (Tk.allTok l k = true) := hall
    clear hall
    have hNw := builder_lt hbu
    have hlen := Tk.joinTo_len l k (by rw [HN.out]; exact hk) HA.out
    by_cases hlt : k < n
    · obtain ⟨a0, a1, a2⟩ := hA k hlt
      have hbw : b < w.heap.size := World.block_lt_of_cell? w _ a0
      have a0' : wr.cell? ⟨b, off + k * 3, none⟩ = some (.int .i64 (tokD l k).kind) := (hbel.cell (p := ⟨b, _, none⟩) hbw).trans a0
      have a1' : wr.cell? ⟨b, off + k * 3 + 1, none⟩ = some (.int .i64 (tokD l k).at_) := (hbel.cell (p := ⟨b, _, none⟩) hbw).trans a1
      have a2' : wr.cell? ⟨b, off + k * 3 + 2, none⟩ = some (.string ⟨(tokD l k).text.toArray⟩) := (hbel.cell (p := ⟨b, _, none⟩) hbw).trans a2
      clear a0 a1 a2 hA
      go_wp2_with fail
      refine (alone_any (tokD l k) _).mono ?_
      rintro e w1 ⟨he, hb1⟩
      rw [alone_eq] at he
      subst he
      have hb0 : Below wr.heap.size wr w1 := below_box hb1
      have hbel1 : Below w.heap.size w w1 := hbel.trans (hb0.mono (by omega))
      cases hT : Tk.isTok (tokD l k).kind (tokD l k).text
      · have HF : Hid (Tk.join l = ([], 1)) := by
          show _ = _
          unfold Tk.join
          rw [if_neg (by rw [Tk.allTok_no l k (by rw [HN.out]; exact hlt) hT]; simp)]
        clear hT hb1 a0' a1' a2'
        go_wp2_with fail
        go_ret2
        refine ⟨?_, hbel1⟩
        rw [HF.out]
        rfl
      · have HT : Hid (Tk.allTok l (k + 1) = true) := by
          show _ = _
          rw [Tk.allTok_snoc l k (by rw [HN.out]; exact hlt), HA.out, hT]
          rfl
        have h12 := Tk.isTok_len _ _ hT
        have hbu1 := builder_below hbu hb0
        have hblk : w1.heap[wr.heap.size]? = some (tokObjOf (tokD l k)) := by
          rw [hb1.block wr.heap.size (by simp)]
          exact heap_alloc_new wr _
        obtain ⟨x0, x1, x2⟩ := boxCell hb1
        have hz1 : w.heap.size ≤ w1.heap.size := hbel1.size
        clear hT hb1 a0' a1' a2' hbu hb0
        by_cases hk0 : 0 < k
        · have HJ : Hid (Lib.byteCells (Tk.joinTo l k) ++ [.int .u8 32] ++ Lib.strCells ⟨(tokD l k).text.toArray⟩ = Lib.byteCells (Tk.joinTo l (k + 1))) := by
            show _ = _
            rw [Tk.joinTo, if_neg (by omega), Lib.byteCells_append, Lib.byteCells_append]
            rfl
          go_wp2_with fail
          refine (writeByte_any w.heap.size w.heap.size _ 32 _ hbu1 (by rw [Lib.byteCells_length]; omega) hz1).mono ?_
          rintro e w2 ⟨rfl, hB2, hbel2, hk2⟩
          have hblk2 := kept_tok hk2 (by omega) hblk
          have d2 : w2.cell? ⟨wr.heap.size, 2, none⟩ = some (.string ⟨(tokD l k).text.toArray⟩) := by rw [Lib.cell_of_heap hblk2]; rfl
          have hz2 : w.heap.size ≤ w2.heap.size := by have := hbel2.size; omega
          clear hk2 hblk hblk2 hbu1 x0 x1 x2
          go_wp2_with fail
          refine (writeString_any w.heap.size w.heap.size _ _ _ (.inr hB2) (by show _ + (tokD l k).text.toArray.size ≤ _; simp [Lib.byteCells_length]; omega) hz2).mono ?_
          rintro e w3 ⟨rfl, hB3, hbel3, _⟩
          rw [HJ.out] at hB3
          have hbel4 := (hbel1.trans hbel2).trans hbel3
          clear hB2 d2 HJ
          go_wp2
          go_roundw
          case rel => exact ⟨k + 1, by omega, by go_num, HT.out, .inr hB3, hbel4⟩
          case measure => simp [intOf]; omega
        · have hd : decide ((0 : Int) < (k : Int)) = false := by simp; omega
          have HJ : Hid (Lib.byteCells (Tk.joinTo l k) ++ Lib.strCells ⟨(tokD l k).text.toArray⟩ = Lib.byteCells (Tk.joinTo l (k + 1))) := by
            show _ = _
            have e0 : k = 0 := by omega
            rw [e0, Tk.joinTo, Tk.joinTo, if_pos rfl]
            rfl
          go_wp2_with fail
          refine (writeString_any w.heap.size w.heap.size _ _ _ hbu1 (by show _ + (tokD l k).text.toArray.size ≤ _; simp [Lib.byteCells_length]; omega) hz1).mono ?_
          rintro e w3 ⟨rfl, hB3, hbel3, _⟩
          rw [HJ.out] at hB3
          have hbel4 := hbel1.trans hbel3
          clear hbu1 HJ x0 x1 x2 hblk
          go_wp2
          go_roundw
          case rel => exact ⟨k + 1, by omega, by go_num, HT.out, .inr hB3, hbel4⟩
          case measure => simp [intOf]; omega
    · have hkn : k = n := by omega
      have HL : Hid (k = l.length) := by show _ = _; rw [HN.out]; exact hkn
      clear hkn
      have HA2 : Hid (Tk.allTok l l.length = true) := by have := HA.out; rw [HL.out] at this; exact this
      clear hA
      by_cases h5 : 5000 < (Tk.joinTo l k).length
      · have HF : Hid (Tk.join l = ([], 2)) := by
          show _ = _
          unfold Tk.join
          rw [if_pos HA2.out, if_pos (by rw [← HL.out]; exact h5)]
        go_wp2_with (go_at_call 82; refine (Tryz.Builder_Len _ _ _ _ hbu).mono ?_; rintro e w' ⟨rfl, rfl⟩; rw [Lib.byteCells_length])
        go_ret2
        refine ⟨?_, hbel⟩
        rw [HF.out]
        rfl
      · have HF : Hid (Tk.join l = (Tk.joinTo l k, 0)) := by
          show _ = _
          unfold Tk.join
          rw [if_pos HA2.out, if_neg (by rw [← HL.out]; exact h5), HL.out]
        go_wp2_with (first | (go_at_call 82; refine (Tryz.Builder_Len _ _ _ _ hbu).mono ?_; rintro e w' ⟨rfl, rfl⟩; rw [Lib.byteCells_length]) | (go_at_call 83; refine (Tryz.Builder_String_any _ _ _ _ hbu (by omega)).mono ?_; rintro e w2 ⟨rfl, hbel2⟩))
        go_ret2
        refine ⟨?_, hbel.trans hbel2⟩
        rw [HF.out]
        rfl

end Go.Proofs.YtgpaleifhcdjnaaGreatDoor

/- Package token: Join, whatever tokens it is handed. -/
namespace Go.Proofs.YtgpaleifhcdjnaaGreatDoor
open Go.RowKit

set_option maxRecDepth 100000 in
set_option maxHeartbeats 400000 in
theorem Join_none (w : World) (ao : Option Addr) (cap : Nat) :
    Calls Tryz.prog 47 #[.slice ao 0 cap] w fun e w' => e = .returned (.tuple #[.string ⟨#[]⟩, .int .i64 0]) ∧ Below w.heap.size w w' := by
  have hbu : Lib.IsBuilder 133 5 w.heap.size w.heap.size (Lib.byteCells []) (w.alloc (.cells #[.pointer none, .slice none 0 0] 133)) := Lib.fresh_isBuilder 133 5 w
  have hbel : Below w.heap.size w (w.alloc (.cells #[.pointer none, .slice none 0 0] 133)) := (Below.refl _ _).alloc (Nat.le_refl _) _
  go_enter Tryz.func47, Tryz.ntmps47
  go_wp2_with fail
  refine wp_loop_rounds 1 ?_
  rw [rounds_succ]
  go_wp2_with (first | (go_at_call 82; refine (Tryz.Builder_Len _ _ _ _ hbu).mono ?_; rintro e w' ⟨rfl, rfl⟩; rw [Lib.byteCells_length]) | (go_at_call 83; refine (Tryz.Builder_String_any _ _ _ _ hbu (by simp)).mono ?_; rintro e w2 ⟨rfl, hbel2⟩))
  go_ret2
  exact ⟨rfl, hbel.trans hbel2⟩

/-- Join, whatever tokens it is handed. -/
theorem Join_any (l : List Tk.Tok) (w : World) (ao : Option Addr) (cap : Nat) (hmax : l.length ≤ 4398046511104) (hA : ToksAt w ao l) :
    Calls Tryz.prog 47 #[.slice ao l.length cap] w fun e w' => e = .returned (.tuple #[.string ⟨(Tk.join l).1.toArray⟩, .int .i64 (Tk.join l).2]) ∧ Below w.heap.size w w' := by
  rcases hA with rfl | ⟨b, off, rfl, hA⟩
  · exact Join_none w ao cap
  · exact Join_some l w l.length b off cap rfl hmax hA

end Go.Proofs.YtgpaleifhcdjnaaGreatDoor

/- Package tree: words, names and terms. -/
namespace Go.Proofs.YtgpaleifhcdjnaaGreatDoor
open Go.RowKit

set_option maxRecDepth 100000 in
set_option maxHeartbeats 400000 in
theorem foldOf_any (s : List UInt8) (w : World) : Calls Tryz.prog 157 #[.string ⟨s.toArray⟩] w fun e w' => e = .returned (.int .i64 (Tr.foldOf s)) ∧ w' = w := by
  unfold Tr.foldOf
  cases h1 : (s == [99, 111, 117, 110, 116])
  · cases h2 : (s == [115, 117, 109])
    · cases h3 : (s == [108, 101, 97, 115, 116])
      · cases h4 : (s == [109, 111, 115, 116])
        · go_enter Tryz.func157, Tryz.ntmps157
          go_wp2
          go_ret
          exact ⟨rfl, rfl⟩
        · go_enter Tryz.func157, Tryz.ntmps157
          go_wp2
          go_ret
          exact ⟨rfl, rfl⟩
      · go_enter Tryz.func157, Tryz.ntmps157
        go_wp2
        go_ret
        exact ⟨rfl, rfl⟩
    · go_enter Tryz.func157, Tryz.ntmps157
      go_wp2
      go_ret
      exact ⟨rfl, rfl⟩
  · go_enter Tryz.func157, Tryz.ntmps157
    go_wp2
    go_ret
    exact ⟨rfl, rfl⟩

set_option maxRecDepth 100000 in
set_option maxHeartbeats 400000 in
theorem isWord_any (s : List UInt8) (w : World) : Calls Tryz.prog 139 #[.string ⟨s.toArray⟩] w fun e w' => e = .returned (.bool (Tr.isWord s)) ∧ w' = w := by
  unfold Tr.isWord
  cases h1 : (s == [110, 111, 116])
  · go_enter Tryz.func139, Tryz.ntmps139
    go_wp2_with (go_at_call 157; refine (foldOf_any _ _).mono ?_; rintro e w' ⟨rfl, rfl⟩)
    go_ret
    exact ⟨rfl, rfl⟩
  · go_enter Tryz.func139, Tryz.ntmps139
    go_wp2
    go_ret
    exact ⟨rfl, rfl⟩

set_option maxRecDepth 100000 in
set_option maxHeartbeats 400000 in
theorem isTest_any (n : Int) (w : World) : Calls Tryz.prog 141 #[.int .i64 n] w fun e w' => e = .returned (.bool (Tr.between n 1 4)) ∧ w' = w := by
  unfold Tr.between
  by_cases h : 1 ≤ n
  · go_enter Tryz.func141, Tryz.ntmps141
    go_wp2
    go_ret
    exact ⟨by simp [h], rfl⟩
  · have hd : decide (1 ≤ n) = false := by simpa using h
    go_enter Tryz.func141, Tryz.ntmps141
    go_wp2
    go_ret
    exact ⟨rfl, rfl⟩

set_option maxRecDepth 100000 in
set_option maxHeartbeats 400000 in
theorem isCalc_any (n : Int) (w : World) : Calls Tryz.prog 142 #[.int .i64 n] w fun e w' => e = .returned (.bool (Tr.between n 5 7)) ∧ w' = w := by
  unfold Tr.between
  by_cases h : 5 ≤ n
  · go_enter Tryz.func142, Tryz.ntmps142
    go_wp2
    go_ret
    exact ⟨by simp [h], rfl⟩
  · have hd : decide (5 ≤ n) = false := by simpa using h
    go_enter Tryz.func142, Tryz.ntmps142
    go_wp2
    go_ret
    exact ⟨rfl, rfl⟩

theorem join_one (k : Int) (s : List UInt8) : ((Tk.join [⟨k, 0, s⟩]).2 == 0) = Tk.isTok k s := by
  have e1 : Tk.allTok [⟨k, 0, s⟩] 1 = Tk.isTok k s := by simp [Tk.allTok]
  have e2 : Tk.joinTo [⟨k, 0, s⟩] 1 = s := by simp [Tk.joinTo, tokD]
  unfold Tk.join
  rw [List.length_singleton, e1, e2]
  cases h : Tk.isTok k s
  · rfl
  · have := Tk.isTok_len k s h
    rw [if_pos rfl, if_neg (by omega)]
    rfl

set_option maxRecDepth 100000 in
set_option maxHeartbeats 400000 in
theorem isToken_any (s : List UInt8) (k : Int) (w : World) : Calls Tryz.prog 138 #[.string ⟨s.toArray⟩, .int .i64 k] w fun e w' => e = .returned (.bool (Tk.isTok k s)) ∧ Below w.heap.size w w' := by
  have HJ := join_one k s
  have hA : ToksAt (w.alloc (.cells #[.int .i64 k, .int .i64 0, .string ⟨s.toArray⟩] 53)) (some ⟨w.heap.size, 0, none⟩) [⟨k, 0, s⟩] := by
    refine .inr ⟨w.heap.size, 0, rfl, fun i hi => ?_⟩
    have : i = 0 := by simpa using hi
    subst this
    exact ⟨by simp [go_sem, tokD], by simp [go_sem, tokD], by simp [go_sem, tokD]⟩
  have HC : Hid (_) := Join_any [⟨k, 0, s⟩] _ _ 1 (by simp) hA
  rw [← HJ]
  generalize Tk.join [⟨k, 0, s⟩] = J at *
  clear hA HJ
  go_enter Tryz.func138, Tryz.ntmps138
  go_wp2_with fail
  refine Calls.mono HC.out ?_
  rintro e w1 ⟨rfl, hb⟩
  go_wp2
  go_ret
  exact ⟨rfl, below_box hb⟩

set_option maxRecDepth 100000 in
set_option maxHeartbeats 400000 in
theorem isName_any (s : List UInt8) (w : World) : Calls Tryz.prog 103 #[.string ⟨s.toArray⟩] w fun e w' => e = .returned (.bool (Tr.isName s)) ∧ Below w.heap.size w w' := by
  unfold Tr.isName
  cases h1 : Tk.isTok 1 s
  · go_enter Tryz.func103, Tryz.ntmps103
    go_wp2_with fail
    refine (isToken_any s 1 w).mono ?_
    rintro e w1 ⟨he, hb⟩
    rw [h1] at he
    subst he
    go_wp2
    go_ret
    exact ⟨rfl, hb⟩
  · go_enter Tryz.func103, Tryz.ntmps103
    go_wp2_with fail
    refine (isToken_any s 1 w).mono ?_
    rintro e w1 ⟨he, hb⟩
    rw [h1] at he
    subst he
    go_wp2_with (go_at_call 139; refine (isWord_any _ _).mono ?_; rintro e w' ⟨rfl, rfl⟩)
    go_ret
    exact ⟨rfl, hb⟩

end Go.Proofs.YtgpaleifhcdjnaaGreatDoor

/- Package tree: terms that are right. -/
namespace Go.Proofs.YtgpaleifhcdjnaaGreatDoor
open Go.RowKit

set_option maxRecDepth 100000 in
set_option maxHeartbeats 400000 in
theorem termIsRight_any (t : Tr.Term) (w : World) : Calls Tryz.prog 140 #[termVal t] w fun e w' => e = .returned (.bool (Tr.termOk t)) ∧ Below w.heap.size w w' := by
  unfold Tr.termOk
  cases h1 : t.var.isEmpty
  · cases h2 : (t.n == 0)
    · go_enter Tryz.func140, Tryz.ntmps140
      go_wp2
      go_ret
      exact ⟨rfl, (Below.refl _ _).alloc (Nat.le_refl _) _⟩
    · go_enter Tryz.func140, Tryz.ntmps140
      go_wp2_with fail
      refine (isToken_any t.var 2 _).mono ?_
      rintro e w1 ⟨rfl, hb⟩
      go_wp2
      go_ret
      exact ⟨rfl, below_box hb⟩
  · unfold Tr.between
    by_cases h : -9999999 ≤ t.n
    · go_enter Tryz.func140, Tryz.ntmps140
      go_wp2
      go_ret
      exact ⟨by simp, (Below.refl _ _).alloc (Nat.le_refl _) _⟩
    · have hd : decide (-9999999 ≤ t.n) = false := by simpa using h
      go_enter Tryz.func140, Tryz.ntmps140
      go_wp2
      go_ret
      exact ⟨rfl, (Below.refl _ _).alloc (Nat.le_refl _) _⟩

set_option maxRecDepth 100000 in
set_option maxHeartbeats 400000 in
theorem termsAreRight_none (w : World) (ao : Option Addr) (cap : Nat) : Calls Tryz.prog 104 #[.slice ao 0 cap] w fun e w' => e = .returned (.bool true) ∧ Below w.heap.size w w' := by
  go_enter Tryz.func104, Tryz.ntmps104
  go_wp2_with fail
  refine wp_loop_rounds 1 ?_
  rw [rounds_succ]
  go_wp2_with fail
  go_ret
  exact ⟨rfl, Below.refl _ _⟩

set_option maxRecDepth 100000 in
set_option maxHeartbeats 400000 in
theorem termsAreRight_some (l : List Tr.Term) (w : World) (n b off cap : Nat) (hn : l.length = n) (hmax : n ≤ 140737488355328) (hA : ∀ i, i < n → TermIn w b (off + i * 2) (Tr.termD l i)) :
    Calls Tryz.prog 104 #[.slice (some ⟨b, off, none⟩) n cap] w fun e w' => e = .returned (.bool (Tr.termsOk l)) ∧ Below w.heap.size w w' := by
  have HN : Hid (l.length = n) := hn
  clear hn
  go_enter Tryz.func104, Tryz.ntmps104
  go_wp2_with fail
  go_loopw [7] (fun i wr => ∃ k : Nat, k ≤ n ∧ i = .int .i64 k ∧ Tr.termsOk l = (l.drop k).all Tr.termOk ∧ Below w.heap.size w wr) (fun i _ => n - (intOf i).toNat)
  case atStart => exact ⟨0, Nat.zero_le _, rfl, rfl, Below.refl _ _⟩
  case round =>
    obtain ⟨k, hk, rfl, hall, hbel⟩ := hrel
    have HA : Hid (Tr.termsOk l = (l.drop k).all Tr.termOk) := hall
    clear hall
    by_cases hlt : k < n
    · obtain ⟨a0, a1⟩ := hA k hlt
      have hbw : b < w.heap.size := World.block_lt_of_cell? w _ a0
      have a0' := (hbel.cell (p := ⟨b, off + k * 2, none⟩) hbw).trans a0
      have a1' := (hbel.cell (p := ⟨b, off + k * 2 + 1, none⟩) hbw).trans a1
      have HD : Hid (Tr.termsOk l = (Tr.termOk (Tr.termD l k) && (l.drop (k + 1)).all Tr.termOk)) := HA.out.trans (all_drop _ _ _ k (by rw [HN.out]; exact hlt))
      clear a0 a1 hA HA
      generalize Tr.termD l k = t at *
      cases hT : Tr.termOk t
      · have HV : Hid (Tr.termsOk l = false) := by show _ = _; rw [HD.out, hT]; rfl
        go_wp2_with fail
        refine (termIsRight_any t _).mono ?_
        rintro e w1 ⟨he, hb1⟩
        rw [hT] at he
        subst he
        have hb2 := hbel.trans ((below_box hb1).mono hbel.size)
        go_wp2_with fail
        go_ret
        exact ⟨ret_bool HV.out.symm, hb2⟩
      · have HV : Hid (Tr.termsOk l = (l.drop (k + 1)).all Tr.termOk) := by show _ = _; rw [HD.out, hT]; rfl
        go_wp2_with fail
        refine (termIsRight_any t _).mono ?_
        rintro e w1 ⟨he, hb1⟩
        rw [hT] at he
        subst he
        have hb2 := hbel.trans ((below_box hb1).mono hbel.size)
        clear hb1 hT HD
        go_wp2_with fail
        go_roundw
        case rel => exact ⟨k + 1, by omega, by go_num, HV.out, hb2⟩
        case measure => simp [intOf]; omega
    · have HV : Hid (Tr.termsOk l = true) := by show _ = _; rw [HA.out, List.drop_of_length_le (by rw [HN.out]; omega)]; rfl
      clear hA
      go_wp2_with fail
      go_ret
      exact ⟨ret_bool HV.out.symm, hbel⟩

theorem termsAreRight_any (l : List Tr.Term) (v : Value) (w : World) (hmax : l.length ≤ 140737488355328) (hA : TermsV w v l) :
    Calls Tryz.prog 104 #[v] w fun e w' => e = .returned (.bool (Tr.termsOk l)) ∧ Below w.heap.size w w' := by
  obtain ⟨ao, cap, rfl, hA⟩ := hA
  rcases hA with rfl | ⟨b, off, rfl, hA⟩
  · exact termsAreRight_none w ao cap
  · exact termsAreRight_some l w l.length b off cap rfl hmax hA

end Go.Proofs.YtgpaleifhcdjnaaGreatDoor

/- Package tree: literals and rules that are right. -/
namespace Go.Proofs.YtgpaleifhcdjnaaGreatDoor
open Go.RowKit

abbrev litObj (x : Tr.Lit) (v : Value) : Obj := .cells #[.int .i64 x.kind, .int .i64 x.at_, .int .i64 x.op, .string ⟨x.name.toArray⟩, v] 61
abbrev ruleObj (r : Tr.Rule) (v u : Value) : Obj := .cells #[.int .i64 r.at_, .string ⟨r.name.toArray⟩, v, .int .i64 r.fold, u] 57

theorem litBox {w w1 : World} {x : Tr.Lit} {v : Value} (hb : Below (w.alloc (litObj x v)).heap.size (w.alloc (litObj x v)) w1) :
    w1.cell? ⟨w.heap.size, 0, none⟩ = some (.int .i64 x.kind) ∧ w1.cell? ⟨w.heap.size, 1, none⟩ = some (.int .i64 x.at_) ∧ w1.cell? ⟨w.heap.size, 2, none⟩ = some (.int .i64 x.op) ∧
    w1.cell? ⟨w.heap.size, 3, none⟩ = some (.string ⟨x.name.toArray⟩) ∧ w1.cell? ⟨w.heap.size, 4, none⟩ = some v := by
  obtain ⟨hc, hf⟩ := bcell hb
  have h : w.heap.size < (w.alloc (litObj x v)).heap.size := by simp
  refine ⟨?_, ?_, ?_, ?_, ?_⟩
  · rw [hc _ _ h]; simp [go_sem]
  · rw [hc _ _ h]; simp [go_sem]
  · rw [hc _ _ h]; simp [go_sem]
  · rw [hc _ _ h]; simp [go_sem]
  · rw [hc _ _ h]; simp [go_sem]
theorem ruleBox {w w1 : World} {r : Tr.Rule} {v u : Value} (hb : Below (w.alloc (ruleObj r v u)).heap.size (w.alloc (ruleObj r v u)) w1) :
    w1.cell? ⟨w.heap.size, 0, none⟩ = some (.int .i64 r.at_) ∧ w1.cell? ⟨w.heap.size, 1, none⟩ = some (.string ⟨r.name.toArray⟩) ∧ w1.cell? ⟨w.heap.size, 2, none⟩ = some v ∧
    w1.cell? ⟨w.heap.size, 3, none⟩ = some (.int .i64 r.fold) ∧ w1.cell? ⟨w.heap.size, 4, none⟩ = some u := by
  obtain ⟨hc, hf⟩ := bcell hb
  have h : w.heap.size < (w.alloc (ruleObj r v u)).heap.size := by simp
  refine ⟨?_, ?_, ?_, ?_, ?_⟩
  · rw [hc _ _ h]; simp [go_sem]
  · rw [hc _ _ h]; simp [go_sem]
  · rw [hc _ _ h]; simp [go_sem]
  · rw [hc _ _ h]; simp [go_sem]
  · rw [hc _ _ h]; simp [go_sem]
theorem below_alloc (w : World) (o : Obj) : Below w.heap.size w (w.alloc o) := (Below.refl _ _).alloc (Nat.le_refl _) _

set_option maxRecDepth 100000 in
set_option maxHeartbeats 1000000 in
theorem litIsRight_any (x : Tr.Lit) (v : Value) (w : World) (hmax : x.terms.length ≤ 140737488355328) (hA : TermsV w v x.terms) :
    Calls Tryz.prog 106 #[litVal x v] w fun e w' => e = .returned (.bool (Tr.litOk x)) ∧ Below w.heap.size w w' := by
  have HC : Hid (_) := termsAreRight_any x.terms v (w.alloc (litObj x v)) hmax (termsV_below hA (below_alloc _ _))
  obtain ⟨ao, cap, rfl, _⟩ := hA
  have HV : Hid (Tr.litOk x = (Tr.termsOk x.terms && (if x.kind = 1 ∨ x.kind = 2 then (x.op == 0) && Tr.isName x.name
    else if x.kind = 3 then Tr.between x.op 1 4 && x.name.isEmpty && ((x.terms.length : Int) == 2)
    else if x.kind = 4 then Tr.between x.op 5 7 && x.name.isEmpty && ((x.terms.length : Int) == 3) else false))) := rfl
  generalize Tr.litOk x = V at *
  cases hT : Tr.termsOk x.terms
  · have HF : Hid (V = false) := by show _ = _; rw [HV.out, hT]; rfl
    clear HV
    go_enter Tryz.func106, Tryz.ntmps106
    go_wp2_with fail
    refine Calls.mono HC.out ?_
    rintro e w1 ⟨he, hb⟩
    rw [hT] at he
    subst he
    go_wp2_with fail
    go_ret
    exact ⟨ret_bool HF.out.symm, below_box hb⟩
  · rw [hT, Bool.true_and] at HV
    by_cases k12 : x.kind = 1 ∨ x.kind = 2
    · rw [if_pos k12] at HV
      cases g0 : (x.op == 0)
      · have HF : Hid (V = false) := by show _ = _; rw [HV.out, g0]; rfl
        clear HV
        rcases k12 with k1 | k2
        · have t1 : (x.kind == 1) = true := beq_iff_eq.2 k1
          clear k1
          go_enter Tryz.func106, Tryz.ntmps106
          go_wp2_with fail
          refine Calls.mono HC.out ?_
          rintro e w1 ⟨he, hb⟩
          rw [hT] at he
          subst he
          obtain ⟨c0, c1, c2, c3, c4⟩ := litBox hb
          go_wp2_with fail
          go_ret
          exact ⟨ret_bool HF.out.symm, below_box hb⟩
        · have t1 : (x.kind == 1) = false := beq_eq_false_iff_ne.2 (by omega)
          have t2 : (x.kind == 2) = true := beq_iff_eq.2 k2
          clear k2
          go_enter Tryz.func106, Tryz.ntmps106
          go_wp2_with fail
          refine Calls.mono HC.out ?_
          rintro e w1 ⟨he, hb⟩
          rw [hT] at he
          subst he
          obtain ⟨c0, c1, c2, c3, c4⟩ := litBox hb
          go_wp2_with fail
          go_ret
          exact ⟨ret_bool HF.out.symm, below_box hb⟩
      · have HF : Hid (V = Tr.isName x.name) := by show _ = _; rw [HV.out, g0]; rfl
        clear HV
        rcases k12 with k1 | k2
        · have t1 : (x.kind == 1) = true := beq_iff_eq.2 k1
          clear k1
          go_enter Tryz.func106, Tryz.ntmps106
          go_wp2_with fail
          refine Calls.mono HC.out ?_
          rintro e w1 ⟨he, hb⟩
          rw [hT] at he
          subst he
          obtain ⟨c0, c1, c2, c3, c4⟩ := litBox hb
          go_wp2_with fail
          refine (isName_any x.name _).mono ?_
          rintro e w2 ⟨rfl, hb2⟩
          go_wp2_with fail
          go_ret
          exact ⟨ret_bool HF.out.symm, (below_box hb).trans (hb2.mono (below_box hb).size)⟩
        · have t1 : (x.kind == 1) = false := beq_eq_false_iff_ne.2 (by omega)
          have t2 : (x.kind == 2) = true := beq_iff_eq.2 k2
          clear k2
          go_enter Tryz.func106, Tryz.ntmps106
          go_wp2_with fail
          refine Calls.mono HC.out ?_
          rintro e w1 ⟨he, hb⟩
          rw [hT] at he
          subst he
          obtain ⟨c0, c1, c2, c3, c4⟩ := litBox hb
          go_wp2_with fail
          refine (isName_any x.name _).mono ?_
          rintro e w2 ⟨rfl, hb2⟩
          go_wp2_with fail
          go_ret
          exact ⟨ret_bool HF.out.symm, (below_box hb).trans (hb2.mono (below_box hb).size)⟩
    · rw [if_neg k12] at HV
      have t1 : (x.kind == 1) = false := beq_eq_false_iff_ne.2 (fun h => k12 (.inl h))
      have t2 : (x.kind == 2) = false := beq_eq_false_iff_ne.2 (fun h => k12 (.inr h))
      clear k12
      by_cases k3 : x.kind = 3
      · rw [if_pos k3] at HV
        have t3 : (x.kind == 3) = true := beq_iff_eq.2 k3
        clear k3
        cases g0 : Tr.between x.op 1 4
        · have HF : Hid (V = false) := by show _ = _; rw [HV.out, g0]; rfl
          clear HV
          go_enter Tryz.func106, Tryz.ntmps106
          go_wp2_with fail
          refine Calls.mono HC.out ?_
          rintro e w1 ⟨he, hb⟩
          rw [hT] at he
          subst he
          obtain ⟨c0, c1, c2, c3, c4⟩ := litBox hb
          go_wp2_with (go_at_call 141; refine (isTest_any _ _).mono ?_; rintro e w' ⟨rfl, rfl⟩)
          go_ret
          exact ⟨ret_bool HF.out.symm, below_box hb⟩
        · cases g1 : x.name.isEmpty
          · have HF : Hid (V = false) := by show _ = _; rw [HV.out, g1]; simp
            clear HV
            go_enter Tryz.func106, Tryz.ntmps106
            go_wp2_with fail
            refine Calls.mono HC.out ?_
            rintro e w1 ⟨he, hb⟩
            rw [hT] at he
            subst he
            obtain ⟨c0, c1, c2, c3, c4⟩ := litBox hb
            go_wp2_with (go_at_call 141; refine (isTest_any _ _).mono ?_; rintro e w' ⟨rfl, rfl⟩)
            go_ret
            exact ⟨ret_bool HF.out.symm, below_box hb⟩
          · have HF : Hid (V = ((x.terms.length : Int) == 2)) := by show _ = _; rw [HV.out, g0, g1]; rfl
            clear HV
            go_enter Tryz.func106, Tryz.ntmps106
            go_wp2_with fail
            refine Calls.mono HC.out ?_
            rintro e w1 ⟨he, hb⟩
            rw [hT] at he
            subst he
            obtain ⟨c0, c1, c2, c3, c4⟩ := litBox hb
            go_wp2_with (go_at_call 141; refine (isTest_any _ _).mono ?_; rintro e w' ⟨rfl, rfl⟩)
            go_ret
            exact ⟨ret_bool HF.out.symm, below_box hb⟩
      · rw [if_neg k3] at HV
        have t3 : (x.kind == 3) = false := beq_eq_false_iff_ne.2 k3
        clear k3
        by_cases k4 : x.kind = 4
        · rw [if_pos k4] at HV
          have t4 : (x.kind == 4) = true := beq_iff_eq.2 k4
          clear k4
          cases g0 : Tr.between x.op 5 7
          · have HF : Hid (V = false) := by show _ = _; rw [HV.out, g0]; rfl
            clear HV
            go_enter Tryz.func106, Tryz.ntmps106
            go_wp2_with fail
            refine Calls.mono HC.out ?_
            rintro e w1 ⟨he, hb⟩
            rw [hT] at he
            subst he
            obtain ⟨c0, c1, c2, c3, c4⟩ := litBox hb
            go_wp2_with (go_at_call 142; refine (isCalc_any _ _).mono ?_; rintro e w' ⟨rfl, rfl⟩)
            go_ret
            exact ⟨ret_bool HF.out.symm, below_box hb⟩
          · cases g1 : x.name.isEmpty
            · have HF : Hid (V = false) := by show _ = _; rw [HV.out, g1]; simp
              clear HV
              go_enter Tryz.func106, Tryz.ntmps106
              go_wp2_with fail
              refine Calls.mono HC.out ?_
              rintro e w1 ⟨he, hb⟩
              rw [hT] at he
              subst he
              obtain ⟨c0, c1, c2, c3, c4⟩ := litBox hb
              go_wp2_with (go_at_call 142; refine (isCalc_any _ _).mono ?_; rintro e w' ⟨rfl, rfl⟩)
              go_ret
              exact ⟨ret_bool HF.out.symm, below_box hb⟩
            · have HF : Hid (V = ((x.terms.length : Int) == 3)) := by show _ = _; rw [HV.out, g0, g1]; rfl
              clear HV
              go_enter Tryz.func106, Tryz.ntmps106
              go_wp2_with fail
              refine Calls.mono HC.out ?_
              rintro e w1 ⟨he, hb⟩
              rw [hT] at he
              subst he
              obtain ⟨c0, c1, c2, c3, c4⟩ := litBox hb
              go_wp2_with (go_at_call 142; refine (isCalc_any _ _).mono ?_; rintro e w' ⟨rfl, rfl⟩)
              go_ret
              exact ⟨ret_bool HF.out.symm, below_box hb⟩
        · rw [if_neg k4] at HV
          have t4 : (x.kind == 4) = false := beq_eq_false_iff_ne.2 k4
          have HF : Hid (V = false) := HV.out
          clear k4 HV
          go_enter Tryz.func106, Tryz.ntmps106
          go_wp2_with fail
          refine Calls.mono HC.out ?_
          rintro e w1 ⟨he, hb⟩
          rw [hT] at he
          subst he
          obtain ⟨c0, c1, c2, c3, c4⟩ := litBox hb
          go_wp2_with fail
          go_ret
          exact ⟨ret_bool HF.out.symm, below_box hb⟩

set_option maxRecDepth 100000 in
set_option maxHeartbeats 1000000 in
theorem foldIsRight_any (r : Tr.Rule) (ao bo : Option Addr) (ca cb : Nat) (w : World) :
    Calls Tryz.prog 105 #[ruleVal r (.slice ao r.terms.length ca) (.slice bo r.body.length cb)] w fun e w' => e = .returned (.bool (Tr.foldOk r.fold r.terms.length r.body.length)) ∧ Below w.heap.size w w' := by
  have HV : Hid (Tr.foldOk r.fold r.terms.length r.body.length = ((r.fold == 0) || (decide (1 ≤ r.fold) && decide (r.fold ≤ 4) && decide (0 < r.terms.length) && decide (0 < r.body.length)))) := rfl
  generalize Tr.foldOk r.fold r.terms.length r.body.length = V at *
  cases g0 : (r.fold == 0)
  · cases g1 : decide (1 ≤ r.fold)
    · have HF : Hid (V = false) := by show _ = _; rw [HV.out, g0, g1]; rfl
      clear HV
      go_enter Tryz.func105, Tryz.ntmps105
      go_wp2
      go_ret
      exact ⟨ret_bool HF.out.symm, below_alloc _ _⟩
    · cases g2 : decide (r.fold ≤ 4)
      · have HF : Hid (V = false) := by show _ = _; rw [HV.out, g0, g1, g2]; rfl
        clear HV
        go_enter Tryz.func105, Tryz.ntmps105
        go_wp2
        go_ret
        exact ⟨ret_bool HF.out.symm, below_alloc _ _⟩
      · cases g3 : decide (0 < r.terms.length)
        · have HF : Hid (V = false) := by show _ = _; rw [HV.out, g0, g1, g2, g3]; rfl
          clear HV
          go_enter Tryz.func105, Tryz.ntmps105
          go_wp2
          go_ret
          exact ⟨ret_bool HF.out.symm, below_alloc _ _⟩
        · have HF : Hid (V = decide (0 < r.body.length)) := by show _ = _; rw [HV.out, g0, g1, g2, g3]; rfl
          clear HV
          go_enter Tryz.func105, Tryz.ntmps105
          go_wp2
          go_ret
          exact ⟨ret_bool (by rw [HF.out]), below_alloc _ _⟩
  · have HF : Hid (V = true) := by show _ = _; rw [HV.out, g0]; rfl
    clear HV
    go_enter Tryz.func105, Tryz.ntmps105
    go_wp2
    go_ret
    exact ⟨ret_bool HF.out.symm, below_alloc _ _⟩

end Go.Proofs.YtgpaleifhcdjnaaGreatDoor

/- Package tree: rules, and what is too many. -/
namespace Go.Proofs.YtgpaleifhcdjnaaGreatDoor
open Go.RowKit

/-- Terms of literals are not too many to count. -/
def Fits (l : List Tr.Lit) : Prop := ∀ i, i < l.length → (Tr.litD l i).terms.length ≤ 140737488355328

set_option maxRecDepth 100000 in
set_option maxHeartbeats 2000000 in
theorem ruleIsRight_any (r : Tr.Rule) (v u : Value) (w : World) (hm1 : r.terms.length ≤ 140737488355328) (hm2 : r.body.length ≤ 140737488355328) (hm3 : Fits r.body) (hA : TermsV w v r.terms) (hB : LitsV w u r.body) :
    Calls Tryz.prog 74 #[ruleVal r v u] w fun e w' => e = .returned (.bool (Tr.ruleOk r)) ∧ Below w.heap.size w w' := by
  have hA0 := termsV_below hA (below_alloc w (ruleObj r v u))
  have hB0 := litsV_below hB (below_alloc w (ruleObj r v u))
  obtain ⟨ao, ca, rfl, _⟩ := hA
  obtain ⟨bo, cb, rfl, _⟩ := hB
  have HV : Hid (Tr.ruleOk r = (Tr.isName r.name && Tr.termsOk r.terms && Tr.foldOk r.fold r.terms.length r.body.length && Tr.litsOk r.body)) := rfl
  generalize Tr.ruleOk r = V at *
  go_enter Tryz.func74, Tryz.ntmps74
  go_wp2_with fail
  refine (isName_any r.name _).mono ?_
  rintro e w1 ⟨he, hb1⟩
  have hbel1 : Below w.heap.size w w1 := below_box hb1
  obtain ⟨c0, c1, c2, c3, c4⟩ := ruleBox hb1
  have hA1 := termsV_below hA0 hb1
  have hB1 := litsV_below hB0 hb1
  cases g1 : Tr.isName r.name
  · have HF : Hid (V = false) := by show _ = _; rw [HV.out, g1]; rfl
    rw [g1] at he
    subst he
    clear HV hA0 hB0 hA1 hB1
    go_wp2_with fail
    go_ret
    exact ⟨ret_bool HF.out.symm, hbel1⟩
  · rw [g1] at he
    subst he
    go_wp2_with fail
    refine (termsAreRight_any r.terms _ _ hm1 hA1).mono ?_
    rintro e w2 ⟨he, hb2⟩
    have hbel2 := hbel1.trans (hb2.mono hbel1.size)
    have hB2 := litsV_below hB1 hb2
    have c0 := cell_below hb2 c0
    have c1 := cell_below hb2 c1
    have c2 := cell_below hb2 c2
    have c3 := cell_below hb2 c3
    have c4 := cell_below hb2 c4
    clear hA0 hB0 hA1 hB1
    cases g2 : Tr.termsOk r.terms
    · have HF : Hid (V = false) := by show _ = _; rw [HV.out, g2]; simp
      rw [g2] at he
      subst he
      go_wp2_with fail
      go_ret
      exact ⟨ret_bool HF.out.symm, hbel2⟩
    · rw [g2] at he
      subst he
      go_wp2_with fail
      refine (foldIsRight_any r ao bo ca cb _).mono ?_
      rintro e w3 ⟨he, hb3⟩
      have hbel3 := hbel2.trans (hb3.mono hbel2.size)
      have hB3 := litsV_below hB2 hb3
      have c4 := cell_below hb3 c4
      cases g3 : Tr.foldOk r.fold r.terms.length r.body.length
      · have HF : Hid (V = false) := by show _ = _; rw [HV.out, g3]; simp
        rw [g3] at he
        subst he
        go_wp2_with fail
        go_ret
        exact ⟨ret_bool HF.out.symm, hbel3⟩
      · rw [g3] at he
        subst he
        have HW : Hid (V = Tr.litsOk r.body) := by show _ = _; rw [HV.out, g1, g2, g3]; rfl
        clear HV g1 g2 g3 hb1 hb2 hb3 hB2 hbel1 hbel2
        go_wp2_with fail
        go_loopw [23] (fun i wr => ∃ k : Nat, k ≤ r.body.length ∧ i = .int .i64 k ∧ Tr.litsOk r.body = (r.body.drop k).all Tr.litOk ∧ Below w3.heap.size w3 wr) (fun i _ => r.body.length - (intOf i).toNat)
        case atStart => exact ⟨0, Nat.zero_le _, rfl, rfl, Below.refl _ _⟩
        case round =>
          obtain ⟨k, hk, rfl, hall, hbelr⟩ := hrel
          have HA : Hid (Tr.litsOk r.body = (r.body.drop k).all Tr.litOk) := hall
          clear hall
          by_cases hlt : k < r.body.length
          · obtain ⟨bo', cb', hv, hL⟩ := litsV_below hB3 hbelr
            rcases hL with h | ⟨b, off, rfl, hc⟩
            · rw [h] at hlt; exact absurd hlt (by simp)
            injection hv with e1 _ e3
            subst e1 e3
            obtain ⟨a0, a1, a2, a3, v4, a4, hT⟩ := hc k hlt
            have HD : Hid (Tr.litsOk r.body = (Tr.litOk (Tr.litD r.body k) && (r.body.drop (k + 1)).all Tr.litOk)) := HA.out.trans (all_drop _ _ _ k hlt)
            have hfit := hm3 k hlt
            clear hc HA hB3
            generalize Tr.litD r.body k = x at *
            have HC : Hid (_) := litIsRight_any x v4 (wr.alloc (litObj x v4)) hfit (termsV_below hT (below_alloc _ _))
            obtain ⟨ao4, ca4, rfl, _⟩ := hT
            cases g : Tr.litOk x
            · have HF : Hid (V = false) := by show _ = _; rw [HW.out, HD.out, g]; rfl
              clear HD HW
              go_wp2_with fail
              refine Calls.mono HC.out ?_
              rintro e w4 ⟨he, hb4⟩
              rw [g] at he
              subst he
              have hbel4 := hbel3.trans ((hbelr.trans ((below_box hb4).mono hbelr.size)).mono hbel3.size)
              go_wp2_with fail
              go_ret
              exact ⟨ret_bool HF.out.symm, hbel4⟩
            · have HN : Hid (Tr.litsOk r.body = (r.body.drop (k + 1)).all Tr.litOk) := by show _ = _; rw [HD.out, g]; rfl
              clear HD
              go_wp2_with fail
              refine Calls.mono HC.out ?_
              rintro e w4 ⟨he, hb4⟩
              rw [g] at he
              subst he
              have hbel4 := hbelr.trans ((below_box hb4).mono hbelr.size)
              clear hb4 HC g a0 a1 a2 a3 a4
              go_wp2_with fail
              go_roundw
              case rel => exact ⟨k + 1, by omega, by go_num, HN.out, hbel4⟩
              case measure => simp [intOf]; omega
          · have HF : Hid (V = true) := by show _ = _; rw [HW.out, HA.out, List.drop_of_length_le (by omega)]; rfl
            have hbel4 := hbel3.trans (hbelr.mono hbel3.size)
            clear hB3 HA
            go_wp2_with fail
            go_ret
            exact ⟨ret_bool HF.out.symm, hbel4⟩

end Go.Proofs.YtgpaleifhcdjnaaGreatDoor

/- Package tree: Check. -/
namespace Go.Proofs.YtgpaleifhcdjnaaGreatDoor
open Go.RowKit

abbrev treeVal (v : Value) : Value := .agg #[v]

set_option maxRecDepth 100000 in
set_option maxHeartbeats 2000000 in
theorem tooMany_any (l : List Tr.Rule) (v : Value) (w : World) (hA : RulesV w v l) :
    Calls Tryz.prog 73 #[treeVal v] w fun e w' => e = .returned (.bool (Tr.many l)) ∧ Below w.heap.size w w' := by
  have hA0 := rulesV_below hA (below_alloc w (.cells #[v] 36))
  have hbel0 := below_alloc w (.cells #[v] 36)
  obtain ⟨ao, ca, rfl, _⟩ := hA
  by_cases h12 : 12 < l.length
  · have HF : Hid (Tr.many l = true) := by show _ = _; unfold Tr.many; rw [decide_eq_true h12]; rfl
    go_enter Tryz.func73, Tryz.ntmps73
    go_wp2_with fail
    go_ret
    exact ⟨ret_bool HF.out.symm, hbel0⟩
  · have HV : Hid (Tr.many l = l.any Tr.ruleMany) := by show _ = _; unfold Tr.many; rw [decide_eq_false h12]; rfl
    go_enter Tryz.func73, Tryz.ntmps73
    go_wp2_with fail
    generalize (w.alloc (.cells #[.slice ao l.length ca] 36)) = w0 at *
    go_loopw [14] (fun i wr => ∃ k : Nat, k ≤ l.length ∧ i = .int .i64 k ∧ Tr.many l = (l.drop k).any Tr.ruleMany ∧ Below w0.heap.size w0 wr) (fun i _ => l.length - (intOf i).toNat)
    case atStart => exact ⟨0, Nat.zero_le _, rfl, HV.out, Below.refl _ _⟩
    case round =>
      obtain ⟨k, hk, rfl, hany, hbelr⟩ := hrel
      have HA : Hid (Tr.many l = (l.drop k).any Tr.ruleMany) := hany
      clear hany HV
      by_cases hlt : k < l.length
      · obtain ⟨ao', ca', hv, hR⟩ := rulesV_below hA0 hbelr
        rcases hR with h | ⟨b, off, rfl, hc⟩
        · rw [h] at hlt; exact absurd hlt (by simp)
        injection hv with e1 _ e3
        subst e1 e3
        obtain ⟨a0, a1, ⟨v2, a2, hT⟩, a3, v4, a4, hL⟩ := hc k hlt
        have HD : Hid (Tr.many l = (Tr.ruleMany (Tr.ruleD l k) || (l.drop (k + 1)).any Tr.ruleMany)) := HA.out.trans (any_drop _ _ _ k hlt)
        clear hc HA
        generalize Tr.ruleD l k = r at *
        have hL0 := litsV_below hL (below_alloc wr (ruleObj r v2 v4))
        have hbel1 : Below w.heap.size w (wr.alloc (ruleObj r v2 v4)) := (hbel0.trans (hbelr.mono hbel0.size)).trans ((below_alloc wr _).mono (hbel0.trans (hbelr.mono hbel0.size)).size)
        have hbelr1 : Below w0.heap.size w0 (wr.alloc (ruleObj r v2 v4)) := hbelr.trans ((below_alloc wr _).mono hbelr.size)
        obtain ⟨ao2, ca2, rfl, _⟩ := hT
        obtain ⟨ao4, ca4, rfl, _⟩ := hL
        by_cases h4 : 4 < r.body.length
        rotate_left
        · have g1 : decide ((4 : Int) < (r.body.length : Int)) = false := decide_eq_false (by omega)
          by_cases h3 : 3 < r.terms.length
          rotate_left
          · have g2 : decide ((3 : Int) < (r.terms.length : Int)) = false := decide_eq_false (by omega)
            have HM : Hid (Tr.ruleMany r = Tr.litsMany r.body) := by show _ = _; unfold Tr.ruleMany; rw [decide_eq_false h4, decide_eq_false h3]; rfl
            go_wp2_with fail
            generalize (wr.alloc (ruleObj r (.slice ao2 r.terms.length ca2) (.slice ao4 r.body.length ca4))) = w1 at *
            go_loopw [31] (fun i wq => ∃ j : Nat, j ≤ r.body.length ∧ i = .int .i64 j ∧ Tr.litsMany r.body = (r.body.drop j).any (fun x => decide (3 < x.terms.length)) ∧ Below w1.heap.size w1 wq) (fun i _ => r.body.length - (intOf i).toNat)
            case atStart => exact ⟨0, Nat.zero_le _, rfl, rfl, Below.refl _ _⟩
            case round =>
              obtain ⟨j, hj, rfl, hany, hbelq⟩ := hrel
              have HB : Hid (Tr.litsMany r.body = (r.body.drop j).any (fun x => decide (3 < x.terms.length))) := hany
              clear hany
              by_cases hltj : j < r.body.length
              · obtain ⟨bo', cb', hv, hL⟩ := litsV_below hL0 hbelq
                rcases hL with h | ⟨b2, off2, rfl, hc⟩
                · rw [h] at hltj; exact absurd hltj (by simp)
                injection hv with e1 _ e3
                subst e1 e3
                obtain ⟨q0, q1, q2, q3, u4, q4, hT⟩ := hc j hltj
                have HE : Hid (Tr.litsMany r.body = (decide (3 < (Tr.litD r.body j).terms.length) || (r.body.drop (j + 1)).any (fun x => decide (3 < x.terms.length)))) := HB.out.trans (any_drop _ _ _ j hltj)
                clear hc HB hL0 hA0
                generalize Tr.litD r.body j = x at *
                obtain ⟨ao5, ca5, rfl, _⟩ := hT
                by_cases hx : 3 < x.terms.length
                rotate_left
                · have g : decide ((3 : Int) < (x.terms.length : Int)) = false := decide_eq_false (by omega)
                  have HN : Hid (Tr.litsMany r.body = (r.body.drop (j + 1)).any (fun x => decide (3 < x.terms.length))) := by show _ = _; rw [HE.out, decide_eq_false hx]; rfl
                  have hbq := hbelq.trans ((below_alloc _ (litObj x (.slice ao5 x.terms.length ca5))).mono hbelq.size)
                  clear HE
                  go_wp2_with fail
                  go_roundw
                  case rel => exact ⟨j + 1, by omega, by go_num, HN.out, hbq⟩
                  case measure => simp [intOf]; omega
                · have g : decide ((3 : Int) < (x.terms.length : Int)) = true := decide_eq_true (by omega)
                  have HF : Hid (Tr.many l = true) := by show _ = _; rw [HD.out, HM.out, HE.out, decide_eq_true hx]; rfl
                  have hbq := hbel1.trans ((hbelq.trans ((below_alloc _ (litObj x (.slice ao5 x.terms.length ca5))).mono hbelq.size)).mono hbel1.size)
                  clear HE HD HM
                  go_wp2_with fail
                  go_ret
                  exact ⟨ret_bool HF.out.symm, hbq⟩
              · have HN : Hid (Tr.many l = (l.drop (k + 1)).any Tr.ruleMany) := by
                  show _ = _
                  rw [HD.out, HM.out, HB.out, List.drop_of_length_le (by omega)]
                  rfl
                have hbq := hbelr1.trans (hbelq.mono hbelr1.size)
                clear HB HD HM hL0 hA0
                go_wp2_with fail
                go_roundw
                case rel => exact ⟨k + 1, by omega, by go_num, HN.out, hbq⟩
                case measure => simp [intOf]; omega
          · have g2 : decide ((3 : Int) < (r.terms.length : Int)) = true := decide_eq_true (by omega)
            have HF : Hid (Tr.many l = true) := by show _ = _; rw [HD.out]; unfold Tr.ruleMany; rw [decide_eq_true h3]; simp
            clear HD hA0 hL0
            go_wp2_with fail
            go_ret
            exact ⟨ret_bool HF.out.symm, hbel1⟩
        · have g1 : decide ((4 : Int) < (r.body.length : Int)) = true := decide_eq_true (by omega)
          have HF : Hid (Tr.many l = true) := by show _ = _; rw [HD.out]; unfold Tr.ruleMany; rw [decide_eq_true h4]; simp
          clear HD hA0 hL0
          go_wp2_with fail
          go_ret
          exact ⟨ret_bool HF.out.symm, hbel1⟩
      · have HF : Hid (Tr.many l = false) := by show _ = _; rw [HA.out, List.drop_of_length_le (by omega)]; rfl
        have hbq := hbel0.trans (hbelr.mono hbel0.size)
        clear hA0 HA
        go_wp2_with fail
        go_ret
        exact ⟨ret_bool HF.out.symm, hbq⟩

theorem ruleMany_no {r : Tr.Rule} (h : Tr.ruleMany r = false) : r.terms.length ≤ 3 ∧ r.body.length ≤ 4 ∧ Fits r.body := by
  unfold Tr.ruleMany at h
  simp only [Bool.or_eq_false_iff, decide_eq_false_iff_not] at h
  refine ⟨by omega, by omega, fun i hi => ?_⟩
  have hx := h.2
  unfold Tr.litsMany at hx
  rw [List.any_eq_false] at hx
  have e : Tr.litD r.body i = r.body[i] := by rw [Tr.litD, List.getD_eq_getElem?_getD, List.getElem?_eq_getElem hi]; rfl
  have := hx _ (List.getElem_mem hi)
  rw [e]
  simp at this
  omega

set_option maxRecDepth 100000 in
set_option maxHeartbeats 2000000 in
theorem Check_any (l : List Tr.Rule) (v : Value) (w : World) (hA : RulesV w v l) :
    Calls Tryz.prog 41 #[treeVal v] w fun e w' => e = .returned (.int .i64 (Tr.check l)) ∧ Below w.heap.size w w' := by
  have hA0 := rulesV_below hA (below_alloc w (.cells #[v] 36))
  have hbel0 := below_alloc w (.cells #[v] 36)
  have HT : Hid (_) := tooMany_any l v (w.alloc (.cells #[v] 36)) hA0
  obtain ⟨ao, ca, rfl, _⟩ := hA
  go_enter Tryz.func41, Tryz.ntmps41
  go_wp2_with fail
  refine Calls.mono HT.out ?_
  rintro e w1 ⟨he, hb1⟩
  have hbel1 := hbel0.trans (hb1.mono hbel0.size)
  have hA1 := rulesV_below hA0 hb1
  have c0 : w1.cell? ⟨w.heap.size, 0, none⟩ = some (.slice ao l.length ca) := cell_below hb1 (by simp [go_sem])
  clear HT hA0 hb1 hbel0
  cases gm : Tr.many l
  · rw [gm] at he
    subst he
    have hl12 : l.length ≤ 12 := by
      unfold Tr.many at gm
      simp only [Bool.or_eq_false_iff, decide_eq_false_iff_not] at gm
      omega
    have hMany : ∀ k, k < l.length → Tr.ruleMany (Tr.ruleD l k) = false := fun k hk => by
      unfold Tr.many at gm
      simp only [Bool.or_eq_false_iff] at gm
      have e : Tr.ruleD l k = l[k] := by rw [Tr.ruleD, List.getD_eq_getElem?_getD, List.getElem?_eq_getElem hk]; rfl
      rw [e]
      have := List.any_eq_false.1 gm.2 _ (List.getElem_mem hk)
      simpa using this
    have HM : Hid (∀ k, k < l.length → Tr.ruleMany (Tr.ruleD l k) = false) := hMany
    have HV : Hid (Tr.check l = if l.all Tr.ruleOk then 0 else 1) := by show _ = _; unfold Tr.check; rw [gm]; rfl
    clear hMany gm
    go_wp2_with fail
    go_loopw [10] (fun i wr => ∃ k : Nat, k ≤ l.length ∧ i = .int .i64 k ∧ l.all Tr.ruleOk = (l.drop k).all Tr.ruleOk ∧ Below w1.heap.size w1 wr) (fun i _ => l.length - (intOf i).toNat)
    case atStart => exact ⟨0, Nat.zero_le _, rfl, rfl, Below.refl _ _⟩
    case round =>
      obtain ⟨k, hk, rfl, hall, hbelr⟩ := hrel
      have HA : Hid (l.all Tr.ruleOk = (l.drop k).all Tr.ruleOk) := hall
      clear hall
      by_cases hlt : k < l.length
      · obtain ⟨ao', ca', hv, hR⟩ := rulesV_below hA1 hbelr
        rcases hR with h | ⟨b, off, rfl, hc⟩
        · rw [h] at hlt; exact absurd hlt (by simp)
        injection hv with e1 _ e3
        subst e1 e3
        obtain ⟨a0, a1, ⟨v2, a2, hT⟩, a3, v4, a4, hL⟩ := hc k hlt
        have HD : Hid (l.all Tr.ruleOk = (Tr.ruleOk (Tr.ruleD l k) && (l.drop (k + 1)).all Tr.ruleOk)) := HA.out.trans (all_drop _ _ _ k hlt)
        obtain ⟨f1, f2, f3⟩ := ruleMany_no (HM.out k hlt)
        clear hc HA hA1
        generalize Tr.ruleD l k = r at *
        have HC : Hid (_) := ruleIsRight_any r v2 v4 (wr.alloc (ruleObj r v2 v4)) (by omega) (by omega) f3 (termsV_below hT (below_alloc _ _)) (litsV_below hL (below_alloc _ _))
        obtain ⟨ao2, ca2, rfl, _⟩ := hT
        obtain ⟨ao4, ca4, rfl, _⟩ := hL
        clear f3
        cases g : Tr.ruleOk r
        · have HF : Hid (Tr.check l = 1) := by show _ = _; rw [HV.out, HD.out, g]; rfl
          clear HD HV
          go_wp2_with fail
          refine Calls.mono HC.out ?_
          rintro e w4 ⟨he, hb4⟩
          rw [g] at he
          subst he
          have hbel4 := hbel1.trans ((hbelr.trans ((below_box hb4).mono hbelr.size)).mono hbel1.size)
          go_wp2_with fail
          go_ret
          exact ⟨ret_int HF.out.symm, hbel4⟩
        · have HN : Hid (l.all Tr.ruleOk = (l.drop (k + 1)).all Tr.ruleOk) := by show _ = _; rw [HD.out, g]; rfl
          clear HD
          go_wp2_with fail
          refine Calls.mono HC.out ?_
          rintro e w4 ⟨he, hb4⟩
          rw [g] at he
          subst he
          have hbel4 := hbelr.trans ((below_box hb4).mono hbelr.size)
          clear hb4 HC g a0 a1 a2 a3 a4
          go_wp2_with fail
          go_roundw
          case rel => exact ⟨k + 1, by omega, by go_num, HN.out, hbel4⟩
          case measure => simp [intOf]; omega
      · have HF : Hid (Tr.check l = 0) := by show _ = _; rw [HV.out, HA.out, List.drop_of_length_le (by omega)]; rfl
        have hbel4 := hbel1.trans (hbelr.mono hbel1.size)
        clear hA1 HA HV
        go_wp2_with fail
        go_ret
        exact ⟨ret_int HF.out.symm, hbel4⟩
  · rw [gm] at he
    subst he
    have HF : Hid (Tr.check l = 2) := by show _ = _; unfold Tr.check; rw [gm]; rfl
    go_wp2_with fail
    go_ret
    exact ⟨ret_int HF.out.symm, hbel1⟩

end Go.Proofs.YtgpaleifhcdjnaaGreatDoor

/- The parser in memory. -/
namespace Go.Proofs.YtgpaleifhcdjnaaGreatDoor
open Go.RowKit

/-- The parser's block: its tokens, where it is, where the text ends. -/
def PS (w : World) (P : Nat) (L : List Tk.Tok) (nx : Nat) (en : Int) : Prop :=
  ∃ ao cap, w.heap[P]? = some (.cells #[.slice ao L.length cap, .int .i64 nx, .int .i64 en] 152 (0, 0)) ∧
    (L = [] ∨ ∃ b off, ao = some ⟨b, off, none⟩ ∧ b + 3 < P ∧ ∀ i, i < L.length → TokIn w b (off + i * 3) (tokD L i))

theorem PS.below {w w' : World} {P : Nat} {L : List Tk.Tok} {nx : Nat} {en : Int} (h : PS w P L nx en) (hb : Below w.heap.size w w') : PS w' P L nx en := by
  obtain ⟨ao, cap, h1, h2⟩ := h
  have hlt : P < w.heap.size := by
    rcases Nat.lt_or_ge P w.heap.size with h | h
    · exact h
    · rw [Array.getElem?_eq_none h] at h1; cases h1
  refine ⟨ao, cap, by rw [hb.block P hlt]; exact h1, ?_⟩
  rcases h2 with h2 | ⟨b, off, rfl, hne, hc⟩
  · exact .inl h2
  · exact .inr ⟨b, off, rfl, hne, fun i hi => ⟨cell_below hb (hc i hi).1, cell_below hb (hc i hi).2.1, cell_below hb (hc i hi).2.2⟩⟩
theorem PS.lt {w : World} {P : Nat} {L : List Tk.Tok} {nx : Nat} {en : Int} (h : PS w P L nx en) : P < w.heap.size := by
  obtain ⟨ao, cap, h1, h2⟩ := h
  rcases Nat.lt_or_ge P w.heap.size with h | h
  · exact h
  · rw [Array.getElem?_eq_none h] at h1; cases h1
/-- One token on. -/
theorem PS.next {w : World} {P : Nat} {L : List Tk.Tok} {nx : Nat} {en : Int} (h : PS w P L nx en) (m : Nat) : PS (w.setCell ⟨P, 1, none⟩ (.int .i64 m)) P L m en := by
  obtain ⟨ao, cap, h1, h2⟩ := h
  refine ⟨ao, cap, by simp [World.setCell, Array.getElem?_modify, h1], ?_⟩
  rcases h2 with h2 | ⟨b, off, rfl, hne, hc⟩
  · exact .inl h2
  · refine .inr ⟨b, off, rfl, hne, fun i hi => ?_⟩
    obtain ⟨c0, c1, c2⟩ := hc i hi
    have e : ∀ o, (w.setCell ⟨P, 1, none⟩ (.int .i64 m)).cell? ⟨b, o, none⟩ = w.cell? ⟨b, o, none⟩ := fun o =>
      World.cell?_of_block (a := ⟨b, o, none⟩) (Below.heap_setCell _ _ _ _ (show ¬ b = P by omega))
    exact ⟨(e _).trans c0, (e _).trans c1, (e _).trans c2⟩

/-- Tokens that a scan may answer: not too many, and numbers that are numbers. -/
def Fit (L : List Tk.Tok) : Prop := L.length ≤ 5000 ∧ ∀ t, t ∈ L → t.kind = 3 → t.text.length ≤ 18 ∧ ∃ n, Lib.atoi t.text = some n

/-- The parser stands before these tokens. -/
def At (w : World) (P : Nat) (L : List Tk.Tok) (en : Int) (r : List Tk.Tok) : Prop := ∃ nx, nx ≤ L.length ∧ L.drop nx = r ∧ Fit L ∧ PS w P L nx en
theorem At.below {w w' : World} {P : Nat} {L : List Tk.Tok} {en : Int} {r : List Tk.Tok} (h : At w P L en r) (hb : Below w.heap.size w w') : At w' P L en r := by
  obtain ⟨nx, h1, h2, hF, h3⟩ := h
  exact ⟨nx, h1, h2, hF, h3.below hb⟩
theorem At.lt {w : World} {P : Nat} {L : List Tk.Tok} {en : Int} {r : List Tk.Tok} (h : At w P L en r) : P < w.heap.size := by
  obtain ⟨nx, h1, h2, hF, h3⟩ := h
  exact h3.lt
/-- How far the parser is. -/
def nxOf (w : World) (P : Nat) : Nat := match w.cell? ⟨P, 1, none⟩ with | some (.int _ n) => n.toNat | _ => 0
theorem At.meas {w : World} {P : Nat} {L : List Tk.Tok} {en : Int} {r : List Tk.Tok} (h : At w P L en r) : L.length - nxOf w P = r.length ∧ r.length ≤ L.length ∧ L.length ≤ 5000 := by
  obtain ⟨nx, h1, rfl, hF, ao, cap, hbk, _⟩ := h
  have : w.cell? ⟨P, 1, none⟩ = some (.int .i64 nx) := by rw [Lib.cell_of_heap hbk]; rfl
  unfold nxOf
  rw [this]
  refine ⟨by simp, by simp, hF.1⟩
/-- What is done above the parser is not seen. -/
theorem At.keep2 {w w' : World} {P : Nat} {L : List Tk.Tok} {en : Int} {r : List Tk.Tok} (h : At w P L en r) (hk : ∀ k, (k = P ∨ k + 3 < P) → w'.heap[k]? = w.heap[k]?) : At w' P L en r := by
  obtain ⟨nx, h1, h2, hF, ao, cap, hbk, hT⟩ := h
  refine ⟨nx, h1, h2, hF, ao, cap, by rw [hk P (.inl rfl)]; exact hbk, ?_⟩
  rcases hT with h | ⟨b, off, rfl, hlt, hc⟩
  · exact .inl h
  · refine .inr ⟨b, off, rfl, hlt, fun i hi => ?_⟩
    have e : ∀ o, w'.cell? ⟨b, o, none⟩ = w.cell? ⟨b, o, none⟩ := fun o => World.cell?_of_block (a := ⟨b, o, none⟩) (hk b (.inr hlt))
    obtain ⟨c0, c1, c2⟩ := hc i hi
    exact ⟨(e _).trans c0, (e _).trans c1, (e _).trans c2⟩
theorem At.keep {w w' : World} {P : Nat} {L : List Tk.Tok} {en : Int} {r : List Tk.Tok} (h : At w P L en r) (hk : ∀ k, k ≤ P → w'.heap[k]? = w.heap[k]?) : At w' P L en r := h.keep2 fun k h => hk k (by omega)
theorem At.set {w : World} {P : Nat} {L : List Tk.Tok} {en : Int} {r : List Tk.Tok} (h : At w P L en r) {b : Nat} (hb : P < b) (o : Nat) (v : Value) : At (w.setCell ⟨b, o, none⟩ v) P L en r :=
  h.keep fun k hk => Below.heap_setCell _ _ _ _ (show ¬ k = b by omega)
/-- What a step reads and writes. -/
theorem At.step {w : World} {P : Nat} {L : List Tk.Tok} {en : Int} {r : List Tk.Tok} (h : At w P L en r) :
    ∃ nx : Nat, nx ≤ 5000 ∧ w.cell? ⟨P, 1, none⟩ = some (.int .i64 nx) ∧ w.frozen? ⟨P, 1, none⟩ = false ∧ (¬ r = [] → At (w.setCell ⟨P, 1, none⟩ (.int .i64 ((nx : Int) + 1))) P L en r.tail) := by
  obtain ⟨nx, h1, rfl, hF, h3⟩ := h
  have h3' := h3
  obtain ⟨ao, cap, hbk, _⟩ := h3'
  refine ⟨nx, Nat.le_trans h1 hF.1, by rw [Lib.cell_of_heap hbk]; rfl, by simp [World.frozen?, hbk], fun hr => ?_⟩
  have hlt : nx < L.length := by
    rcases Nat.lt_or_ge nx L.length with h | h
    · exact h
    · exact absurd (List.drop_of_length_le h) hr
  exact ⟨nx + 1, hlt, by rw [List.tail_drop], hF, h3.next (nx + 1)⟩
theorem At.num {w : World} {P : Nat} {L : List Tk.Tok} {en : Int} {r : List Tk.Tok} (h : At w P L en r) (hk : ((Pr.hd en r).kind == 3) = true) :
    (Pr.hd en r).text.length ≤ 18 ∧ Lib.atoi (Pr.hd en r).text = some (Pr.num (Pr.hd en r).text) := by
  obtain ⟨nx, h1, h2, hF, h3⟩ := h
  cases r with
  | nil => exact absurd (show ((0 : Int) == 3) = true from hk) (by decide)
  | cons t r =>
    have hm : t ∈ L := List.mem_of_mem_drop (i := nx) (by rw [h2]; exact List.mem_cons_self)
    obtain ⟨h4, n, h5⟩ := hF.2 t hm (by simpa [Pr.hd] using hk)
    refine ⟨h4, ?_⟩
    show Lib.atoi t.text = some (Pr.num t.text)
    unfold Pr.num
    rw [h5]; rfl

theorem grownBy_of_below {w w' : World} (h : Below w.heap.size w w') (row : Option Nat) : w.grownBy w' row :=
  ⟨h.os, h.tape, h.output, h.size, fun k hk _ => h.block k hk⟩
theorem grownBy_trans {a b c : World} {row : Option Nat} (h : a.grownBy b row) (k : b.grownBy c row) : a.grownBy c row :=
  ⟨k.os.trans h.os, k.tape.trans h.tape, k.output.trans h.output, Nat.le_trans h.size k.size, fun i hi hne => (k.block i (Nat.lt_of_lt_of_le hi h.size) hne).trans (h.block i hi hne)⟩
theorem grownBy_set {w : World} {P : Nat} (o : Nat) (v : Value) : w.grownBy (w.setCell ⟨P, o, none⟩ v) (some P) :=
  ⟨rfl, rfl, rfl, by simp [World.setCell], fun k _ hk => Below.heap_setCell _ _ _ _ (fun e => hk (by rw [e]))⟩
/-- What is set in a block that is new. -/
theorem grownBy_new {w w' : World} {row : Option Nat} {b : Nat} (h : w.grownBy w' row) (hb : w.heap.size ≤ b) (o : Nat) (v : Value) : w.grownBy (w'.setCell ⟨b, o, none⟩ v) row :=
  ⟨h.os, h.tape, h.output, by simpa [World.setCell] using h.size, fun k hk hne => (Below.heap_setCell _ _ _ _ (show ¬ k = b by omega)).trans (h.block k hk hne)⟩
theorem grownBy_cell {w w' : World} {P b o : Nat} {v : Value} (h : w.grownBy w' (some P)) (hne : ¬ b = P) (hc : w.cell? ⟨b, o, none⟩ = some v) : w'.cell? ⟨b, o, none⟩ = some v :=
  (World.cell?_of_block (a := ⟨b, o, none⟩) (h.block b (World.block_lt_of_cell? w _ hc) (by simpa using hne))).trans hc
theorem grownBy_frozen {w w' : World} {P b o : Nat} (h : w.grownBy w' (some P)) (hne : ¬ b = P) (hlt : b < w.heap.size) : w'.frozen? ⟨b, o, none⟩ = w.frozen? ⟨b, o, none⟩ := by
  have := h.block b hlt (by simpa using hne)
  simp [World.frozen?, this]
theorem grownBy_drewN {a b : World} {row : Option Nat} (h : a.grownBy b row) (n : Nat) : a.grownBy (b.drewN n) row := ⟨h.os, h.tape, h.output, h.size, h.block⟩

theorem below_drewN {B : Nat} {a w : World} (h : Below B a w) (n : Nat) : Below B a (w.drewN n) := ⟨h.os, h.tape, h.output, h.size, h.block⟩
theorem below_fresh {w : World} (o : Obj) (n : Nat) (a b c : Value) : Below w.heap.size w ((((((w.alloc o).drewN n).setCell ⟨w.heap.size, 0, none⟩ a)).setCell ⟨w.heap.size, 1, none⟩ b).setCell ⟨w.heap.size, 2, none⟩ c) :=
  (((below_drewN ((Below.refl _ _).alloc (Nat.le_refl _) _) n).setCell (p := ⟨w.heap.size, 0, none⟩) (Nat.le_refl _) _).setCell (p := ⟨w.heap.size, 1, none⟩) (Nat.le_refl _) _).setCell (p := ⟨w.heap.size, 2, none⟩) (Nat.le_refl _) _
abbrev gaveP (a : Int) : Ending := .panicked [{ v := .iface 149 (.int .i64 a), recovered := false }]

theorem hd_drop (L : List Tk.Tok) (en : Int) (nx : Nat) : Pr.hd en (L.drop nx) = if nx < L.length then tokD L nx else ⟨0, en, []⟩ := by
  by_cases h : nx < L.length
  · rw [if_pos h, drop_tok L nx h]; rfl
  · rw [if_neg h, List.drop_of_length_le (by omega)]; rfl

set_option maxRecDepth 100000 in
set_option maxHeartbeats 1000000 in
theorem peek_any (P : Nat) (L : List Tk.Tok) (en : Int) (r : List Tk.Tok) (w : World) (hA : At w P L en r) :
    Calls Tryz.prog 124 #[.pointer (some ⟨P, 0, none⟩)] w fun e w' => e = .returned (.agg #[.int .i64 (Pr.hd en r).kind, .int .i64 (Pr.hd en r).at_, .string ⟨(Pr.hd en r).text.toArray⟩]) ∧ Below w.heap.size w w' := by
  obtain ⟨nx, hnx, rfl, hF, hP⟩ := hA
  clear hF
  have hlt0 := hP.lt
  obtain ⟨ao, cap, hbk, hT⟩ := hP
  have q0 : w.cell? ⟨P, 0, none⟩ = some (.slice ao L.length cap) := by rw [Lib.cell_of_heap hbk]; rfl
  have q1 : w.cell? ⟨P, 1, none⟩ = some (.int .i64 nx) := by rw [Lib.cell_of_heap hbk]; rfl
  have q2 : w.cell? ⟨P, 2, none⟩ = some (.int .i64 en) := by rw [Lib.cell_of_heap hbk]; rfl
  rw [hd_drop]
  by_cases hlt : nx < L.length
  · rw [if_pos hlt]
    rcases hT with h | ⟨b, off, rfl, hne, hc⟩
    · rw [h] at hlt; exact absurd hlt (by simp)
    obtain ⟨a0, a1, a2⟩ := hc nx hlt
    have hbw : b < w.heap.size := World.block_lt_of_cell? w _ a0
    generalize tokD L nx = t at *
    clear hc hbk
    go_enter Tryz.func124, Tryz.ntmps124
    go_wp2_with fail
    go_quiet (fail)
    go_wp2_with fail
    go_region
    go_wp2
    exact bodyPost_ret (v := tokVal t) (by simp [results, Tryz.results124, go_sem]) rfl ⟨rfl, below_fresh _ _ _ _ _⟩
  · rw [if_neg hlt]
    have hd : decide ((nx : Int) < (L.length : Int)) = false := decide_eq_false (by omega)
    clear hT hbk
    go_enter Tryz.func124, Tryz.ntmps124
    go_wp2_with fail
    go_quiet (fail)
    go_wp2_with fail
    exact bodyPost_ret (v := tokVal ⟨0, en, []⟩) (by simp [results, Tryz.results124, go_sem]) rfl ⟨rfl, below_fresh _ _ _ _ _⟩

end Go.Proofs.YtgpaleifhcdjnaaGreatDoor

/- The shelf of the parser (strconv.Atoi) lies with the rest. -/


/- The parser's small steps. -/
namespace Go.Proofs.YtgpaleifhcdjnaaGreatDoor
open Go.RowKit

theorem fld0 (a b c : Value) (w : World) : (Instr.field 53 (.agg #[a, b, c]) 0).run Tryz.prog w = .ok a w := by kernel_rfl
theorem fld1 (a b c : Value) (w : World) : (Instr.field 53 (.agg #[a, b, c]) 1).run Tryz.prog w = .ok b w := by kernel_rfl
theorem fld2 (a b c : Value) (w : World) : (Instr.field 53 (.agg #[a, b, c]) 2).run Tryz.prog w = .ok c w := by kernel_rfl

set_option maxRecDepth 100000 in
set_option maxHeartbeats 400000 in
theorem giveUp_any (P : Nat) (L : List Tk.Tok) (en : Int) (r : List Tk.Tok) (w : World) (hA : At w P L en r) :
    Calls Tryz.prog 150 #[.pointer (some ⟨P, 0, none⟩)] w fun e w' => e = gaveP (Pr.hd en r).at_ ∧ Below w.heap.size w w' := by
  go_enter Tryz.func150, Tryz.ntmps150
  go_wp2_with fail
  refine (peek_any P L en r _ hA).mono ?_
  rintro e w1 ⟨rfl, hb⟩
  go_wp2_with fail
  simp only [fld1]
  go_wp2
  exact ⟨rfl, rfl, hb⟩

set_option maxRecDepth 100000 in
set_option maxHeartbeats 400000 in
theorem take_no (t : List UInt8) (P : Nat) (L : List Tk.Tok) (en : Int) (r : List Tk.Tok) (w : World) (hA : At w P L en r) (h : Pr.isText en r t = false) :
    Calls Tryz.prog 127 #[.pointer (some ⟨P, 0, none⟩), .string ⟨t.toArray⟩] w fun e w' => e = .returned (.bool false) ∧ Below w.heap.size w w' := by
  unfold Pr.isText at h
  go_enter Tryz.func127, Tryz.ntmps127
  go_wp2_with fail
  refine (peek_any P L en r _ hA).mono ?_
  generalize Pr.hd en r = x at *
  rintro e w1 ⟨rfl, hb⟩
  have h' : (x.text != t) = true := by simp [bne, h]
  go_wp2_with fail
  simp only [fld2]
  go_wp2
  go_ret
  exact ⟨rfl, hb⟩

theorem hd_ne {en : Int} {r : List Tk.Tok} {t : List UInt8} (ht : ¬ t = []) (h : Pr.isText en r t = true) : ¬ r = [] := by
  rintro rfl
  exact ht (eq_of_beq h).symm

set_option maxRecDepth 100000 in
set_option maxHeartbeats 400000 in
theorem take_yes (t : List UInt8) (P : Nat) (L : List Tk.Tok) (en : Int) (r : List Tk.Tok) (w : World) (hA : At w P L en r) (ht : ¬ t = []) (h : Pr.isText en r t = true) :
    Calls Tryz.prog 127 #[.pointer (some ⟨P, 0, none⟩), .string ⟨t.toArray⟩] w fun e w' => e = .returned (.bool true) ∧ w.grownBy w' (some P) ∧ At w' P L en r.tail := by
  have hr := hd_ne ht h
  unfold Pr.isText at h
  go_enter Tryz.func127, Tryz.ntmps127
  go_wp2_with fail
  refine (peek_any P L en r _ hA).mono ?_
  generalize Pr.hd en r = x at *
  rintro e w1 ⟨rfl, hb⟩
  have h' : (x.text != t) = false := by simp [bne, h]
  obtain ⟨nx, hnx, q1, qf, hst⟩ := (hA.below hb).step
  have hst := hst hr
  go_wp2_with fail
  simp only [fld2]
  go_wp2
  go_ret
  exact ⟨rfl, grownBy_trans (grownBy_of_below hb _) (grownBy_set _ _), hst⟩

theorem ground {w w' w1 : World} {P : Nat} (h : w.grownBy w1 (some P)) (hb : Below w1.heap.size w1 w') : w.grownBy w' (some P) := grownBy_trans h (grownBy_of_below hb _)

set_option maxRecDepth 100000 in
set_option maxHeartbeats 400000 in
theorem must_no (t : List UInt8) (P : Nat) (L : List Tk.Tok) (en : Int) (r : List Tk.Tok) (w : World) (hA : At w P L en r) (h : Pr.isText en r t = false) :
    Calls Tryz.prog 128 #[.pointer (some ⟨P, 0, none⟩), .string ⟨t.toArray⟩] w fun e w' => e = gaveP (Pr.hd en r).at_ ∧ Below w.heap.size w w' := by
  go_enter Tryz.func128, Tryz.ntmps128
  go_wp2_with fail
  refine (take_no t P L en r _ hA h).mono ?_
  rintro e w1 ⟨rfl, hb⟩
  go_wp2_with fail
  refine (giveUp_any P L en r _ (hA.below hb)).mono ?_
  rintro e w2 ⟨rfl, hb2⟩
  exact ⟨rfl, rfl, hb.trans (hb2.mono hb.size)⟩

set_option maxRecDepth 100000 in
set_option maxHeartbeats 400000 in
theorem must_yes (t : List UInt8) (P : Nat) (L : List Tk.Tok) (en : Int) (r : List Tk.Tok) (w : World) (hA : At w P L en r) (ht : ¬ t = []) (h : Pr.isText en r t = true) :
    Calls Tryz.prog 128 #[.pointer (some ⟨P, 0, none⟩), .string ⟨t.toArray⟩] w fun e w' => e = .returned (.tuple #[]) ∧ w.grownBy w' (some P) ∧ At w' P L en r.tail := by
  go_enter Tryz.func128, Tryz.ntmps128
  go_wp2_with fail
  refine (take_yes t P L en r _ hA ht h).mono ?_
  rintro e w1 ⟨rfl, hg, hA1⟩
  go_wp2
  exact ⟨rfl, .tuple #[], by simp [results, Tryz.results128], rfl, hg, hA1⟩

set_option maxRecDepth 100000 in
set_option maxHeartbeats 400000 in
theorem fold_no (P : Nat) (L : List Tk.Tok) (en : Int) (r : List Tk.Tok) (w : World) (hA : At w P L en r) (h : Tr.foldOf (Pr.hd en r).text = 0) :
    Calls Tryz.prog 151 #[.pointer (some ⟨P, 0, none⟩)] w fun e w' => e = .returned (.int .i64 0) ∧ Below w.heap.size w w' := by
  go_enter Tryz.func151, Tryz.ntmps151
  go_wp2_with fail
  refine (peek_any P L en r _ hA).mono ?_
  rintro e w1 ⟨rfl, hb⟩
  go_wp2_with fail
  simp only [fld2]
  go_wp2_with fail
  refine (foldOf_any _ _).mono ?_
  rintro e w2 ⟨rfl, rfl⟩
  rw [h]
  go_wp2
  go_ret
  exact ⟨rfl, hb⟩

theorem foldOf_nil : Tr.foldOf [] = 0 := rfl
theorem opOf_nil : Pr.opOf [] = 0 := rfl

set_option maxRecDepth 100000 in
set_option maxHeartbeats 400000 in
theorem fold_yes (P : Nat) (L : List Tk.Tok) (en : Int) (r : List Tk.Tok) (w : World) (hA : At w P L en r) (h : ¬ Tr.foldOf (Pr.hd en r).text = 0) :
    Calls Tryz.prog 151 #[.pointer (some ⟨P, 0, none⟩)] w fun e w' => e = .returned (.int .i64 (Tr.foldOf (Pr.hd en r).text)) ∧ w.grownBy w' (some P) ∧ At w' P L en r.tail := by
  have hr : ¬ r = [] := by rintro rfl; exact h rfl
  generalize hf : Tr.foldOf (Pr.hd en r).text = f at h ⊢
  go_enter Tryz.func151, Tryz.ntmps151
  go_wp2_with fail
  refine (peek_any P L en r _ hA).mono ?_
  rintro e w1 ⟨rfl, hb⟩
  go_wp2_with fail
  simp only [fld2]
  go_wp2_with fail
  refine (foldOf_any _ _).mono ?_
  rintro e w2 ⟨rfl, rfl⟩
  rw [hf]
  obtain ⟨nx, hnx, q1, qf, hst⟩ := (hA.below hb).step
  have hst := hst hr
  go_wp2
  go_ret
  exact ⟨rfl, grownBy_trans (grownBy_of_below hb _) (grownBy_set _ _), hst⟩

set_option maxRecDepth 100000 in
set_option maxHeartbeats 400000 in
theorem opOf_any (s : List UInt8) (w : World) : Calls Tryz.prog 168 #[.string ⟨s.toArray⟩] w fun e w' => e = .returned (.int .i64 (Pr.opOf s)) ∧ w' = w := by
  unfold Pr.opOf
  cases h1 : (s == [60])
  · cases h2 : (s == [60, 61])
    · cases h3 : (s == [61])
      · cases h4 : (s == [33, 61])
        · cases h5 : (s == [43])
          · cases h6 : (s == [45])
            · cases h7 : (s == [42])
              all_goals (go_enter Tryz.func168, Tryz.ntmps168; go_wp2; go_ret; exact ⟨rfl, rfl⟩)
            · go_enter Tryz.func168, Tryz.ntmps168
              go_wp2
              go_ret
              exact ⟨rfl, rfl⟩
          · go_enter Tryz.func168, Tryz.ntmps168
            go_wp2
            go_ret
            exact ⟨rfl, rfl⟩
        · go_enter Tryz.func168, Tryz.ntmps168
          go_wp2
          go_ret
          exact ⟨rfl, rfl⟩
      · go_enter Tryz.func168, Tryz.ntmps168
        go_wp2
        go_ret
        exact ⟨rfl, rfl⟩
    · go_enter Tryz.func168, Tryz.ntmps168
      go_wp2
      go_ret
      exact ⟨rfl, rfl⟩
  · go_enter Tryz.func168, Tryz.ntmps168
    go_wp2
    go_ret
    exact ⟨rfl, rfl⟩

set_option maxRecDepth 100000 in
set_option maxHeartbeats 400000 in
theorem op_no (P : Nat) (L : List Tk.Tok) (en : Int) (r : List Tk.Tok) (w : World) (hA : At w P L en r) (h : Pr.opOf (Pr.hd en r).text = 0) :
    Calls Tryz.prog 163 #[.pointer (some ⟨P, 0, none⟩)] w fun e w' => e = gaveP (Pr.hd en r).at_ ∧ Below w.heap.size w w' := by
  go_enter Tryz.func163, Tryz.ntmps163
  go_wp2_with fail
  refine (peek_any P L en r _ hA).mono ?_
  rintro e w1 ⟨rfl, hb⟩
  go_wp2_with fail
  simp only [fld2]
  go_wp2_with fail
  refine (opOf_any _ _).mono ?_
  rintro e w2 ⟨rfl, rfl⟩
  rw [h]
  go_wp2_with fail
  refine (giveUp_any P L en r _ (hA.below hb)).mono ?_
  rintro e w2 ⟨rfl, hb2⟩
  exact ⟨rfl, rfl, hb.trans (hb2.mono hb.size)⟩

set_option maxRecDepth 100000 in
set_option maxHeartbeats 400000 in
theorem op_yes (P : Nat) (L : List Tk.Tok) (en : Int) (r : List Tk.Tok) (w : World) (hA : At w P L en r) (h : ¬ Pr.opOf (Pr.hd en r).text = 0) :
    Calls Tryz.prog 163 #[.pointer (some ⟨P, 0, none⟩)] w fun e w' => e = .returned (.int .i64 (Pr.opOf (Pr.hd en r).text)) ∧ w.grownBy w' (some P) ∧ At w' P L en r.tail := by
  have hr : ¬ r = [] := by rintro rfl; exact h rfl
  generalize hf : Pr.opOf (Pr.hd en r).text = f at h ⊢
  go_enter Tryz.func163, Tryz.ntmps163
  go_wp2_with fail
  refine (peek_any P L en r _ hA).mono ?_
  rintro e w1 ⟨rfl, hb⟩
  go_wp2_with fail
  simp only [fld2]
  go_wp2_with fail
  refine (opOf_any _ _).mono ?_
  rintro e w2 ⟨rfl, rfl⟩
  rw [hf]
  obtain ⟨nx, hnx, q1, qf, hst⟩ := (hA.below hb).step
  have hst := hst hr
  go_wp2
  go_ret
  exact ⟨rfl, grownBy_trans (grownBy_of_below hb _) (grownBy_set _ _), hst⟩

end Go.Proofs.YtgpaleifhcdjnaaGreatDoor

