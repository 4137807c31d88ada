/- The document's answer: the tokens of a text. -/
import Derived.Test.YtcfmjoidaehfkaaRefSign
namespace Go.Proofs.Ytcfmjoidaehfkaa
open Go.RowKit

/-- What is wrong with a token, by its kind and length. -/
theorem tok_cases (c : UInt8) (r : List UInt8) :
    (Tk.lenOf (c :: r) = 0 ∧ Tk.errOf (c :: r) = 1) ∨
    (1 ≤ Tk.lenOf (c :: r) ∧ (Tk.kindOf (c :: r) = 1 ∨ Tk.kindOf (c :: r) = 2) ∧ 12 < Tk.lenOf (c :: r) ∧ Tk.errOf (c :: r) = 2) ∨
    (1 ≤ Tk.lenOf (c :: r) ∧ (Tk.kindOf (c :: r) = 1 ∨ Tk.kindOf (c :: r) = 2) ∧ Tk.lenOf (c :: r) ≤ 12 ∧ Tk.errOf (c :: r) = 0) ∨
    (1 ≤ Tk.lenOf (c :: r) ∧ Tk.kindOf (c :: r) = 3 ∧ 7 < Tk.lenOf (c :: r) ∧ Tk.errOf (c :: r) = 2) ∨
    (1 ≤ Tk.lenOf (c :: r) ∧ Tk.kindOf (c :: r) = 3 ∧ 1 < Tk.lenOf (c :: r) ∧ Tk.lenOf (c :: r) ≤ 7 ∧ (c.toNat : Int) = 48 ∧ Tk.errOf (c :: r) = 1) ∨
    (1 ≤ Tk.lenOf (c :: r) ∧ Tk.kindOf (c :: r) = 3 ∧ Tk.lenOf (c :: r) ≤ 1 ∧ Tk.errOf (c :: r) = 0) ∨
    (1 ≤ Tk.lenOf (c :: r) ∧ Tk.kindOf (c :: r) = 3 ∧ 1 < Tk.lenOf (c :: r) ∧ Tk.lenOf (c :: r) ≤ 7 ∧ ¬ (c.toNat : Int) = 48 ∧ Tk.errOf (c :: r) = 0) ∨
    (1 ≤ Tk.lenOf (c :: r) ∧ Tk.kindOf (c :: r) = 4 ∧ Tk.errOf (c :: r) = 0) := by
  rw [lenOf_cons, kindOf_cons, errOf_cons]
  have pw : (Tk.small c.toNat || Tk.great c.toNat) = true → 1 ≤ Tk.pre Tk.alnum (c :: r) := fun h => Tk.pre_pos (by unfold Tk.alnum; rw [h]; rfl)
  have pd : Tk.digit c.toNat = true → 1 ≤ Tk.pre Tk.digit (c :: r) := fun h => Tk.pre_pos h
  cases h1 : Tk.small c.toNat
  · cases h2 : Tk.great c.toNat
    · cases h3 : Tk.digit c.toNat
      · simp only [Bool.or_self, Bool.false_eq_true, if_false]
        by_cases h : Tk.signLen (c :: r) = 0
        · exact .inl ⟨h, by rw [if_pos h]⟩
        · exact .inr (.inr (.inr (.inr (.inr (.inr (.inr ⟨by omega, trivial, by rw [if_neg h]⟩))))))
      · have p3 := pd h3
        simp only [Bool.or_self, Bool.false_eq_true, if_false, if_true]
        by_cases h : Tk.pre Tk.digit (c :: r) > 7
        · exact .inr (.inr (.inr (.inl ⟨p3, trivial, h, by rw [if_pos h]⟩)))
        · by_cases h' : Tk.pre Tk.digit (c :: r) > 1
          · by_cases h4 : (c.toNat : Int) = 48
            · exact .inr (.inr (.inr (.inr (.inl ⟨p3, trivial, h', by omega, h4, by rw [if_neg h, if_pos ⟨h4, h'⟩]⟩))))
            · exact .inr (.inr (.inr (.inr (.inr (.inr (.inl ⟨p3, trivial, h', by omega, h4, by rw [if_neg h, if_neg (fun x => h4 x.1)]⟩))))))
          · exact .inr (.inr (.inr (.inr (.inr (.inl ⟨p3, trivial, by omega, by rw [if_neg h, if_neg (fun x => h' x.2)]⟩)))))
    · have p2 := pw (by rw [h1, h2]; rfl)
      simp only [Bool.or_true, Bool.false_eq_true, if_false, if_true]
      by_cases h : Tk.pre Tk.alnum (c :: r) > 12
      · exact .inr (.inl ⟨p2, .inr trivial, h, by rw [if_pos h]⟩)
      · exact .inr (.inr (.inl ⟨p2, .inr trivial, by omega, by rw [if_neg h]⟩))
  · have p1 := pw (by rw [h1]; rfl)
    simp only [Bool.true_or, if_true]
    by_cases h : Tk.pre Tk.alnum (c :: r) > 12
    · exact .inr (.inl ⟨p1, .inl trivial, h, by rw [if_pos h]⟩)
    · exact .inr (.inr (.inl ⟨p1, .inl trivial, by omega, by rw [if_neg h]⟩))

theorem sep_open (s : ByteArray) (k : Nat) (h : k < s.size) (hc : (s[k].toNat : Int) = 37) : Tk.sep false (s.data.toList.drop k) = Tk.sep true (s.data.toList.drop (k + 1)) + 1 := by
  rw [drop_at s k h, Tk.sep, if_pos hc]
theorem sep_lf (s : ByteArray) (k : Nat) (h : k < s.size) (hc : (s[k].toNat : Int) = 10) : Tk.sep true (s.data.toList.drop k) = Tk.sep false (s.data.toList.drop (k + 1)) + 1 := by
  rw [drop_at s k h, Tk.sep, if_pos hc]
theorem sep_more (s : ByteArray) (k : Nat) (h : k < s.size) (hc : ¬ (s[k].toNat : Int) = 10) : Tk.sep true (s.data.toList.drop k) = Tk.sep true (s.data.toList.drop (k + 1)) + 1 := by
  rw [drop_at s k h, Tk.sep, if_neg hc]

set_option maxHeartbeats 400000 in
theorem ScanOf_long (s : ByteArray) (w : World) (hs : 5000 < s.size) : Calls Try.prog 8 #[.string s] w (ScanTop s.data.toList w) := by
  have HL : Hid (Tk.scan s.data.toList = ([], 0, 2)) := by
    show _ = _
    unfold Tk.scan
    rw [if_pos (by simpa using hs)]
  go_enter Try.func8, Try.ntmps8
  go_wp2
  go_ret3
  refine ⟨none, 0, ?_, ?_, Below.refl _ _⟩
  · rw [HL.out]; rfl
  · rw [HL.out]; exact World.ownsRow_nil _ _ _ _

/-- The loop of the document's scan. -/
def RefRel (s : ByteArray) (w : World) (v nt i : Value) (wr : World) : Prop :=
  ∃ (f p : Nat) (b : Bool) (acc : List Tk.Tok) (ao : Option Addr) (cap : Nat), p ≤ s.size ∧ s.size ≤ p + Tk.sep b (s.data.toList.drop p) + f ∧ acc.length ≤ p ∧ v = .slice ao acc.length cap ∧ nt = .bool b ∧ i = .int .i64 p ∧
    Tk.scanP s.data.toList f (p + Tk.sep b (s.data.toList.drop p)) acc = Tk.scan s.data.toList ∧ wr.ownsRow w.heap.size 34 3 (.slice ao acc.length cap) acc.length (allCells acc) ∧ Below w.heap.size w wr

theorem ext_zero (s : ByteArray) (p n : Nat) (h : p < s.size) (hn : 1 ≤ n) : (((s.extract p (p + n))[0]'(by simp; omega)).toNat : Int) = (s[p].toNat : Int) := by
  have h1 : (s.extract p (p + n)).data.toList[0]? = some s[p] := by
    rw [Lib.extract_data, Nat.add_sub_cancel_left, List.getElem?_take, if_pos (by omega), List.getElem?_drop, Nat.add_zero]
    exact List.getElem?_eq_getElem (by simpa using h)
  have h3 : (s.extract p (p + n)).data.toList[0]? = some ((s.extract p (p + n))[0]'(by simp; omega)) := List.getElem?_eq_getElem (by simp; omega)
  rw [h1] at h3
  rw [Option.some.inj h3]

theorem tok_cells (s : ByteArray) (p : Nat) (K : Int) (h : Tk.kindOf (s.data.toList.drop p) = K) : [Value.int .i64 K, .int .i64 p, .string (s.extract p (p + Tk.lenOf (s.data.toList.drop p)))] = tokCells (Tk.tokAt s.data.toList p) := by
  subst h
  rw [extract_take]
  rfl

theorem ref_more (s : ByteArray) (f p : Nat) (acc : List Tk.Tok) (hlt : p < s.size) (hpf : s.size ≤ p + f) (h : Tk.scanP s.data.toList f p acc = Tk.scan s.data.toList) (he : Tk.errOf (s.data.toList.drop p) = 0) :
    ∃ f1, Hid (s.size ≤ p + 1 + f1 ∧ Tk.scanP s.data.toList f1 (p + Tk.lenOf (s.data.toList.drop p) + Tk.sep false (s.data.toList.drop (p + Tk.lenOf (s.data.toList.drop p)))) (acc ++ [Tk.tokAt s.data.toList p]) = Tk.scan s.data.toList) := by
  obtain ⟨f, rfl⟩ : ∃ f', f = f' + 1 := ⟨f - 1, by omega⟩
  exact ⟨f, by omega, (Tk.scanP_yes _ _ _ _ (by simpa using hlt) he).symm.trans h⟩

theorem ref_rel {s : ByteArray} {w w2 : World} {p f1 : Nat} {acc : List Tk.Tok} {ao : Option Addr} {cap : Nat} (hlt : p < s.size) (hlen : Tk.lenOf (s.data.toList.drop p) ≤ (s.data.toList.drop p).length) (hdl : (s.data.toList.drop p).length = s.size - p) (hacc : acc.length ≤ p) (h1 : 1 ≤ Tk.lenOf (s.data.toList.drop p))
    (HF : s.size ≤ p + 1 + f1 ∧ Tk.scanP s.data.toList f1 (p + Tk.lenOf (s.data.toList.drop p) + Tk.sep false (s.data.toList.drop (p + Tk.lenOf (s.data.toList.drop p)))) (acc ++ [Tk.tokAt s.data.toList p]) = Tk.scan s.data.toList)
    (hown : w2.ownsRow w.heap.size 34 3 (.slice ao (acc.length + 1) cap) (acc.length + 1) (allCells acc ++ tokCells (Tk.tokAt s.data.toList p))) (hbel : Below w.heap.size w w2) :
    RefRel s w (.slice ao (acc.length + 1) cap) (.bool false) (.int .i64 ((p : Int) + ((Tk.lenOf (s.data.toList.drop p) : Nat) : Int))) w2 := by
  obtain ⟨g1, g2⟩ := HF
  refine ⟨f1, p + Tk.lenOf (s.data.toList.drop p), false, acc ++ [Tk.tokAt s.data.toList p], ao, cap, by omega, by omega, by simp; omega, by simp, rfl, by go_num, g2, ?_, hbel⟩
  rw [allCells_snoc]
  simpa using hown

set_option maxRecDepth 100000 in
set_option maxHeartbeats 4000000 in
theorem ScanOf_short (s : ByteArray) (w : World) (hs : s.size ≤ 5000) : Calls Try.prog 8 #[.string s] w (ScanTop s.data.toList w) := by
  obtain ⟨i0, hi, hz0, hz1, hz2⟩ := info_parts A_info34
  go_enter Try.func8, Try.ntmps8
  go_wp2_with fail
  go_loopw [5, 6, 7] (fun v nt i wr => RefRel s w v nt i wr) (fun _ _ i _ => s.size - (intOf i).toNat)
  case atStart =>
    refine ⟨s.size, 0, false, [], none, 0, by omega, by omega, Nat.le_refl _, rfl, rfl, rfl, ?_, World.ownsRow_nil _ _ _ _, Below.refl _ _⟩
    unfold Tk.scan
    rw [if_neg (by simpa using hs), List.drop_zero, Nat.zero_add]
    rfl
  case round =>
    obtain ⟨f, p, b, acc, ao, cap, hp, hpf, hacc, rfl, rfl, rfl, hscan, hown, hbel⟩ := hrel
    have HS : Hid (Tk.scanP s.data.toList f (p + Tk.sep b (s.data.toList.drop p)) acc = Tk.scan s.data.toList) := hscan
    clear hscan
    by_cases hlt : p < s.size
    · cases b
      · by_cases b37 : (s[p].toNat : Int) = 37
        · have e : p + Tk.sep false (s.data.toList.drop p) = p + 1 + Tk.sep true (s.data.toList.drop (p + 1)) := by rw [sep_open s p hlt b37]; omega
          rw [e] at HS hpf
          have t37 : ((s[p].toNat : Int) == 37) = true := beq_iff_eq.2 b37
          have t10 : ((s[p].toNat : Int) != 10) = true := bne_iff_ne.2 (by omega)
          clear e b37
          go_wp2_with fail
          go_roundw
          case rel => exact ⟨f, p + 1, true, acc, ao, cap, by omega, hpf, by omega, rfl, rfl, by go_num, HS.out, hown, hbel⟩
          case measure => simp [intOf]; omega
        · have t37 : ((s[p].toNat : Int) == 37) = false := beq_eq_false_iff_ne.2 b37
          by_cases hb : (s[p].toNat : Int) = 32 ∨ (s[p].toNat : Int) = 9 ∨ (s[p].toNat : Int) = 10
          · have e : p + Tk.sep false (s.data.toList.drop p) = p + 1 + Tk.sep false (s.data.toList.drop (p + 1)) := by rw [sep_blank s p hlt hb]; omega
            rw [e] at HS hpf
            clear e b37
            by_cases b1 : (s[p].toNat : Int) = 32
            · have t1 : ((s[p].toNat : Int) == 32) = true := beq_iff_eq.2 b1
              clear b1 hb
              go_wp2_with fail
              go_roundw
              case rel => exact ⟨f, p + 1, false, acc, ao, cap, by omega, hpf, by omega, rfl, rfl, by go_num, HS.out, hown, hbel⟩
              case measure => simp [intOf]; omega
            · have t1 : ((s[p].toNat : Int) == 32) = false := beq_eq_false_iff_ne.2 b1
              by_cases b2 : (s[p].toNat : Int) = 9
              · have t2 : ((s[p].toNat : Int) == 9) = true := beq_iff_eq.2 b2
                clear b1 b2 hb
                go_wp2_with fail
                go_roundw
                case rel => exact ⟨f, p + 1, false, acc, ao, cap, by omega, hpf, by omega, rfl, rfl, by go_num, HS.out, hown, hbel⟩
                case measure => simp [intOf]; omega
              · have t2 : ((s[p].toNat : Int) == 9) = false := beq_eq_false_iff_ne.2 b2
                have t3 : ((s[p].toNat : Int) == 10) = true := beq_iff_eq.2 (by omega)
                clear b1 b2 hb
                go_wp2_with fail
                go_roundw
                case rel => exact ⟨f, p + 1, false, acc, ao, cap, by omega, hpf, by omega, rfl, rfl, by go_num, HS.out, hown, hbel⟩
                case measure => simp [intOf]; omega
          · have e : Tk.sep false (s.data.toList.drop p) = 0 := sep_stop s p hlt b37 hb
            rw [e, Nat.add_zero] at HS hpf
            have t1 : ((s[p].toNat : Int) == 32) = false := beq_eq_false_iff_ne.2 (by omega)
            have t2 : ((s[p].toNat : Int) == 9) = false := beq_eq_false_iff_ne.2 (by omega)
            have t3 : ((s[p].toNat : Int) == 10) = false := beq_eq_false_iff_ne.2 (by omega)
            clear e b37 hb
            have hd := drop_at s p hlt
            have TC := tok_cases s[p] (s.data.toList.drop (p + 1))
            rw [← hd] at TC
            have hlen := Tk.lenOf_le (s.data.toList.drop p)
            have hdl : (s.data.toList.drop p).length = s.size - p := by simp
            clear hd
            have hNO : Hid (∀ c : Int, ¬ c = 0 → Tk.errOf (s.data.toList.drop p) = c → Tk.scan s.data.toList = ([], p, c)) := by
              intro c hc hec
              rw [← hec]
              exact HS.out.symm.trans (Tk.scanP_no _ _ _ _ (by simpa using hlt) (by simpa using hpf) (by omega))
            rcases TC with ⟨c1, cE⟩ | ⟨c1, cK, c3, cE⟩ | ⟨c1, cK, c3, cE⟩ | ⟨c1, cK, c3, cE⟩ | ⟨c1, cK, c3, c4, c5, cE⟩ | ⟨c1, cK, c3, cE⟩ | ⟨c1, cK, c3, c4, c5, cE⟩ | ⟨c1, cK, cE⟩
            · have HN : Hid (_ = _) := hNO.out 1 (by decide) cE
              have HR : Hid (refKind (s.data.toList.drop p) = 0) := by show _ = _; unfold refKind; rw [if_pos c1]
              clear hNO cE HS hi hz0 hz1 hz2
              go_wp2_with fail
              refine (refAt_any s p _ (by omega) hlt).mono ?_
              rintro e w1 ⟨he, rfl⟩
              rw [HR.out] at he
              subst he
              go_wp2_with fail
              go_ret3
              refine ⟨none, 0, ?_, ?_, hbel⟩
              · rw [HN.out]; rfl
              · rw [HN.out]; exact World.ownsRow_nil _ _ _ _
            · rcases cK with cK | cK
              · have HN : Hid (_ = _) := hNO.out 2 (by decide) cE
                have HR : Hid (refKind (s.data.toList.drop p) = 1) := by show _ = _; unfold refKind; rw [if_neg (by omega)]; exact cK
                clear hNO cE cK HS hi hz0 hz1 hz2
                go_wp2_with fail
                refine (refAt_any s p _ (by omega) hlt).mono ?_
                rintro e w1 ⟨he, rfl⟩
                rw [HR.out] at he
                subst he
                go_wp2_with fail
                go_ret3
                refine ⟨none, 0, ?_, ?_, hbel⟩
                · rw [HN.out]; rfl
                · rw [HN.out]; exact World.ownsRow_nil _ _ _ _
              · have HN : Hid (_ = _) := hNO.out 2 (by decide) cE
                have HR : Hid (refKind (s.data.toList.drop p) = 2) := by show _ = _; unfold refKind; rw [if_neg (by omega)]; exact cK
                clear hNO cE cK HS hi hz0 hz1 hz2
                go_wp2_with fail
                refine (refAt_any s p _ (by omega) hlt).mono ?_
                rintro e w1 ⟨he, rfl⟩
                rw [HR.out] at he
                subst he
                go_wp2_with fail
                go_ret3
                refine ⟨none, 0, ?_, ?_, hbel⟩
                · rw [HN.out]; rfl
                · rw [HN.out]; exact World.ownsRow_nil _ _ _ _
            · rcases cK with cK | cK
              · have HR : Hid (refKind (s.data.toList.drop p) = 1) := by show _ = _; unfold refKind; rw [if_neg (by omega)]; exact cK
                have HC := ref_more s f p acc hlt hpf HS.out cE
                obtain ⟨f1, HF⟩ := HC
                have HT : Hid ([Value.int .i64 1, .int .i64 p, .string (s.extract p (p + Tk.lenOf (s.data.toList.drop p)))] = tokCells (Tk.tokAt s.data.toList p)) := tok_cells s p 1 cK
                clear hNO cE cK HS hpf
                have hd12 : decide ((12 : Int) < ((Tk.lenOf (s.data.toList.drop p) : Nat) : Int)) = false := by simp; omega
                go_wp2_with fail
                refine (refAt_any s p _ (by omega) hlt).mono ?_
                rintro e w1 ⟨he, rfl⟩
                rw [HR.out] at he
                subst he
                have hz := hbel.size
                go_wp2_with (at_builtin; refine wpList_append_own _ rfl (.tmp 95) (.tmp 100) 22 rfl w.heap.size 34 i0 _ 3 32 Try.underlying22 hi hz0 hz1 hz2 rfl (by decide) _ _ _ rfl (hown.alloc _) ⟨w1.heap.size, 0, none⟩ 1 1 [.int .i64 1, .int .i64 p, .string (s.extract p (p + Tk.lenOf (s.data.toList.drop p)))] rfl rfl ?c1 ?c2 ?c3 ?c4 ?c5 ?_)
                case c1 =>
                  intro j u hj
                  match j, hj with
                  | 0, hj => simp at hj; subst hj; simp [Addr.add, go_sem]
                  | 1, hj => simp at hj; subst hj; simp [Addr.add, go_sem]
                  | 2, hj => simp at hj; subst hj; simp [Addr.add, go_sem]
                case c2 => intro u hu; simp at hu; rcases hu with rfl | rfl | rfl <;> rfl
                case c3 => unfold maxLen; omega
                case c4 => omega
                case c5 => simp; omega
                intro v' w2 hown2 hgrow _
                obtain ⟨ao', cap', rfl⟩ := own_slice hown2
                have hbel2 := (hbel.alloc hz _).grown hgrow (by simp; omega) (fun k hk => (hown.lt k hk).1)
                rw [HT.out] at hown2
                clear hgrow hi hz0 hz1 hz2 hown
                go_wp2_with fail
                go_roundw
                case rel => exact ref_rel hlt hlen hdl hacc c1 HF.out hown2 hbel2
                case measure => simp [intOf]; omega
              · have HR : Hid (refKind (s.data.toList.drop p) = 2) := by show _ = _; unfold refKind; rw [if_neg (by omega)]; exact cK
                have HC := ref_more s f p acc hlt hpf HS.out cE
                obtain ⟨f1, HF⟩ := HC
                have HT : Hid ([Value.int .i64 2, .int .i64 p, .string (s.extract p (p + Tk.lenOf (s.data.toList.drop p)))] = tokCells (Tk.tokAt s.data.toList p)) := tok_cells s p 2 cK
                clear hNO cE cK HS hpf
                have hd12 : decide ((12 : Int) < ((Tk.lenOf (s.data.toList.drop p) : Nat) : Int)) = false := by simp; omega
                go_wp2_with fail
                refine (refAt_any s p _ (by omega) hlt).mono ?_
                rintro e w1 ⟨he, rfl⟩
                rw [HR.out] at he
                subst he
                have hz := hbel.size
                go_wp2_with (at_builtin; refine wpList_append_own _ rfl (.tmp 95) (.tmp 100) 22 rfl w.heap.size 34 i0 _ 3 32 Try.underlying22 hi hz0 hz1 hz2 rfl (by decide) _ _ _ rfl (hown.alloc _) ⟨w1.heap.size, 0, none⟩ 1 1 [.int .i64 2, .int .i64 p, .string (s.extract p (p + Tk.lenOf (s.data.toList.drop p)))] rfl rfl ?c1 ?c2 ?c3 ?c4 ?c5 ?_)
                case c1 =>
                  intro j u hj
                  match j, hj with
                  | 0, hj => simp at hj; subst hj; simp [Addr.add, go_sem]
                  | 1, hj => simp at hj; subst hj; simp [Addr.add, go_sem]
                  | 2, hj => simp at hj; subst hj; simp [Addr.add, go_sem]
                case c2 => intro u hu; simp at hu; rcases hu with rfl | rfl | rfl <;> rfl
                case c3 => unfold maxLen; omega
                case c4 => omega
                case c5 => simp; omega
                intro v' w2 hown2 hgrow _
                obtain ⟨ao', cap', rfl⟩ := own_slice hown2
                have hbel2 := (hbel.alloc hz _).grown hgrow (by simp; omega) (fun k hk => (hown.lt k hk).1)
                rw [HT.out] at hown2
                clear hgrow hi hz0 hz1 hz2 hown
                go_wp2_with fail
                go_roundw
                case rel => exact ref_rel hlt hlen hdl hacc c1 HF.out hown2 hbel2
                case measure => simp [intOf]; omega
            · have HN : Hid (_ = _) := hNO.out 2 (by decide) cE
              have HR : Hid (refKind (s.data.toList.drop p) = 3) := by show _ = _; unfold refKind; rw [if_neg (by omega)]; exact cK
              clear hNO cE cK HS hi hz0 hz1 hz2
              go_wp2_with fail
              refine (refAt_any s p _ (by omega) hlt).mono ?_
              rintro e w1 ⟨he, rfl⟩
              rw [HR.out] at he
              subst he
              go_wp2_with fail
              go_ret3
              refine ⟨none, 0, ?_, ?_, hbel⟩
              · rw [HN.out]; rfl
              · rw [HN.out]; exact World.ownsRow_nil _ _ _ _
            · have HN : Hid (_ = _) := hNO.out 1 (by decide) cE
              have HR : Hid (refKind (s.data.toList.drop p) = 3) := by show _ = _; unfold refKind; rw [if_neg (by omega)]; exact cK
              clear hNO cE cK HS hi hz0 hz1 hz2
              have hd7 : decide ((7 : Int) < ((Tk.lenOf (s.data.toList.drop p) : Nat) : Int)) = false := by simp; omega
              have hx : (((s.extract p (p + Tk.lenOf (s.data.toList.drop p)))[0]'(by simp; omega)).toNat : Int) = (s[p].toNat : Int) := ext_zero s p _ hlt (by omega)
              have h48 : ((((s.extract p (p + Tk.lenOf (s.data.toList.drop p)))[0]'(by simp; omega)).toNat : Int) == 48) = true := by rw [hx]; exact beq_iff_eq.2 c5
              clear hx c5
              go_wp2_with fail
              refine (refAt_any s p _ (by omega) hlt).mono ?_
              rintro e w1 ⟨he, rfl⟩
              rw [HR.out] at he
              subst he
              go_wp2_with fail
              go_ret3
              refine ⟨none, 0, ?_, ?_, hbel⟩
              · rw [HN.out]; rfl
              · rw [HN.out]; exact World.ownsRow_nil _ _ _ _
            · have HR : Hid (refKind (s.data.toList.drop p) = 3) := by show _ = _; unfold refKind; rw [if_neg (by omega)]; exact cK
              have HC := ref_more s f p acc hlt hpf HS.out cE
              obtain ⟨f1, HF⟩ := HC
              have HT : Hid ([Value.int .i64 3, .int .i64 p, .string (s.extract p (p + Tk.lenOf (s.data.toList.drop p)))] = tokCells (Tk.tokAt s.data.toList p)) := tok_cells s p 3 cK
              clear hNO cE cK HS hpf
              have hd7 : decide ((7 : Int) < ((Tk.lenOf (s.data.toList.drop p) : Nat) : Int)) = false := by simp; omega
              have hd1 : decide ((1 : Int) < ((Tk.lenOf (s.data.toList.drop p) : Nat) : Int)) = false := by simp; omega
              go_wp2_with fail
              refine (refAt_any s p _ (by omega) hlt).mono ?_
              rintro e w1 ⟨he, rfl⟩
              rw [HR.out] at he
              subst he
              have hz := hbel.size
              go_wp2_with (at_builtin; refine wpList_append_own _ rfl (.tmp 95) (.tmp 100) 22 rfl w.heap.size 34 i0 _ 3 32 Try.underlying22 hi hz0 hz1 hz2 rfl (by decide) _ _ _ rfl (hown.alloc _) ⟨w1.heap.size, 0, none⟩ 1 1 [.int .i64 3, .int .i64 p, .string (s.extract p (p + Tk.lenOf (s.data.toList.drop p)))] rfl rfl ?c1 ?c2 ?c3 ?c4 ?c5 ?_)
              case c1 =>
                intro j u hj
                match j, hj with
                | 0, hj => simp at hj; subst hj; simp [Addr.add, go_sem]
                | 1, hj => simp at hj; subst hj; simp [Addr.add, go_sem]
                | 2, hj => simp at hj; subst hj; simp [Addr.add, go_sem]
              case c2 => intro u hu; simp at hu; rcases hu with rfl | rfl | rfl <;> rfl
              case c3 => unfold maxLen; omega
              case c4 => omega
              case c5 => simp; omega
              intro v' w2 hown2 hgrow _
              obtain ⟨ao', cap', rfl⟩ := own_slice hown2
              have hbel2 := (hbel.alloc hz _).grown hgrow (by simp; omega) (fun k hk => (hown.lt k hk).1)
              rw [HT.out] at hown2
              clear hgrow hi hz0 hz1 hz2 hown
              go_wp2_with fail
              go_roundw
              case rel => exact ref_rel hlt hlen hdl hacc c1 HF.out hown2 hbel2
              case measure => simp [intOf]; omega
            · have HR : Hid (refKind (s.data.toList.drop p) = 3) := by show _ = _; unfold refKind; rw [if_neg (by omega)]; exact cK
              have HC := ref_more s f p acc hlt hpf HS.out cE
              obtain ⟨f1, HF⟩ := HC
              have HT : Hid ([Value.int .i64 3, .int .i64 p, .string (s.extract p (p + Tk.lenOf (s.data.toList.drop p)))] = tokCells (Tk.tokAt s.data.toList p)) := tok_cells s p 3 cK
              clear hNO cE cK HS hpf
              have hd7 : decide ((7 : Int) < ((Tk.lenOf (s.data.toList.drop p) : Nat) : Int)) = false := by simp; omega
              have hx : (((s.extract p (p + Tk.lenOf (s.data.toList.drop p)))[0]'(by simp; omega)).toNat : Int) = (s[p].toNat : Int) := ext_zero s p _ hlt (by omega)
              have h48 : ((((s.extract p (p + Tk.lenOf (s.data.toList.drop p)))[0]'(by simp; omega)).toNat : Int) == 48) = false := by rw [hx]; exact beq_eq_false_iff_ne.2 c5
              clear hx c5
              go_wp2_with fail
              refine (refAt_any s p _ (by omega) hlt).mono ?_
              rintro e w1 ⟨he, rfl⟩
              rw [HR.out] at he
              subst he
              have hz := hbel.size
              go_wp2_with (at_builtin; refine wpList_append_own _ rfl (.tmp 95) (.tmp 100) 22 rfl w.heap.size 34 i0 _ 3 32 Try.underlying22 hi hz0 hz1 hz2 rfl (by decide) _ _ _ rfl (hown.alloc _) ⟨w1.heap.size, 0, none⟩ 1 1 [.int .i64 3, .int .i64 p, .string (s.extract p (p + Tk.lenOf (s.data.toList.drop p)))] rfl rfl ?c1 ?c2 ?c3 ?c4 ?c5 ?_)
              case c1 =>
                intro j u hj
                match j, hj with
                | 0, hj => simp at hj; subst hj; simp [Addr.add, go_sem]
                | 1, hj => simp at hj; subst hj; simp [Addr.add, go_sem]
                | 2, hj => simp at hj; subst hj; simp [Addr.add, go_sem]
              case c2 => intro u hu; simp at hu; rcases hu with rfl | rfl | rfl <;> rfl
              case c3 => unfold maxLen; omega
              case c4 => omega
              case c5 => simp; omega
              intro v' w2 hown2 hgrow _
              obtain ⟨ao', cap', rfl⟩ := own_slice hown2
              have hbel2 := (hbel.alloc hz _).grown hgrow (by simp; omega) (fun k hk => (hown.lt k hk).1)
              rw [HT.out] at hown2
              clear hgrow hi hz0 hz1 hz2 hown
              go_wp2_with fail
              go_roundw
              case rel => exact ref_rel hlt hlen hdl hacc c1 HF.out hown2 hbel2
              case measure => simp [intOf]; omega
            · have HR : Hid (refKind (s.data.toList.drop p) = 4) := by show _ = _; unfold refKind; rw [if_neg (by omega)]; exact cK
              have HC := ref_more s f p acc hlt hpf HS.out cE
              obtain ⟨f1, HF⟩ := HC
              have HT : Hid ([Value.int .i64 4, .int .i64 p, .string (s.extract p (p + Tk.lenOf (s.data.toList.drop p)))] = tokCells (Tk.tokAt s.data.toList p)) := tok_cells s p 4 cK
              clear hNO cE cK HS hpf
              go_wp2_with fail
              refine (refAt_any s p _ (by omega) hlt).mono ?_
              rintro e w1 ⟨he, rfl⟩
              rw [HR.out] at he
              subst he
              have hz := hbel.size
              go_wp2_with (at_builtin; refine wpList_append_own _ rfl (.tmp 95) (.tmp 100) 22 rfl w.heap.size 34 i0 _ 3 32 Try.underlying22 hi hz0 hz1 hz2 rfl (by decide) _ _ _ rfl (hown.alloc _) ⟨w1.heap.size, 0, none⟩ 1 1 [.int .i64 4, .int .i64 p, .string (s.extract p (p + Tk.lenOf (s.data.toList.drop p)))] rfl rfl ?c1 ?c2 ?c3 ?c4 ?c5 ?_)
              case c1 =>
                intro j u hj
                match j, hj with
                | 0, hj => simp at hj; subst hj; simp [Addr.add, go_sem]
                | 1, hj => simp at hj; subst hj; simp [Addr.add, go_sem]
                | 2, hj => simp at hj; subst hj; simp [Addr.add, go_sem]
              case c2 => intro u hu; simp at hu; rcases hu with rfl | rfl | rfl <;> rfl
              case c3 => unfold maxLen; omega
              case c4 => omega
              case c5 => simp; omega
              intro v' w2 hown2 hgrow _
              obtain ⟨ao', cap', rfl⟩ := own_slice hown2
              have hbel2 := (hbel.alloc hz _).grown hgrow (by simp; omega) (fun k hk => (hown.lt k hk).1)
              rw [HT.out] at hown2
              clear hgrow hi hz0 hz1 hz2 hown
              go_wp2_with fail
              go_roundw
              case rel => exact ref_rel hlt hlen hdl hacc c1 HF.out hown2 hbel2
              case measure => simp [intOf]; omega
      · by_cases b10 : (s[p].toNat : Int) = 10
        · have e : p + Tk.sep true (s.data.toList.drop p) = p + 1 + Tk.sep false (s.data.toList.drop (p + 1)) := by rw [sep_lf s p hlt b10]; omega
          rw [e] at HS hpf
          have t10 : ((s[p].toNat : Int) != 10) = false := by simpa using b10
          clear e b10
          go_wp2_with fail
          go_roundw
          case rel => exact ⟨f, p + 1, false, acc, ao, cap, by omega, hpf, by omega, rfl, rfl, by go_num, HS.out, hown, hbel⟩
          case measure => simp [intOf]; omega
        · have e : p + Tk.sep true (s.data.toList.drop p) = p + 1 + Tk.sep true (s.data.toList.drop (p + 1)) := by rw [sep_more s p hlt b10]; omega
          rw [e] at HS hpf
          have t10 : ((s[p].toNat : Int) != 10) = true := bne_iff_ne.2 b10
          clear e b10
          go_wp2_with fail
          go_roundw
          case rel => exact ⟨f, p + 1, true, acc, ao, cap, by omega, hpf, by omega, rfl, rfl, by go_num, HS.out, hown, hbel⟩
          case measure => simp [intOf]; omega
    · have HE : Hid (Tk.scan s.data.toList = (acc, 0, 0)) := HS.out.symm.trans (Tk.scanP_end _ _ _ _ (by simp; omega))
      clear HS
      go_wp2_with fail
      go_ret3
      refine ⟨ao, cap, ?_, ?_, hbel⟩
      · rw [HE.out]; rfl
      · rw [HE.out]; exact hown

end Go.Proofs.Ytcfmjoidaehfkaa
