/- Package token: how one token is cut out of a text. -/
import Derived.Test.YtcfmjoidaehfkaaLeaf
import Derived.Test.YtcfmjoidaehfkaaShelf
import Derived.LoopN
import Derived.Lib.IndexBytes
namespace Go.Proofs.Ytcfmjoidaehfkaa
open Go.RowKit

set_option maxHeartbeats 400000 in
theorem clone_any (s : ByteArray) (w : World) (hs : s.size ≤ 281474976710656) :
    Calls Try.prog 41 #[.string s] w fun e w' => e = .returned (.string s) ∧ Below w.heap.size w w' := by
  go_enter Try.func41, Try.ntmps41
  go_wp2_with (go_at_call 44; refine (Try.stringslite_Clone _ _ hs).mono ?_; rintro e w' ⟨rfl, hb⟩)
  go_ret
  exact ⟨rfl, hb⟩

theorem bcell {W w1 : World} (hb : Below W.heap.size W w1) : (∀ b o, b < W.heap.size → w1.cell? ⟨b, o, none⟩ = W.cell? ⟨b, o, none⟩) ∧ (∀ b o, b < W.heap.size → w1.frozen? ⟨b, o, none⟩ = W.frozen? ⟨b, o, none⟩) :=
  ⟨fun b o h => hb.cell (p := ⟨b, o, none⟩) h, fun b o h => hb.frozen (p := ⟨b, o, none⟩) h⟩

/-- The new block of a token, as it is made. -/
abbrev tokObj : Obj := .cells #[.int .i64 0, .int .i64 0, .string { data := #[] }] 34

/-- Behind a call that kept it, the new block of a token is as it was. -/
theorem tokCell {w w1 : World} (hb : Below (w.alloc tokObj).heap.size (w.alloc tokObj) w1) :
    (w1.cell? ⟨w.heap.size, 0, none⟩ = some (.int .i64 0) ∧ w1.cell? ⟨w.heap.size, 1, none⟩ = some (.int .i64 0) ∧ w1.cell? ⟨w.heap.size, 2, none⟩ = some (.string { data := #[] })) ∧
    w1.frozen? ⟨w.heap.size, 0, none⟩ = false ∧ w1.frozen? ⟨w.heap.size, 1, none⟩ = false ∧ w1.frozen? ⟨w.heap.size, 2, none⟩ = false := by
  obtain ⟨hc, hf⟩ := bcell hb
  have h : w.heap.size < (w.alloc tokObj).heap.size := by simp
  refine ⟨⟨?_, ?_, ?_⟩, ?_, ?_, ?_⟩
  · rw [hc _ _ h]; simp [go_sem]
  · rw [hc _ _ h]; simp [go_sem]
  · rw [hc _ _ h]; simp [go_sem]
  · rw [hf _ _ h]; simp [go_sem]
  · rw [hf _ _ h]; simp [go_sem]
  · rw [hf _ _ h]; simp [go_sem]

theorem below_tok {w w1 : World} (hb : Below (w.alloc tokObj).heap.size (w.alloc tokObj) w1) (x y z : Value) :
    Below w.heap.size w (((w1.setCell ⟨w.heap.size, 0, none⟩ x).setCell ⟨w.heap.size, 1, none⟩ y).setCell ⟨w.heap.size, 2, none⟩ z) := by
  have h0 : Below w.heap.size w w1 := ((Below.refl _ _).alloc (Nat.le_refl _) _).trans (hb.mono (by simp))
  exact ((h0.setCell (p := ⟨w.heap.size, 0, none⟩) (Nat.le_refl _) _).setCell (p := ⟨w.heap.size, 1, none⟩) (Nat.le_refl _) _).setCell (p := ⟨w.heap.size, 2, none⟩) (Nat.le_refl _) _

set_option maxHeartbeats 400000 in
theorem cut_any (s : ByteArray) (a b k : Int) (w : World) (hs : s.size ≤ 281474976710656) (ha : 0 ≤ a) (hab : a ≤ b) (hb : b ≤ s.size) :
    Calls Try.prog 39 #[.string s, .int .i64 a, .int .i64 b, .int .i64 k] w fun e w' => e = .returned (.agg #[.int .i64 k, .int .i64 a, .string (s.extract a.toNat b.toNat)]) ∧ Below w.heap.size w w' := by
  go_enter Try.func39, Try.ntmps39
  go_wp2_with fail
  refine (clone_any _ _ (by simp; omega)).mono ?_
  rintro e w1 ⟨rfl, hb1⟩
  obtain ⟨⟨c0, c1, c2⟩, f0, f1, f2⟩ := tokCell hb1
  go_wp2
  refine bodyPost_ret (v := .agg #[.int .i64 k, .int .i64 a, .string (s.extract a.toNat b.toNat)]) (by simp [results, Try.results39, go_sem, c0, c1, c2]) rfl ⟨rfl, ?_⟩
  exact below_tok hb1 _ _ _

theorem pre_end (p : Int → Bool) (s : ByteArray) (a : Nat) (h : a ≤ s.size) : a + Tk.pre p (s.data.toList.drop a) ≤ s.size := by
  have h1 := Tk.pre_le p (s.data.toList.drop a)
  have h2 : (s.data.toList.drop a).length = s.size - a := by simp
  omega

theorem extract_cast (s : ByteArray) (a n : Nat) : s.extract ((a : Nat) : Int).toNat ((a : Int) + (n : Int)).toNat = s.extract a (a + n) := by
  rw [Int.toNat_natCast, show ((a : Int) + (n : Int)).toNat = a + n from by omega]

/-- The end of a call that gives up at a place. -/
abbrev gaveUp (a c : Int) : Ending := .panicked [{ v := .iface 36 (.agg #[.int .i64 a, .int .i64 c]), recovered := false }]

set_option maxHeartbeats 400000 in
theorem word_no (s : ByteArray) (at0 : Nat) (k : Int) (w : World) (hs : s.size ≤ 281474976710656) (ha : at0 ≤ s.size) (hn : 12 < Tk.pre Tk.alnum (s.data.toList.drop at0)) :
    Calls Try.prog 31 #[.string s, .int .i64 at0, .int .i64 k] w fun e w' => e = gaveUp at0 2 ∧ Below w.heap.size w w' := by
  go_enter Try.func31, Try.ntmps31
  go_wp2_with fail
  refine (run_any 38 Tk.alnum alnum_any enters38 s at0 _ (by unfold maxLen; omega) ha).mono ?_
  rintro e w1 ⟨rfl, rfl⟩
  have hle := pre_end Tk.alnum s at0 ha
  go_wp2_with fail
  exact ⟨rfl, rfl, (Below.refl _ _).alloc (Nat.le_refl _) _⟩

set_option maxHeartbeats 400000 in
theorem word_yes (s : ByteArray) (at0 : Nat) (k : Int) (w : World) (hs : s.size ≤ 281474976710656) (ha : at0 ≤ s.size) (hn : Tk.pre Tk.alnum (s.data.toList.drop at0) ≤ 12) :
    Calls Try.prog 31 #[.string s, .int .i64 at0, .int .i64 k] w fun e w' => e = .returned (.agg #[.int .i64 k, .int .i64 at0, .string (s.extract at0 (at0 + Tk.pre Tk.alnum (s.data.toList.drop at0)))]) ∧ Below w.heap.size w w' := by
  go_enter Try.func31, Try.ntmps31
  go_wp2_with fail
  refine (run_any 38 Tk.alnum alnum_any enters38 s at0 _ (by unfold maxLen; omega) ha).mono ?_
  rintro e w1 ⟨rfl, rfl⟩
  have hle := pre_end Tk.alnum s at0 ha
  go_wp2_with fail
  refine (cut_any s _ _ k _ hs (by omega) (by omega) (by omega)).mono ?_
  rintro e w1 ⟨he, hb1⟩
  rw [extract_cast] at he
  subst he
  obtain ⟨⟨c0, c1, c2⟩, f0, f1, f2⟩ := tokCell hb1
  go_wp2
  exact bodyPost_ret (v := .agg #[.int .i64 k, .int .i64 at0, .string (s.extract at0 (at0 + Tk.pre Tk.alnum (s.data.toList.drop at0)))]) (by simp [results, Try.results31, go_sem, c0, c1, c2]) rfl ⟨rfl, below_tok hb1 _ _ _⟩

set_option maxHeartbeats 400000 in
theorem number_many (s : ByteArray) (at0 : Nat) (w : World) (hs : s.size ≤ 281474976710656) (ha : at0 < s.size) (hn : 7 < Tk.pre Tk.digit (s.data.toList.drop at0)) :
    Calls Try.prog 34 #[.string s, .int .i64 at0] w fun e w' => e = gaveUp at0 2 ∧ Below w.heap.size w w' := by
  go_enter Try.func34, Try.ntmps34
  go_wp2_with fail
  refine (run_any 33 Tk.digit isDigit_any enters33 s at0 _ (by unfold maxLen; omega) (by omega)).mono ?_
  rintro e w1 ⟨rfl, rfl⟩
  have hle := pre_end Tk.digit s at0 (by omega)
  go_wp2_with fail
  exact ⟨rfl, rfl, (Below.refl _ _).alloc (Nat.le_refl _) _⟩

set_option maxHeartbeats 400000 in
theorem number_form (s : ByteArray) (at0 : Nat) (w : World) (hs : s.size ≤ 281474976710656) (ha : at0 < s.size) (hn : Tk.pre Tk.digit (s.data.toList.drop at0) ≤ 7) (hm : 1 < Tk.pre Tk.digit (s.data.toList.drop at0)) (h0 : ((s[at0].toNat : Int) == 48) = true) :
    Calls Try.prog 34 #[.string s, .int .i64 at0] w fun e w' => e = gaveUp at0 1 ∧ Below w.heap.size w w' := by
  go_enter Try.func34, Try.ntmps34
  go_wp2_with fail
  refine (run_any 33 Tk.digit isDigit_any enters33 s at0 _ (by unfold maxLen; omega) (by omega)).mono ?_
  rintro e w1 ⟨rfl, rfl⟩
  have hle := pre_end Tk.digit s at0 (by omega)
  go_wp2_with fail
  exact ⟨rfl, rfl, (Below.refl _ _).alloc (Nat.le_refl _) _⟩

set_option maxHeartbeats 400000 in
theorem number_yes (s : ByteArray) (at0 : Nat) (w : World) (hs : s.size ≤ 281474976710656) (ha : at0 < s.size) (hn : Tk.pre Tk.digit (s.data.toList.drop at0) ≤ 7) (hm : ((s[at0].toNat : Int) == 48) = false ∨ Tk.pre Tk.digit (s.data.toList.drop at0) ≤ 1) :
    Calls Try.prog 34 #[.string s, .int .i64 at0] w fun e w' => e = .returned (.agg #[.int .i64 3, .int .i64 at0, .string (s.extract at0 (at0 + Tk.pre Tk.digit (s.data.toList.drop at0)))]) ∧ Below w.heap.size w w' := by
  have hle := pre_end Tk.digit s at0 (by omega)
  rcases Bool.eq_false_or_eq_true ((s[at0].toNat : Int) == 48) with h0 | h0
  · have h1 : Tk.pre Tk.digit (s.data.toList.drop at0) ≤ 1 := by rcases hm with h | h; rw [h0] at h; cases h; exact h
    clear hm
    go_enter Try.func34, Try.ntmps34
    go_wp2_with fail
    refine (run_any 33 Tk.digit isDigit_any enters33 s at0 _ (by unfold maxLen; omega) (by omega)).mono ?_
    rintro e w1 ⟨rfl, rfl⟩
    go_wp2_with fail
    refine (cut_any s _ _ 3 _ hs (by omega) (by omega) (by omega)).mono ?_
    rintro e w1 ⟨he, hb1⟩
    rw [extract_cast] at he
    subst he
    obtain ⟨⟨c0, c1, c2⟩, f0, f1, f2⟩ := tokCell hb1
    go_wp2
    exact bodyPost_ret (v := .agg #[.int .i64 3, .int .i64 at0, .string (s.extract at0 (at0 + Tk.pre Tk.digit (s.data.toList.drop at0)))]) (by simp [results, Try.results34, go_sem, c0, c1, c2]) rfl ⟨rfl, below_tok hb1 _ _ _⟩
  · clear hm
    go_enter Try.func34, Try.ntmps34
    go_wp2_with fail
    refine (run_any 33 Tk.digit isDigit_any enters33 s at0 _ (by unfold maxLen; omega) (by omega)).mono ?_
    rintro e w1 ⟨rfl, rfl⟩
    go_wp2_with fail
    refine (cut_any s _ _ 3 _ hs (by omega) (by omega) (by omega)).mono ?_
    rintro e w1 ⟨he, hb1⟩
    rw [extract_cast] at he
    subst he
    obtain ⟨⟨c0, c1, c2⟩, f0, f1, f2⟩ := tokCell hb1
    go_wp2
    exact bodyPost_ret (v := .agg #[.int .i64 3, .int .i64 at0, .string (s.extract at0 (at0 + Tk.pre Tk.digit (s.data.toList.drop at0)))]) (by simp [results, Try.results34, go_sem, c0, c1, c2]) rfl ⟨rfl, below_tok hb1 _ _ _⟩

theorem sign_index_fin : ∀ n : Fin 256, Tk.isSign (UInt8.ofNat n.val) = decide (0 ≤ Lib.indexByte [40, 41, 44, 46, 60, 61, 43, 45, 42] (UInt8.ofNat n.val)) := by decide +kernel
theorem sign_index (x : UInt8) : Tk.isSign x = decide (0 ≤ Lib.indexByte [40, 41, 44, 46, 60, 61, 43, 45, 42] x) := by
  have h := sign_index_fin ⟨x.toNat, x.toNat_lt⟩
  simpa using h

set_option maxHeartbeats 1000000 in
theorem signLength_any (t : ByteArray) (w : World) (ht : 0 < t.size) :
    Calls Try.prog 40 #[.string t] w fun e w' => e = .returned (.int .i64 (Tk.signLen t.data.toList)) ∧ w' = w := by
  have i0 : ∀ w : World, (Instr.index 66 (.agg #[.string { data := #[58, 45] }, .string { data := #[60, 61] }, .string { data := #[33, 61] }]) (.int .i64 0)).run Try.prog w = .ok (.string { data := #[58, 45] }) w := fun _ => by kernel_rfl
  have i1 : ∀ w : World, (Instr.index 66 (.agg #[.string { data := #[58, 45] }, .string { data := #[60, 61] }, .string { data := #[33, 61] }]) (.int .i64 1)).run Try.prog w = .ok (.string { data := #[60, 61] }) w := fun _ => by kernel_rfl
  have i2 : ∀ w : World, (Instr.index 66 (.agg #[.string { data := #[58, 45] }, .string { data := #[60, 61] }, .string { data := #[33, 61] }]) (.int .i64 2)).run Try.prog w = .ok (.string { data := #[33, 61] }) w := fun _ => by kernel_rfl
  have hd : t.data.toList = t[0] :: t.data.toList.drop 1 := by
    have h := Tk.drop_cons t.data.toList 0 (by simpa using ht)
    rw [List.drop_zero] at h
    exact h
  have hu : ((t[0].toNat : Int).toNat.toUInt8) = t[0] := by simp [Nat.toUInt8]
  have hS := sign_index t[0]
  cases h0 : Lib.hasPrefix t.data.toList [58, 45]
  · cases h1 : Lib.hasPrefix t.data.toList [60, 61]
    · cases h2 : Lib.hasPrefix t.data.toList [33, 61]
      · have HS : Hid (Tk.signLen t.data.toList = if Tk.isSign t[0] then 1 else 0) := by
          have e1 : Tk.signLen t.data.toList = if [58, 45].isPrefixOf t.data.toList || [60, 61].isPrefixOf t.data.toList || [33, 61].isPrefixOf t.data.toList then 2 else match t.data.toList with | [] => 0 | c :: _ => if Tk.isSign c then 1 else 0 := rfl
          rw [Lib.hasPrefix] at h0 h1 h2
          rw [h0, h1, h2] at e1
          rw [hd] at e1
          rw [hd]
          exact e1
        clear hd
        cases h3 : Tk.isSign t[0]
        · rw [h3] at hS
          have hlt : Lib.indexByte [40, 41, 44, 46, 60, 61, 43, 45, 42] t[0] < 0 := by simpa using hS.symm
          have HS' : Hid (Tk.signLen t.data.toList = 0) := by have := HS.out; rw [h3] at this; exact this
          clear HS hS h3
          go_enter Try.func40, Try.ntmps40
          go_wp2
          refine wp_loop_rounds 4 ?_
          rw [rounds_succ]
          go_wp2_with (go_at_call 42; refine (Try.strings_HasPrefix _ _ _).mono ?_; rintro e w' ⟨rfl, rfl⟩)
          rw [rounds_succ]
          go_wp2_with (go_at_call 42; refine (Try.strings_HasPrefix _ _ _).mono ?_; rintro e w' ⟨rfl, rfl⟩)
          rw [rounds_succ]
          go_wp2_with (go_at_call 42; refine (Try.strings_HasPrefix _ _ _).mono ?_; rintro e w' ⟨rfl, rfl⟩)
          rw [rounds_succ]
          go_wp2_with fail
          refine (Try.strings_IndexByte _ _ _).mono ?_
          rintro e w' ⟨he, rfl⟩
          rw [hu] at he
          subst he
          go_wp2
          go_ret
          exact ⟨ret_int (by rw [HS'.out]; rfl), rfl⟩
        · rw [h3] at hS
          have hlt : 0 ≤ Lib.indexByte [40, 41, 44, 46, 60, 61, 43, 45, 42] t[0] := by simpa using hS.symm
          have HS' : Hid (Tk.signLen t.data.toList = 1) := by have := HS.out; rw [h3] at this; exact this
          clear HS hS h3
          go_enter Try.func40, Try.ntmps40
          go_wp2
          refine wp_loop_rounds 4 ?_
          rw [rounds_succ]
          go_wp2_with (go_at_call 42; refine (Try.strings_HasPrefix _ _ _).mono ?_; rintro e w' ⟨rfl, rfl⟩)
          rw [rounds_succ]
          go_wp2_with (go_at_call 42; refine (Try.strings_HasPrefix _ _ _).mono ?_; rintro e w' ⟨rfl, rfl⟩)
          rw [rounds_succ]
          go_wp2_with (go_at_call 42; refine (Try.strings_HasPrefix _ _ _).mono ?_; rintro e w' ⟨rfl, rfl⟩)
          rw [rounds_succ]
          go_wp2_with fail
          refine (Try.strings_IndexByte _ _ _).mono ?_
          rintro e w' ⟨he, rfl⟩
          rw [hu] at he
          subst he
          go_wp2
          go_ret
          exact ⟨ret_int (by rw [HS'.out]; rfl), rfl⟩
      · have HS : Hid (Tk.signLen t.data.toList = 2) := by rw [Lib.hasPrefix] at h2; simp [Hid, Tk.signLen, h2]
        clear hd hS hu
        go_enter Try.func40, Try.ntmps40
        go_wp2
        refine wp_loop_rounds 4 ?_
        rw [rounds_succ]
        go_wp2_with (go_at_call 42; refine (Try.strings_HasPrefix _ _ _).mono ?_; rintro e w' ⟨rfl, rfl⟩)
        rw [rounds_succ]
        go_wp2_with (go_at_call 42; refine (Try.strings_HasPrefix _ _ _).mono ?_; rintro e w' ⟨rfl, rfl⟩)
        rw [rounds_succ]
        go_wp2_with (go_at_call 42; refine (Try.strings_HasPrefix _ _ _).mono ?_; rintro e w' ⟨rfl, rfl⟩)
        go_ret
        exact ⟨ret_int (by rw [HS.out]; rfl), rfl⟩
    · have HS : Hid (Tk.signLen t.data.toList = 2) := by rw [Lib.hasPrefix] at h1; simp [Hid, Tk.signLen, h1]
      clear hd hS hu
      go_enter Try.func40, Try.ntmps40
      go_wp2
      refine wp_loop_rounds 4 ?_
      rw [rounds_succ]
      go_wp2_with (go_at_call 42; refine (Try.strings_HasPrefix _ _ _).mono ?_; rintro e w' ⟨rfl, rfl⟩)
      rw [rounds_succ]
      go_wp2_with (go_at_call 42; refine (Try.strings_HasPrefix _ _ _).mono ?_; rintro e w' ⟨rfl, rfl⟩)
      go_ret
      exact ⟨ret_int (by rw [HS.out]; rfl), rfl⟩
  · have HS : Hid (Tk.signLen t.data.toList = 2) := by rw [Lib.hasPrefix] at h0; simp [Hid, Tk.signLen, h0]
    clear hd hS hu
    go_enter Try.func40, Try.ntmps40
    go_wp2
    refine wp_loop_rounds 4 ?_
    rw [rounds_succ]
    go_wp2_with (go_at_call 42; refine (Try.strings_HasPrefix _ _ _).mono ?_; rintro e w' ⟨rfl, rfl⟩)
    go_ret
    exact ⟨ret_int (by rw [HS.out]; rfl), rfl⟩

end Go.Proofs.Ytcfmjoidaehfkaa
