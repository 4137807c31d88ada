/- Own texts, one behind the other (part 8). -/
import Derived.Test.YtclbbiocagkmcaaGreatDoorBundleG
import Derived.Test.YtclbbiocagkmcaaGreatDoorRows
import Derived.Test.YtclbbiocagkmcaaGreatDoorCards
import Derived.Test.YtclbbiocagkmcaaGreatDoorTie
import Derived.ProofKit
import Derived.Deep.Slices
import Derived.Deep.Strs
import Derived.Lib.LaidTab
import Derived.LaidLaws
/- The document's texts: digits, terms. -/
namespace Go.Proofs.YtclbbiocagkmcaaGreatDoor
open Go.RowKit

theorem app_list (a b : List UInt8) : ({ data := a.toArray } : ByteArray) ++ { data := b.toArray } = { data := (a ++ b).toArray } := by
  apply ByteArray.ext
  simp
theorem dec_tiny {u : Nat} (h : u < 10) : Lib.decDigits u = [UInt8.ofNat (48 + u)] := by rw [Lib.decDigits, dif_pos h]
theorem dec_big {u : Nat} (h : ¬ u < 10) : Lib.decDigits u = Lib.decDigits (u / 10) ++ Lib.decDigits (u % 10) := by
  rw [Lib.decDigits, dif_neg h, dec_tiny (Nat.mod_lt u (by decide))]
theorem dec_len7 {u : Nat} (h : u < 10000000) : (Lib.decDigits u).length ≤ 7 := by
  rw [Sh.dec_len]
  exact Sh.nDigits_le 6 u h

set_option maxRecDepth 100000 in
set_option maxHeartbeats 1000000 in
theorem digits_nat : ∀ (u : Nat), u < 10000000 → ∀ w : World, Calls Tryz.prog 37 #[.int .i64 u] w fun e w' => e = .returned (strV (Lib.decDigits u)) ∧ Below w.heap.size w w' := by
  intro u
  induction u using Nat.strongRecOn with
  | _ u ih =>
    intro hu w
    have h0 : decide ((u : Int) < 0) = false := decide_eq_false (by omega)
    by_cases h : u < 10
    · have h1 : decide (u < 10) = true := decide_eq_true h
      have h1' : decide ((u : Int) < 10) = true := decide_eq_true (by omega)
      rw [dec_tiny h]
      have hcell : (w.alloc (.cells #[.int .u8 (48 + (u : Int))] 5)).cell? ⟨w.heap.size, 0, none⟩ = some (.int .u8 (48 + (u : Int))) := by rw [Lib.cell_of_heap (heap_alloc_new w _)]; rfl
      have HC : Hid ((convert 38 9 (.slice (some ⟨w.heap.size, 0, none⟩) 1 1)).run Tryz.prog (w.alloc (.cells #[.int .u8 (48 + (u : Int))] 5)) = .ok (strV [UInt8.ofNat (48 + u)]) (w.alloc (.cells #[.int .u8 (48 + (u : Int))] 5))) := by
        show _ = _
        rw [run_convert_bytes_arg _ 38 5 Tryz.underlying38 Tryz.underlying5 w.heap.size 0 1 1 [48 + (u : Int)] rfl ?_ 9 Tryz.underlying9]
        · congr 2
        · intro i hi
          obtain rfl : i = 0 := by omega
          exact hcell
      generalize UInt8.ofNat (48 + u) = c at *
      go_enter Tryz.func37, Tryz.ntmps37
      go_wp2_with fail
      rw [HC.out]
      simp only [Result.andThen]
      rw [Oper.upon_value]
      go_wp2_with fail
      go_ret
      exact ⟨rfl, (Below.refl _ _).alloc (Nat.le_refl _) _⟩
    · have h1 : decide (u < 10) = false := decide_eq_false h
      have h1' : decide ((u : Int) < 10) = false := decide_eq_false (by omega)
      have HA : Hid (∀ w, _) := ih (u / 10) (by omega) (by omega)
      have HB : Hid (∀ w, _) := ih (u % 10) (by omega) (by omega)
      have HE : Hid (Lib.decDigits u = Lib.decDigits (u / 10) ++ Lib.decDigits (u % 10)) := dec_big h
      have hl1 := dec_len7 (u := u / 10) (by omega)
      have hl2 := dec_len7 (u := u % 10) (by omega)
      clear ih
      have hq : ((u : Int) / 10) = ((u / 10 : Nat) : Int) := by omega
      have hr : ((u : Int) % 10) = ((u % 10 : Nat) : Int) := by omega
      have HQ : Hid _ := hq
      have HR : Hid _ := hr
      clear hq hr
      have hs : ¬ 9223372036854775807 < (Lib.decDigits (u / 10)).length + (Lib.decDigits (u % 10)).length := by omega
      generalize Lib.decDigits (u / 10) = D1 at *
      generalize Lib.decDigits (u % 10) = D2 at *
      generalize Lib.decDigits u = D at *
      go_enter Tryz.func37, Tryz.ntmps37
      go_wp2_with fail
      rw [HQ.out]
      refine Calls.mono (HA.out _) ?_
      rintro e w1 ⟨rfl, hb1⟩
      go_wp2_with fail
      rw [HR.out]
      refine Calls.mono (HB.out _) ?_
      rintro e w2 ⟨rfl, hb2⟩
      go_wp2_with fail
      go_ret
      exact ⟨by rw [HE.out]; rfl, hb1.trans (hb2.mono hb1.size)⟩

set_option maxRecDepth 100000 in
set_option maxHeartbeats 1000000 in
theorem digits_any (n : Int) (h0 : -9999999 ≤ n) (h1 : n ≤ 9999999) (w : World) : Calls Tryz.prog 37 #[.int .i64 n] w fun e w' => e = .returned (strV (Lib.itoa n)) ∧ Below w.heap.size w w' := by
  by_cases h : n < 0
  · have hi : Lib.itoa n = 45 :: Lib.decDigits n.natAbs := by unfold Lib.itoa; rw [if_pos h]
    rw [hi]
    obtain ⟨u, hu⟩ : ∃ u : Nat, n = -(u : Int) := ⟨n.natAbs, by omega⟩
    subst hu
    have hna : (-(u : Int)).natAbs = u := by omega
    rw [hna]
    have hu1 : 1 ≤ u := by omega
    have hu7 : u < 10000000 := by omega
    have hn0 : decide (-(u : Int) < 0) = true := decide_eq_true h
    clear hi hna
    by_cases h10 : u < 10
    · have hg : decide ((-10 : Int) < -(u : Int)) = true := decide_eq_true (by omega)
      have HA : Hid (∀ w, _) := digits_nat u hu7
      have hl := dec_len7 hu7
      have hs : ¬ 9223372036854775807 < 1 + (Lib.decDigits u).length := by omega
      generalize Lib.decDigits u = D at *
      go_enter Tryz.func37, Tryz.ntmps37
      go_wp2_with fail
      refine Calls.mono (HA.out _) ?_
      rintro e w1 ⟨rfl, hb1⟩
      go_wp2_with fail
      go_ret
      exact ⟨rfl, hb1⟩
    · have hg : decide ((-10 : Int) < -(u : Int)) = false := decide_eq_false (by omega)
      have hg' : decide ((u : Int) < 10) = false := decide_eq_false (by omega)
      have hg'' : decide (u < 10) = false := decide_eq_false h10
      have HA : Hid (∀ w, _) := digits_nat (u / 10) (by omega)
      have HB : Hid (∀ w, _) := digits_nat (u % 10) (by omega)
      have HE : Hid (Lib.decDigits u = Lib.decDigits (u / 10) ++ Lib.decDigits (u % 10)) := dec_big h10
      have hl1 := dec_len7 (u := u / 10) (by omega)
      have hl2 := dec_len7 (u := u % 10) (by omega)
      have hs1 : ¬ 9223372036854775807 < 1 + (Lib.decDigits (u / 10)).length := by omega
      have hs2 : ¬ 9223372036854775807 < (Lib.decDigits (u / 10)).length + 1 + (Lib.decDigits (u % 10)).length := by omega
      generalize Lib.decDigits (u / 10) = D1 at *
      generalize Lib.decDigits (u % 10) = D2 at *
      generalize Lib.decDigits u = D at *
      go_enter Tryz.func37, Tryz.ntmps37
      go_wp2_with fail
      rw [show ((u : Int) / 10) = ((u / 10 : Nat) : Int) by omega]
      refine Calls.mono (HA.out _) ?_
      rintro e w1 ⟨rfl, hb1⟩
      go_wp2_with fail
      rw [show ((u : Int) % 10) = ((u % 10 : Nat) : Int) by omega]
      refine Calls.mono (HB.out _) ?_
      rintro e w2 ⟨rfl, hb2⟩
      go_wp2_with fail
      go_ret
      exact ⟨by rw [HE.out]; rfl, hb1.trans (hb2.mono hb1.size)⟩
  · have hi : Lib.itoa n = Lib.decDigits n.toNat := by unfold Lib.itoa; rw [if_neg h]
    rw [hi]
    obtain ⟨u, hu⟩ : ∃ u : Nat, n = (u : Int) := ⟨n.toNat, by omega⟩
    subst hu
    exact digits_nat u (by omega) w

set_option maxRecDepth 100000 in
set_option maxHeartbeats 1000000 in
theorem termText_any (t : Tr.Term) (h : Tr.termOk t = true) (w : World) : Calls Tryz.prog 21 #[termVal t] w fun e w' => e = .returned (strV (Sh.term t)) ∧ Below w.heap.size w w' := by
  have hb1 : Below w.heap.size w (w.alloc (.cells #[.string ⟨t.var.toArray⟩, .int .i64 t.n] 57)) := (Below.refl _ _).alloc (Nat.le_refl _) _
  have hX := heap_alloc_new w (.cells #[.string ⟨t.var.toArray⟩, .int .i64 t.n] 57)
  have x0 : (w.alloc (.cells #[.string ⟨t.var.toArray⟩, .int .i64 t.n] 57)).cell? ⟨w.heap.size, 0, none⟩ = some (.string ⟨t.var.toArray⟩) := by rw [Lib.cell_of_heap hX]; rfl
  have x1 : (w.alloc (.cells #[.string ⟨t.var.toArray⟩, .int .i64 t.n] 57)).cell? ⟨w.heap.size, 1, none⟩ = some (.int .i64 t.n) := by rw [Lib.cell_of_heap hX]; rfl
  by_cases hv : t.var = []
  · have ht : Sh.term t = Lib.itoa t.n := by unfold Sh.term; rw [hv]; rfl
    rw [ht]
    have hn : -9999999 ≤ t.n ∧ t.n ≤ 9999999 := by
      unfold Tr.termOk at h
      rw [hv] at h
      simpa [Tr.between] using h
    obtain ⟨tv, tn⟩ := t
    obtain rfl : tv = [] := hv
    have HD : Hid (∀ w, _) := fun w => digits_any tn hn.1 hn.2 w
    generalize Lib.itoa tn = D at *
    clear ht h hn
    go_enter Tryz.func21, Tryz.ntmps21
    go_wp2_with fail
    refine Calls.mono (HD.out _) ?_
    rintro e w2 ⟨rfl, hb2⟩
    go_wp2_with fail
    go_ret
    exact ⟨rfl, hb1.trans (hb2.mono hb1.size)⟩
  · have ht : Sh.term t = t.var := by unfold Sh.term; rw [if_neg (by simpa using hv)]
    rw [ht]
    have hve : t.var.isEmpty = false := by simpa using hv
    clear ht h hv
    go_enter Tryz.func21, Tryz.ntmps21
    go_wp2_with fail
    go_ret
    exact ⟨rfl, hb1⟩

end Go.Proofs.YtclbbiocagkmcaaGreatDoor

/- What is shown, laid of tokens and blanks. -/
namespace Go.Proofs.YtclbbiocagkmcaaGreatDoor
namespace Sh

/-! ### A number's digits are a token -/
theorem pre_all (p : Int → Bool) : ∀ l : List UInt8, (∀ b ∈ l, p (b.toNat : Int) = true) → Tk.pre p l = l.length
  | [], _ => rfl
  | c :: l, h => by
    rw [Tk.pre, if_pos (h c (by simp)), pre_all p l (fun b hb => h b (by simp [hb]))]
    rfl
theorem lead (u : Nat) : ∀ l, Lib.decDigits u = 48 :: l → l = [] := by
  induction u using Nat.strongRecOn with
  | _ u ih =>
    intro l hl
    by_cases h : u < 10
    · rw [Lib.decDigits_one h] at hl
      injection hl with _ h2
      exact h2.symm
    · rw [Lib.decDigits, dif_neg h] at hl
      obtain ⟨c, m, hc⟩ := digits_ne (u / 10)
      rw [hc] at hl
      injection hl with h1 h2
      subst h1
      have hm := ih (u / 10) (by omega) m hc
      subst hm
      have hf := decFrom_digits (u / 10)
      rw [hc] at hf
      have h0 : Lib.decFrom 0 [48] = some 0 := by decide
      rw [h0] at hf
      injection hf with hf
      omega
theorem digits_tok (u : Nat) (hu : u < 10000000) : Tk.isTok 3 (Lib.decDigits u) = true := by
  have hd := digits_digit u
  have hl := dec_len7 hu
  have hz := lead u
  obtain ⟨c, l, hc⟩ := digits_ne u
  rw [hc] at hd hl hz ⊢
  have hp := pre_all Tk.digit (c :: l) hd
  have hcd := hd c (by simp)
  have hsg : (Tk.small c.toNat || Tk.great c.toNat) = false := by
    unfold Tk.digit at hcd
    simp only [Bool.and_eq_true, decide_eq_true_eq] at hcd
    simp only [Tk.small, Tk.great, Bool.or_eq_false_iff, Bool.and_eq_false_iff, decide_eq_false_iff_not]
    omega
  have hs : Tk.small c.toNat = false := (Bool.or_eq_false_iff.1 hsg).1
  have hg : Tk.great c.toNat = false := (Bool.or_eq_false_iff.1 hsg).2
  refine decide_eq_true ⟨by simp, by omega, ?_, ?_, ?_⟩
  · rw [errOf_cons, if_neg (by rw [hsg]; simp), if_pos hcd, hp, if_neg (by omega), if_neg]
    rintro ⟨h1, h2⟩
    have h48 : c = 48 := by
      apply UInt8.toNat.inj
      have : c.toNat = 48 := by omega
      rw [this]
      rfl
    subst h48
    have := hz l rfl
    subst this
    simp at h2
  · rw [kindOf_cons, if_neg (by rw [hs]; simp), if_neg (by rw [hg]; simp), if_pos hcd]
  · rw [lenOf_cons, if_neg (by rw [hsg]; simp), if_pos hcd, hp]

/-! ### Terms -/
/-- What stands behind is no letter and no digit. -/
def stop (r : List UInt8) : Prop := ∀ c s, r = c :: s → Tk.alnum c.toNat = false
theorem stop_cons {c : UInt8} (r : List UInt8) (h : Tk.alnum c.toNat = false) : stop (c :: r) := fun d s e => by injection e with e1 _; rw [← e1]; exact h
theorem okB_digit {a : UInt8} {q : List UInt8} {c : UInt8} (ha : Tk.digit a.toNat = true) (hc : Tk.alnum c.toNat = false) : okB (a :: q) c = true := by
  have h2 : Tk.digit c.toNat = false := by unfold Tk.alnum at hc; simp only [Bool.or_eq_false_iff] at hc; exact hc.2
  unfold okB
  simp only [hc, h2, ha]
  split <;> rfl
theorem okB_word {a : UInt8} {q : List UInt8} {c : UInt8} (ha : (Tk.small a.toNat || Tk.great a.toNat) = true) (hc : Tk.alnum c.toNat = false) : okB (a :: q) c = true := by
  unfold okB
  simp only [hc, ha, if_true, Bool.not_false]
theorem word_hd {a : UInt8} {q : List UInt8} (h : Tk.isTok 1 (a :: q) = true) : (Tk.small a.toNat || Tk.great a.toNat) = true := by
  have h1 := (of_decide_eq_true h).2.2.2.1
  rw [kindOf_cons] at h1
  split at h1
  · rename_i hs; rw [hs]; rfl
  · split at h1
    · cases h1
    · split at h1 <;> cases h1
theorem okB_tok {k : Int} (hk : k = 1 ∨ k = 2 ∨ k = 3) {t : List UInt8} (h : Tk.isTok k t = true) {c : UInt8} (hc : Tk.alnum c.toNat = false) : okB t c = true := by
  have h1 := of_decide_eq_true h
  obtain ⟨hne, _, _, hkk, _⟩ := h1
  match t, hne with
  | a :: q, _ =>
    by_cases hw : (Tk.small a.toNat || Tk.great a.toNat) = true
    · exact okB_word hw hc
    · by_cases hd : Tk.digit a.toNat = true
      · exact okB_digit hd hc
      · exfalso
        have hw' : (Tk.small a.toNat || Tk.great a.toNat) = false := by simpa using hw
        have hs : Tk.small a.toNat = false := (Bool.or_eq_false_iff.1 hw').1
        have hg : Tk.great a.toNat = false := (Bool.or_eq_false_iff.1 hw').2
        rw [kindOf_cons, if_neg (by rw [hs]; simp), if_neg (by rw [hg]; simp), if_neg hd] at hkk
        omega

def termE (t : Tr.Term) : List El := (termK t).map Sum.inl
theorem tx_term (t : Tr.Term) : tx (termE t) = term t := by
  unfold termE termK term Lib.itoa
  split
  · split <;> simp [tx]
  · simp [tx]
theorem toks_inl : ∀ l : List Tk.Tok, toks (l.map Sum.inl) = l
  | [] => rfl
  | t :: l => by rw [List.map_cons, toks, toks_inl l]
theorem toks_term (t : Tr.Term) : toks (termE t) = termK t := toks_inl _
theorem good_term (t : Tr.Term) (h : Tr.termOk t = true) (r : List UInt8) (hr : stop r) : good (termE t) r := by
  obtain ⟨var, n⟩ := t
  unfold Tr.termOk at h
  unfold termE termK
  cases var with
  | nil =>
    simp only [List.isEmpty_nil, if_true, Tr.between, Bool.and_eq_true, decide_eq_true_eq] at h
    by_cases hn : n < 0
    · simp only [List.isEmpty_nil, if_true, hn, List.map_cons, List.map_nil]
      have ht := digits_tok n.natAbs (by omega)
      refine ⟨by decide, fun c s e => by rfl, ht, fun c s e => okB_tok (by simp) ht (hr c s (by simpa [tx] using e)), trivial⟩
    · simp only [List.isEmpty_nil, if_true, hn, if_false, List.map_cons, List.map_nil]
      have ht := digits_tok n.toNat (by omega)
      exact ⟨ht, fun c s e => okB_tok (by simp) ht (hr c s (by simpa [tx] using e)), trivial⟩
  | cons a q =>
    simp only [List.isEmpty_cons, Bool.false_eq_true, if_false, Bool.and_eq_true, beq_iff_eq] at h
    simp only [List.isEmpty_cons, Bool.false_eq_true, if_false, List.map_cons, List.map_nil]
    exact ⟨h.2, fun c s e => okB_tok (by simp) h.2 (hr c s (by simpa [tx] using e)), trivial⟩

def foldE (f : Int) : List El := (foldK f).map Sum.inl ++ (if f = 1 ∨ f = 2 ∨ f = 3 ∨ f = 4 then [.inr 32] else [])
theorem tx_fold (f : Int) : tx (foldE f) = fold f := by
  unfold foldE foldK fold
  by_cases h1 : f = 1
  · subst h1; rfl
  by_cases h2 : f = 2
  · subst h2; rfl
  by_cases h3 : f = 3
  · subst h3; rfl
  by_cases h4 : f = 4
  · subst h4; rfl
  simp [h1, h2, h3, h4, tx]
theorem toks_fold (f : Int) : toks (foldE f) = foldK f := by
  unfold foldE
  rw [toks_append, toks_inl]
  split <;> simp [toks]
theorem good_fold (f : Int) (r : List UInt8) : good (foldE f) r := by
  unfold foldE foldK
  by_cases h1 : f = 1
  · subst h1; exact ⟨by decide, fun c s e => by injection e with e1 _; rw [← e1]; rfl, .inl rfl, trivial⟩
  by_cases h2 : f = 2
  · subst h2; exact ⟨by decide, fun c s e => by injection e with e1 _; rw [← e1]; rfl, .inl rfl, trivial⟩
  by_cases h3 : f = 3
  · subst h3; exact ⟨by decide, fun c s e => by injection e with e1 _; rw [← e1]; rfl, .inl rfl, trivial⟩
  by_cases h4 : f = 4
  · subst h4; exact ⟨by decide, fun c s e => by injection e with e1 _; rw [← e1]; rfl, .inl rfl, trivial⟩
  simp [h1, h2, h3, h4, good]

def termsE (fa : List El) : List Tr.Term → List El
  | [] => []
  | [t] => fa ++ termE t
  | t :: u :: l => termE t ++ .inl (sg [44]) :: .inr 32 :: termsE fa (u :: l)
theorem tx_terms (fa : List El) (l : List Tr.Term) (h : l.length ≤ 3) : tx (termsE fa l) = terms (tx fa) l l.length := by
  match l, h with
  | [], _ => rfl
  | [a], _ => simp [termsE, tx_append, tx_term, terms, sep, ahead, Tr.termD]
  | [a, b], _ => simp [termsE, tx_append, tx_term, tx, terms, sep, ahead, Tr.termD]
  | [a, b, c], _ => simp [termsE, tx_append, tx_term, tx, terms, sep, ahead, Tr.termD]
theorem toks_terms (fa : List El) : ∀ l : List Tr.Term, toks (termsE fa l) = termsK (toks fa) l
  | [] => rfl
  | [t] => by rw [termsE, termsK, toks_append, toks_term]
  | t :: u :: l => by rw [termsE, termsK, toks_append, toks_term, toks, toks, toks_terms fa (u :: l)]
theorem good_terms (f : Int) (r : List UInt8) (hr : stop r) : ∀ l : List Tr.Term, Tr.termsOk l = true → good (termsE (foldE f) l) r
  | [], _ => trivial
  | [t], hok => good_append _ _ _ (good_fold f _) (good_term t (List.all_eq_true.1 hok t (by simp)) r hr)
  | t :: u :: l, hok => by
    have ih := good_terms f r hr (u :: l) (List.all_eq_true.2 fun x hx => List.all_eq_true.1 hok x (List.mem_cons_of_mem _ hx))
    rw [termsE]
    exact good_append _ _ _ (good_term t (List.all_eq_true.1 hok t (by simp)) _ (stop_cons _ (by decide))) ⟨by decide, fun c s e => by rfl, .inl rfl, ih⟩

def atomE (nm : List UInt8) (l : List Tr.Term) (f : Int) : List El := .inl ⟨1, 0, nm⟩ :: .inl (sg [40]) :: (termsE (foldE f) l ++ [.inl (sg [41])])
theorem tx_atom (nm : List UInt8) (l : List Tr.Term) (f : Int) (h : l.length ≤ 3) : tx (atomE nm l f) = atom nm l f := by
  simp [atomE, atom, tx, tx_append, tx_terms _ l h, tx_fold]
theorem toks_atom (nm : List UInt8) (l : List Tr.Term) (f : Int) : toks (atomE nm l f) = atomK nm l f := by
  simp [atomE, atomK, toks, toks_append, toks_terms, toks_fold]
theorem good_atom (nm : List UInt8) (l : List Tr.Term) (f : Int) (hn : Tr.isName nm = true) (hok : Tr.termsOk l = true) (r : List UInt8) : good (atomE nm l f) r := by
  unfold Tr.isName at hn
  simp only [Bool.and_eq_true] at hn
  refine ⟨hn.1, fun c s e => okB_tok (by simp) hn.1 ?_, by decide, fun c s e => by rfl, good_append _ _ _ (good_terms f _ (stop_cons _ (by decide)) l hok) ⟨by decide, fun c s e => by rfl, trivial⟩⟩
  have : c = 40 := by
    have e' : (40 : UInt8) :: (tx (termsE (foldE f) l ++ [.inl (sg [41])]) ++ r) = c :: s := e
    injection e' with e1 _
    exact e1.symm
  subst this
  decide
end Sh
end Go.Proofs.YtclbbiocagkmcaaGreatDoor

/- What is shown is parsed to the same tree. -/
namespace Go.Proofs.YtclbbiocagkmcaaGreatDoor
namespace Sh

/-! ### Literals -/
def thirdE (x : Tr.Lit) : List El := if x.kind = 4 then .inr 32 :: .inl (sg [61]) :: .inr 32 :: termE (Tr.termD x.terms 2) else []
def reckE (x : Tr.Lit) : List El := termE (Tr.termD x.terms 0) ++ .inr 32 :: .inl (sg (sign x.op)) :: .inr 32 :: (termE (Tr.termD x.terms 1) ++ thirdE x)
def litE (x : Tr.Lit) : List El := if x.kind = 1 then atomE x.name x.terms 0 else if x.kind = 2 then .inl ⟨1, 0, [110, 111, 116]⟩ :: .inr 32 :: atomE x.name x.terms 0 else reckE x
theorem tx_third (x : Tr.Lit) : tx (thirdE x) = third x := by
  unfold thirdE third
  split
  · simp [tx, tx_term]
  · rfl
theorem tx_reck (x : Tr.Lit) : tx (reckE x) = reck x := by
  simp [reckE, reck, tx, tx_append, tx_term, tx_third]
theorem tx_lit (x : Tr.Lit) (h : x.terms.length ≤ 3) : tx (litE x) = lit x := by
  unfold litE lit
  split
  · exact tx_atom _ _ _ h
  · split
    · rw [tx, tx, tx_atom _ _ _ h]; rfl
    · exact tx_reck x
theorem toks_third (x : Tr.Lit) : toks (thirdE x) = thirdK x := by
  unfold thirdE thirdK
  split
  · simp [toks, toks_term]
  · rfl
theorem toks_lit (x : Tr.Lit) : toks (litE x) = litK x := by
  unfold litE litK
  split
  · exact toks_atom _ _ _
  · split
    · rw [toks, toks, toks_atom]
    · simp [reckE, reckK, toks, toks_append, toks_term, toks_third]
theorem sign_tok {o : Int} (h : 1 ≤ o ∧ o ≤ 7) : Tk.isTok 4 (sign o) = true ∧ okB (sign o) 32 = true := by
  have : o = 1 ∨ o = 2 ∨ o = 3 ∨ o = 4 ∨ o = 5 ∨ o = 6 ∨ o = 7 := by omega
  rcases this with rfl | rfl | rfl | rfl | rfl | rfl | rfl <;> decide
theorem hd32 {l : List UInt8} {c : UInt8} {s : List UInt8} (e : 32 :: l = c :: s) : c = 32 := by injection e with e1 _; exact e1.symm
theorem good_reck (x : Tr.Lit) (ho : 1 ≤ x.op ∧ x.op ≤ 7) (ht : Tr.termsOk x.terms = true) (h2 : 2 ≤ x.terms.length) (h4 : x.kind = 4 → x.terms.length = 3) (r : List UInt8) (hr : stop r) : good (reckE x) r := by
  have t0 := termsD _ ht 0 (by omega)
  have t1 := termsD _ ht 1 (by omega)
  obtain ⟨s1, s2⟩ := sign_tok ho
  have g3 : good (thirdE x) r ∧ stop (tx (thirdE x) ++ r) := by
    unfold thirdE
    split
    · rename_i hk
      have t2 := termsD _ ht 2 (by have := h4 hk; omega)
      exact ⟨⟨.inl rfl, by decide, fun c s e => by rw [hd32 e]; rfl, .inl rfl, good_term _ t2 r hr⟩, stop_cons _ (by decide)⟩
    · exact ⟨trivial, hr⟩
  exact good_append _ _ _ (good_term _ t0 _ (stop_cons _ (by decide))) ⟨.inl rfl, s1, fun c s e => by rw [hd32 e]; exact s2, .inl rfl, good_append _ _ _ (good_term _ t1 _ g3.2) g3.1⟩
theorem good_lit (x : Tr.Lit) (h : Tr.litOk x = true) (r : List UInt8) (hr : stop r) : good (litE x) r := by
  unfold Tr.litOk at h
  simp only [Bool.and_eq_true] at h
  obtain ⟨ht, h⟩ := h
  unfold litE
  split
  · rename_i h1
    rw [if_pos (.inl h1), Bool.and_eq_true] at h
    exact good_atom _ _ _ h.2 ht r
  · rename_i h1
    split
    · rename_i h2
      rw [if_pos (.inr h2), Bool.and_eq_true] at h
      exact ⟨by decide, fun c s e => by rw [hd32 e]; rfl, .inl rfl, good_atom _ _ _ h.2 ht r⟩
    · rename_i h2
      rw [if_neg (by rintro (h | h); exact h1 h; exact h2 h)] at h
      by_cases h3 : x.kind = 3
      · rw [if_pos h3] at h
        simp only [Bool.and_eq_true, beq_iff_eq, Tr.between, decide_eq_true_eq] at h
        exact good_reck x (by omega) ht (by omega) (by omega) r hr
      · rw [if_neg h3] at h
        by_cases h4 : x.kind = 4
        · rw [if_pos h4] at h
          simp only [Bool.and_eq_true, beq_iff_eq, Tr.between, decide_eq_true_eq] at h
          exact good_reck x (by omega) ht (by omega) (by omega) r hr
        · rw [if_neg h4] at h
          cases h

def litsE : List Tr.Lit → List El
  | [] => []
  | [x] => litE x
  | x :: y :: l => litE x ++ .inl (sg [44]) :: .inr 32 :: litsE (y :: l)
theorem tx_lits (l : List Tr.Lit) (h : l.length ≤ 4) (h3 : ∀ x ∈ l, x.terms.length ≤ 3) : tx (litsE l) = lits l l.length := by
  match l, h, h3 with
  | [], _, _ => rfl
  | [a], _, h3 => simp [litsE, tx_lit a (h3 a (by simp)), lits, sep, Tr.litD]
  | [a, b], _, h3 => simp [litsE, tx_append, tx, tx_lit a (h3 a (by simp)), tx_lit b (h3 b (by simp)), lits, sep, Tr.litD]
  | [a, b, c], _, h3 => simp [litsE, tx_append, tx, tx_lit a (h3 a (by simp)), tx_lit b (h3 b (by simp)), tx_lit c (h3 c (by simp)), lits, sep, Tr.litD]
  | [a, b, c, d], _, h3 => simp [litsE, tx_append, tx, tx_lit a (h3 a (by simp)), tx_lit b (h3 b (by simp)), tx_lit c (h3 c (by simp)), tx_lit d (h3 d (by simp)), lits, sep, Tr.litD]
theorem toks_lits : ∀ l : List Tr.Lit, toks (litsE l) = litsK l
  | [] => rfl
  | [x] => toks_lit x
  | x :: y :: l => by rw [litsE, litsK, toks_append, toks_lit, toks, toks, toks_lits (y :: l)]
theorem good_lits (r : List UInt8) (hr : stop r) : ∀ l : List Tr.Lit, Tr.litsOk l = true → good (litsE l) r
  | [], _ => trivial
  | [x], hok => good_lit x (List.all_eq_true.1 hok x (by simp)) r hr
  | x :: y :: l, hok => by
    have ih := good_lits r hr (y :: l) (List.all_eq_true.2 fun z hz => List.all_eq_true.1 hok z (List.mem_cons_of_mem _ hz))
    rw [litsE]
    exact good_append _ _ _ (good_lit x (List.all_eq_true.1 hok x (by simp)) _ (stop_cons _ (by decide))) ⟨by decide, fun c s e => by rfl, .inl rfl, ih⟩

/-! ### Rules and trees -/
def tailE : List Tr.Lit → List El
  | [] => []
  | x :: l => .inr 32 :: .inl (sg [58, 45]) :: .inr 32 :: litsE (x :: l)
theorem tx_tail (b : List Tr.Lit) (h : b.length ≤ 4) (h3 : ∀ x ∈ b, x.terms.length ≤ 3) : tx (tailE b) = tail b := by
  cases b with
  | nil => rfl
  | cons x l =>
    unfold tail
    rw [if_pos (by simp), tailE, tx, tx, tx, tx_lits _ h h3]
    rfl
theorem toks_tail (b : List Tr.Lit) : toks (tailE b) = tailK b := by
  cases b with
  | nil => rfl
  | cons x l => rw [tailE, tailK, toks, toks, toks, toks_lits]
theorem good_tail (b : List Tr.Lit) (hok : Tr.litsOk b = true) (r : List UInt8) (hr : stop r) : good (tailE b) r := by
  cases b with
  | nil => trivial
  | cons x l => exact ⟨.inl rfl, by decide, fun c s e => by rw [hd32 e]; rfl, .inl rfl, good_lits r hr _ hok⟩
def ruleE (r : Tr.Rule) : List El := atomE r.name r.terms r.fold ++ (tailE r.body ++ [.inl (sg [46]), .inr 10])
def rulesE : List Tr.Rule → List El
  | [] => []
  | r :: l => ruleE r ++ rulesE l
theorem many_not {r : Tr.Rule} (h : Tr.ruleMany r = false) : r.body.length ≤ 4 ∧ r.terms.length ≤ 3 ∧ ∀ x ∈ r.body, x.terms.length ≤ 3 := by
  unfold Tr.ruleMany Tr.litsMany at h
  simp only [Bool.or_eq_false_iff, decide_eq_false_iff_not, List.any_eq_false, decide_eq_true_eq] at h
  obtain ⟨⟨h1, h2⟩, h3⟩ := h
  exact ⟨by omega, by omega, fun x hx => by have := h3 x hx; omega⟩
theorem tx_rule (r : Tr.Rule) (h : Tr.ruleMany r = false) : tx (ruleE r) = rule r := by
  obtain ⟨h1, h2, h3⟩ := many_not h
  simp [ruleE, rule, tx, tx_append, tx_atom _ _ _ h2, tx_tail _ h1 h3]
theorem toks_rule (r : Tr.Rule) : toks (ruleE r) = ruleK r := by
  simp [ruleE, ruleK, toks, toks_append, toks_atom, toks_tail]
theorem good_rule (x : Tr.Rule) (h : Tr.ruleOk x = true) (r : List UInt8) : good (ruleE x) r := by
  unfold Tr.ruleOk at h
  simp only [Bool.and_eq_true] at h
  obtain ⟨⟨⟨hn, ht⟩, _⟩, hb⟩ := h
  exact good_append _ _ _ (good_atom _ _ _ hn ht _) (good_append _ _ _ (good_tail _ hb _ (stop_cons _ (by decide))) ⟨by decide, fun c s e => by rfl, .inr rfl, trivial⟩)
theorem rulesE_append : ∀ a b : List Tr.Rule, rulesE (a ++ b) = rulesE a ++ rulesE b
  | [], _ => rfl
  | r :: a, b => by rw [List.cons_append, rulesE, rulesE, rulesE_append a b, List.append_assoc]
theorem tx_rules (l : List Tr.Rule) (h : ∀ r ∈ l, Tr.ruleMany r = false) : ∀ n, n ≤ l.length → tx (rulesE (l.take n)) = rules l n
  | 0, _ => rfl
  | n + 1, hn => by
    have e : Tr.ruleD l n = l[n] := by unfold Tr.ruleD; rw [List.getD_eq_getElem?_getD, List.getElem?_eq_getElem (by omega)]; rfl
    rw [List.take_succ_eq_append_getElem (by omega), rulesE_append, tx_append, tx_rules l h n (by omega), rules, e]
    simp only [rulesE, List.append_nil]
    rw [tx_rule _ (h _ (List.getElem_mem _))]
theorem toks_rules : ∀ l : List Tr.Rule, toks (rulesE l) = rulesK l
  | [] => rfl
  | r :: l => by rw [rulesE, rulesK, toks_append, toks_rule, toks_rules l]
theorem good_rules : ∀ l : List Tr.Rule, l.all Tr.ruleOk = true → good (rulesE l) []
  | [], _ => trivial
  | r :: l, h => good_append _ _ _ (good_rule r (List.all_eq_true.1 h r (by simp)) _) (good_rules l (List.all_eq_true.2 fun z hz => List.all_eq_true.1 h z (List.mem_cons_of_mem _ hz)))

theorem er_K : ∀ l : List Tk.Tok, (∀ t ∈ l, t.at_ = 0) → l.map Pr.er = l
  | [], _ => rfl
  | t :: l, h => by
    rw [List.map_cons, er_K l (fun x hx => h x (by simp [hx]))]
    have := h t (by simp)
    unfold Pr.er
    rw [← this]

/-- **What is shown is parsed to the same tree.** -/
theorem parse_shown (l : List Tr.Rule) (hC : Tr.check l = 0) (hL : (rules l l.length).length ≤ 5000) :
    ∃ t, Pr.rules ((rules l l.length).length : Int) (Tk.scan (rules l l.length)).1.length [] (Tk.scan (rules l l.length)).1 = .inr t ∧ (Tk.scan (rules l l.length)).2.2 = 0 ∧ t.map Pr.erR = l.map Pr.erR := by
  have hmany : Tr.many l = false := by
    unfold Tr.check at hC
    cases hm : Tr.many l
    · rfl
    · rw [hm, if_pos rfl] at hC; exact absurd hC (by decide)
  have hall : l.all Tr.ruleOk = true := by
    unfold Tr.check at hC
    rw [hmany] at hC
    simp only [Bool.false_eq_true, if_false] at hC
    cases ha : l.all Tr.ruleOk
    · rw [ha] at hC; exact absurd hC (by decide)
    · rfl
  have hm : ∀ r ∈ l, Tr.ruleMany r = false := by
    unfold Tr.many at hmany
    simp only [Bool.or_eq_false_iff, List.any_eq_false] at hmany
    exact fun r hr => by simpa using hmany.2 r hr
  have htx : tx (rulesE l) = rules l l.length := by
    have := tx_rules l hm l.length (Nat.le_refl _)
    rwa [List.take_length] at this
  rw [← htx] at hL ⊢
  obtain ⟨h0, hs⟩ := scan_tx (rulesE l) (good_rules l hall) hL
  rw [toks_rules] at hs
  have hb := rules_back 0 l (Tk.scan (tx (rulesE l))).1.length [] hall (by
    have h1 := congrArg List.length hs
    rw [List.length_map, List.length_map] at h1
    have := rulesK_len l
    omega)
  have her := Pr.rules_er ((tx (rulesE l)).length : Int) (Tk.scan (tx (rulesE l))).1.length [] (Tk.scan (tx (rulesE l))).1
  have hbk : Pr.rules 0 (Tk.scan (tx (rulesE l))).1.length [] ((rulesK l).map Pr.er) = _ := Pr.rules_er 0 (Tk.scan (tx (rulesE l))).1.length [] (rulesK l)
  rw [hb] at hbk
  rw [hs, List.map_nil, hbk] at her
  cases hr : Pr.rules ((tx (rulesE l)).length : Int) (Tk.scan (tx (rulesE l))).1.length [] (Tk.scan (tx (rulesE l))).1 with
  | inl a => rw [hr] at her; cases her
  | inr t =>
    rw [hr] at her
    injection her with her
    refine ⟨t, rfl, h0, ?_⟩
    rw [← her, List.nil_append, List.map_map]
    congr 1
    funext r
    simp [Pr.erR, Pr.erL]
theorem back (l : List Tr.Rule) (hC : Tr.check l = 0) (hL : (shown l).length ≤ 5000) : (Pr.parse (shown l)).2.2 = 0 ∧ Tr.treeEq false l (Pr.parse (shown l)).1 = true := by
  have e : shown l = rules l l.length := by unfold shown; rw [if_pos hC]
  rw [e] at hL ⊢
  obtain ⟨t, h1, h2, h3⟩ := parse_shown l hC hL
  have hc : Tr.check t = 0 := by rw [← check_er t, h3, check_er l]; exact hC
  unfold Pr.parse
  rw [if_pos h2, h1]
  simp only [hc, if_true]
  exact ⟨trivial, treeEq_er h3.symm⟩
end Sh
end Go.Proofs.YtclbbiocagkmcaaGreatDoor

/- ShowBack: the walk of the statement's function. -/
namespace Go.Proofs.YtclbbiocagkmcaaGreatDoor
open Go.RowKit

/-- Parse, in the words of this walk. -/
def ParseAt13 (s : ByteArray) (X : List Tr.Rule × Int × Int) : Prop := ∀ w, Calls Tryz.prog 13 #[.string s] w fun e w' => ∃ ao cap, e = .returned (.tuple #[.agg #[.slice ao X.1.length cap], .int .i64 X.2.1, .int .i64 X.2.2]) ∧ RulesV w' (.slice ao X.1.length cap) X.1 ∧ Below w.heap.size w w'
theorem parseAt13 (s : ByteArray) : ParseAt13 s (Pr.parse s.data.toList) := fun w => (Parse_any s w).mono fun _ _ ⟨ao, cap, he, hR, hb⟩ => ⟨ao, cap, he, hR.toV, hb⟩
theorem parse_none (L : List UInt8) (h : ¬ (Pr.parse L).2.2 = 0) : (Pr.parse L).1 = [] := by
  unfold Pr.parse at h ⊢
  split
  · rename_i h1
    rw [if_pos h1] at h
    split
    · rfl
    · rename_i t ht
      rw [ht] at h
      split
      · rename_i hc
        exact absurd (by simp [hc]) h
      · rfl
  · rfl

set_option maxRecDepth 100000 in
set_option maxHeartbeats 4000000 in
theorem law_showBack (l : List Tr.Rule) (s : ByteArray) (w : World) (va : Value) (hA : RulesV w va l) (hF : Fine l) (hp : Pow w) :
    Calls Tryz.prog 5 #[.agg #[va], .string s] w fun e w' => e = .returned (.bool true) ∧ Below w.heap.size w w' := by
  obtain ⟨ao, ca, rfl, hA'⟩ := hA
  have hA : RulesV w (.slice ao l.length ca) l := ⟨ao, ca, rfl, hA'⟩
  have hb1 : Below w.heap.size w (w.alloc (.cells #[.slice ao l.length ca] 24)) := (Below.refl _ _).alloc (Nat.le_refl _) _
  have hX1 := heap_alloc_new w (.cells #[.slice ao l.length ca] 24)
  clear hA'
  have HS : Hid (∀ y, Below w.heap.size w y → Calls Tryz.prog 6 #[.agg #[.slice ao l.length ca]] y fun e w' => e = .returned (.tuple #[strV (Sh.shown l), .int .i64 (Tr.check l)]) ∧ Below y.heap.size y w') := fun y hy => Show_any l _ y (rulesV_below hA hy) (hp.below hy)
  have HG : Hid (∀ y, Below w.heap.size w y → Calls Tryz.prog 9 #[] y fun e w' => e = .returned (.bool true) ∧ Below y.heap.size y w') := fun y hy => showBegun_any y (hp.below hy)
  have HT : Hid (∀ y, Calls Tryz.prog 12 #[] y fun e w' => e = .returned (.bool true) ∧ Below y.heap.size y w') := treeBegun_any
  have HP1 : Hid (ParseAt13 ⟨(Sh.shown l).toArray⟩ (Pr.parse (Sh.shown l))) := parseAt13 _
  have HP2 : Hid (ParseAt13 s (Pr.parse s.data.toList)) := parseAt13 _
  have HP3 : Hid (ParseAt13 ⟨(Sh.shown (Pr.parse s.data.toList).1).toArray⟩ (Pr.parse (Sh.shown (Pr.parse s.data.toList).1))) := parseAt13 _
  have HSM : Hid (∀ y v, Below w.heap.size w y → RulesV y v (Pr.parse (Sh.shown l)).1 → Calls Tryz.prog 10 #[.agg #[.slice ao l.length ca], .agg #[v]] y fun e w' => e = .returned (.bool (Tr.treeEq false l (Pr.parse (Sh.shown l)).1)) ∧ Below y.heap.size y w') := fun y v hy hv => Same_any _ _ y _ _ (rulesV_below hA hy) hv hF
  have B1 : Hid (Tr.check l = 0 → (Sh.shown l).length ≤ 5000 → (Pr.parse (Sh.shown l)).2.2 = 0 ∧ Tr.treeEq false l (Pr.parse (Sh.shown l)).1 = true) := Sh.back l
  have FP : Hid (Fine (Pr.parse s.data.toList).1) := fine_parse s
  have FN : Hid (¬ (Pr.parse s.data.toList).2.2 = 0 → (Pr.parse s.data.toList).1 = []) := parse_none _
  have FC : (Pr.parse s.data.toList).2.2 = 0 → Tr.check (Pr.parse s.data.toList).1 = 0 := parse_checked _
  have HS2 : Hid ((Pr.parse s.data.toList).2.2 = 0 → ∀ y v, Below w.heap.size w y → RulesV y v (Pr.parse s.data.toList).1 → Calls Tryz.prog 6 #[.agg #[v]] y fun e w' => e = .returned (.tuple #[strV (Sh.shown (Pr.parse s.data.toList).1), .int .i64 0]) ∧ Below y.heap.size y w') := by
    intro h0 y v hy hv
    have := Show_any _ v y hv (hp.below hy)
    rw [FC h0] at this
    exact this
  have B2 : Hid ((Pr.parse s.data.toList).2.2 = 0 → (Sh.shown (Pr.parse s.data.toList).1).length ≤ 5000 → (Pr.parse (Sh.shown (Pr.parse s.data.toList).1)).2.2 = 0 ∧ Tr.treeEq false (Pr.parse s.data.toList).1 (Pr.parse (Sh.shown (Pr.parse s.data.toList).1)).1 = true) := fun h => Sh.back _ (FC h)
  clear hp hA hF FC
  unfold ParseAt13 at HP1 HP2 HP3
  generalize Pr.parse (Sh.shown (Pr.parse s.data.toList).1) = Y at *
  generalize Sh.shown (Pr.parse s.data.toList).1 = SH2 at *
  generalize Pr.parse s.data.toList = P at *
  generalize Pr.parse (Sh.shown l) = X at *
  generalize Sh.shown l = SH at *
  generalize Tr.check l = E at *
  go_enter Tryz.func5, Tryz.ntmps5
  go_wp2_with fail
  refine Calls.mono (HG.out _ hb1) ?_
  rintro e w2 ⟨rfl, hb2⟩
  have hX2 := (hb2.block _ (heap_lt hX1)).trans hX1
  have hw2 := hb1.trans (hb2.mono hb1.size)
  clear hb2 hX1 hb1 HG
  go_wp2_with fail
  refine Calls.mono (HT.out _) ?_
  rintro e w3 ⟨rfl, hb3⟩
  have hX3 := (hb3.block _ (heap_lt hX2)).trans hX2
  have hw3 := hw2.trans (hb3.mono hw2.size)
  obtain ⟨c3, _⟩ := tree_cell hX3
  clear hb3 hX2 hw2 HT
  go_wp2_with fail
  refine Calls.mono (HS.out _ hw3) ?_
  rintro e w4 ⟨rfl, hb4⟩
  have hX4 := (hb4.block _ (heap_lt hX3)).trans hX3
  have hw4 := hw3.trans (hb4.mono hw3.size)
  clear hb4 hX3 hw3 HS c3
  by_cases hE : E = 0
  · subst hE
    by_cases hL : SH.length ≤ 5000
    · obtain ⟨b1, b2⟩ := B1.out rfl hL
      have HB2 : Hid _ := b2
      have g1 : decide (SH.length ≤ 5000) = true := decide_eq_true hL
      have g2 : decide ((SH.length : Int) ≤ (5000 : Int)) = true := decide_eq_true (by omega)
      have gx : (X.2.2 != 0) = false := by rw [b1]; rfl
      clear b1 b2 B1
      go_wp2_with fail
      refine Calls.mono (HP1.out _) ?_
      rintro e w5 ⟨ao5, cap5, rfl, hR5, hb5⟩
      have hR6 := rulesV_below hR5 ((Below.refl _ _).alloc (Nat.le_refl _) (.cells #[.slice ao5 X.1.length cap5] 24))
      have hw5 := hw4.trans (hb5.mono hw4.size)
      have hw6 := hw5.alloc hw5.size (.cells #[.slice ao5 X.1.length cap5] 24)
      have hX5 := (hb5.block _ (heap_lt hX4)).trans hX4
      have hlt5 := heap_lt hX5
      obtain ⟨c5, _⟩ := tree_cell hX5
      clear hR5 hb5 hw4 hX4 HP1
      go_wp2_with fail
      refine Calls.mono (HSM.out _ _ hw6 hR6) ?_
      rintro e w7 ⟨he, hb7⟩
      rw [HB2.out] at he
      subst he
      have hw7 := hw6.trans (hb7.mono hw6.size)
      clear hw5 hw6 hX5 hlt5 c5 hR6 hb7 HSM HB2 g1 g2 gx
      go_wp2_with fail
      refine Calls.mono (HP2.out _) ?_
      rintro e w8 ⟨ao8, cap8, rfl, hR8, hb8⟩
      have hR9 := rulesV_below hR8 ((Below.refl _ _).alloc (Nat.le_refl _) (.cells #[.slice ao8 P.1.length cap8] 24))
      have hw8 := hw7.trans (hb8.mono hw7.size)
      have hw9 := hw8.alloc hw8.size (.cells #[.slice ao8 P.1.length cap8] 24)
      have hX9 := heap_alloc_new w8 (.cells #[.slice ao8 P.1.length cap8] 24)
      obtain ⟨c9, f9⟩ := tree_cell hX9
      clear hR8 hb8 hw8
      cases gP : (P.2.2 != 0)
      · have hP0 : P.2.2 = 0 := by simpa using gP
        go_wp2_with fail
        refine Calls.mono (HS2.out hP0 _ _ hw9 hR9) ?_
        rintro e w10 ⟨rfl, hb10⟩
        have hR10 := rulesV_below hR9 hb10
        have hX10 := (hb10.block _ (heap_lt hX9)).trans hX9
        have hw10 := hw9.trans (hb10.mono hw9.size)
        clear hR9 hX9 hw9 c9 f9 hb10
        go_wp2_with fail
        refine Calls.mono (HP3.out _) ?_
        rintro e w11 ⟨ao11, cap11, rfl, hR11, hb11⟩
        have hR12 := rulesV_below (rulesV_below hR10 hb11) ((Below.refl _ _).alloc (Nat.le_refl _) (.cells #[.slice ao11 Y.1.length cap11] 24))
        have hRY := rulesV_below hR11 ((Below.refl _ _).alloc (Nat.le_refl _) (.cells #[.slice ao11 Y.1.length cap11] 24))
        have hX11 := (hb11.block _ (heap_lt hX10)).trans hX10
        have hw11 := hw10.trans (hb11.mono hw10.size)
        have hw12 := hw11.alloc hw11.size (.cells #[.slice ao11 Y.1.length cap11] 24)
        have hlt11 := heap_lt hX11
        obtain ⟨c11, _⟩ := tree_cell hX11
        clear hR10 hX10 hw10 hb11 hR11 hw11
        by_cases hL2 : SH2.length ≤ 5000
        · obtain ⟨y1, y2⟩ := B2.out hP0 hL2
          have HY2 : Hid _ := y2
          have g1 : decide (5000 < SH2.length) = false := decide_eq_false (by omega)
          have g2 : decide ((5000 : Int) < (SH2.length : Int)) = false := decide_eq_false (by omega)
          have gy : (Y.2.2 == 0) = true := by rw [y1]; rfl
          clear y1 y2
          go_wp2_with fail
          refine Calls.mono (Same_any P.1 Y.1 _ _ _ hR12 hRY FP.out) ?_
          rintro e w13 ⟨he, hb13⟩
          rw [HY2.out] at he
          subst he
          go_wp2_with fail
          go_ret
          exact ⟨rfl, hw12.trans (hb13.mono hw12.size)⟩
        · have g1 : decide (5000 < SH2.length) = true := decide_eq_true (by omega)
          have g2 : decide ((5000 : Int) < (SH2.length : Int)) = true := decide_eq_true (by omega)
          go_wp2_with fail
          go_ret
          exact ⟨rfl, hw12⟩
      · have hl0 : ((P.1.length : Int) == 0) = true := by rw [FN.out (by simpa using gP)]; rfl
        go_wp2_with fail
        go_ret
        exact ⟨rfl, hw9⟩
    · have g1 : decide (SH.length ≤ 5000) = false := decide_eq_false hL
      have g2 : decide ((SH.length : Int) ≤ (5000 : Int)) = false := decide_eq_false (by omega)
      clear HP1 HSM B1
      go_wp2_with fail
      refine Calls.mono (HP2.out _) ?_
      rintro e w8 ⟨ao8, cap8, rfl, hR8, hb8⟩
      have hR9 := rulesV_below hR8 ((Below.refl _ _).alloc (Nat.le_refl _) (.cells #[.slice ao8 P.1.length cap8] 24))
      have hw8 := hw4.trans (hb8.mono hw4.size)
      have hw9 := hw8.alloc hw8.size (.cells #[.slice ao8 P.1.length cap8] 24)
      have hX9 := heap_alloc_new w8 (.cells #[.slice ao8 P.1.length cap8] 24)
      obtain ⟨c9, f9⟩ := tree_cell hX9
      clear hR8 hb8 hw8
      cases gP : (P.2.2 != 0)
      · have hP0 : P.2.2 = 0 := by simpa using gP
        go_wp2_with fail
        refine Calls.mono (HS2.out hP0 _ _ hw9 hR9) ?_
        rintro e w10 ⟨rfl, hb10⟩
        have hR10 := rulesV_below hR9 hb10
        have hX10 := (hb10.block _ (heap_lt hX9)).trans hX9
        have hw10 := hw9.trans (hb10.mono hw9.size)
        clear hR9 hX9 hw9 c9 f9 hb10
        go_wp2_with fail
        refine Calls.mono (HP3.out _) ?_
        rintro e w11 ⟨ao11, cap11, rfl, hR11, hb11⟩
        have hR12 := rulesV_below (rulesV_below hR10 hb11) ((Below.refl _ _).alloc (Nat.le_refl _) (.cells #[.slice ao11 Y.1.length cap11] 24))
        have hRY := rulesV_below hR11 ((Below.refl _ _).alloc (Nat.le_refl _) (.cells #[.slice ao11 Y.1.length cap11] 24))
        have hX11 := (hb11.block _ (heap_lt hX10)).trans hX10
        have hw11 := hw10.trans (hb11.mono hw10.size)
        have hw12 := hw11.alloc hw11.size (.cells #[.slice ao11 Y.1.length cap11] 24)
        have hlt11 := heap_lt hX11
        obtain ⟨c11, _⟩ := tree_cell hX11
        clear hR10 hX10 hw10 hb11 hR11 hw11
        by_cases hL2 : SH2.length ≤ 5000
        · obtain ⟨y1, y2⟩ := B2.out hP0 hL2
          have HY2 : Hid _ := y2
          have g1 : decide (5000 < SH2.length) = false := decide_eq_false (by omega)
          have g2 : decide ((5000 : Int) < (SH2.length : Int)) = false := decide_eq_false (by omega)
          have gy : (Y.2.2 == 0) = true := by rw [y1]; rfl
          clear y1 y2
          go_wp2_with fail
          refine Calls.mono (Same_any P.1 Y.1 _ _ _ hR12 hRY FP.out) ?_
          rintro e w13 ⟨he, hb13⟩
          rw [HY2.out] at he
          subst he
          go_wp2_with fail
          go_ret
          exact ⟨rfl, hw12.trans (hb13.mono hw12.size)⟩
        · have g1 : decide (5000 < SH2.length) = true := decide_eq_true (by omega)
          have g2 : decide ((5000 : Int) < (SH2.length : Int)) = true := decide_eq_true (by omega)
          go_wp2_with fail
          go_ret
          exact ⟨rfl, hw12⟩
      · have hl0 : ((P.1.length : Int) == 0) = true := by rw [FN.out (by simpa using gP)]; rfl
        go_wp2_with fail
        go_ret
        exact ⟨rfl, hw9⟩
  · have g0 : (E == 0) = false := by simpa using hE
    clear HP1 HSM B1
    go_wp2_with fail
    refine Calls.mono (HP2.out _) ?_
    rintro e w8 ⟨ao8, cap8, rfl, hR8, hb8⟩
    have hR9 := rulesV_below hR8 ((Below.refl _ _).alloc (Nat.le_refl _) (.cells #[.slice ao8 P.1.length cap8] 24))
    have hw8 := hw4.trans (hb8.mono hw4.size)
    have hw9 := hw8.alloc hw8.size (.cells #[.slice ao8 P.1.length cap8] 24)
    have hX9 := heap_alloc_new w8 (.cells #[.slice ao8 P.1.length cap8] 24)
    obtain ⟨c9, f9⟩ := tree_cell hX9
    clear hR8 hb8 hw8
    cases gP : (P.2.2 != 0)
    · have hP0 : P.2.2 = 0 := by simpa using gP
      go_wp2_with fail
      refine Calls.mono (HS2.out hP0 _ _ hw9 hR9) ?_
      rintro e w10 ⟨rfl, hb10⟩
      have hR10 := rulesV_below hR9 hb10
      have hX10 := (hb10.block _ (heap_lt hX9)).trans hX9
      have hw10 := hw9.trans (hb10.mono hw9.size)
      clear hR9 hX9 hw9 c9 f9 hb10
      go_wp2_with fail
      refine Calls.mono (HP3.out _) ?_
      rintro e w11 ⟨ao11, cap11, rfl, hR11, hb11⟩
      have hR12 := rulesV_below (rulesV_below hR10 hb11) ((Below.refl _ _).alloc (Nat.le_refl _) (.cells #[.slice ao11 Y.1.length cap11] 24))
      have hRY := rulesV_below hR11 ((Below.refl _ _).alloc (Nat.le_refl _) (.cells #[.slice ao11 Y.1.length cap11] 24))
      have hX11 := (hb11.block _ (heap_lt hX10)).trans hX10
      have hw11 := hw10.trans (hb11.mono hw10.size)
      have hw12 := hw11.alloc hw11.size (.cells #[.slice ao11 Y.1.length cap11] 24)
      have hlt11 := heap_lt hX11
      obtain ⟨c11, _⟩ := tree_cell hX11
      clear hR10 hX10 hw10 hb11 hR11 hw11
      by_cases hL2 : SH2.length ≤ 5000
      · obtain ⟨y1, y2⟩ := B2.out hP0 hL2
        have HY2 : Hid _ := y2
        have g1 : decide (5000 < SH2.length) = false := decide_eq_false (by omega)
        have g2 : decide ((5000 : Int) < (SH2.length : Int)) = false := decide_eq_false (by omega)
        have gy : (Y.2.2 == 0) = true := by rw [y1]; rfl
        clear y1 y2
        go_wp2_with fail
        refine Calls.mono (Same_any P.1 Y.1 _ _ _ hR12 hRY FP.out) ?_
        rintro e w13 ⟨he, hb13⟩
        rw [HY2.out] at he
        subst he
        go_wp2_with fail
        go_ret
        exact ⟨rfl, hw12.trans (hb13.mono hw12.size)⟩
      · have g1 : decide (5000 < SH2.length) = true := decide_eq_true (by omega)
        have g2 : decide ((5000 : Int) < (SH2.length : Int)) = true := decide_eq_true (by omega)
        go_wp2_with fail
        go_ret
        exact ⟨rfl, hw12⟩
    · have hl0 : ((P.1.length : Int) == 0) = true := by rw [FN.out (by simpa using gP)]; rfl
      go_wp2_with fail
      go_ret
      exact ⟨rfl, hw9⟩

end Go.Proofs.YtclbbiocagkmcaaGreatDoor

/- A tree that came in, read out of memory. -/
namespace Go.Proofs.YtclbbiocagkmcaaGreatDoor
open Go.RowKit

theorem A_cells24 : Tryz.prog.cellsOf 24 = 1 := by kernel_rfl
theorem A_cells22 : Tryz.prog.cellsOf 22 = 1 := by kernel_rfl
theorem A_cells40 : Tryz.prog.cellsOf 43 = 1 := by kernel_rfl
theorem A_cells41 : Tryz.prog.cellsOf 44 = 1 := by kernel_rfl
theorem A_cells43 : Tryz.prog.cellsOf 46 = 5 := by kernel_rfl
theorem A_cells49 : Tryz.prog.cellsOf 50 = 5 := by kernel_rfl
theorem A_cells71 : Tryz.prog.cellsOf 57 = 2 := by kernel_rfl
theorem A_cells3 : Tryz.prog.cellsOf 3 = 1 := by kernel_rfl
theorem A_cells9 : Tryz.prog.cellsOf 9 = 1 := by kernel_rfl

theorem list2 {l : List Value} (h : l.length = 2) : ∃ a b, l = [a, b] := by
  match l, h with
  | [a, b], _ => exact ⟨a, b, rfl⟩
theorem list5 {l : List Value} (h : l.length = 5) : ∃ a b c d e, l = [a, b, c, d, e] := by
  match l, h with
  | [a, b, c, d, e], _ => exact ⟨a, b, c, d, e, rfl⟩

section
variable {H : Type} {enc : TypeId × Value → H} {w : World} {base : Nat} {spare : Nat → Bool} {held : Bool}

/-- A slice whose elements can be read. -/
theorem open_row {α : Type} {st e : TypeId} {k : Nat} (ht : Tryz.prog.underlying st = some (.slice e)) (hk : Tryz.prog.cellsOf e = k) (hk0 : 0 < k) (d : α) (In : Nat → Nat → α → Prop)
    (el : ∀ n cs' y b off, cs'.length = k → (∀ j, j < k → w.cell? ⟨b, off + j, none⟩ = cs'[j]?) → DataW.trod enc Tryz.prog w base spare held n e cs' = some y → ∃ a, In b off a)
    {fuel : Nat} {v : Value} {x : DataW H × List MemPlace} (h : DataW.trod enc Tryz.prog w base spare held fuel st [v] = some x) :
    ∃ (ao : Option Addr) (l : List α) (cap : Nat), v = .slice ao l.length cap ∧ l.length ≤ 9223372036854775807 ∧ (l = [] ∨ ∃ b off, ao = some ⟨b, off, none⟩ ∧ ∀ i, i < l.length → In b (off + i * k) (l.getD i d)) := by
  haveI : Inhabited α := ⟨d⟩
  rcases Deep.open_slice ht h with ⟨hv, _⟩ | ⟨a, len, cap, m, n, D, Pl, hv, hb, hl, hm, hmm, hx, hel⟩
  · have hv' : v = .slice none 0 0 := by simpa using hv
    exact ⟨none, [], 0, hv', by simp, .inl rfl⟩
  · have hv' : v = .slice (some a) len cap := by simpa using hv
    have hlm : len ≤ m := by rw [hmm]; split <;> omega
    by_cases h0 : len = 0
    · subst h0
      exact ⟨some a, [], cap, hv', by simp, .inl rfl⟩
    · obtain ⟨b, off, spot⟩ := a
      have hspot : spot = none := by
        obtain ⟨cs', h1, _⟩ := hel 0 (by omega)
        rw [hk] at h1
        obtain ⟨_, hlen, hcell⟩ := World.cells?_some h1
        have hc := hcell 0 hk0
        cases hcs : cs'[0]? with
        | none => rw [List.getElem?_eq_none_iff] at hcs; omega
        | some u =>
          rw [hcs] at hc
          simpa [Addr.add] using World.cell?_spot hc
      subst hspot
      have each : ∀ i, i < len → ∃ q : α, In b (off + i * k) q := by
        intro i hi
        obtain ⟨cs', h1, h2⟩ := hel i (by omega)
        rw [hk] at h1
        obtain ⟨_, hlen, hcell⟩ := World.cells?_some h1
        refine el n cs' _ b (off + i * k) hlen (fun j hj => ?_) h2
        have := hcell j hj
        rw [Deep.add_add, WideShapes.add_plain] at this
        rw [← this, Nat.add_assoc]
      obtain ⟨q, hq⟩ := Deep.choose_lt each
      refine ⟨some ⟨b, off, none⟩, (List.range len).map q, cap, by rw [hv']; simp, by unfold maxLen at hm; simp; omega, .inr ⟨b, off, rfl, fun i hi => ?_⟩⟩
      have hi' : i < len := by simpa using hi
      have ht : ((List.range len).map q).getD i d = q i := by
        rw [List.getD_eq_getElem?_getD, List.getElem?_map, List.getElem?_range hi']
        rfl
      rw [ht]
      exact hq i hi'

theorem trod_struct1 {t : TypeId} {f0 : Field} {fuel : Nat} {cs : List Value} {x : DataW H × List MemPlace} (ht : Tryz.prog.underlying t = some (.struct #[f0])) (h : DataW.trod enc Tryz.prog w base spare held fuel t cs = some x) :
    ∃ y0 n, cs.length = Tryz.prog.cellsOf t ∧ DataW.trod enc Tryz.prog w base spare held n f0.type ((cs.drop f0.offset).take (Tryz.prog.cellsOf f0.type)) = some y0 := by
  obtain ⟨xs, n, _, rfl, hl, hlen, hf⟩ := DataW.trod_struct ht h
  match xs, hlen with
  | [y0], _ => exact ⟨y0, n, hl, by simpa using hf 0 f0 rfl⟩
theorem trod_struct2 {t : TypeId} {f0 f1 : Field} {fuel : Nat} {cs : List Value} {x : DataW H × List MemPlace} (ht : Tryz.prog.underlying t = some (.struct #[f0, f1])) (h : DataW.trod enc Tryz.prog w base spare held fuel t cs = some x) :
    ∃ y0 y1 n, cs.length = Tryz.prog.cellsOf t ∧ DataW.trod enc Tryz.prog w base spare held n f0.type ((cs.drop f0.offset).take (Tryz.prog.cellsOf f0.type)) = some y0 ∧
      DataW.trod enc Tryz.prog w base spare held n f1.type ((cs.drop f1.offset).take (Tryz.prog.cellsOf f1.type)) = some y1 := by
  obtain ⟨xs, n, _, rfl, hl, hlen, hf⟩ := DataW.trod_struct ht h
  match xs, hlen with
  | [y0, y1], _ => exact ⟨y0, y1, n, hl, by simpa using hf 0 f0 rfl, by simpa using hf 1 f1 rfl⟩
theorem trod_struct5 {t : TypeId} {f0 f1 f2 f3 f4 : Field} {fuel : Nat} {cs : List Value} {x : DataW H × List MemPlace} (ht : Tryz.prog.underlying t = some (.struct #[f0, f1, f2, f3, f4])) (h : DataW.trod enc Tryz.prog w base spare held fuel t cs = some x) :
    ∃ y0 y1 y2 y3 y4 n, cs.length = Tryz.prog.cellsOf t ∧ DataW.trod enc Tryz.prog w base spare held n f0.type ((cs.drop f0.offset).take (Tryz.prog.cellsOf f0.type)) = some y0 ∧
      DataW.trod enc Tryz.prog w base spare held n f1.type ((cs.drop f1.offset).take (Tryz.prog.cellsOf f1.type)) = some y1 ∧ DataW.trod enc Tryz.prog w base spare held n f2.type ((cs.drop f2.offset).take (Tryz.prog.cellsOf f2.type)) = some y2 ∧
      DataW.trod enc Tryz.prog w base spare held n f3.type ((cs.drop f3.offset).take (Tryz.prog.cellsOf f3.type)) = some y3 ∧ DataW.trod enc Tryz.prog w base spare held n f4.type ((cs.drop f4.offset).take (Tryz.prog.cellsOf f4.type)) = some y4 := by
  obtain ⟨xs, n, _, rfl, hl, hlen, hf⟩ := DataW.trod_struct ht h
  match xs, hlen with
  | [y0, y1, y2, y3, y4], _ => exact ⟨y0, y1, y2, y3, y4, n, hl, by simpa using hf 0 f0 rfl, by simpa using hf 1 f1 rfl, by simpa using hf 2 f2 rfl, by simpa using hf 3 f3 rfl, by simpa using hf 4 f4 rfl⟩

theorem open_terms {fuel : Nat} {v : Value} {x : DataW H × List MemPlace} (h : DataW.trod enc Tryz.prog w base spare held fuel 43 [v] = some x) : ∃ l, TermsV w v l ∧ l.length ≤ 9223372036854775807 := by
  obtain ⟨ao, l, cap, hv, hmx, hl⟩ := open_row Tryz.underlying43 A_cells71 (by decide) (⟨[], 0⟩ : Tr.Term) (TermIn w) (fun n cs' y b off hlen hc h2 => by
    obtain ⟨y0, y1, k, _, g0, g1⟩ := trod_struct2 Tryz.underlying57 h2
    obtain ⟨v0, v1, rfl⟩ := list2 hlen
    simp [A_cells3, A_cells9] at g0 g1
    obtain ⟨k0, e0, _, _⟩ := DataW.trod_string Tryz.underlying9 g0
    obtain ⟨k1, e1, _, _⟩ := DataW.trod_int Tryz.underlying3 g1
    simp at e0 e1
    subst e0 e1
    exact ⟨⟨k0.data.toList, k1⟩, hc 0 (by decide), hc 1 (by decide)⟩) h
  exact ⟨l, ⟨ao, cap, hv, hl⟩, hmx⟩

theorem open_lits {fuel : Nat} {v : Value} {x : DataW H × List MemPlace} (h : DataW.trod enc Tryz.prog w base spare held fuel 44 [v] = some x) : ∃ l, LitsV w v l ∧ l.length ≤ 9223372036854775807 ∧ FitsB l := by
  obtain ⟨ao, l, cap, hv, hmx, hl⟩ := open_row Tryz.underlying44 A_cells49 (by decide) (⟨0, 0, 0, [], []⟩ : Tr.Lit) (fun b off x => LitIn w b off x ∧ x.terms.length ≤ 9223372036854775807) (fun n cs' y b off hlen hc h2 => by
    obtain ⟨y0, y1, y2, y3, y4, k, _, g0, g1, g2, g3, g4⟩ := trod_struct5 Tryz.underlying50 h2
    obtain ⟨v0, v1, v2, v3, v4, rfl⟩ := list5 hlen
    simp [A_cells3, A_cells9, A_cells40] at g0 g1 g2 g3 g4
    obtain ⟨k0, e0, _, _⟩ := DataW.trod_int Tryz.underlying3 g0
    obtain ⟨k1, e1, _, _⟩ := DataW.trod_int Tryz.underlying3 g1
    obtain ⟨k2, e2, _, _⟩ := DataW.trod_int Tryz.underlying3 g2
    obtain ⟨k3, e3, _, _⟩ := DataW.trod_string Tryz.underlying9 g3
    obtain ⟨l, hl, hm4⟩ := open_terms g4
    simp at e0 e1 e2 e3
    subst e0 e1 e2 e3
    exact ⟨⟨k0, k1, k2, k3.data.toList, l⟩, ⟨hc 0 (by decide), hc 1 (by decide), hc 2 (by decide), hc 3 (by decide), v4, hc 4 (by decide), hl⟩, hm4⟩) h
  refine ⟨l, ⟨ao, cap, hv, ?_⟩, hmx, ?_⟩
  · rcases hl with h | ⟨b, off, he, hc⟩
    · exact .inl h
    · exact .inr ⟨b, off, he, fun i hi => (hc i hi).1⟩
  · intro i hi
    rcases hl with h | ⟨b, off, he, hc⟩
    · rw [h] at hi; simp at hi
    · exact (hc i hi).2

theorem open_rules {fuel : Nat} {v : Value} {x : DataW H × List MemPlace} (h : DataW.trod enc Tryz.prog w base spare held fuel 22 [v] = some x) : ∃ l, RulesV w v l ∧ Fine l := by
  obtain ⟨ao, l, cap, hv, hmx, hl⟩ := open_row Tryz.underlying22 A_cells43 (by decide) (⟨0, [], [], 0, []⟩ : Tr.Rule) (fun b off x => RuleIn w b off x ∧ x.terms.length ≤ 9223372036854775807 ∧ x.body.length ≤ 9223372036854775807 ∧ FitsB x.body) (fun n cs' y b off hlen hc h2 => by
    obtain ⟨y0, y1, y2, y3, y4, k, _, g0, g1, g2, g3, g4⟩ := trod_struct5 Tryz.underlying46 h2
    obtain ⟨v0, v1, v2, v3, v4, rfl⟩ := list5 hlen
    simp [A_cells3, A_cells9, A_cells40, A_cells41] at g0 g1 g2 g3 g4
    obtain ⟨k0, e0, _, _⟩ := DataW.trod_int Tryz.underlying3 g0
    obtain ⟨k1, e1, _, _⟩ := DataW.trod_string Tryz.underlying9 g1
    obtain ⟨l2, hl2, hm2⟩ := open_terms g2
    obtain ⟨k3, e3, _, _⟩ := DataW.trod_int Tryz.underlying3 g3
    obtain ⟨l4, hl4, hm4, hf4⟩ := open_lits g4
    simp at e0 e1 e3
    subst e0 e1 e3
    exact ⟨⟨k0, k1.data.toList, l2, k3, l4⟩, ⟨hc 0 (by decide), hc 1 (by decide), ⟨v2, hc 2 (by decide), hl2⟩, hc 3 (by decide), v4, hc 4 (by decide), hl4⟩, hm2, hm4, hf4⟩) h
  refine ⟨l, ⟨ao, cap, hv, ?_⟩, hmx, ?_⟩
  · rcases hl with h | ⟨b, off, he, hc⟩
    · exact .inl h
    · exact .inr ⟨b, off, he, fun i hi => (hc i hi).1⟩
  · intro i hi
    rcases hl with h | ⟨b, off, he, hc⟩
    · rw [h] at hi; simp at hi
    · exact (hc i hi).2

theorem open_tree {fuel : Nat} {v : Value} {x : DataW H × List MemPlace} (h : DataW.trod enc Tryz.prog w base spare held fuel 24 [v] = some x) : ∃ l, RulesV w v l ∧ Fine l := by
  obtain ⟨y0, n, _, g0⟩ := trod_struct1 Tryz.underlying24 h
  exact open_rules (v := v) (by simpa [A_cells22] using g0)
end

end Go.Proofs.YtclbbiocagkmcaaGreatDoor

/- The library's table, out of the row's condition. -/
namespace Go.Proofs.YtclbbiocagkmcaaGreatDoor
open Go.RowKit

theorem pow_type : (Tryz.prog.globals[0]?).map (·.type) = some 141 := by kernel_rfl
theorem pow_global : Tryz.prog.globalNamed "internal/strconv.uint64pow10" = some 0 := by kernel_rfl
theorem pow_data : Rows.laid_internal_strconv_uint64pow10 (H := Unit) = Lib.tabData .u64 Lib.pow10Tab := by kernel_rfl
theorem pow_vars {W : World} {ps : List MemPlace} {rest : List (String × DataW Unit)} (h : DataW.LaidVars Tryz.prog W (("internal/strconv.uint64pow10", Rows.laid_internal_strconv_uint64pow10) :: rest) ps) : Pow W := by
  obtain ⟨g, t, cs, fuel, p, q, hg, ht, hvar, hd, _, _⟩ := h
  obtain rfl : g = 0 := Option.some.inj (hg.symm.trans pow_global)
  obtain rfl : t = 141 := Option.some.inj (ht.symm.trans pow_type)
  rw [pow_data] at hd
  have hc := Lib.cells_of_tab (e := 131) (n := 20) (k := .u64) (by kernel_rfl) (by kernel_rfl) (by kernel_rfl) (by kernel_rfl) hd
  unfold Pow Lib.TabIs
  rw [hvar, ← hc]
theorem pow_laid3 {W : World} {a b : String × DataW Unit} {rest : List (String × DataW Unit)} (h : laidMet Tryz.prog (a :: b :: ("internal/strconv.uint64pow10", Rows.laid_internal_strconv_uint64pow10) :: rest) W) : Pow W := by
  obtain ⟨ps, ⟨_, _, _, _, _, q, _, _, _, _, h, _⟩, _⟩ := h
  obtain ⟨_, _, _, _, _, q2, _, _, _, _, h, _⟩ := h
  exact pow_vars h

end Go.Proofs.YtclbbiocagkmcaaGreatDoor

/- A world in which the listed variables of the library read as the row says: the witness of the row's condition. -/
namespace Go.Proofs.YtclbbiocagkmcaaGreatDoor
open Go

/-- It is the settled world, with the listed variables laid. -/
def IsLaid (os : Os) (W : World) : Prop :=
  W = { World.holding Tryz.prog os ⟨#[.cells #[.string ⟨#[118, 97, 108, 117, 101, 32, 111, 117, 116, 32, 111, 102, 32, 114, 97, 110, 103, 101]⟩] 163, .cells #[.string ⟨#[105, 110, 118, 97, 108, 105, 100, 32, 115, 121, 110, 116, 97, 120]⟩] 163], #[], []⟩ with heap := ((((((World.holding Tryz.prog os ⟨#[.cells #[.string ⟨#[118, 97, 108, 117, 101, 32, 111, 117, 116, 32, 111, 102, 32, 114, 97, 110, 103, 101]⟩] 163, .cells #[.string ⟨#[105, 110, 118, 97, 108, 105, 100, 32, 115, 121, 110, 116, 97, 120]⟩] 163], #[], []⟩).heap.modify 4 fun
      | .cells _ t frozen => .cells #[.int .u8 0, .int .u8 1, .int .u8 28, .int .u8 2, .int .u8 29, .int .u8 14, .int .u8 24, .int .u8 3, .int .u8 30, .int .u8 22, .int .u8 20, .int .u8 15, .int .u8 25, .int .u8 17, .int .u8 4, .int .u8 8, .int .u8 31, .int .u8 27, .int .u8 13, .int .u8 23, .int .u8 21, .int .u8 19, .int .u8 16, .int .u8 7, .int .u8 26, .int .u8 12, .int .u8 18, .int .u8 6, .int .u8 11, .int .u8 5, .int .u8 10, .int .u8 9] t frozen
      | o => o).modify 5 fun
      | .cells _ t frozen => .cells #[.int .u8 0, .int .u8 1, .int .u8 56, .int .u8 2, .int .u8 57, .int .u8 49, .int .u8 28, .int .u8 3, .int .u8 61, .int .u8 58, .int .u8 42, .int .u8 50, .int .u8 38, .int .u8 29, .int .u8 17, .int .u8 4, .int .u8 62, .int .u8 47, .int .u8 59, .int .u8 36, .int .u8 45, .int .u8 43, .int .u8 51, .int .u8 22, .int .u8 53, .int .u8 39, .int .u8 33, .int .u8 30, .int .u8 24, .int .u8 18, .int .u8 12, .int .u8 5, .int .u8 63, .int .u8 55, .int .u8 48, .int .u8 27, .int .u8 60, .int .u8 41, .int .u8 37, .int .u8 16, .int .u8 46, .int .u8 35, .int .u8 44, .int .u8 21, .int .u8 52, .int .u8 32, .int .u8 23, .int .u8 11, .int .u8 54, .int .u8 26, .int .u8 40, .int .u8 15, .int .u8 34, .int .u8 20, .int .u8 31, .int .u8 10, .int .u8 25, .int .u8 14, .int .u8 19, .int .u8 9, .int .u8 13, .int .u8 8, .int .u8 7, .int .u8 6] t frozen
      | o => o).modify 0 fun
      | .cells _ t frozen => .cells #[.int .u64 1, .int .u64 10, .int .u64 100, .int .u64 1000, .int .u64 10000, .int .u64 100000, .int .u64 1000000, .int .u64 10000000, .int .u64 100000000, .int .u64 1000000000, .int .u64 10000000000, .int .u64 100000000000, .int .u64 1000000000000, .int .u64 10000000000000, .int .u64 100000000000000, .int .u64 1000000000000000, .int .u64 10000000000000000, .int .u64 100000000000000000, .int .u64 1000000000000000000, .int .u64 10000000000000000000] t frozen
      | o => o).modify 3 fun
      | .cells _ t frozen => .cells #[.iface 161 (.pointer (some ⟨(World.holding Tryz.prog default ⟨#[], #[], []⟩).heap.size + 0, 0, none⟩))] t frozen
      | o => o).modify 2 fun
      | .cells _ t frozen => .cells #[.iface 161 (.pointer (some ⟨(World.holding Tryz.prog default ⟨#[], #[], []⟩).heap.size + 1, 0, none⟩))] t frozen
      | o => o) }
theorem isLaid (os : Os) : ∃ W, IsLaid os W := ⟨_, rfl⟩
set_option maxRecDepth 100000 in
theorem laid_met (os : Os) (W : World) (hW : IsLaid os W) (args : Array Value) : laidMet Tryz.prog Rows.showBackRow.laid (W.forCall (fun _ _ => 0) ⟨#[], args, []⟩).memory := by
  cases hW
  exact laidMet_of_run' 8 (by kernel_rfl) (by kernel_rfl)

end Go.Proofs.YtclbbiocagkmcaaGreatDoor

