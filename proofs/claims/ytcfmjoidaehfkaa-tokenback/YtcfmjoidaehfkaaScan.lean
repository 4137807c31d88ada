/- Package token: scan and Scan answer just the tokens of the text. -/
import Derived.Test.YtcfmjoidaehfkaaScanInv
namespace Go.Proofs.Ytcfmjoidaehfkaa
open Go.RowKit

/-- What scan leaves. -/
def ScanEnd (L : List UInt8) (w : World) (e : Ending) (w' : World) : Prop :=
  ∃ v, e = .returned (.tuple #[v, .agg #[.int .i64 ((Tk.scan L).2.1 : Nat), .int .i64 (Tk.scan L).2.2]]) ∧ w'.ownsRow w.heap.size 34 3 v (Tk.scan L).1.length (allCells (Tk.scan L).1) ∧ Below w.heap.size w w'

/-- Where scan gives up: what its deferred function leaves. -/
theorem scan_gives {w w1 : World} {v : Value} {acc : List Tk.Tok} (h : ScanInv w.heap.size w w1 v acc) (L : List UInt8) (p : Nat) (c : Int) (hL : Tk.scan L = ([], p, c)) (tmps : Array Value)
    (h2 : tmps[2]? = some (.pointer (some ⟨w.heap.size, 0, none⟩))) (h3 : tmps[3]? = some (.pointer (some ⟨w.heap.size + 1, 0, none⟩))) :
    Leaves Try.prog Try.f13 tmps (ScanEnd L w) [{ target := .fn (.func 21) #[.pointer (some ⟨w.heap.size, 0, none⟩), .pointer (some ⟨w.heap.size + 1, 0, none⟩)], args := #[] }]
      (.panicking [{ v := .iface 36 (.agg #[.int .i64 p, .int .i64 c]), recovered := false }]) w1 := by
  refine leaves_cons (f := 21) (args := #[.pointer (some ⟨w.heap.size, 0, none⟩), .pointer (some ⟨w.heap.size + 1, 0, none⟩)]) (by simp) (by simp [go_sem]) ?_
  refine (catch_panicking w.heap.size (w.heap.size + 1) w.heap.size _ _ _ p c [] w1 h.cl h.fl h.g0 h.g1 h.f0 h.f1 (Nat.le_refl _) (by omega)).mono ?_
  rintro e u' w2 ⟨rfl, rfl, k1, k2, k3, hb⟩
  have hres : (results Try.f13 tmps).run Try.prog w2 = .ok (.tuple #[.slice none 0 0, .agg #[.int .i64 p, .int .i64 c]]) w2 := by
    simp [results, Try.results13, go_sem, h2, h3, k1, k2, k3]
  refine ⟨_, hres, .slice none 0 0, ?_, ?_, h.bel.trans hb⟩
  · rw [hL]
  · rw [hL]; exact World.ownsRow_nil _ _ _ _

/-- Where scan comes to the text's end. -/
theorem scan_done {w wr : World} {v : Value} {acc : List Tk.Tok} (h : ScanInv w.heap.size w wr v acc) (L : List UInt8) (hL : Tk.scan L = (acc, 0, 0)) (tmps : Array Value)
    (h2 : tmps[2]? = some (.pointer (some ⟨w.heap.size, 0, none⟩))) (h3 : tmps[3]? = some (.pointer (some ⟨w.heap.size + 1, 0, none⟩))) :
    Leaves Try.prog Try.f13 tmps (ScanEnd L w) [{ target := .fn (.func 21) #[.pointer (some ⟨w.heap.size, 0, none⟩), .pointer (some ⟨w.heap.size + 1, 0, none⟩)], args := #[] }]
      .returning (((wr.setCell ⟨w.heap.size, 0, none⟩ v).setCell ⟨w.heap.size + 1, 0, none⟩ (.int .i64 0)).setCell ⟨w.heap.size + 1, 1, none⟩ (.int .i64 0)) := by
  refine leaves_cons (f := 21) (args := #[.pointer (some ⟨w.heap.size, 0, none⟩), .pointer (some ⟨w.heap.size + 1, 0, none⟩)]) (by simp) (by simp [go_sem]) ?_
  refine (catch_idle _ _ _).mono ?_
  rintro e u' w2 ⟨rfl, rfl, rfl⟩
  have c0 := h.cl; have c1 := h.g0; have c2 := h.g1
  have hres : (results Try.f13 tmps).run Try.prog (((wr.setCell ⟨w.heap.size, 0, none⟩ v).setCell ⟨w.heap.size + 1, 0, none⟩ (.int .i64 0)).setCell ⟨w.heap.size + 1, 1, none⟩ (.int .i64 0)) =
      .ok (.tuple #[v, .agg #[.int .i64 0, .int .i64 0]]) (((wr.setCell ⟨w.heap.size, 0, none⟩ v).setCell ⟨w.heap.size + 1, 0, none⟩ (.int .i64 0)).setCell ⟨w.heap.size + 1, 1, none⟩ (.int .i64 0)) := by
    simp [results, Try.results13, go_sem, h2, h3, c0, c1, c2]
  refine ⟨_, hres, v, ?_, ?_, ?_⟩
  · rw [hL]; rfl
  · rw [hL]
    exact ownsRow_base (ownsRow_setCell_below (ownsRow_setCell_below (ownsRow_setCell_below h.own (by simp) _) (by simp) _) (by simp) _) (by omega)
  · exact ((h.bel.setCell (p := ⟨w.heap.size, 0, none⟩) (Nat.le_refl _) _).setCell (p := ⟨w.heap.size + 1, 0, none⟩) (Nat.le_succ _) _).setCell (p := ⟨w.heap.size + 1, 1, none⟩) (Nat.le_succ _) _

set_option maxHeartbeats 400000 in
theorem scan_long (s : ByteArray) (w : World) (hs : 5000 < s.size) : Calls Try.prog 13 #[.string s] w (ScanEnd s.data.toList w) := by
  have hmf : ∀ (fn : Fn) (first cap : Array Value) (w : World), (Instr.makeFunc fn first cap).run Try.prog w = .ok (.func fn first cap) w := fun _ _ _ _ => rfl
  go_enter_defers Try.func13, Try.ntmps13
  go_wp2_with fail
  refine scan_gives (ScanInv.start w) s.data.toList 0 2 ?_ _ rfl rfl
  unfold Tk.scan
  rw [if_pos (by simpa using hs)]

theorem skip_sum (s : ByteArray) (p n : Nat) (w : World) (hs : s.size ≤ 281474976710656) (ha : p + n ≤ s.size) :
    Calls Try.prog 22 #[.string s, .int .i64 ((p : Int) + (n : Int))] w fun e w' => e = .returned (.int .i64 ((p + n + Tk.sep false (s.data.toList.drop (p + n)) : Nat) : Int)) ∧ w' = w := by
  have h := skip_any s (p + n) w hs ha
  rw [show ((p + n : Nat) : Int) = (p : Int) + (n : Int) from by omega] at h
  exact h

theorem A_info34 : (Try.prog.info? 34).map (fun i => (i.zero, i.size, i.bytes)) = some (some (.agg #[.int .i64 0, .int .i64 0, .string ⟨#[]⟩]), 3, 32) := by kernel_rfl

set_option maxHeartbeats 1000000 in
theorem scan_short (s : ByteArray) (w : World) (hs : s.size ≤ 5000) : Calls Try.prog 13 #[.string s] w (ScanEnd s.data.toList w) := by
  obtain ⟨i0, hi, hz0, hz1, hz2⟩ := info_parts A_info34
  have hmf : ∀ (fn : Fn) (first cap : Array Value) (w : World), (Instr.makeFunc fn first cap).run Try.prog w = .ok (.func fn first cap) w := fun _ _ _ _ => rfl
  have hse := sep_end_le false s 0 (by omega)
  rw [List.drop_zero] at hse
  have hst := ScanInv.start w
  go_enter_defers Try.func13, Try.ntmps13
  go_wp2_with fail
  refine (skip_any s 0 _ (by omega) (by omega)).mono ?_
  rintro e w1 ⟨he, rfl⟩
  rw [List.drop_zero] at he
  subst he
  go_wp2_with fail
  go_loopw [4] (fun i wr => ∃ (f p : Nat) (acc : List Tk.Tok) (v : Value), p ≤ s.size ∧ s.size ≤ p + f ∧ acc.length ≤ p ∧ i = .int .i64 p ∧ Tk.scanP s.data.toList f p acc = Tk.scan s.data.toList ∧ ScanInv w.heap.size w wr v acc)
    (fun i _ => s.size - (intOf i).toNat)
  case atStart => 
    refine ⟨s.size, Tk.sep false s.data.toList, [], .slice none 0 0, by omega, by omega, Nat.zero_le _, ?_, ?_, hst⟩
    · go_num
    · unfold Tk.scan
      rw [if_neg (by simpa using hs)]
      rfl
  case round =>
    obtain ⟨f, p, acc, v, hp, hpf, hacc, rfl, hscan, hinv⟩ := hrel
    have HS : Hid (Tk.scanP s.data.toList f p acc = Tk.scan s.data.toList) := hscan
    clear hscan hst
    obtain ⟨ao, cap, rfl⟩ := own_slice hinv.own
    by_cases hlt : p < s.size
    · by_cases he : Tk.errOf (s.data.toList.drop p) = 0
      · go_wp2_with fail
        refine (tokenAt_yes s p _ (by omega) hlt he).mono ?_
        rintro e w1 ⟨rfl, hb1⟩
        have hinv1 := hinv.below hb1
        have hz := hinv1.size
        have c0 : ∀ o, (w1.alloc o).cell? ⟨w.heap.size, 0, none⟩ = some (.slice ao acc.length cap) := fun o => (hinv1.alloc o).cl
        have hlen := Tk.lenOf_le (s.data.toList.drop p)
        have hpos := Tk.lenOf_pos (s.data.toList.drop p) (by rw [drop_at s p hlt]; simp) he
        have hdl : (s.data.toList.drop p).length = s.size - p := by simp
        obtain ⟨f, rfl⟩ : ∃ f', f = f' + 1 := ⟨f - 1, by omega⟩
        have HN : Hid (Tk.scanP s.data.toList f (p + Tk.lenOf (s.data.toList.drop p) + Tk.sep false (s.data.toList.drop (p + Tk.lenOf (s.data.toList.drop p)))) (acc ++ [Tk.tokAt s.data.toList p]) = Tk.scan s.data.toList) :=
          (Tk.scanP_yes _ _ _ _ (by simpa using hlt) he).symm.trans HS.out
        have hTl : (Tk.tokAt s.data.toList p).text.length = Tk.lenOf (s.data.toList.drop p) := by
          simp only [Tk.tokAt, List.length_take]; omega
        have hse2 := sep_end_le false s (p + Tk.lenOf (s.data.toList.drop p)) (by omega)
        generalize Tk.tokAt s.data.toList p = T at *
        rw [← hTl] at HN hse2 hlen hpos
        clear hTl HS hse hdl
        go_wp2_with (at_builtin; refine wpList_append_own _ rfl (.tmp 21) (.tmp 23) 22 rfl (w.heap.size + 2) 34 i0 _ 3 32 Try.underlying22 hi hz0 hz1 hz2 rfl (by decide) _ _ _ rfl ((hinv1.alloc _).alloc _).own ⟨w1.heap.size + 1, 0, none⟩ 1 1 (tokCells T) rfl rfl ?c1 ?c2 ?c3 ?c4 ?c5 ?_)
        case c1 =>
          intro j u hj
          match j, hj with
          | 0, hj => simp [tokCells] at hj; subst hj; simp [Addr.add, go_sem]
          | 1, hj => simp [tokCells] at hj; subst hj; simp [Addr.add, go_sem]
          | 2, hj => simp [tokCells] at hj; subst hj; simp [Addr.add, go_sem]
        case c2 => intro u hu; simp [tokCells] at hu; rcases hu with rfl | rfl | rfl <;> rfl
        case c3 => unfold maxLen; omega
        case c4 => omega
        case c5 => simp; omega
        intro v' w2 hown hgrow _
        obtain ⟨ao', cap', rfl⟩ := own_slice hown
        obtain ⟨k1, k2, k3⟩ := hinv1.after hgrow
        have k4 := k3 2
        simp [go_sem, World.cell?_alloc_past] at k4
        have hinv2 := ((hinv1.alloc _).alloc _).grown hgrow (acc' := acc ++ [T]) (by rw [allCells_snoc, List.length_append]; exact hown)
        clear hgrow hown k3 hinv1 hinv c0 hi hz0 hz1 hz2
        go_wp2_with fail
        refine (skip_sum s p T.text.length _ (by omega) (by omega)).mono ?_
        rintro e w3 ⟨rfl, rfl⟩
        go_wp2
        go_roundw
        case rel => exact ⟨f, _, acc ++ [T], _, hse2, by omega, by rw [List.length_append]; simp; omega, by go_num, HN.out, hinv2⟩
        case measure => simp [intOf]; omega
      · go_wp2_with fail
        refine (tokenAt_no s p _ (by omega) hlt he).mono ?_
        rintro e w1 ⟨rfl, hb1⟩
        go_wp2_with fail
        refine scan_gives (hinv.below hb1) s.data.toList p _ ?_ _ rfl rfl
        exact HS.out.symm.trans (Tk.scanP_no _ _ _ _ (by simpa using hlt) (by simpa using hpf) he)
    · have c0 := hinv.cl
      have c1 := hinv.g0
      have c2 := hinv.g1
      have fl := hinv.fl
      have f0 := hinv.f0
      have f1 := hinv.f1
      go_wp2_with fail
      exact scan_done hinv s.data.toList (HS.out.symm.trans (Tk.scanP_end _ _ _ _ (by simp; omega))) _ rfl rfl

end Go.Proofs.Ytcfmjoidaehfkaa
