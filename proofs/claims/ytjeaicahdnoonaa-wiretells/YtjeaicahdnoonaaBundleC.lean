/- Own texts, one behind the other (part 3). -/
import Derived.Test.YtjeaicahdnoonaaBundleB
import Derived.Test.YtjeaicahdnoonaaRows
import Derived.Orders
/- Updates that came in. -/
namespace Go.Proofs.Ytjeaicahdnoonaa
open Go.RowKit

theorem O_cells23 : Try.prog.cellsOf 23 = 2 := by kernel_rfl
theorem O_cells24 : Try.prog.cellsOf 24 = 1 := by kernel_rfl
theorem O_cells25 : Try.prog.cellsOf 25 = 1 := by kernel_rfl
section
variable {H : Type} {enc : TypeId × Value → H} {w : World} {base : Nat} {spare : Nat → Bool} {held : Bool}
theorem open_id {fuel : Nat} {v0 v1 : Value} {x : DataW H × List MemPlace} (h : DataW.trod enc Try.prog w base spare held fuel 23 [v0, v1] = some x) : ∃ i : Wr.Id, v0 = .int .i64 i.a ∧ v1 = .int .i64 i.n := by
  obtain ⟨y0, y1, n, _, g0, g1⟩ := trod_struct2 Try.underlying23 h
  simp [A_cells3] at g0 g1
  obtain ⟨k0, e0, _, _⟩ := DataW.trod_int Try.underlying3 g0
  obtain ⟨k1, e1, _, _⟩ := DataW.trod_int Try.underlying3 g1
  simp at e0 e1
  exact ⟨⟨k0, k1⟩, e0, e1⟩
theorem open_ids {fuel : Nat} {v : Value} {x : DataW H × List MemPlace} (h : DataW.trod enc Try.prog w base spare held fuel 24 [v] = some x) : ∃ l, IdsV w v l ∧ l.length ≤ 9223372036854775807 := by
  obtain ⟨ao, l, cap, hv, hcp, hmx, hl⟩ := open_rowC Try.underlying24 O_cells23 (by decide) (⟨0, 0⟩ : Wr.Id) (fun b off i => IdIn w b off i) (fun n cs' y b off hlen hc h2 => by
    match cs', hlen with
    | [v0, v1], _ =>
      obtain ⟨i, e0, e1⟩ := open_id h2
      exact ⟨i, by rw [← e0]; exact hc 0 (by decide), by rw [← e1]; exact hc 1 (by decide)⟩) h
  refine ⟨l, ⟨ao, cap, hv, ⟨hcp, fun e => ?_⟩, ?_⟩, hmx⟩
  · subst e
    rcases Deep.open_slice Try.underlying24 h with ⟨hv2, _⟩ | ⟨a, len, cap2, m, n, D, Pl, hv2, _⟩
    · have hv' : v = .slice none 0 0 := by simpa using hv2
      rw [hv] at hv'
      injection hv' with _ _ h2
    · have hv' : v = .slice (some a) len cap2 := by simpa using hv2
      rw [hv] at hv'
      injection hv' with h1
      cases h1
  · rcases hl with h | ⟨b, off, he, hc⟩
    · exact .inl h
    · exact .inr ⟨b, off, he, fun i hi => hc i hi⟩
theorem trod_struct4 {t : TypeId} {f0 f1 f2 f3 : Field} {fuel : Nat} {cs : List Value} {x : DataW H × List MemPlace} (ht : Try.prog.underlying t = some (.struct #[f0, f1, f2, f3])) (h : DataW.trod enc Try.prog w base spare held fuel t cs = some x) :
    ∃ y0 y1 y2 y3 n, cs.length = Try.prog.cellsOf t ∧ DataW.trod enc Try.prog w base spare held n f0.type ((cs.drop f0.offset).take (Try.prog.cellsOf f0.type)) = some y0 ∧
      DataW.trod enc Try.prog w base spare held n f1.type ((cs.drop f1.offset).take (Try.prog.cellsOf f1.type)) = some y1 ∧
      DataW.trod enc Try.prog w base spare held n f2.type ((cs.drop f2.offset).take (Try.prog.cellsOf f2.type)) = some y2 ∧
      DataW.trod enc Try.prog w base spare held n f3.type ((cs.drop f3.offset).take (Try.prog.cellsOf f3.type)) = some y3 := by
  obtain ⟨xs, n, _, rfl, hl, hlen, hf⟩ := DataW.trod_struct ht h
  match xs, hlen with
  | [y0, y1, y2, y3], _ => exact ⟨y0, y1, y2, y3, n, hl, by simpa using hf 0 f0 rfl, by simpa using hf 1 f1 rfl, by simpa using hf 2 f2 rfl, by simpa using hf 3 f3 rfl⟩
theorem open_up {fuel : Nat} {v0 v1 v2 v3 v4 : Value} {x : DataW H × List MemPlace} (h : DataW.trod enc Try.prog w base spare held fuel 27 [v0, v1, v2, v3, v4] = some x) :
    ∃ u : Wr.Up, Value.agg #[v0, v1, v2, v3, v4] = upVal u v2 v3 v4 ∧ IdsV w v2 u.ps ∧ FactsV w v3 u.says ∧ IdsV w v4 u.ts ∧ (∀ f, f ∈ u.says → FFit f) ∧ (u.ps.length ≤ 9223372036854775807 ∧ u.says.length ≤ 9223372036854775807 ∧ u.ts.length ≤ 9223372036854775807) := by
  obtain ⟨y0, y1, y2, y3, n, _, g0, g1, g2, g3⟩ := trod_struct4 Try.underlying27 h
  simp [O_cells23, O_cells24, O_cells25] at g0 g1 g2 g3
  obtain ⟨i, e0, e1⟩ := open_id g0
  obtain ⟨ps, hps, hl1⟩ := open_ids g1
  obtain ⟨says, hsy, hl2, hf⟩ := open_factsC g2
  obtain ⟨ts, hts, hl3⟩ := open_ids g3
  exact ⟨⟨i, ps, says, ts⟩, by rw [e0, e1], hps, hsy, hts, hf, hl1, hl2, hl3⟩
end
end Go.Proofs.Ytjeaicahdnoonaa

/- The two updates that the laws begin with. -/
namespace Go.Proofs.Ytjeaicahdnoonaa
open Go.RowKit

def Wr.firstU : Wr.Up := ⟨⟨0, 1⟩, [], [⟨0, [1, 2]⟩, ⟨0, [2, 3]⟩], []⟩
def Wr.secondU : Wr.Up := ⟨⟨1, 1⟩, [⟨0, 1⟩], [⟨0, [4, 5]⟩], [⟨0, 1⟩]⟩
theorem own_new (w : World) (cur : Array Value) (e c n B : Nat) (hB : B ≤ w.heap.size) (hs : cur.size = n * c) (hn : n ≤ maxLen) : (w.alloc (.cells cur e)).ownsRow B e c (.slice (some ⟨w.heap.size, 0, none⟩) n n) n cur.toList :=
  ⟨by rw [Array.length_toList, hs], .inr ⟨w.heap.size, n, cur, rfl, hB, heap_alloc_new w _, Nat.le_refl _, hn, hs, by rw [← hs, ← Array.length_toList, List.take_length]⟩⟩
theorem KD.below {w w' : World} (h : Below w.heap.size w w') : KD w w' := fun k _ _ _ _ hk => (h.block k (Array.getElem?_eq_some_iff.1 hk).1).trans hk

set_option maxRecDepth 100000 in
set_option maxHeartbeats 1000000 in
theorem pairsW_any (w : World) : Calls Try.prog 52 #[] w fun e w' => ∃ (q : List Fv) (v : Value), e = .returned v ∧ q.map (·.1) = Wr.firstU.says ∧ w'.ownsRow w.heap.size 49 2 v q.length (q.map fcCells).flatten ∧ ArgsP w.heap.size w' q ∧ Below w.heap.size w w' := by
  have HFC : Hid (∀ (p : Int) (a : Option Addr) (n c : Nat) (w : World), Calls Try.prog 51 #[.int .i64 p, .slice a n c] w fun e w' => e = .returned (fcVal p (.slice a n c)) ∧ Below w.heap.size w w') := fact_any
  go_enter Try.func52, Try.ntmps52
  go_wp2_with fail
  have H1 : Hid _ := own_new w #[.int .i64 1, .int .i64 2] 3 1 2 w.heap.size (Nat.le_refl _) rfl (by unfold maxLen; omega)
  have B1 : Hid _ := new_below w (.cells #[.int .i64 1, .int .i64 2] 3)
  generalize hX1 : w.heap.size = X1 at *
  generalize w.alloc (.cells #[.int .i64 1, .int .i64 2] 3) = w1 at *
  refine Calls.mono (HFC.out _ _ _ _ _) ?_
  rintro _ y1 ⟨rfl, hb1⟩
  have J1 : Hid _ := ownsRow_below H1.out hb1
  have D1 : Hid (Below X1 w y1) := B1.out.trans (hb1.mono (by rw [← hX1]; rw [← hX1] at B1; exact B1.out.size))
  clear hb1 H1 B1
  go_wp2_with fail
  have H2 : Hid _ := own_new y1 #[.int .i64 2, .int .i64 3] 3 1 2 X1 (by have := D1.out.size; omega) rfl (by unfold maxLen; omega)
  have K1 : Hid _ := ownsRow_below J1.out (new_below y1 (.cells #[.int .i64 2, .int .i64 3] 3))
  have D2 : Hid (Below X1 w (y1.alloc (.cells #[.int .i64 2, .int .i64 3] 3))) := D1.out.trans ((new_below y1 _).mono (by have := D1.out.size; omega))
  clear J1 D1
  generalize hX2 : y1.heap.size = X2 at *
  generalize y1.alloc (.cells #[.int .i64 2, .int .i64 3] 3) = w2 at *
  refine Calls.mono (HFC.out _ _ _ _ _) ?_
  rintro _ y5 ⟨rfl, hb5⟩
  have D9 : Hid (Below X1 w y5) := D2.out.trans (hb5.mono (by have := D2.out.size; omega))
  have HR : Hid _ := own_new y5 #[.int .i64 0, .slice (some ⟨X1, 0, none⟩) 2 2, .int .i64 0, .slice (some ⟨X2, 0, none⟩) 2 2] 49 2 2 X1 (by have := D9.out.size; omega) rfl (by unfold maxLen; omega)
  have nb := new_below y5 (.cells #[.int .i64 0, .slice (some ⟨X1, 0, none⟩) 2 2, .int .i64 0, .slice (some ⟨X2, 0, none⟩) 2 2] 49)
  have HR1 : Hid _ := ownsRow_below (ownsRow_below K1.out hb5) nb
  have HR2 : Hid _ := ownsRow_below (ownsRow_below H2.out hb5) nb
  have D10 : Hid _ := D9.out.trans (nb.mono (by have := D9.out.size; omega))
  clear hb5 H2 K1 D2 nb D9
  go_wp2_with fail
  go_ret
  exact ⟨[(⟨0, [1, 2]⟩, .slice (some ⟨X1, 0, none⟩) 2 2), (⟨0, [2, 3]⟩, .slice (some ⟨X2, 0, none⟩) 2 2)], _, rfl, rfl, by rw [hX1]; exact HR.out, by
    rw [hX1]
    intro p hp
    rcases List.mem_cons.mp hp with rfl | hp
    · exact ⟨HR1.out, (by decide : 2 ≤ 255)⟩
    · obtain rfl : p = (⟨0, [2, 3]⟩, .slice (some ⟨X2, 0, none⟩) 2 2) := by simpa using hp
      exact ⟨HR2.out, (by decide : 2 ≤ 255)⟩, by rw [hX1]; exact D10.out⟩

theorem UpV.own {w : World} {B : Nat} {x : Wr.Id} {ps ts : List Wr.Id} {q : List Fv} {vp vs vt : Value} (hp : w.ownsRow B 23 2 vp ps.length (ps.map idCells).flatten) (hs : w.ownsRow B 49 2 vs q.length (q.map fcCells).flatten) (ha : ArgsP B w q) (ht : w.ownsRow B 23 2 vt ts.length (ts.map idCells).flatten) (hl : ps.length ≤ 255 ∧ q.length ≤ 255 ∧ ts.length ≤ 255) : UpV w ⟨x, ps, q.map (·.1), ts⟩ vp vs vt := by
  refine ⟨own_ids hp, own_fcs hs ha, own_ids ht, fun f hf => ?_, ?_⟩
  · obtain ⟨p, hp, rfl⟩ := List.mem_map.mp hf
    exact Nat.le_trans (ha p hp).2 (by decide)
  · dsimp only
    rw [List.length_map]
    exact hl

set_option maxRecDepth 100000 in
set_option maxHeartbeats 1000000 in
theorem first_any (w : World) : Calls Try.prog 27 #[] w fun e w' => ∃ vp vs vt, e = .returned (upVal Wr.firstU vp vs vt) ∧ UpV w' Wr.firstU vp vs vt ∧ Below w.heap.size w w' := by
  have hT := heap_alloc_new w (.cells zeroUp 27)
  have hG := new_below w (.cells zeroUp 27)
  go_enter Try.func27, Try.ntmps27
  go_upto_region 1 with fail
  generalize w.alloc (.cells zeroUp 27) = w1 at *
  have HT : Hid (w1.heap[w.heap.size]? = some (.cells zeroUp 27)) := hT
  have HG : Hid (Below w.heap.size w w1) := hG
  have HP : Hid _ := pairsW_any w1
  clear hT hG
  go_wp2_with fail
  refine Calls.mono HP.out ?_
  rintro e y ⟨q, v, rfl, hq, ho, ha, hb⟩
  obtain ⟨ao, cap, rfl⟩ := own_slice ho
  have HT4 : Hid (y.heap[w.heap.size]? = some (.cells zeroUp 27)) := (hb.block _ (Array.getElem?_eq_some_iff.1 HT.out).1).trans HT.out
  have HB4 : Hid (Below w.heap.size w y) := HG.out.trans (hb.mono HG.out.size)
  have HQ : Hid _ := hq
  have HO : Hid _ := ho
  have HA : Hid (ArgsP w1.heap.size y q) := ha
  clear hq ho ha hb HT HG HP
  have t0 : y.cell? ⟨w.heap.size, 0, none⟩ = some (.int .i64 0) := by rw [Lib.cell_of_heap HT4.out]; rfl
  have t1 : y.cell? ⟨w.heap.size, 1, none⟩ = some (.int .i64 0) := by rw [Lib.cell_of_heap HT4.out]; rfl
  have t2 : y.cell? ⟨w.heap.size, 2, none⟩ = some (.slice none 0 0) := by rw [Lib.cell_of_heap HT4.out]; rfl
  have t3 : y.cell? ⟨w.heap.size, 3, none⟩ = some (.slice none 0 0) := by rw [Lib.cell_of_heap HT4.out]; rfl
  have t4 : y.cell? ⟨w.heap.size, 4, none⟩ = some (.slice none 0 0) := by rw [Lib.cell_of_heap HT4.out]; rfl
  have f0 : y.frozen? ⟨w.heap.size, 0, none⟩ = false := Lib.frozen_of_heap HT4.out 0
  have f1 : y.frozen? ⟨w.heap.size, 1, none⟩ = false := Lib.frozen_of_heap HT4.out 1
  have f2 : y.frozen? ⟨w.heap.size, 2, none⟩ = false := Lib.frozen_of_heap HT4.out 2
  have f3 : y.frozen? ⟨w.heap.size, 3, none⟩ = false := Lib.frozen_of_heap HT4.out 3
  have f4 : y.frozen? ⟨w.heap.size, 4, none⟩ = false := Lib.frozen_of_heap HT4.out 4
  have HE : Hid _ := five_set HT4.out (.int .i64 0) (.int .i64 1) (.slice none 0 0) (.slice ao q.length cap) (.slice none 0 0)
  have HBF : Hid (Below w.heap.size w (five y w.heap.size (.int .i64 0) (.int .i64 1) (.slice none 0 0) (.slice ao q.length cap) (.slice none 0 0))) := five_below HB4.out
  go_wp2_with fail
  clear t0 t1 t2 t3 t4 f0 f1 f2 f3 f4
  obtain ⟨k1, k2, _, _⟩ := HE.out
  have hq2 : q.length ≤ 255 := by
    have := congrArg List.length HQ.out
    rw [List.length_map] at this
    rw [this]
    decide
  have hU := UpV.own (x := ⟨0, 1⟩) (ps := []) (ts := []) (World.ownsRow_nil _ _ _ _) (k2.own HO.out (by decide) (by decide)) (k2.args HA.out) (World.ownsRow_nil _ _ _ _) ⟨by decide, hq2, by decide⟩
  have e0 : (⟨⟨0, 1⟩, [], q.map (·.1), []⟩ : Wr.Up) = Wr.firstU := by rw [HQ.out]; rfl
  rw [e0] at hU
  change bodyPost _ _ _ _ _ (five _ _ _ _ _ _ _)
  clear HE k2
  generalize five y w.heap.size (.int .i64 0) (.int .i64 1) (.slice none 0 0) (.slice ao q.length cap) (.slice none 0 0) = w11 at *
  have t0 : w11.cell? ⟨w.heap.size, 0, none⟩ = some (.int .i64 0) := by rw [Lib.cell_of_heap k1]; rfl
  have t1 : w11.cell? ⟨w.heap.size, 1, none⟩ = some (.int .i64 1) := by rw [Lib.cell_of_heap k1]; rfl
  have t2 : w11.cell? ⟨w.heap.size, 2, none⟩ = some (.slice none 0 0) := by rw [Lib.cell_of_heap k1]; rfl
  have t3 : w11.cell? ⟨w.heap.size, 3, none⟩ = some (.slice ao q.length cap) := by rw [Lib.cell_of_heap k1]; rfl
  have t4 : w11.cell? ⟨w.heap.size, 4, none⟩ = some (.slice none 0 0) := by rw [Lib.cell_of_heap k1]; rfl
  exact bodyPost_ret (v := .agg #[.int .i64 0, .int .i64 1, .slice none 0 0, .slice ao q.length cap, .slice none 0 0]) (by simp [results, Try.results27, go_sem, t0, t1, t2, t3, t4]) rfl ⟨_, _, _, rfl, hU, HBF.out⟩

theorem second_up {w : World} {B : Nat} {vp vs va vt : Value} (hp : w.ownsRow B 23 2 vp 1 [.int .i64 0, .int .i64 1]) (hs : w.ownsRow B 49 2 vs 1 [.int .i64 0, va]) (ha : w.ownsRow B 3 1 va 2 [.int .i64 4, .int .i64 5]) (ht : w.ownsRow B 23 2 vt 1 [.int .i64 0, .int .i64 1]) : UpV w Wr.secondU vp vs vt := by
  have ha2 : ArgsP B w [(⟨0, [4, 5]⟩, va)] := by
    intro p hp
    obtain rfl : p = (⟨0, [4, 5]⟩, va) := by simpa using hp
    exact ⟨ha, (by decide : 2 ≤ 255)⟩
  exact UpV.own (x := ⟨1, 1⟩) (ps := [⟨0, 1⟩]) (ts := [⟨0, 1⟩]) (q := [(⟨0, [4, 5]⟩, va)]) hp hs ha2 ht ⟨by decide, (by decide : 1 ≤ 255), by decide⟩

set_option maxRecDepth 100000 in
set_option maxHeartbeats 1000000 in
theorem second_any (w : World) : Calls Try.prog 26 #[] w fun e w' => ∃ vp vs vt, e = .returned (upVal Wr.secondU vp vs vt) ∧ UpV w' Wr.secondU vp vs vt ∧ Below w.heap.size w w' := by
  have HFC : Hid (∀ (p : Int) (a : Option Addr) (n c : Nat) (w : World), Calls Try.prog 51 #[.int .i64 p, .slice a n c] w fun e w' => e = .returned (fcVal p (.slice a n c)) ∧ Below w.heap.size w w') := fact_any
  have hT := heap_alloc_new w (.cells zeroUp 27)
  have hG := new_below w (.cells zeroUp 27)
  go_enter Try.func26, Try.ntmps26
  go_upto_region 1 with fail
  generalize w.alloc (.cells zeroUp 27) = w1 at *
  have HT : Hid (w1.heap[w.heap.size]? = some (.cells zeroUp 27)) := hT
  have HG : Hid (Below w.heap.size w w1) := hG
  have HP1 : Hid _ := own_new w1 #[.int .i64 0, .int .i64 1] 23 2 1 w1.heap.size (Nat.le_refl _) rfl (by unfold maxLen; omega)
  have nb1 := new_below w1 (.cells #[.int .i64 0, .int .i64 1] 23)
  have HA1 : Hid _ := own_new (w1.alloc (.cells #[.int .i64 0, .int .i64 1] 23)) #[.int .i64 4, .int .i64 5] 3 1 2 w1.heap.size nb1.size rfl (by unfold maxLen; omega)
  have nb2 := new_below (w1.alloc (.cells #[.int .i64 0, .int .i64 1] 23)) (.cells #[.int .i64 4, .int .i64 5] 3)
  have HP2 : Hid _ := ownsRow_below HP1.out nb2
  have HB2 : Hid _ := nb1.trans (nb2.mono nb1.size)
  have hsz : (w1.alloc (.cells #[.int .i64 0, .int .i64 1] 23)).heap.size = w1.heap.size + 1 := by simp
  rw [hsz] at HA1
  clear hT hG nb1 nb2 HP1 hsz
  go_wp2_with fail
  generalize (w1.alloc (.cells #[.int .i64 0, .int .i64 1] 23)).alloc (.cells #[.int .i64 4, .int .i64 5] 3) = w3 at *
  refine Calls.mono (HFC.out _ _ _ _ _) ?_
  rintro _ y ⟨rfl, hb⟩
  have HB3 : Hid _ := HB2.out.trans (hb.mono HB2.out.size)
  have hyz := HB3.out.size
  have HP3 : Hid _ := ownsRow_below HP2.out hb
  have HA3 : Hid _ := ownsRow_below HA1.out hb
  have HTY : Hid (y.heap[w.heap.size]? = some (.cells zeroUp 27)) := (HB3.out.block _ (Array.getElem?_eq_some_iff.1 HT.out).1).trans HT.out
  have HBY : Hid (Below w.heap.size w y) := HG.out.trans (HB3.out.mono HG.out.size)
  have HSZ : Hid (w1.heap.size ≤ y.heap.size) := hyz
  have HE : Hid _ := five_set HTY.out (.int .i64 1) (.int .i64 1) (.slice (some ⟨w1.heap.size, 0, none⟩) 1 1) (.slice (some ⟨y.heap.size, 0, none⟩) 1 1) (.slice (some ⟨y.heap.size + 1, 0, none⟩) 1 1)
  have HBF : Hid (Below w.heap.size w (five y w.heap.size (.int .i64 1) (.int .i64 1) (.slice (some ⟨w1.heap.size, 0, none⟩) 1 1) (.slice (some ⟨y.heap.size, 0, none⟩) 1 1) (.slice (some ⟨y.heap.size + 1, 0, none⟩) 1 1))) := five_below HBY.out
  have HZ : Hid ((five y w.heap.size (.int .i64 1) (.int .i64 1) (.slice (some ⟨w1.heap.size, 0, none⟩) 1 1) (.slice (some ⟨y.heap.size, 0, none⟩) 1 1) (.slice (some ⟨y.heap.size + 1, 0, none⟩) 1 1)).heap.size = y.heap.size) := by show _ = _; simp [five, World.setCell]
  clear hb HB3 HB2 HP2 HA1 hyz HT HG HBY
  have t0 : y.cell? ⟨w.heap.size, 0, none⟩ = some (.int .i64 0) := by rw [Lib.cell_of_heap HTY.out]; rfl
  have f0 : y.frozen? ⟨w.heap.size, 0, none⟩ = false := Lib.frozen_of_heap HTY.out 0
  have t1 : y.cell? ⟨w.heap.size, 1, none⟩ = some (.int .i64 0) := by rw [Lib.cell_of_heap HTY.out]; rfl
  have f1 : y.frozen? ⟨w.heap.size, 1, none⟩ = false := Lib.frozen_of_heap HTY.out 1
  have t2 : y.cell? ⟨w.heap.size, 2, none⟩ = some (.slice none 0 0) := by rw [Lib.cell_of_heap HTY.out]; rfl
  have f2 : y.frozen? ⟨w.heap.size, 2, none⟩ = false := Lib.frozen_of_heap HTY.out 2
  have t3 : y.cell? ⟨w.heap.size, 3, none⟩ = some (.slice none 0 0) := by rw [Lib.cell_of_heap HTY.out]; rfl
  have f3 : y.frozen? ⟨w.heap.size, 3, none⟩ = false := Lib.frozen_of_heap HTY.out 3
  have t4 : y.cell? ⟨w.heap.size, 4, none⟩ = some (.slice none 0 0) := by rw [Lib.cell_of_heap HTY.out]; rfl
  have f4 : y.frozen? ⟨w.heap.size, 4, none⟩ = false := Lib.frozen_of_heap HTY.out 4
  have hlt : w.heap.size < y.heap.size := (Array.getElem?_eq_some_iff.1 HTY.out).1
  go_wp2_with fail
  clear t0 t1 t2 t3 t4 f0 f1 f2 f3 f4
  obtain ⟨k1, k2, _, _⟩ := HE.out
  have hp6 := k2.own HP3.out (by decide) (by decide)
  have ha6 := k2.own HA3.out (by decide) (by decide)
  have hZ := HZ.out
  have hBF := HBF.out
  change bodyPost _ _ _ _ _ ((World.alloc (five y w.heap.size (.int .i64 1) (.int .i64 1) (.slice (some ⟨w1.heap.size, 0, none⟩) 1 1) (.slice (some ⟨y.heap.size, 0, none⟩) 1 1) (.slice (some ⟨y.heap.size + 1, 0, none⟩) 1 1)) (.cells #[.int .i64 0, .slice (some ⟨w1.heap.size + 1, 0, none⟩) 2 2] 49)).alloc (.cells #[.int .i64 0, .int .i64 1] 23))
  clear HE k2 HZ HBF
  generalize (five y w.heap.size (.int .i64 1) (.int .i64 1) (.slice (some ⟨w1.heap.size, 0, none⟩) 1 1) (.slice (some ⟨y.heap.size, 0, none⟩) 1 1) (.slice (some ⟨y.heap.size + 1, 0, none⟩) 1 1)) = y' at *
  have hs7 := own_new y' #[.int .i64 0, .slice (some ⟨w1.heap.size + 1, 0, none⟩) 2 2] 49 2 1 w1.heap.size (by rw [hZ]; exact HSZ.out) rfl (by unfold maxLen; omega)
  have nb1 := new_below y' (.cells #[.int .i64 0, .slice (some ⟨w1.heap.size + 1, 0, none⟩) 2 2] 49)
  have hq8 := own_new (y'.alloc (.cells #[.int .i64 0, .slice (some ⟨w1.heap.size + 1, 0, none⟩) 2 2] 49)) #[.int .i64 0, .int .i64 1] 23 2 1 w1.heap.size (Nat.le_trans (by rw [hZ]; exact HSZ.out) nb1.size) rfl (by unfold maxLen; omega)
  have nb2 := new_below (y'.alloc (.cells #[.int .i64 0, .slice (some ⟨w1.heap.size + 1, 0, none⟩) 2 2] 49)) (.cells #[.int .i64 0, .int .i64 1] 23)
  have e1 : (y'.alloc (.cells #[.int .i64 0, .slice (some ⟨w1.heap.size + 1, 0, none⟩) 2 2] 49)).heap.size = y.heap.size + 1 := by rw [← hZ]; simp
  rw [e1] at hq8
  rw [hZ] at hs7
  have hU := second_up (ownsRow_below (ownsRow_below hp6 nb1) nb2) (ownsRow_below hs7 nb2) (ownsRow_below (ownsRow_below ha6 nb1) nb2) hq8
  have hB := (hBF.trans (nb1.mono hBF.size)).trans (nb2.mono (Nat.le_trans hBF.size nb1.size))
  have hT9 := ((nb2.block _ (by rw [e1]; omega)).trans (nb1.block w.heap.size (by rw [hZ]; omega))).trans k1
  clear nb1 nb2 hs7 hq8 hp6 ha6 e1 hZ hBF k1
  generalize (y'.alloc (.cells #[.int .i64 0, .slice (some ⟨w1.heap.size + 1, 0, none⟩) 2 2] 49)).alloc (.cells #[.int .i64 0, .int .i64 1] 23) = w11 at *
  have t0 : w11.cell? ⟨w.heap.size, 0, none⟩ = some (.int .i64 1) := by rw [Lib.cell_of_heap hT9]; rfl
  have t1 : w11.cell? ⟨w.heap.size, 1, none⟩ = some (.int .i64 1) := by rw [Lib.cell_of_heap hT9]; rfl
  have t2 : w11.cell? ⟨w.heap.size, 2, none⟩ = some (.slice (some ⟨w1.heap.size, 0, none⟩) 1 1) := by rw [Lib.cell_of_heap hT9]; rfl
  have t3 : w11.cell? ⟨w.heap.size, 3, none⟩ = some (.slice (some ⟨y.heap.size, 0, none⟩) 1 1) := by rw [Lib.cell_of_heap hT9]; rfl
  have t4 : w11.cell? ⟨w.heap.size, 4, none⟩ = some (.slice (some ⟨y.heap.size + 1, 0, none⟩) 1 1) := by rw [Lib.cell_of_heap hT9]; rfl
  exact bodyPost_ret (v := .agg #[(.int .i64 1), (.int .i64 1), (.slice (some ⟨w1.heap.size, 0, none⟩) 1 1), (.slice (some ⟨y.heap.size, 0, none⟩) 1 1), (.slice (some ⟨y.heap.size + 1, 0, none⟩) 1 1)]) (by simp [results, Try.results26, go_sem, t0, t1, t2, t3, t4]) rfl ⟨_, _, _, rfl, hU, hB⟩
end Go.Proofs.Ytjeaicahdnoonaa

/- The document's Check of an update. -/
namespace Go.Proofs.Ytjeaicahdnoonaa
open Go.RowKit

set_option maxRecDepth 100000 in
set_option maxHeartbeats 1000000 in
theorem IsNumber_any (n : Int) (w : World) : Calls Try.prog 20 #[.int .i64 n] w fun e w' => e = .returned (.bool (Wr.numOk n)) ∧ w' = w := by
  have HR : Hid (Wr.numOk n = (decide (-1000000 ≤ n) && decide (n ≤ 1000000))) := by
    show _ = _
    unfold Wr.numOk
    simp only [Bool.decide_and]
  have HC : Hid _ := between_any n (-1000000) 1000000 w
  go_enter Try.func20, Try.ntmps20
  go_wp2_with (go_at_call 19; refine Calls.mono HC.out ?_; rintro e z ⟨rfl, rfl⟩)
  go_ret
  exact ⟨by rw [HR.out]; rfl, rfl⟩
theorem all_step {α : Type} (P : α → Bool) (d : α) (l : List α) (k : Nat) (hk : k < l.length) (h : l.all P = (l.drop k).all P) : l.all P = (P (l.getD k d) && (l.drop (k + 1)).all P) := by
  rw [h, List.drop_eq_getElem_cons hk, List.all_cons, List.getD_eq_getElem?_getD, List.getElem?_eq_getElem hk]
  rfl
theorem all_end {α : Type} (P : α → Bool) (l : List α) (k : Nat) (hk : ¬ k < l.length) (h : l.all P = (l.drop k).all P) : l.all P = true := by
  rw [h, List.drop_of_length_le (by omega)]
  rfl

set_option maxRecDepth 100000 in
set_option maxHeartbeats 3000000 in
theorem CheckUpdate_any (u : Wr.Up) (vp vs vt : Value) (w : World) (hP : IdsV w vp u.ps) (hS : FactsV w vs u.says) (hT : IdsV w vt u.ts) (hF : ∀ f, f ∈ u.says → FFit f) (hl : u.ps.length ≤ 9223372036854775807 ∧ u.says.length ≤ 9223372036854775807 ∧ u.ts.length ≤ 9223372036854775807) :
    Calls Try.prog 7 #[upVal u vp vs vt] w fun e w' => e = .returned (.int .i64 (Wr.check u)) ∧ Below w.heap.size w w' := by
  obtain ⟨⟨a, n⟩, ps, says, ts⟩ := u
  dsimp only at hP hS hT hF hl
  obtain ⟨ap, cp, rfl, _⟩ := id hP
  obtain ⟨as_, cs, rfl, _⟩ := id hS
  obtain ⟨at_, ct, rfl, _⟩ := id hT
  have HK : Hid (Wr.check ⟨⟨a, n⟩, ps, says, ts⟩ = if Wr.isId ⟨a, n⟩ = false then 3
    else if 6 < ps.length ∨ 6 < says.length ∨ 6 < ts.length then 2
    else if ps.all Wr.isId = false ∨ ts.all Wr.isId = false then 3
    else if Wr.rise Wr.idOrd ps = false ∨ Wr.rise Wr.idOrd ts = false then 4
    else if (decide (1 < n) && !Wr.has ps ⟨a, n - 1⟩) = true then 5
    else if says.all Wr.factOk = false then 3
    else if Wr.rise Rl.ord says = false then 4 else 0) := rfl
  have hG : Below w.heap.size w (w.alloc (.cells #[.int .i64 a, .int .i64 n, .slice ap ps.length cp, .slice as_ says.length cs, .slice at_ ts.length ct] 27)) := ((Gr.refl w).alloc _).below
  have hB := heap_alloc_new w (.cells #[.int .i64 a, .int .i64 n, .slice ap ps.length cp, .slice as_ says.length cs, .slice at_ ts.length ct] 27)
  have HID : Hid (Wr.isId ⟨a, n⟩ = true → 1 ≤ n ∧ n ≤ 200) := fun h => (of_decide_eq_true h).2.2
  go_enter Try.func7, Try.ntmps7
  go_upto_region 1 with fail
  generalize w.alloc (.cells #[.int .i64 a, .int .i64 n, .slice ap ps.length cp, .slice as_ says.length cs, .slice at_ ts.length ct] 27) = w2 at *
  have c0 : w2.cell? ⟨w.heap.size, 0, none⟩ = some (.int .i64 a) := by rw [Lib.cell_of_heap hB]; rfl
  have c1 : w2.cell? ⟨w.heap.size, 1, none⟩ = some (.int .i64 n) := by rw [Lib.cell_of_heap hB]; rfl
  have c2 : w2.cell? ⟨w.heap.size, 2, none⟩ = some (.slice ap ps.length cp) := by rw [Lib.cell_of_heap hB]; rfl
  have c3 : w2.cell? ⟨w.heap.size, 3, none⟩ = some (.slice as_ says.length cs) := by rw [Lib.cell_of_heap hB]; rfl
  have c4 : w2.cell? ⟨w.heap.size, 4, none⟩ = some (.slice at_ ts.length ct) := by rw [Lib.cell_of_heap hB]; rfl
  have KB : ∀ {z w' : World}, Below w2.heap.size w2 z → Below z.heap.size z w' → Below w2.heap.size w2 w' ∧ w'.cell? ⟨w.heap.size, 0, none⟩ = some (.int .i64 a) ∧ w'.cell? ⟨w.heap.size, 1, none⟩ = some (.int .i64 n) ∧ w'.cell? ⟨w.heap.size, 2, none⟩ = some (.slice ap ps.length cp) ∧ w'.cell? ⟨w.heap.size, 3, none⟩ = some (.slice as_ says.length cs) ∧ w'.cell? ⟨w.heap.size, 4, none⟩ = some (.slice at_ ts.length ct) := fun hz h => by
    have h3 := hz.trans (h.mono hz.size)
    exact ⟨h3, cell_below h3 c0, cell_below h3 c1, cell_below h3 c2, cell_below h3 c3, cell_below h3 c4⟩
  have HP : IdsV w2 (.slice ap ps.length cp) ps := idsV_below hP hG
  have HS : FactsV w2 (.slice as_ says.length cs) says := factsV_below hS hG
  have HT : IdsV w2 (.slice at_ ts.length ct) ts := idsV_below hT hG
  have HSA : Hid (FactsAt w2 as_ says) := by
    obtain ⟨x, y, hv, _, h⟩ := HS
    injection hv with e1 _ e2
    subst e1
    exact h
  have HFF : Hid (∀ f, f ∈ says → FFit f) := hF
  have HG : Hid _ := hG
  clear hP hS hT hG hB
  have H15 : Hid (∀ z, Below w2.heap.size w2 z → Calls Try.prog 15 #[idVal ⟨a, n⟩] z fun e w' => e = .returned (.bool (Wr.isId ⟨a, n⟩)) ∧ Below w2.heap.size w2 w' ∧ w'.cell? ⟨w.heap.size, 0, none⟩ = some (.int .i64 a) ∧ w'.cell? ⟨w.heap.size, 1, none⟩ = some (.int .i64 n) ∧ w'.cell? ⟨w.heap.size, 2, none⟩ = some (.slice ap ps.length cp) ∧ w'.cell? ⟨w.heap.size, 3, none⟩ = some (.slice as_ says.length cs) ∧ w'.cell? ⟨w.heap.size, 4, none⟩ = some (.slice at_ ts.length ct)) := fun z hz => ((isId_any ⟨a, n⟩ z).mono fun e w' h => (⟨h.1, h.2.below⟩ : _ ∧ Below z.heap.size z w')).mono fun e w' h => ⟨h.1, KB hz h.2⟩
  have HP16 : Hid (∀ z, Below w2.heap.size w2 z → ps.length ≤ 1000000 → Calls Try.prog 16 #[.slice ap ps.length cp] z fun e w' => e = .returned (.bool (ps.all Wr.isId)) ∧ Below w2.heap.size w2 w' ∧ w'.cell? ⟨w.heap.size, 0, none⟩ = some (.int .i64 a) ∧ w'.cell? ⟨w.heap.size, 1, none⟩ = some (.int .i64 n) ∧ w'.cell? ⟨w.heap.size, 2, none⟩ = some (.slice ap ps.length cp) ∧ w'.cell? ⟨w.heap.size, 3, none⟩ = some (.slice as_ says.length cs) ∧ w'.cell? ⟨w.heap.size, 4, none⟩ = some (.slice at_ ts.length ct)) := fun z hz hp => ((areIds_any ps _ z (idsV_below HP hz) hp).mono fun e w' h => (⟨h.1, h.2.below⟩ : _ ∧ Below z.heap.size z w')).mono fun e w' h => ⟨h.1, KB hz h.2⟩
  have HT16 : Hid (∀ z, Below w2.heap.size w2 z → ts.length ≤ 1000000 → Calls Try.prog 16 #[.slice at_ ts.length ct] z fun e w' => e = .returned (.bool (ts.all Wr.isId)) ∧ Below w2.heap.size w2 w' ∧ w'.cell? ⟨w.heap.size, 0, none⟩ = some (.int .i64 a) ∧ w'.cell? ⟨w.heap.size, 1, none⟩ = some (.int .i64 n) ∧ w'.cell? ⟨w.heap.size, 2, none⟩ = some (.slice ap ps.length cp) ∧ w'.cell? ⟨w.heap.size, 3, none⟩ = some (.slice as_ says.length cs) ∧ w'.cell? ⟨w.heap.size, 4, none⟩ = some (.slice at_ ts.length ct)) := fun z hz hp => ((areIds_any ts _ z (idsV_below HT hz) hp).mono fun e w' h => (⟨h.1, h.2.below⟩ : _ ∧ Below z.heap.size z w')).mono fun e w' h => ⟨h.1, KB hz h.2⟩
  have HP17 : Hid (∀ z, Below w2.heap.size w2 z → ps.length ≤ 1000000 → Calls Try.prog 17 #[.slice ap ps.length cp] z fun e w' => e = .returned (.bool (Wr.rise Wr.idOrd ps)) ∧ Below w2.heap.size w2 w' ∧ w'.cell? ⟨w.heap.size, 0, none⟩ = some (.int .i64 a) ∧ w'.cell? ⟨w.heap.size, 1, none⟩ = some (.int .i64 n) ∧ w'.cell? ⟨w.heap.size, 2, none⟩ = some (.slice ap ps.length cp) ∧ w'.cell? ⟨w.heap.size, 3, none⟩ = some (.slice as_ says.length cs) ∧ w'.cell? ⟨w.heap.size, 4, none⟩ = some (.slice at_ ts.length ct)) := fun z hz hp => (idsRise_any ps _ z (idsV_below HP hz) hp).mono fun e w' h => ⟨h.1, KB hz h.2⟩
  have HT17 : Hid (∀ z, Below w2.heap.size w2 z → ts.length ≤ 1000000 → Calls Try.prog 17 #[.slice at_ ts.length ct] z fun e w' => e = .returned (.bool (Wr.rise Wr.idOrd ts)) ∧ Below w2.heap.size w2 w' ∧ w'.cell? ⟨w.heap.size, 0, none⟩ = some (.int .i64 a) ∧ w'.cell? ⟨w.heap.size, 1, none⟩ = some (.int .i64 n) ∧ w'.cell? ⟨w.heap.size, 2, none⟩ = some (.slice ap ps.length cp) ∧ w'.cell? ⟨w.heap.size, 3, none⟩ = some (.slice as_ says.length cs) ∧ w'.cell? ⟨w.heap.size, 4, none⟩ = some (.slice at_ ts.length ct)) := fun z hz hp => (idsRise_any ts _ z (idsV_below HT hz) hp).mono fun e w' h => ⟨h.1, KB hz h.2⟩
  have H18 : Hid (∀ z, Below w2.heap.size w2 z → ps.length ≤ 1000000 → Calls Try.prog 18 #[.slice ap ps.length cp, idVal ⟨a, n - 1⟩] z fun e w' => e = .returned (.bool (Wr.has ps ⟨a, n - 1⟩)) ∧ Below w2.heap.size w2 w' ∧ w'.cell? ⟨w.heap.size, 0, none⟩ = some (.int .i64 a) ∧ w'.cell? ⟨w.heap.size, 1, none⟩ = some (.int .i64 n) ∧ w'.cell? ⟨w.heap.size, 2, none⟩ = some (.slice ap ps.length cp) ∧ w'.cell? ⟨w.heap.size, 3, none⟩ = some (.slice as_ says.length cs) ∧ w'.cell? ⟨w.heap.size, 4, none⟩ = some (.slice at_ ts.length ct)) := fun z hz hp => (HasId_any ps ⟨a, n - 1⟩ _ z (idsV_below HP hz) hp).mono fun e w' h => ⟨h.1, KB hz h.2⟩
  have HB2 : Below w2.heap.size w2 w2 := Below.refl _ _
  have HKB : Hid _ := @KB
  clear HP HS HT hF KB
  generalize Wr.isId ⟨a, n⟩ = b0 at *
  generalize ps.all Wr.isId = b1 at *
  generalize ts.all Wr.isId = b2 at *
  generalize Wr.rise Wr.idOrd ps = b3 at *
  generalize Wr.rise Wr.idOrd ts = b4 at *
  generalize Wr.has ps ⟨a, n - 1⟩ = b5 at *
  cases b0
  · go_wp2_with (go_at_call 15; refine Calls.mono (H15.out _ (by assumption)) ?_; rintro e z1 ⟨rfl, hb1, x10, x11, x12, x13, x14⟩)
    go_ret
    exact ⟨by rw [HK.out]; rfl, HG.out.trans (hb1.mono HG.out.size)⟩
  rw [if_neg (by decide)] at HK
  have hn := HID.out rfl
  go_upto_region 3 with (go_at_call 15; refine Calls.mono (H15.out _ (by assumption)) ?_; rintro e z1 ⟨rfl, hb1, x10, x11, x12, x13, x14⟩)
  clear H15 c0 c1 c2 c3 c4 HB2
  by_cases l_ps : 6 < ps.length
  · have dn : decide (6 < ps.length) = true := decide_eq_true l_ps
    have di : decide ((6 : Int) < (ps.length : Int)) = true := decide_eq_true (by omega)
    rw [if_pos (by omega)] at HK
    go_wp2_with fail
    go_ret
    exact ⟨by rw [HK.out]; rfl, HG.out.trans (hb1.mono HG.out.size)⟩
  have dn_ps : decide (6 < ps.length) = false := decide_eq_false l_ps
  have di_ps : decide ((6 : Int) < (ps.length : Int)) = false := decide_eq_false (by omega)
  by_cases l_says : 6 < says.length
  · have dn : decide (6 < says.length) = true := decide_eq_true l_says
    have di : decide ((6 : Int) < (says.length : Int)) = true := decide_eq_true (by omega)
    rw [if_pos (by omega)] at HK
    go_wp2_with fail
    go_ret
    exact ⟨by rw [HK.out]; rfl, HG.out.trans (hb1.mono HG.out.size)⟩
  have dn_says : decide (6 < says.length) = false := decide_eq_false l_says
  have di_says : decide ((6 : Int) < (says.length : Int)) = false := decide_eq_false (by omega)
  by_cases l_ts : 6 < ts.length
  · have dn : decide (6 < ts.length) = true := decide_eq_true l_ts
    have di : decide ((6 : Int) < (ts.length : Int)) = true := decide_eq_true (by omega)
    rw [if_pos (by omega)] at HK
    go_wp2_with fail
    go_ret
    exact ⟨by rw [HK.out]; rfl, HG.out.trans (hb1.mono HG.out.size)⟩
  have dn_ts : decide (6 < ts.length) = false := decide_eq_false l_ts
  have di_ts : decide ((6 : Int) < (ts.length : Int)) = false := decide_eq_false (by omega)
  rw [if_neg (by omega)] at HK
  have lp : ps.length ≤ 1000000 := by omega
  have lt : ts.length ≤ 1000000 := by omega
  go_upto_region 5 with fail
  clear dn_ps di_ps dn_says di_says dn_ts di_ts
  cases b1
  · rw [if_pos (Or.inl rfl)] at HK
    go_wp2_with (go_at_call 16; refine Calls.mono (HP16.out _ (by assumption) (by omega)) ?_; rintro e z2 ⟨rfl, hb2, x20, x21, x22, x23, x24⟩)
    go_ret
    exact ⟨by rw [HK.out]; rfl, HG.out.trans (hb2.mono HG.out.size)⟩
  cases b2
  · rw [if_pos (Or.inr rfl)] at HK
    go_wp2_with (first | (go_at_call 16; with_reducible refine Calls.mono (HP16.out _ (by assumption) lp) ?_; rintro e z2 ⟨rfl, hb2, x20, x21, x22, x23, x24⟩) | (go_at_call 16; with_reducible refine Calls.mono (HT16.out _ (by assumption) lt) ?_; rintro e z3 ⟨rfl, hb3, x30, x31, x32, x33, x34⟩))
    go_ret
    exact ⟨by rw [HK.out]; rfl, HG.out.trans (hb3.mono HG.out.size)⟩
  rw [if_neg (by decide)] at HK
  go_upto_region 7 with (first | (go_at_call 16; with_reducible refine Calls.mono (HP16.out _ (by assumption) lp) ?_; rintro e z2 ⟨rfl, hb2, x20, x21, x22, x23, x24⟩) | (go_at_call 16; with_reducible refine Calls.mono (HT16.out _ (by assumption) lt) ?_; rintro e z3 ⟨rfl, hb3, x30, x31, x32, x33, x34⟩))
  clear HP16 HT16
  cases b3
  · rw [if_pos (Or.inl rfl)] at HK
    go_wp2_with (go_at_call 17; refine Calls.mono (HP17.out _ (by assumption) (by omega)) ?_; rintro e z2 ⟨rfl, hb2, x20, x21, x22, x23, x24⟩)
    go_ret
    exact ⟨by rw [HK.out]; rfl, HG.out.trans (hb2.mono HG.out.size)⟩
  cases b4
  · rw [if_pos (Or.inr rfl)] at HK
    go_wp2_with (first | (go_at_call 17; with_reducible refine Calls.mono (HP17.out _ (by assumption) lp) ?_; rintro e z2 ⟨rfl, hb2, x20, x21, x22, x23, x24⟩) | (go_at_call 17; with_reducible refine Calls.mono (HT17.out _ (by assumption) lt) ?_; rintro e z3 ⟨rfl, hb3, x30, x31, x32, x33, x34⟩))
    go_ret
    exact ⟨by rw [HK.out]; rfl, HG.out.trans (hb3.mono HG.out.size)⟩
  rw [if_neg (by decide)] at HK
  go_upto_region 9 with (first | (go_at_call 17; with_reducible refine Calls.mono (HP17.out _ (by assumption) lp) ?_; rintro e z2 ⟨rfl, hb2, x20, x21, x22, x23, x24⟩) | (go_at_call 17; with_reducible refine Calls.mono (HT17.out _ (by assumption) lt) ?_; rintro e z3 ⟨rfl, hb3, x30, x31, x32, x33, x34⟩))
  clear HP17 HT17
  have hwr : IntKind.i64.wrap (n - 1) = n - 1 := by
    simp [IntKind.wrap, IntKind.bits, IntKind.signed]
    omega
  by_cases hn1 : 1 < n
  · have d1 : decide (1 < n) = true := decide_eq_true hn1
    rw [d1, Bool.true_and] at HK
    cases b5
    · rw [if_pos (by decide)] at HK
      go_wp2_with (go_at_call 18; refine Calls.mono (H18.out _ (by assumption) lp) ?_; rintro e z5 ⟨rfl, hb5, x50, x51, x52, x53, x54⟩)
      go_ret
      exact ⟨by rw [HK.out]; rfl, HG.out.trans (hb5.mono HG.out.size)⟩
    rw [if_neg (by decide)] at HK
    go_upto_region 11 with (go_at_call 18; refine Calls.mono (H18.out _ (by assumption) lp) ?_; rintro e z5 ⟨rfl, hb5, x50, x51, x52, x53, x54⟩)
    clear H18
    obtain ⟨wz, hwz, kb, k0, k1, k2, k3, k4⟩ : ∃ wz, wz = z5 ∧ Below w2.heap.size w2 wz ∧ wz.cell? ⟨w.heap.size, 0, none⟩ = some (.int .i64 a) ∧ wz.cell? ⟨w.heap.size, 1, none⟩ = some (.int .i64 n) ∧ wz.cell? ⟨w.heap.size, 2, none⟩ = some (.slice ap ps.length cp) ∧ wz.cell? ⟨w.heap.size, 3, none⟩ = some (.slice as_ says.length cs) ∧ wz.cell? ⟨w.heap.size, 4, none⟩ = some (.slice at_ ts.length ct) := ⟨z5, rfl, hb5, x50, x51, x52, x53, x54⟩
    subst hwz
    clear x20 x21 x22 x23 x24 x30 x31 x32 x33 x34 x10 x11 x12 x13 x14 hb1 hb2 hb3
    go_wp2_with fail
    go_loopw [3] (fun iv wr => ∃ k : Nat, k ≤ says.length ∧ iv = .int .i64 k ∧ Hid (says.all Wr.factOk = (says.drop k).all Wr.factOk) ∧ Below w2.heap.size w2 wr ∧ wr.cell? ⟨w.heap.size, 0, none⟩ = some (.int .i64 a) ∧ wr.cell? ⟨w.heap.size, 1, none⟩ = some (.int .i64 n) ∧ wr.cell? ⟨w.heap.size, 2, none⟩ = some (.slice ap ps.length cp) ∧ wr.cell? ⟨w.heap.size, 3, none⟩ = some (.slice as_ says.length cs) ∧ wr.cell? ⟨w.heap.size, 4, none⟩ = some (.slice at_ ts.length ct)) (fun iv _ => says.length - (intOf iv).toNat)
    case atStart => exact ⟨0, Nat.zero_le _, rfl, rfl, kb, k0, k1, k2, k3, k4⟩
    case round =>
      obtain ⟨k, hk, rfl, HR, hbw, y0, y1, y2, y3, y4⟩ := hrel
      by_cases hlt : k < says.length
      · obtain ⟨b, off, rfl, p0, fv, p1, hIv⟩ := facts_at HSA.out k hlt
        have HD : Hid (says.all Wr.factOk = (Wr.factOk (Rl.factD says k) && (says.drop (k + 1)).all Wr.factOk)) := all_step Wr.factOk ⟨0, []⟩ says k hlt HR.out
        have HFL : Hid (FFit (Rl.factD says k)) := HFF.out _ (factD_mem says k hlt)
        have a0 := cell_below hbw p0
        have a1 := cell_below hbw p1
        clear p0 p1 HR
        generalize Rl.factD says k = x at *
        obtain ⟨xp, xs⟩ := x
        obtain ⟨af, cf, rfl, hIA⟩ := hIv
        dsimp only at a0 a1 hIA
        have HIA : Hid (IntsAt w2 af xs) := hIA
        clear hIA
        have hxl : xs.length ≤ 9223372036854775807 := HFL.out
        have HFO : Hid (Wr.factOk ⟨xp, xs⟩ = (decide (0 ≤ xp) && (decide (xp ≤ 9) && (decide (xs.length ≤ 3) && xs.all Wr.numOk)))) := by
          show _ = _
          unfold Wr.factOk
          simp only [Bool.decide_and, Bool.and_assoc]
        have HB5 : Hid _ := heap_alloc_new wr (.cells #[.int .i64 xp, .slice af xs.length cf] 49)
        have hB5 : Below wr.heap.size wr (wr.alloc (.cells #[.int .i64 xp, .slice af xs.length cf] 49)) := ((Gr.refl wr).alloc _).below
        go_upto_region 15 with fail
        generalize wr.alloc (.cells #[.int .i64 xp, .slice af xs.length cf] 49) = w5 at *
        have e0 : w5.cell? ⟨wr.heap.size, 0, none⟩ = some (.int .i64 xp) := by rw [Lib.cell_of_heap HB5.out]; rfl
        have e1 : w5.cell? ⟨wr.heap.size, 1, none⟩ = some (.slice af xs.length cf) := by rw [Lib.cell_of_heap HB5.out]; rfl
        obtain ⟨hb5, m0, m1, m2, m3, m4⟩ := HKB.out hbw hB5
        clear y0 y1 y2 y3 y4 a0 a1 HB5 hB5
        by_cases g1 : 0 ≤ xp
        rotate_left
        · have d1 : decide (0 ≤ xp) = false := decide_eq_false g1
          rw [if_pos (by rw [HD.out, HFO.out, d1]; rfl)] at HK
          go_wp2_with (go_at_call 19; refine Calls.mono (between_any _ _ _ _) ?_; rintro e z9 ⟨rfl, hz9⟩; obtain rfl := hz9.symm)
          go_ret
          exact ⟨by rw [HK.out]; rfl, HG.out.trans (hb5.mono HG.out.size)⟩
        have d1 : decide (0 ≤ xp) = true := decide_eq_true g1
        by_cases g2 : xp ≤ 9
        rotate_left
        · have d2 : decide (xp ≤ 9) = false := decide_eq_false g2
          rw [if_pos (by rw [HD.out, HFO.out, d1, d2]; rfl)] at HK
          go_wp2_with (go_at_call 19; refine Calls.mono (between_any _ _ _ _) ?_; rintro e z9 ⟨rfl, hz9⟩; obtain rfl := hz9.symm)
          go_ret
          exact ⟨by rw [HK.out]; rfl, HG.out.trans (hb5.mono HG.out.size)⟩
        have d2 : decide (xp ≤ 9) = true := decide_eq_true g2
        by_cases g3 : 3 < xs.length
        · have d3 : decide (3 < xs.length) = true := decide_eq_true g3
          have d3i : decide ((3 : Int) < (xs.length : Int)) = true := decide_eq_true (by omega)
          have d3n : decide (xs.length ≤ 3) = false := decide_eq_false (by omega)
          rw [if_pos (by rw [HD.out, HFO.out, d1, d2, d3n]; rfl)] at HK
          go_wp2_with (go_at_call 19; refine Calls.mono (between_any _ _ _ _) ?_; rintro e z9 ⟨rfl, hz9⟩; obtain rfl := hz9.symm)
          go_ret
          exact ⟨by rw [HK.out]; rfl, HG.out.trans (hb5.mono HG.out.size)⟩
        have d3 : decide (3 < xs.length) = false := decide_eq_false g3
        have d3i : decide ((3 : Int) < (xs.length : Int)) = false := decide_eq_false (by omega)
        have HFO2 : Hid (Wr.factOk ⟨xp, xs⟩ = xs.all Wr.numOk) := by
          show _ = _
          rw [HFO.out, d1, d2, decide_eq_true (p := xs.length ≤ 3) (by omega)]
          rfl
        go_upto_region 17 with (go_at_call 19; refine Calls.mono (between_any _ _ _ _) ?_; rintro e z9 ⟨rfl, hz9⟩; obtain rfl := hz9.symm)
        clear d1 d2 d3 d3i HFO
        go_wp2_with fail
        go_loopw [5] (fun iv wq => ∃ m : Nat, m ≤ xs.length ∧ iv = .int .i64 m ∧ Hid (xs.all Wr.numOk = (xs.drop m).all Wr.numOk) ∧ wq = w5) (fun iv _ => xs.length - (intOf iv).toNat)
        case atStart => exact ⟨0, Nat.zero_le _, rfl, rfl, rfl⟩
        case round =>
          obtain ⟨m, hm, rfl, HR2, hwq⟩ := hrel
          subst hwq
          by_cases hlm : m < xs.length
          · obtain ⟨b6, off6, rfl, p6⟩ := ints_at HIA.out m hlm
            have a6 := cell_below hb5 p6
            have HD6 : Hid (xs.all Wr.numOk = (Wr.numOk (Sc.intD xs m) && (xs.drop (m + 1)).all Wr.numOk)) := all_step Wr.numOk 0 xs m hlm HR2.out
            clear p6 HR2
            generalize Sc.intD xs m = y at *
            have HC : Hid (∀ z, Calls Try.prog 20 #[.int .i64 y] z fun e w' => e = .returned (.bool (Wr.numOk y)) ∧ w' = z) := fun z => IsNumber_any y z
            generalize Wr.numOk y = by6 at *
            cases by6
            · rw [if_pos (by rw [HD.out, HFO2.out, HD6.out]; rfl)] at HK
              go_wp2_with (go_at_call 20; refine Calls.mono (HC.out _) ?_; rintro e z9 ⟨rfl, hz9⟩; obtain rfl := hz9.symm)
              go_ret
              exact ⟨by rw [HK.out]; rfl, HG.out.trans (hb5.mono HG.out.size)⟩
            · go_wp2_with (go_at_call 20; refine Calls.mono (HC.out _) ?_; rintro e z9 ⟨rfl, hz9⟩; obtain rfl := hz9.symm)
              go_roundw
              case rel => exact ⟨m + 1, hlm, by go_num, HD6.out.trans (by rw [Bool.true_and]), trivial⟩
              case measure => simp [intOf]; omega
          · have hdd : decide (m < xs.length) = false := decide_eq_false hlm
            have HE : Hid (says.all Wr.factOk = (says.drop (k + 1)).all Wr.factOk) := by
              show _ = _
              rw [HD.out, HFO2.out, all_end Wr.numOk xs m hlm HR2.out, Bool.true_and]
            clear HD HFO2 HR2
            go_wp2_with fail
            go_roundw
            case rel => exact ⟨k + 1, hlt, by go_num, HE.out, hb5, m0, m1, m2, m3, m4⟩
            case measure => simp [intOf]; omega
      · have hdd : decide (k < says.length) = false := decide_eq_false hlt
        rw [if_neg (by rw [all_end Wr.factOk says k hlt HR.out]; decide)] at HK
        clear HR
        go_wp2_with fail
        go_loopw [6] (fun iv wr => ∃ k : Nat, 1 ≤ k ∧ k ≤ says.length + 1 ∧ iv = .int .i64 k ∧ Hid (Wr.rise Rl.ord says = Wr.rise Rl.ord (says.drop (k - 1))) ∧ Below w2.heap.size w2 wr ∧ wr.cell? ⟨w.heap.size, 0, none⟩ = some (.int .i64 a) ∧ wr.cell? ⟨w.heap.size, 1, none⟩ = some (.int .i64 n) ∧ wr.cell? ⟨w.heap.size, 2, none⟩ = some (.slice ap ps.length cp) ∧ wr.cell? ⟨w.heap.size, 3, none⟩ = some (.slice as_ says.length cs) ∧ wr.cell? ⟨w.heap.size, 4, none⟩ = some (.slice at_ ts.length ct)) (fun iv _ => says.length + 2 - (intOf iv).toNat)
        case atStart => exact ⟨1, Nat.le_refl _, by omega, rfl, rfl, hbw, y0, y1, y2, y3, y4⟩
        case round =>
          clear hbw y0 y1 y2 y3 y4 hdd hlt
          obtain ⟨k, hk1, hk, rfl, HR, hbw, y0, y1, y2, y3, y4⟩ := hrel
          obtain ⟨j, hkj⟩ : ∃ j, k = j + 1 := ⟨k - 1, by omega⟩
          by_cases hlt : k < says.length
          · have hltj : j < says.length := by omega
            have hwr2 : IntKind.i64.wrap ((k : Int) - 1) = (j : Int) := by
              have e : ((k : Int) - 1) = (j : Int) := by omega
              rw [e]
              simp [IntKind.wrap, IntKind.bits, IntKind.signed]
              omega
            have HD : Hid (Wr.rise Rl.ord says = (decide (Rl.ord (Rl.factD says j) (Rl.factD says k) < 0) && Wr.rise Rl.ord (says.drop j.succ))) := by
              show _ = _
              rw [HR.out, hkj, Nat.add_sub_cancel]
              exact Wr.rise_step Rl.ord ⟨0, []⟩ says j (by omega)
            have HKJ : Hid (k = j + 1) := hkj
            clear hkj
            obtain ⟨b, off, rfl, p0, fv, p1, hIv⟩ := facts_at HSA.out j hltj
            obtain ⟨b2, off2, hv2, r0, gv, r1, hJv⟩ := facts_at HSA.out k hlt
            injection hv2 with hv2
            injection hv2 with hb2 ho2 _
            subst hb2 ho2
            have HIV : Hid (IntsV w2 fv (Rl.factD says j).args ∧ IntsV w2 gv (Rl.factD says k).args ∧ FFit (Rl.factD says j) ∧ FFit (Rl.factD says k)) := ⟨hIv, hJv, HFF.out _ (factD_mem says j hltj), HFF.out _ (factD_mem says k hlt)⟩
            obtain ⟨af, cf, rfl, _⟩ := hIv
            obtain ⟨ag, cg, rfl, _⟩ := hJv
            have a0 := cell_below hbw p0
            have a1 := cell_below hbw p1
            have c0 := cell_below hbw r0
            have c1 := cell_below hbw r1
            clear p0 p1 r0 r1 HR
            generalize Rl.factD says j = x at *
            generalize Rl.factD says k = y at *
            have HN : Hid (∀ z, Below wr.heap.size wr z → Calls Try.prog 21 #[fcVal x.pred (.slice af x.args.length cf), fcVal y.pred (.slice ag y.args.length cg)] z fun e w' => e = .returned (.int .i64 (Rl.ord x y)) ∧ Below wr.heap.size wr w' ∧ w'.cell? ⟨w.heap.size, 3, none⟩ = some (.slice (some ⟨b, off, none⟩) says.length cs) ∧ w'.cell? ⟨b, off + j * 2, none⟩ = some (.int .i64 x.pred) ∧ w'.cell? ⟨b, off + j * 2 + 1, none⟩ = some (.slice af x.args.length cf) ∧ w'.cell? ⟨b, off + k * 2, none⟩ = some (.int .i64 y.pred) ∧ w'.cell? ⟨b, off + k * 2 + 1, none⟩ = some (.slice ag y.args.length cg)) := by
              intro z hz
              have hzw := hbw.trans (hz.mono hbw.size)
              refine (OrderOf_any x y _ _ z (intsV_below HIV.out.1 hzw) (intsV_below HIV.out.2.1 hzw) HIV.out.2.2.1 HIV.out.2.2.2).mono ?_
              rintro e w' ⟨h1, h2⟩
              have h3 := hz.trans (h2.mono hz.size)
              exact ⟨h1, h3, cell_below h3 y3, cell_below h3 a0, cell_below h3 a1, cell_below h3 c0, cell_below h3 c1⟩
            generalize Rl.ord x y = od at *
            have HGA : ∀ b o, Below wr.heap.size wr b → Below wr.heap.size wr (b.alloc o) := fun _ o h => h.alloc h.size o
            have HGD : ∀ b, Below wr.heap.size wr b → Below wr.heap.size wr b.drew := fun _ h => ⟨h.os, h.tape, h.output, h.size, h.block⟩
            have HGR : Below wr.heap.size wr wr := Below.refl _ _
            by_cases ho : 0 ≤ od
            · have hod : decide (0 ≤ od) = true := decide_eq_true ho
              rw [if_pos (by rw [HD.out, decide_eq_false (by omega)]; rfl)] at HK
              clear HD
              go_upto_region 25 with fail
              go_region_held3 (fun yy => yy.cell? ⟨w.heap.size, 3, none⟩ = some (.slice (some ⟨b, off, none⟩) says.length cs) ∧ yy.cell? ⟨b, off + j * 2, none⟩ = some (.int .i64 x.pred) ∧ yy.cell? ⟨b, off + j * 2 + 1, none⟩ = some (.slice af x.args.length cf) ∧ yy.cell? ⟨b, off + k * 2, none⟩ = some (.int .i64 y.pred) ∧ yy.cell? ⟨b, off + k * 2 + 1, none⟩ = some (.slice ag y.args.length cg) ∧ Below wr.heap.size wr yy) (go_keep) (
                (go_at_call 21; refine Calls.mono (HN.out _ ?_) ?_; (simp [*]); rintro e w8 ⟨rfl, hb8, hz1, hz2, hz3, hz4, hz5⟩))
              clear HGA HGD HGR HN hz2 hz3 hz4 hz5
              have hb9 := hbw.trans (hb8.mono hbw.size)
              clear a0 a1 c0 c1
              go_wp2_with fail
              go_ret
              exact ⟨by rw [HK.out]; rfl, HG.out.trans (hb9.mono HG.out.size)⟩
            · have hod : decide (0 ≤ od) = false := decide_eq_false ho
              have HE : Hid (Wr.rise Rl.ord says = Wr.rise Rl.ord (says.drop k)) := by
                show _ = _
                rw [HD.out, decide_eq_true (by omega), Bool.true_and, HKJ.out]
              clear HD
              go_upto_region 25 with fail
              go_region_held3 (fun yy => yy.cell? ⟨w.heap.size, 3, none⟩ = some (.slice (some ⟨b, off, none⟩) says.length cs) ∧ yy.cell? ⟨b, off + j * 2, none⟩ = some (.int .i64 x.pred) ∧ yy.cell? ⟨b, off + j * 2 + 1, none⟩ = some (.slice af x.args.length cf) ∧ yy.cell? ⟨b, off + k * 2, none⟩ = some (.int .i64 y.pred) ∧ yy.cell? ⟨b, off + k * 2 + 1, none⟩ = some (.slice ag y.args.length cg) ∧ Below wr.heap.size wr yy) (go_keep) (
                (go_at_call 21; refine Calls.mono (HN.out _ ?_) ?_; (simp [*]); rintro e w8 ⟨rfl, hb8, hz1, hz2, hz3, hz4, hz5⟩))
              clear HGA HGD HGR HN hz2 hz3 hz4 hz5
              have hb9 := hbw.trans (hb8.mono hbw.size)
              have s0 := cell_below hb8 y0
              have s1 := cell_below hb8 y1
              have s2 := cell_below hb8 y2
              have s4 := cell_below hb8 y4
              clear a0 a1 c0 c1
              go_wp2_with fail
              go_roundw
              case rel => exact ⟨k + 1, by omega, by omega, by go_num, HE.out, hb9, s0, s1, s2, hz1, s4⟩
              case measure => simp [intOf]; omega
          · have hltI : decide (k < says.length) = false := decide_eq_false hlt
            rw [if_neg (by rw [HR.out, Wr.rise_end Rl.ord says (k - 1) (by omega)]; decide)] at HK
            go_wp2_with fail
            go_ret
            exact ⟨by rw [HK.out]; rfl, HG.out.trans (hbw.mono HG.out.size)⟩
  · have d1 : decide (1 < n) = false := decide_eq_false hn1
    rw [d1, Bool.false_and, if_neg (by decide)] at HK
    go_upto_region 11 with fail
    clear H18
    obtain ⟨wz, hwz, kb, k0, k1, k2, k3, k4⟩ : ∃ wz, wz = z3 ∧ Below w2.heap.size w2 wz ∧ wz.cell? ⟨w.heap.size, 0, none⟩ = some (.int .i64 a) ∧ wz.cell? ⟨w.heap.size, 1, none⟩ = some (.int .i64 n) ∧ wz.cell? ⟨w.heap.size, 2, none⟩ = some (.slice ap ps.length cp) ∧ wz.cell? ⟨w.heap.size, 3, none⟩ = some (.slice as_ says.length cs) ∧ wz.cell? ⟨w.heap.size, 4, none⟩ = some (.slice at_ ts.length ct) := ⟨z3, rfl, hb3, x30, x31, x32, x33, x34⟩
    subst hwz
    clear x20 x21 x22 x23 x24 x10 x11 x12 x13 x14 hb1 hb2
    go_wp2_with fail
    go_loopw [3] (fun iv wr => ∃ k : Nat, k ≤ says.length ∧ iv = .int .i64 k ∧ Hid (says.all Wr.factOk = (says.drop k).all Wr.factOk) ∧ Below w2.heap.size w2 wr ∧ wr.cell? ⟨w.heap.size, 0, none⟩ = some (.int .i64 a) ∧ wr.cell? ⟨w.heap.size, 1, none⟩ = some (.int .i64 n) ∧ wr.cell? ⟨w.heap.size, 2, none⟩ = some (.slice ap ps.length cp) ∧ wr.cell? ⟨w.heap.size, 3, none⟩ = some (.slice as_ says.length cs) ∧ wr.cell? ⟨w.heap.size, 4, none⟩ = some (.slice at_ ts.length ct)) (fun iv _ => says.length - (intOf iv).toNat)
    case atStart => exact ⟨0, Nat.zero_le _, rfl, rfl, kb, k0, k1, k2, k3, k4⟩
    case round =>
      obtain ⟨k, hk, rfl, HR, hbw, y0, y1, y2, y3, y4⟩ := hrel
      by_cases hlt : k < says.length
      · obtain ⟨b, off, rfl, p0, fv, p1, hIv⟩ := facts_at HSA.out k hlt
        have HD : Hid (says.all Wr.factOk = (Wr.factOk (Rl.factD says k) && (says.drop (k + 1)).all Wr.factOk)) := all_step Wr.factOk ⟨0, []⟩ says k hlt HR.out
        have HFL : Hid (FFit (Rl.factD says k)) := HFF.out _ (factD_mem says k hlt)
        have a0 := cell_below hbw p0
        have a1 := cell_below hbw p1
        clear p0 p1 HR
        generalize Rl.factD says k = x at *
        obtain ⟨xp, xs⟩ := x
        obtain ⟨af, cf, rfl, hIA⟩ := hIv
        dsimp only at a0 a1 hIA
        have HIA : Hid (IntsAt w2 af xs) := hIA
        clear hIA
        have hxl : xs.length ≤ 9223372036854775807 := HFL.out
        have HFO : Hid (Wr.factOk ⟨xp, xs⟩ = (decide (0 ≤ xp) && (decide (xp ≤ 9) && (decide (xs.length ≤ 3) && xs.all Wr.numOk)))) := by
          show _ = _
          unfold Wr.factOk
          simp only [Bool.decide_and, Bool.and_assoc]
        have HB5 : Hid _ := heap_alloc_new wr (.cells #[.int .i64 xp, .slice af xs.length cf] 49)
        have hB5 : Below wr.heap.size wr (wr.alloc (.cells #[.int .i64 xp, .slice af xs.length cf] 49)) := ((Gr.refl wr).alloc _).below
        go_upto_region 15 with fail
        generalize wr.alloc (.cells #[.int .i64 xp, .slice af xs.length cf] 49) = w5 at *
        have e0 : w5.cell? ⟨wr.heap.size, 0, none⟩ = some (.int .i64 xp) := by rw [Lib.cell_of_heap HB5.out]; rfl
        have e1 : w5.cell? ⟨wr.heap.size, 1, none⟩ = some (.slice af xs.length cf) := by rw [Lib.cell_of_heap HB5.out]; rfl
        obtain ⟨hb5, m0, m1, m2, m3, m4⟩ := HKB.out hbw hB5
        clear y0 y1 y2 y3 y4 a0 a1 HB5 hB5
        by_cases g1 : 0 ≤ xp
        rotate_left
        · have d1 : decide (0 ≤ xp) = false := decide_eq_false g1
          rw [if_pos (by rw [HD.out, HFO.out, d1]; rfl)] at HK
          go_wp2_with (go_at_call 19; refine Calls.mono (between_any _ _ _ _) ?_; rintro e z9 ⟨rfl, hz9⟩; obtain rfl := hz9.symm)
          go_ret
          exact ⟨by rw [HK.out]; rfl, HG.out.trans (hb5.mono HG.out.size)⟩
        have d1 : decide (0 ≤ xp) = true := decide_eq_true g1
        by_cases g2 : xp ≤ 9
        rotate_left
        · have d2 : decide (xp ≤ 9) = false := decide_eq_false g2
          rw [if_pos (by rw [HD.out, HFO.out, d1, d2]; rfl)] at HK
          go_wp2_with (go_at_call 19; refine Calls.mono (between_any _ _ _ _) ?_; rintro e z9 ⟨rfl, hz9⟩; obtain rfl := hz9.symm)
          go_ret
          exact ⟨by rw [HK.out]; rfl, HG.out.trans (hb5.mono HG.out.size)⟩
        have d2 : decide (xp ≤ 9) = true := decide_eq_true g2
        by_cases g3 : 3 < xs.length
        · have d3 : decide (3 < xs.length) = true := decide_eq_true g3
          have d3i : decide ((3 : Int) < (xs.length : Int)) = true := decide_eq_true (by omega)
          have d3n : decide (xs.length ≤ 3) = false := decide_eq_false (by omega)
          rw [if_pos (by rw [HD.out, HFO.out, d1, d2, d3n]; rfl)] at HK
          go_wp2_with (go_at_call 19; refine Calls.mono (between_any _ _ _ _) ?_; rintro e z9 ⟨rfl, hz9⟩; obtain rfl := hz9.symm)
          go_ret
          exact ⟨by rw [HK.out]; rfl, HG.out.trans (hb5.mono HG.out.size)⟩
        have d3 : decide (3 < xs.length) = false := decide_eq_false g3
        have d3i : decide ((3 : Int) < (xs.length : Int)) = false := decide_eq_false (by omega)
        have HFO2 : Hid (Wr.factOk ⟨xp, xs⟩ = xs.all Wr.numOk) := by
          show _ = _
          rw [HFO.out, d1, d2, decide_eq_true (p := xs.length ≤ 3) (by omega)]
          rfl
        go_upto_region 17 with (go_at_call 19; refine Calls.mono (between_any _ _ _ _) ?_; rintro e z9 ⟨rfl, hz9⟩; obtain rfl := hz9.symm)
        clear d1 d2 d3 d3i HFO
        go_wp2_with fail
        go_loopw [5] (fun iv wq => ∃ m : Nat, m ≤ xs.length ∧ iv = .int .i64 m ∧ Hid (xs.all Wr.numOk = (xs.drop m).all Wr.numOk) ∧ wq = w5) (fun iv _ => xs.length - (intOf iv).toNat)
        case atStart => exact ⟨0, Nat.zero_le _, rfl, rfl, rfl⟩
        case round =>
          obtain ⟨m, hm, rfl, HR2, hwq⟩ := hrel
          subst hwq
          by_cases hlm : m < xs.length
          · obtain ⟨b6, off6, rfl, p6⟩ := ints_at HIA.out m hlm
            have a6 := cell_below hb5 p6
            have HD6 : Hid (xs.all Wr.numOk = (Wr.numOk (Sc.intD xs m) && (xs.drop (m + 1)).all Wr.numOk)) := all_step Wr.numOk 0 xs m hlm HR2.out
            clear p6 HR2
            generalize Sc.intD xs m = y at *
            have HC : Hid (∀ z, Calls Try.prog 20 #[.int .i64 y] z fun e w' => e = .returned (.bool (Wr.numOk y)) ∧ w' = z) := fun z => IsNumber_any y z
            generalize Wr.numOk y = by6 at *
            cases by6
            · rw [if_pos (by rw [HD.out, HFO2.out, HD6.out]; rfl)] at HK
              go_wp2_with (go_at_call 20; refine Calls.mono (HC.out _) ?_; rintro e z9 ⟨rfl, hz9⟩; obtain rfl := hz9.symm)
              go_ret
              exact ⟨by rw [HK.out]; rfl, HG.out.trans (hb5.mono HG.out.size)⟩
            · go_wp2_with (go_at_call 20; refine Calls.mono (HC.out _) ?_; rintro e z9 ⟨rfl, hz9⟩; obtain rfl := hz9.symm)
              go_roundw
              case rel => exact ⟨m + 1, hlm, by go_num, HD6.out.trans (by rw [Bool.true_and]), trivial⟩
              case measure => simp [intOf]; omega
          · have hdd : decide (m < xs.length) = false := decide_eq_false hlm
            have HE : Hid (says.all Wr.factOk = (says.drop (k + 1)).all Wr.factOk) := by
              show _ = _
              rw [HD.out, HFO2.out, all_end Wr.numOk xs m hlm HR2.out, Bool.true_and]
            clear HD HFO2 HR2
            go_wp2_with fail
            go_roundw
            case rel => exact ⟨k + 1, hlt, by go_num, HE.out, hb5, m0, m1, m2, m3, m4⟩
            case measure => simp [intOf]; omega
      · have hdd : decide (k < says.length) = false := decide_eq_false hlt
        rw [if_neg (by rw [all_end Wr.factOk says k hlt HR.out]; decide)] at HK
        clear HR
        go_wp2_with fail
        go_loopw [6] (fun iv wr => ∃ k : Nat, 1 ≤ k ∧ k ≤ says.length + 1 ∧ iv = .int .i64 k ∧ Hid (Wr.rise Rl.ord says = Wr.rise Rl.ord (says.drop (k - 1))) ∧ Below w2.heap.size w2 wr ∧ wr.cell? ⟨w.heap.size, 0, none⟩ = some (.int .i64 a) ∧ wr.cell? ⟨w.heap.size, 1, none⟩ = some (.int .i64 n) ∧ wr.cell? ⟨w.heap.size, 2, none⟩ = some (.slice ap ps.length cp) ∧ wr.cell? ⟨w.heap.size, 3, none⟩ = some (.slice as_ says.length cs) ∧ wr.cell? ⟨w.heap.size, 4, none⟩ = some (.slice at_ ts.length ct)) (fun iv _ => says.length + 2 - (intOf iv).toNat)
        case atStart => exact ⟨1, Nat.le_refl _, by omega, rfl, rfl, hbw, y0, y1, y2, y3, y4⟩
        case round =>
          clear hbw y0 y1 y2 y3 y4 hdd hlt
          obtain ⟨k, hk1, hk, rfl, HR, hbw, y0, y1, y2, y3, y4⟩ := hrel
          obtain ⟨j, hkj⟩ : ∃ j, k = j + 1 := ⟨k - 1, by omega⟩
          by_cases hlt : k < says.length
          · have hltj : j < says.length := by omega
            have hwr2 : IntKind.i64.wrap ((k : Int) - 1) = (j : Int) := by
              have e : ((k : Int) - 1) = (j : Int) := by omega
              rw [e]
              simp [IntKind.wrap, IntKind.bits, IntKind.signed]
              omega
            have HD : Hid (Wr.rise Rl.ord says = (decide (Rl.ord (Rl.factD says j) (Rl.factD says k) < 0) && Wr.rise Rl.ord (says.drop j.succ))) := by
              show _ = _
              rw [HR.out, hkj, Nat.add_sub_cancel]
              exact Wr.rise_step Rl.ord ⟨0, []⟩ says j (by omega)
            have HKJ : Hid (k = j + 1) := hkj
            clear hkj
            obtain ⟨b, off, rfl, p0, fv, p1, hIv⟩ := facts_at HSA.out j hltj
            obtain ⟨b2, off2, hv2, r0, gv, r1, hJv⟩ := facts_at HSA.out k hlt
            injection hv2 with hv2
            injection hv2 with hb2 ho2 _
            subst hb2 ho2
            have HIV : Hid (IntsV w2 fv (Rl.factD says j).args ∧ IntsV w2 gv (Rl.factD says k).args ∧ FFit (Rl.factD says j) ∧ FFit (Rl.factD says k)) := ⟨hIv, hJv, HFF.out _ (factD_mem says j hltj), HFF.out _ (factD_mem says k hlt)⟩
            obtain ⟨af, cf, rfl, _⟩ := hIv
            obtain ⟨ag, cg, rfl, _⟩ := hJv
            have a0 := cell_below hbw p0
            have a1 := cell_below hbw p1
            have c0 := cell_below hbw r0
            have c1 := cell_below hbw r1
            clear p0 p1 r0 r1 HR
            generalize Rl.factD says j = x at *
            generalize Rl.factD says k = y at *
            have HN : Hid (∀ z, Below wr.heap.size wr z → Calls Try.prog 21 #[fcVal x.pred (.slice af x.args.length cf), fcVal y.pred (.slice ag y.args.length cg)] z fun e w' => e = .returned (.int .i64 (Rl.ord x y)) ∧ Below wr.heap.size wr w' ∧ w'.cell? ⟨w.heap.size, 3, none⟩ = some (.slice (some ⟨b, off, none⟩) says.length cs) ∧ w'.cell? ⟨b, off + j * 2, none⟩ = some (.int .i64 x.pred) ∧ w'.cell? ⟨b, off + j * 2 + 1, none⟩ = some (.slice af x.args.length cf) ∧ w'.cell? ⟨b, off + k * 2, none⟩ = some (.int .i64 y.pred) ∧ w'.cell? ⟨b, off + k * 2 + 1, none⟩ = some (.slice ag y.args.length cg)) := by
              intro z hz
              have hzw := hbw.trans (hz.mono hbw.size)
              refine (OrderOf_any x y _ _ z (intsV_below HIV.out.1 hzw) (intsV_below HIV.out.2.1 hzw) HIV.out.2.2.1 HIV.out.2.2.2).mono ?_
              rintro e w' ⟨h1, h2⟩
              have h3 := hz.trans (h2.mono hz.size)
              exact ⟨h1, h3, cell_below h3 y3, cell_below h3 a0, cell_below h3 a1, cell_below h3 c0, cell_below h3 c1⟩
            generalize Rl.ord x y = od at *
            have HGA : ∀ b o, Below wr.heap.size wr b → Below wr.heap.size wr (b.alloc o) := fun _ o h => h.alloc h.size o
            have HGD : ∀ b, Below wr.heap.size wr b → Below wr.heap.size wr b.drew := fun _ h => ⟨h.os, h.tape, h.output, h.size, h.block⟩
            have HGR : Below wr.heap.size wr wr := Below.refl _ _
            by_cases ho : 0 ≤ od
            · have hod : decide (0 ≤ od) = true := decide_eq_true ho
              rw [if_pos (by rw [HD.out, decide_eq_false (by omega)]; rfl)] at HK
              clear HD
              go_upto_region 25 with fail
              go_region_held3 (fun yy => yy.cell? ⟨w.heap.size, 3, none⟩ = some (.slice (some ⟨b, off, none⟩) says.length cs) ∧ yy.cell? ⟨b, off + j * 2, none⟩ = some (.int .i64 x.pred) ∧ yy.cell? ⟨b, off + j * 2 + 1, none⟩ = some (.slice af x.args.length cf) ∧ yy.cell? ⟨b, off + k * 2, none⟩ = some (.int .i64 y.pred) ∧ yy.cell? ⟨b, off + k * 2 + 1, none⟩ = some (.slice ag y.args.length cg) ∧ Below wr.heap.size wr yy) (go_keep) (
                (go_at_call 21; refine Calls.mono (HN.out _ ?_) ?_; (simp [*]); rintro e w8 ⟨rfl, hb8, hz1, hz2, hz3, hz4, hz5⟩))
              clear HGA HGD HGR HN hz2 hz3 hz4 hz5
              have hb9 := hbw.trans (hb8.mono hbw.size)
              clear a0 a1 c0 c1
              go_wp2_with fail
              go_ret
              exact ⟨by rw [HK.out]; rfl, HG.out.trans (hb9.mono HG.out.size)⟩
            · have hod : decide (0 ≤ od) = false := decide_eq_false ho
              have HE : Hid (Wr.rise Rl.ord says = Wr.rise Rl.ord (says.drop k)) := by
                show _ = _
                rw [HD.out, decide_eq_true (by omega), Bool.true_and, HKJ.out]
              clear HD
              go_upto_region 25 with fail
              go_region_held3 (fun yy => yy.cell? ⟨w.heap.size, 3, none⟩ = some (.slice (some ⟨b, off, none⟩) says.length cs) ∧ yy.cell? ⟨b, off + j * 2, none⟩ = some (.int .i64 x.pred) ∧ yy.cell? ⟨b, off + j * 2 + 1, none⟩ = some (.slice af x.args.length cf) ∧ yy.cell? ⟨b, off + k * 2, none⟩ = some (.int .i64 y.pred) ∧ yy.cell? ⟨b, off + k * 2 + 1, none⟩ = some (.slice ag y.args.length cg) ∧ Below wr.heap.size wr yy) (go_keep) (
                (go_at_call 21; refine Calls.mono (HN.out _ ?_) ?_; (simp [*]); rintro e w8 ⟨rfl, hb8, hz1, hz2, hz3, hz4, hz5⟩))
              clear HGA HGD HGR HN hz2 hz3 hz4 hz5
              have hb9 := hbw.trans (hb8.mono hbw.size)
              have s0 := cell_below hb8 y0
              have s1 := cell_below hb8 y1
              have s2 := cell_below hb8 y2
              have s4 := cell_below hb8 y4
              clear a0 a1 c0 c1
              go_wp2_with fail
              go_roundw
              case rel => exact ⟨k + 1, by omega, by omega, by go_num, HE.out, hb9, s0, s1, s2, hz1, s4⟩
              case measure => simp [intOf]; omega
          · have hltI : decide (k < says.length) = false := decide_eq_false hlt
            rw [if_neg (by rw [HR.out, Wr.rise_end Rl.ord says (k - 1) (by omega)]; decide)] at HK
            go_wp2_with fail
            go_ret
            exact ⟨by rw [HK.out]; rfl, HG.out.trans (hbw.mono HG.out.size)⟩

end Go.Proofs.Ytjeaicahdnoonaa

/- Whether lists of ids, and updates, are the same. -/
namespace Go.Proofs.Ytjeaicahdnoonaa
open Go.RowKit
theorem ids_step {l m : List Wr.Id} {k : Nat} (hk : k < l.length) (hm : k < m.length) (h : l.take k = m.take k) (e : idD l k = idD m k) : l.take (k + 1) = m.take (k + 1) := by
  rw [List.take_succ_eq_append_getElem hk, List.take_succ_eq_append_getElem hm, h]
  congr 2
  have a : idD l k = l[k] := by simp [idD, List.getD_eq_getElem?_getD, hk]
  have b : idD m k = m[k] := by simp [idD, List.getD_eq_getElem?_getD, hm]
  rw [← a, ← b, e]
theorem ids_all {l m : List Wr.Id} {k : Nat} (hlen : l.length = m.length) (hk : ¬ k < l.length) (h : l.take k = m.take k) : l = m := by
  rw [List.take_of_length_le (by omega), List.take_of_length_le (by omega)] at h
  exact h

set_option maxRecDepth 100000 in
set_option maxHeartbeats 1000000 in
theorem sameIds_any (l m : List Wr.Id) (v u : Value) (w : World) (hV : IdsV w v l) (hU : IdsV w u m) (hl : l.length ≤ 9223372036854775807) : Calls Try.prog 37 #[v, u] w fun e w' => e = .returned (.bool (decide (l = m))) ∧ Below w.heap.size w w' := by
  obtain ⟨ao, cap, rfl, _, hA⟩ := hV
  obtain ⟨bo, cbp, rfl, _, hB⟩ := hU
  have HA : Hid (IdsAt w ao l) := hA
  have HB : Hid (IdsAt w bo m) := hB
  clear hA hB
  by_cases hlen : l.length = m.length
  · rw [← hlen]
    have HLEN : Hid (l.length = m.length) := hlen
    have hne : ((l.length : Int) != (l.length : Int)) = false := by simp
    clear hlen
    go_enter Try.func37, Try.ntmps37
    go_wp2_with fail
    go_loopw [5] (fun iv wr => ∃ k nq : Nat, k ≤ l.length ∧ iv = .int .i64 k ∧ Hid (l.take k = m.take k) ∧ wr = w.drewN nq) (fun iv _ => l.length - (intOf iv).toNat)
    case atStart => exact ⟨0, 0, Nat.zero_le _, rfl, rfl, rfl⟩
    case round =>
      obtain ⟨k, nq, hk, rfl, HR, rfl⟩ := hrel
      by_cases hlt : k < l.length
      · obtain ⟨b, off, rfl, p0, p1⟩ := ids_at HA.out k hlt
        have hltm : k < m.length := by rw [← HLEN.out]; exact hlt
        obtain ⟨b2, off2, rfl, r0, r1⟩ := ids_at HB.out k hltm
        have HNX : Hid (idD l k = idD m k → l.take (k + 1) = m.take (k + 1)) := fun e => ids_step hlt hltm HR.out e
        have HNO : Hid (¬ idD l k = idD m k → ¬ l = m) := fun h e => h (by rw [e])
        clear hltm HR
        generalize idD l k = x at *
        generalize idD m k = z at *
        obtain ⟨xa, xn⟩ := x
        obtain ⟨za, zn⟩ := z
        by_cases e1 : xa = za
        · subst e1
          have g1 : (xa == xa) = true := by simp
          by_cases e2 : xn = zn
          · subst e2
            have g2 : (xn == xn) = true := by simp
            have HE : Hid _ := HNX.out rfl
            clear HNX HNO
            go_upto_region 6 with fail
            go_quiet (fail)
            go_wp2_with fail
            go_roundw
            case rel => exact ⟨k + 1, _, hlt, by go_num, HE.out, rfl⟩
            case measure => simp [intOf]; omega
          · have g2 : (xn == zn) = false := by simpa using e2
            have HE : Hid (decide (l = m) = false) := decide_eq_false (HNO.out (fun e => e2 (by injection e)))
            clear HNX HNO e2
            go_upto_region 6 with fail
            go_quiet (fail)
            go_wp2_with fail
            go_ret
            exact ⟨by rw [HE.out]; rfl, blw_drewN w _⟩
        · have g1 : (xa == za) = false := by simpa using e1
          have HE : Hid (decide (l = m) = false) := decide_eq_false (HNO.out (fun e => e1 (by injection e)))
          clear HNX HNO e1
          go_upto_region 6 with fail
          go_quiet (fail)
          go_wp2_with fail
          go_ret
          exact ⟨by rw [HE.out]; rfl, blw_drewN w _⟩
      · have hdd : decide (k < l.length) = false := decide_eq_false hlt
        have HE : Hid (decide (l = m) = true) := decide_eq_true (ids_all HLEN.out hlt HR.out)
        go_wp2_with fail
        go_ret
        exact ⟨by rw [HE.out]; rfl, blw_drewN w _⟩
  · have g0 : ((l.length : Int) != (m.length : Int)) = true := by simp; omega
    have HE : Hid (decide (l = m) = false) := decide_eq_false (fun h => hlen (by rw [h]))
    clear hlen
    go_enter Try.func37, Try.ntmps37
    go_wp2_with fail
    go_ret
    exact ⟨by rw [HE.out]; rfl, Below.refl _ _⟩


set_option maxRecDepth 100000 in
set_option maxHeartbeats 3000000 in
theorem SameUpdate_any (u x : Wr.Up) (vp vs vt vp2 vs2 vt2 : Value) (w : World) (hP : IdsV w vp u.ps) (hS : FactsV w vs u.says) (hT : IdsV w vt u.ts) (hP2 : IdsV w vp2 x.ps) (hS2 : FactsV w vs2 x.says) (hT2 : IdsV w vt2 x.ts) (hF : ∀ f, f ∈ u.says → FFit f) (hF2 : ∀ f, f ∈ x.says → FFit f) (hl : u.ps.length ≤ 9223372036854775807 ∧ u.says.length ≤ 9223372036854775807 ∧ u.ts.length ≤ 9223372036854775807) :
    Calls Try.prog 12 #[upVal u vp vs vt, upVal x vp2 vs2 vt2] w fun e w' => ∃ t : Bool, e = .returned (.bool t) ∧ (t = true ↔ u = x) ∧ Below w.heap.size w w' := by
  obtain ⟨⟨a, n⟩, ps, says, ts⟩ := u
  obtain ⟨⟨a2, n2⟩, ps2, says2, ts2⟩ := x
  dsimp only at hP hS hT hP2 hS2 hT2 hF hF2 hl
  obtain ⟨ap, cp, rfl, _⟩ := id hP
  obtain ⟨as_, cs, rfl, _⟩ := id hS
  obtain ⟨at_, ct, rfl, _⟩ := id hT
  obtain ⟨ap2, cp2, rfl, _⟩ := id hP2
  obtain ⟨as2, cs2, rfl, _⟩ := id hS2
  obtain ⟨at2, ct2, rfl, _⟩ := id hT2
  obtain ⟨bs, hbs⟩ : ∃ b : Bool, (b = true ↔ says = says2) := by
    by_cases h : says = says2
    · exact ⟨true, fun _ => h, fun _ => rfl⟩
    · exact ⟨false, fun e => (by cases e), fun e => absurd e h⟩
  have HQ : Hid ((⟨⟨a, n⟩, ps, says, ts⟩ : Wr.Up) = ⟨⟨a2, n2⟩, ps2, says2, ts2⟩ ↔ ((a = a2 ∧ n = n2) ∧ decide (ps = ps2) = true ∧ bs = true ∧ decide (ts = ts2) = true)) := by
    show _ ↔ _
    simp only [Wr.Up.mk.injEq, Wr.Id.mk.injEq, decide_eq_true_eq, hbs]
  have hG : Below w.heap.size w ((w.alloc (.cells #[.int .i64 a, .int .i64 n, .slice ap ps.length cp, .slice as_ says.length cs, .slice at_ ts.length ct] 27)).alloc (.cells #[.int .i64 a2, .int .i64 n2, .slice ap2 ps2.length cp2, .slice as2 says2.length cs2, .slice at2 ts2.length ct2] 27)) := (((Gr.refl w).alloc _).alloc _).below
  have t2 := two_blocks (w := w) (o1 := (.cells #[.int .i64 a, .int .i64 n, .slice ap ps.length cp, .slice as_ says.length cs, .slice at_ ts.length ct] 27)) (o2 := (.cells #[.int .i64 a2, .int .i64 n2, .slice ap2 ps2.length cp2, .slice as2 says2.length cs2, .slice at2 ts2.length ct2] 27)) (Below.refl _ _)
  go_enter Try.func12, Try.ntmps12
  go_upto_region 1 with fail
  generalize (w.alloc (.cells #[.int .i64 a, .int .i64 n, .slice ap ps.length cp, .slice as_ says.length cs, .slice at_ ts.length ct] 27)).alloc (.cells #[.int .i64 a2, .int .i64 n2, .slice ap2 ps2.length cp2, .slice as2 says2.length cs2, .slice at2 ts2.length ct2] 27) = w2 at *
  have c0 : w2.cell? ⟨w.heap.size, 0, none⟩ = some (.int .i64 a) := by rw [Lib.cell_of_heap t2.1]; rfl
  have c1 : w2.cell? ⟨w.heap.size, 1, none⟩ = some (.int .i64 n) := by rw [Lib.cell_of_heap t2.1]; rfl
  have c2 : w2.cell? ⟨w.heap.size, 2, none⟩ = some (.slice ap ps.length cp) := by rw [Lib.cell_of_heap t2.1]; rfl
  have c3 : w2.cell? ⟨w.heap.size, 3, none⟩ = some (.slice as_ says.length cs) := by rw [Lib.cell_of_heap t2.1]; rfl
  have c4 : w2.cell? ⟨w.heap.size, 4, none⟩ = some (.slice at_ ts.length ct) := by rw [Lib.cell_of_heap t2.1]; rfl
  have d0 : w2.cell? ⟨w.heap.size + 1, 0, none⟩ = some (.int .i64 a2) := by rw [Lib.cell_of_heap t2.2]; rfl
  have d1 : w2.cell? ⟨w.heap.size + 1, 1, none⟩ = some (.int .i64 n2) := by rw [Lib.cell_of_heap t2.2]; rfl
  have d2 : w2.cell? ⟨w.heap.size + 1, 2, none⟩ = some (.slice ap2 ps2.length cp2) := by rw [Lib.cell_of_heap t2.2]; rfl
  have d3 : w2.cell? ⟨w.heap.size + 1, 3, none⟩ = some (.slice as2 says2.length cs2) := by rw [Lib.cell_of_heap t2.2]; rfl
  have d4 : w2.cell? ⟨w.heap.size + 1, 4, none⟩ = some (.slice at2 ts2.length ct2) := by rw [Lib.cell_of_heap t2.2]; rfl
  have KB : ∀ {z w' : World}, Below w2.heap.size w2 z → Below z.heap.size z w' → Below w2.heap.size w2 w' ∧ w'.cell? ⟨w.heap.size, 0, none⟩ = some (.int .i64 a) ∧ w'.cell? ⟨w.heap.size, 1, none⟩ = some (.int .i64 n) ∧ w'.cell? ⟨w.heap.size, 2, none⟩ = some (.slice ap ps.length cp) ∧ w'.cell? ⟨w.heap.size, 3, none⟩ = some (.slice as_ says.length cs) ∧ w'.cell? ⟨w.heap.size, 4, none⟩ = some (.slice at_ ts.length ct) ∧ w'.cell? ⟨w.heap.size + 1, 0, none⟩ = some (.int .i64 a2) ∧ w'.cell? ⟨w.heap.size + 1, 1, none⟩ = some (.int .i64 n2) ∧ w'.cell? ⟨w.heap.size + 1, 2, none⟩ = some (.slice ap2 ps2.length cp2) ∧ w'.cell? ⟨w.heap.size + 1, 3, none⟩ = some (.slice as2 says2.length cs2) ∧ w'.cell? ⟨w.heap.size + 1, 4, none⟩ = some (.slice at2 ts2.length ct2) := fun hz h => by
    have h3 := hz.trans (h.mono hz.size)
    exact ⟨h3, cell_below h3 c0, cell_below h3 c1, cell_below h3 c2, cell_below h3 c3, cell_below h3 c4, cell_below h3 d0, cell_below h3 d1, cell_below h3 d2, cell_below h3 d3, cell_below h3 d4⟩
  have HP : Hid (∀ z, Below w2.heap.size w2 z → Calls Try.prog 37 #[.slice ap ps.length cp, .slice ap2 ps2.length cp2] z fun e w' => e = .returned (.bool (decide (ps = ps2))) ∧ Below w2.heap.size w2 w' ∧ w'.cell? ⟨w.heap.size, 0, none⟩ = some (.int .i64 a) ∧ w'.cell? ⟨w.heap.size, 1, none⟩ = some (.int .i64 n) ∧ w'.cell? ⟨w.heap.size, 2, none⟩ = some (.slice ap ps.length cp) ∧ w'.cell? ⟨w.heap.size, 3, none⟩ = some (.slice as_ says.length cs) ∧ w'.cell? ⟨w.heap.size, 4, none⟩ = some (.slice at_ ts.length ct) ∧ w'.cell? ⟨w.heap.size + 1, 0, none⟩ = some (.int .i64 a2) ∧ w'.cell? ⟨w.heap.size + 1, 1, none⟩ = some (.int .i64 n2) ∧ w'.cell? ⟨w.heap.size + 1, 2, none⟩ = some (.slice ap2 ps2.length cp2) ∧ w'.cell? ⟨w.heap.size + 1, 3, none⟩ = some (.slice as2 says2.length cs2) ∧ w'.cell? ⟨w.heap.size + 1, 4, none⟩ = some (.slice at2 ts2.length ct2)) := fun z hz => (sameIds_any ps ps2 _ _ z (idsV_below (idsV_below hP hG) hz) (idsV_below (idsV_below hP2 hG) hz) hl.1).mono fun e w' h => ⟨h.1, KB hz h.2⟩
  have HT : Hid (∀ z, Below w2.heap.size w2 z → Calls Try.prog 37 #[.slice at_ ts.length ct, .slice at2 ts2.length ct2] z fun e w' => e = .returned (.bool (decide (ts = ts2))) ∧ Below w2.heap.size w2 w' ∧ w'.cell? ⟨w.heap.size, 0, none⟩ = some (.int .i64 a) ∧ w'.cell? ⟨w.heap.size, 1, none⟩ = some (.int .i64 n) ∧ w'.cell? ⟨w.heap.size, 2, none⟩ = some (.slice ap ps.length cp) ∧ w'.cell? ⟨w.heap.size, 3, none⟩ = some (.slice as_ says.length cs) ∧ w'.cell? ⟨w.heap.size, 4, none⟩ = some (.slice at_ ts.length ct) ∧ w'.cell? ⟨w.heap.size + 1, 0, none⟩ = some (.int .i64 a2) ∧ w'.cell? ⟨w.heap.size + 1, 1, none⟩ = some (.int .i64 n2) ∧ w'.cell? ⟨w.heap.size + 1, 2, none⟩ = some (.slice ap2 ps2.length cp2) ∧ w'.cell? ⟨w.heap.size + 1, 3, none⟩ = some (.slice as2 says2.length cs2) ∧ w'.cell? ⟨w.heap.size + 1, 4, none⟩ = some (.slice at2 ts2.length ct2)) := fun z hz => (sameIds_any ts ts2 _ _ z (idsV_below (idsV_below hT hG) hz) (idsV_below (idsV_below hT2 hG) hz) hl.2.2).mono fun e w' h => ⟨h.1, KB hz h.2⟩
  have H38 : Hid (∀ z, Below w2.heap.size w2 z → Calls Try.prog 38 #[.slice as_ says.length cs, .slice as2 says2.length cs2] z fun e w' => e = .returned (.bool bs) ∧ Below w2.heap.size w2 w' ∧ w'.cell? ⟨w.heap.size, 0, none⟩ = some (.int .i64 a) ∧ w'.cell? ⟨w.heap.size, 1, none⟩ = some (.int .i64 n) ∧ w'.cell? ⟨w.heap.size, 2, none⟩ = some (.slice ap ps.length cp) ∧ w'.cell? ⟨w.heap.size, 3, none⟩ = some (.slice as_ says.length cs) ∧ w'.cell? ⟨w.heap.size, 4, none⟩ = some (.slice at_ ts.length ct) ∧ w'.cell? ⟨w.heap.size + 1, 0, none⟩ = some (.int .i64 a2) ∧ w'.cell? ⟨w.heap.size + 1, 1, none⟩ = some (.int .i64 n2) ∧ w'.cell? ⟨w.heap.size + 1, 2, none⟩ = some (.slice ap2 ps2.length cp2) ∧ w'.cell? ⟨w.heap.size + 1, 3, none⟩ = some (.slice as2 says2.length cs2) ∧ w'.cell? ⟨w.heap.size + 1, 4, none⟩ = some (.slice at2 ts2.length ct2)) := fun z hz => (SameFacts_any says says2 _ _ z (factsV_below (factsV_below hS hG) hz) (factsV_below (factsV_below hS2 hG) hz) hl.2.1 hF hF2).mono fun e w' ⟨t, h1, h2, h3⟩ => ⟨by rw [h1, Bool.eq_iff_iff.mpr (h2.trans hbs.symm)], KB hz h3⟩
  have HG : Hid _ := hG
  have HB2 : Below w2.heap.size w2 w2 := Below.refl _ _
  clear hP hS hT hP2 hS2 hT2 hF hF2 hl hG t2 KB hbs
  generalize decide (ps = ps2) = bp at *
  generalize decide (ts = ts2) = bt at *
  by_cases e1 : a = a2
  rotate_left
  · have g1 : (a == a2) = false := by simpa using e1
    have HE : Hid (¬ (⟨⟨a, n⟩, ps, says, ts⟩ : Wr.Up) = ⟨⟨a2, n2⟩, ps2, says2, ts2⟩) := fun h => e1 (HQ.out.mp h).1.1
    clear HQ e1
    go_wp2_with fail
    go_ret
    exact ⟨false, rfl, ⟨fun h => (by cases h), fun h => absurd h HE.out⟩, HG.out⟩
  by_cases e2 : n = n2
  rotate_left
  · have g2 : (n == n2) = false := by simpa using e2
    have HE : Hid (¬ (⟨⟨a, n⟩, ps, says, ts⟩ : Wr.Up) = ⟨⟨a2, n2⟩, ps2, says2, ts2⟩) := fun h => e2 (HQ.out.mp h).1.2
    have g1 : (a == a2) = true := by simpa using e1
    clear HQ e2
    go_wp2_with fail
    go_ret
    exact ⟨false, rfl, ⟨fun h => (by cases h), fun h => absurd h HE.out⟩, HG.out⟩
  have g1 : (a == a2) = true := by simpa using e1
  have g2 : (n == n2) = true := by simpa using e2
  have HQ2 : Hid ((⟨⟨a, n⟩, ps, says, ts⟩ : Wr.Up) = ⟨⟨a2, n2⟩, ps2, says2, ts2⟩ ↔ (bp = true ∧ bs = true ∧ bt = true)) := HQ.out.trans ⟨fun h => h.2, fun h => ⟨⟨e1, e2⟩, h⟩⟩
  clear HQ e1 e2
  cases bp
  · go_wp2_with (first | (go_at_call 37; with_reducible refine Calls.mono (HP.out _ (by assumption)) ?_; rintro e z1 ⟨rfl, hb1, x10, x11, x12, x13, x14, x15, x16, x17, x18, x19⟩) | (go_at_call 38; with_reducible refine Calls.mono (H38.out _ (by assumption)) ?_; rintro e z2 ⟨rfl, hb2, x20, x21, x22, x23, x24, x25, x26, x27, x28, x29⟩) | (go_at_call 37; with_reducible refine Calls.mono (HT.out _ (by assumption)) ?_; rintro e z3 ⟨rfl, hb3, x30, x31, x32, x33, x34, x35, x36, x37, x38, x39⟩))
    go_ret
    exact ⟨false, rfl, ⟨fun h => (by cases h), fun h => absurd (HQ2.out.mp h).1 (by decide)⟩, HG.out.trans (hb1.mono HG.out.size)⟩
  cases bs
  · go_wp2_with (first | (go_at_call 37; with_reducible refine Calls.mono (HP.out _ (by assumption)) ?_; rintro e z1 ⟨rfl, hb1, x10, x11, x12, x13, x14, x15, x16, x17, x18, x19⟩) | (go_at_call 38; with_reducible refine Calls.mono (H38.out _ (by assumption)) ?_; rintro e z2 ⟨rfl, hb2, x20, x21, x22, x23, x24, x25, x26, x27, x28, x29⟩) | (go_at_call 37; with_reducible refine Calls.mono (HT.out _ (by assumption)) ?_; rintro e z3 ⟨rfl, hb3, x30, x31, x32, x33, x34, x35, x36, x37, x38, x39⟩))
    go_ret
    exact ⟨false, rfl, ⟨fun h => (by cases h), fun h => absurd (HQ2.out.mp h).2.1 (by decide)⟩, HG.out.trans (hb2.mono HG.out.size)⟩
  cases bt
  · go_wp2_with (first | (go_at_call 37; with_reducible refine Calls.mono (HP.out _ (by assumption)) ?_; rintro e z1 ⟨rfl, hb1, x10, x11, x12, x13, x14, x15, x16, x17, x18, x19⟩) | (go_at_call 38; with_reducible refine Calls.mono (H38.out _ (by assumption)) ?_; rintro e z2 ⟨rfl, hb2, x20, x21, x22, x23, x24, x25, x26, x27, x28, x29⟩) | (go_at_call 37; with_reducible refine Calls.mono (HT.out _ (by assumption)) ?_; rintro e z3 ⟨rfl, hb3, x30, x31, x32, x33, x34, x35, x36, x37, x38, x39⟩))
    go_ret
    exact ⟨false, rfl, ⟨fun h => (by cases h), fun h => absurd (HQ2.out.mp h).2.2 (by decide)⟩, HG.out.trans (hb3.mono HG.out.size)⟩
  · go_wp2_with (first | (go_at_call 37; with_reducible refine Calls.mono (HP.out _ (by assumption)) ?_; rintro e z1 ⟨rfl, hb1, x10, x11, x12, x13, x14, x15, x16, x17, x18, x19⟩) | (go_at_call 38; with_reducible refine Calls.mono (H38.out _ (by assumption)) ?_; rintro e z2 ⟨rfl, hb2, x20, x21, x22, x23, x24, x25, x26, x27, x28, x29⟩) | (go_at_call 37; with_reducible refine Calls.mono (HT.out _ (by assumption)) ?_; rintro e z3 ⟨rfl, hb3, x30, x31, x32, x33, x34, x35, x36, x37, x38, x39⟩))
    go_ret
    exact ⟨true, rfl, ⟨fun _ => HQ2.out.mpr (by simp), fun _ => rfl⟩, HG.out.trans (hb3.mono HG.out.size)⟩

end Go.Proofs.Ytjeaicahdnoonaa

/- A region that draws its order, by an invariant over what has been carried out: one proof for each operation, not one for each order. -/
namespace Go.Proofs.Ytjeaicahdnoonaa

section
variable {P : Program} {ops : Array Oper} {Q : Exit → Act → World → Prop} {md : Region.Mode}

theorem ready_mem {s : Array Bool} {i : Nat} (h : i ∈ Region.ready md ops s) : s[i]? = some false ∧ ∃ o, ops[i]? = some o ∧ ∀ e, e ∈ o.after → Region.binds md e = true → s[e.on]? = some true := by
  unfold Region.ready at h
  obtain ⟨_, h⟩ := List.mem_filter.mp h
  rw [Bool.and_eq_true] at h
  obtain ⟨h1, h2⟩ := h
  refine ⟨?_, ?_⟩
  · cases hs : s[i]? with
    | none => simp [Array.getD_eq_getD_getElem?, hs] at h1
    | some b => cases b <;> simp [Array.getD_eq_getD_getElem?, hs] at h1 ⊢
  · cases ho : ops[i]? with
    | none => simp [ho] at h2
    | some o =>
      refine ⟨o, rfl, fun e he hb => ?_⟩
      rw [ho, Option.map_some, Option.getD_some, Array.all_eq_true_iff_forall_mem] at h2
      have h3 := h2 e he
      rw [hb] at h3
      cases hs : s[e.on]? with
      | none => simp [Array.getD_eq_getD_getElem?, hs] at h3
      | some b => cases b <;> simp [Array.getD_eq_getD_getElem?, hs] at h3 ⊢

/-- How many are not yet carried out. -/
def left (s : Array Bool) : Nat := s.toList.countP (fun b => !b)
theorem left_zero {s : Array Bool} (h : left s = 0) : Region.ready md ops s = [] := by
  cases hr : Region.ready md ops s with
  | nil => rfl
  | cons i r =>
    have h1 := (ready_mem (s := s) (i := i) (by rw [hr]; exact List.mem_cons_self)).1
    have h2 : false ∈ s.toList := by
      rw [← Array.getElem?_toList] at h1
      exact List.mem_of_getElem? h1
    have h3 := List.countP_eq_zero.mp h false h2
    simp at h3
theorem left_set {s : Array Bool} {i : Nat} (h : s[i]? = some false) : left (s.setIfInBounds i true) + 1 = left s := by
  obtain ⟨hi, he⟩ := Array.getElem?_eq_some_iff.mp h
  unfold left
  have h1 : (s.setIfInBounds i true).toList = s.toList.set i true := by simp
  rw [h1, List.countP_set (h := by simpa using hi)]
  have hm : 0 < s.toList.countP (fun b => !b) := List.countP_pos_iff.mpr ⟨false, by rw [← Array.getElem?_toList] at h; exact List.mem_of_getElem? h, rfl⟩
  have h2 : s.toList[i]'(by simpa using hi) = false := by rw [Array.getElem_toList]; exact he
  rw [h2]
  simp only [Bool.not_false, Bool.not_true, if_true, Bool.false_eq_true, if_false]
  omega

theorem wpAny_inv (I : Array Bool → Act → World → Prop) (hend : ∀ s a w, Region.ready md ops s = [] → I s a w → Q .normal a w)
    (hstep : ∀ s a w i, i ∈ Region.ready md ops s → I s a w → wpOp P ops Q i (I (s.setIfInBounds i true)) a w) :
    ∀ (fuel : Nat) (s : Array Bool) (a : Act) (w : World), left s ≤ fuel → I s a w → wpAny P md ops Q fuel s a w
  | 0, s, a, w, hc, hI => ⟨left_zero (by omega), hend s a w (left_zero (by omega)) hI⟩
  | fuel + 1, s, a, w, hc, hI => ⟨fun h0 => hend s a w h0 hI, fun i hi => wpOp_mono (fun a' w' hI' => wpAny_inv I hend hstep fuel _ a' w' (by have := left_set (ready_mem hi).1; omega) hI') (hstep s a w i hi hI)⟩

/-- The region itself. -/
theorem wp_region_inv (I : Array Bool → Act → World → Prop) {id : Nat} {a : Act} {w : World} (hm : P.follows .mixedOrders = true)
    (hend : ∀ s a w, Region.ready .any ops s = [] → I s a w → Q .normal a w)
    (hstep : ∀ s a w i, i ∈ Region.ready .any ops s → I s a w → wpOp P ops Q i (I (s.setIfInBounds i true)) a w)
    (h0 : I (Array.replicate ops.size false) a { w with drawn := w.drawn + 1 }) : (Code.region id ops true).wp P Q a w := by
  refine wp_region_any hm (wpAny_inv I hend hstep ops.size _ _ _ ?_ h0)
  unfold left
  exact Nat.le_trans List.countP_le_length (by simp)
end

end Go.Proofs.Ytjeaicahdnoonaa

/- A region that draws its order, by a table: of each temporary that it writes, what holds of its value once it is written. One goal for each operation. -/
namespace Go.Proofs.Ytjeaicahdnoonaa
open Go.RowKit

/-- All that is written is written once, and within the frame; what is waited for stands ahead. -/
def tabFine (ops : Array Oper) (n : Nat) : Bool :=
  decide ((ops.toList.filterMap (·.dst)).Nodup) && (ops.toList.filterMap (·.dst)).all (fun t => decide (t < n)) && (List.range ops.size).all (fun i => ((ops[i]?).map (fun o => o.after.toList.all (fun e => decide (e.on < i)))).getD true)

/-- The table at what is done. -/
structure Tabbed (ops : Array Oper) (T : Nat → Value → World → Prop) (a0 : Act) (w0 : World) (s : Array Bool) (a : Act) (w : World) : Prop where
  below : Below w0.heap.size w0 w
  defers : a.defers = a0.defers
  size : a.tmps.size = a0.tmps.size
  still : ∀ t, t ∉ ops.toList.filterMap (·.dst) → a.tmps.getD t undef = a0.tmps.getD t undef
  done : ∀ (i : Nat) (o : Oper) (t : Nat), s[i]? = some true → ops[i]? = some o → o.dst = some t → T t (a.tmps.getD t undef) w

section
variable {P : Program} {ops : Array Oper} {Q : Exit → Act → World → Prop} {T : Nat → Value → World → Prop}

theorem dst_mem {i : Nat} {o : Oper} {t : Nat} (h : ops[i]? = some o) (ht : o.dst = some t) : t ∈ ops.toList.filterMap (·.dst) := by
  refine List.mem_filterMap.mpr ⟨o, ?_, ht⟩
  rw [← Array.getElem?_toList] at h
  exact List.mem_of_getElem? h

theorem dst_inj : ∀ (l : List Oper), (l.filterMap (·.dst)).Nodup → ∀ (i j : Nat) (o o' : Oper) (t : Nat), l[i]? = some o → l[j]? = some o' → o.dst = some t → o'.dst = some t → i = j
  | [], _, i, j, o, o', t, h, _, _, _ => by simp at h
  | x :: l, hn, i, j, o, o', t, hi, hj, ho, ho' => by
    have hmem : ∀ k (o : Oper), l[k]? = some o → o.dst = some t → t ∈ l.filterMap (·.dst) := fun k o h1 h2 => List.mem_filterMap.mpr ⟨o, List.mem_of_getElem? h1, h2⟩
    cases i with
    | zero =>
      cases j with
      | zero => rfl
      | succ j =>
        simp only [List.getElem?_cons_zero, Option.some.injEq] at hi
        subst hi
        simp only [List.getElem?_cons_succ] at hj
        rw [List.filterMap_cons, ho] at hn
        exact absurd (hmem j o' hj ho') (List.nodup_cons.mp hn).1
    | succ i =>
      cases j with
      | zero =>
        simp only [List.getElem?_cons_zero, Option.some.injEq] at hj
        subst hj
        simp only [List.getElem?_cons_succ] at hi
        rw [List.filterMap_cons, ho'] at hn
        exact absurd (hmem i o hi ho) (List.nodup_cons.mp hn).1
      | succ j =>
        simp only [List.getElem?_cons_succ] at hi hj
        have hn' : (l.filterMap (·.dst)).Nodup := by
          rw [List.filterMap_cons] at hn
          cases hx : x.dst with
          | none => rw [hx] at hn; exact hn
          | some z => rw [hx] at hn; exact (List.nodup_cons.mp hn).2
        exact congrArg (· + 1) (dst_inj l hn' i j o o' t hi hj ho ho')

/-- What an operation's goal may take as given. -/
structure OpIn (ops : Array Oper) (T : Nat → Value → World → Prop) (a0 : Act) (w0 : World) (o : Oper) (a : Act) (w : World) : Prop where
  below : Below w0.heap.size w0 w
  still : ∀ t, t ∉ ops.toList.filterMap (·.dst) → a.tmps.getD t undef = a0.tmps.getD t undef
  has : ∀ e, e ∈ o.after → Region.binds .any e = true → ∀ (o' : Oper) (t : Nat), ops[e.on]? = some o' → o'.dst = some t → T t (a.tmps.getD t undef) w

/-- What an operation must do. -/
def OpOk (P : Program) (ops : Array Oper) (Q : Exit → Act → World → Prop) (T : Nat → Value → World → Prop) (o : Oper) (a : Act) (w : World) : Prop :=
  if Region.wanted o (yielded ops a.tmps) then o.wp P a w (fun a' w' => ∃ v, a' = a.put o.dst v ∧ (∀ t, o.dst = some t → T t v w') ∧ Below w.heap.size w w') Q ∨ (o.asks P a w ∧ LetsOut Q)
  else ∀ t, o.dst = some t → T t undef w

theorem put_get_self {a : Act} {t : Nat} {v : Value} (h : t < a.tmps.size) : (a.put (some t) v).tmps.getD t undef = v := by
  simp [Act.put, Array.getD_eq_getD_getElem?, h]
theorem put_get_ne {a : Act} {t u : Nat} {v : Value} (h : u ≠ t) : (a.put (some t) v).tmps.getD u undef = a.tmps.getD u undef := by
  simp [Act.put, Array.getD_eq_getD_getElem?, Ne.symm h]
theorem put_size {a : Act} {d : Option Nat} {v : Value} : (a.put d v).tmps.size = a.tmps.size := by
  cases d <;> simp [Act.put]
theorem put_defers {a : Act} {d : Option Nat} {v : Value} : (a.put d v).defers = a.defers := by
  cases d <;> simp [Act.put]

theorem wp_region_tab (T : Nat → Value → World → Prop) {id : Nat} {a0 : Act} {w0 : World} (hm : P.follows .mixedOrders = true)
    (hf : tabFine ops a0.tmps.size = true)
    (hmono : ∀ t v w w', Below w.heap.size w w' → T t v w → T t v w')
    (hop : ∀ (i : Nat) (o : Oper), ops[i]? = some o → ∀ a w, OpIn ops T a0 w0 o a w → OpOk P ops Q T o a w)
    (hend : ∀ a w, Below w0.heap.size w0 w → a.defers = a0.defers → a.tmps.size = a0.tmps.size → (∀ t, t ∉ ops.toList.filterMap (·.dst) → a.tmps.getD t undef = a0.tmps.getD t undef) → (∀ t, t ∈ ops.toList.filterMap (·.dst) → T t (a.tmps.getD t undef) w) → Q .normal a w) :
    (Code.region id ops true).wp P Q a0 w0 := by
  unfold tabFine at hf
  rw [Bool.and_eq_true, Bool.and_eq_true] at hf
  obtain ⟨⟨hnd, hlt⟩, hah⟩ := hf
  have hnd := of_decide_eq_true hnd
  have hlt' : ∀ t, t ∈ ops.toList.filterMap (·.dst) → t < a0.tmps.size := fun t ht => by
    have h := List.all_eq_true.mp hlt t ht
    exact of_decide_eq_true h
  have hah' : ∀ (i : Nat) (o : Oper), ops[i]? = some o → ∀ e, e ∈ o.after → e.on < i := fun i o ho e he => by
    have hi : i < ops.size := (Array.getElem?_eq_some_iff.mp ho).1
    have h := List.all_eq_true.mp hah i (List.mem_range.mpr hi)
    rw [ho, Option.map_some, Option.getD_some] at h
    exact of_decide_eq_true (List.all_eq_true.mp h e (by simpa using he))
  have hset : ∀ {T : Nat → Value → World → Prop} {s : Array Bool} {a : Act} {w w' : World} {i : Nat} {o : Oper} {v : Value}, (∀ t v w w', Below w.heap.size w w' → T t v w → T t v w') → s.size = ops.size → ops[i]? = some o → Tabbed ops T a0 w0 s a w → (∀ t, o.dst = some t → T t v w') → Below w.heap.size w w' → Tabbed ops T a0 w0 (s.setIfInBounds i true) (a.put o.dst v) w' := by
    intro T s a w w' i o v hmono hs ho hI hv hb
    refine ⟨hI.below.trans (hb.mono hI.below.size), by rw [put_defers]; exact hI.defers, by rw [put_size]; exact hI.size, fun t ht => ?_, fun j oj t hj hoj hd => ?_⟩
    · cases hd : o.dst with
      | none => exact hI.still t ht
      | some u =>
        have hne : t ≠ u := fun h => ht (h ▸ dst_mem ho hd)
        rw [put_get_ne hne]
        exact hI.still t ht
    · by_cases hij : j = i
      · subst hij
        rw [ho] at hoj
        cases hoj
        rw [hd, put_get_self (by rw [hI.size]; exact hlt' t (dst_mem ho hd))]
        exact hv t hd
      · have hj' : s[j]? = some true := by
          rw [Array.getElem?_setIfInBounds, if_neg (fun h => hij h.symm)] at hj
          exact hj
        have h1 := hmono t _ w w' hb (hI.done j oj t hj' hoj hd)
        cases hd2 : o.dst with
        | none => exact h1
        | some u =>
          have hne : t ≠ u := fun h => hij (dst_inj ops.toList hnd j i oj o t (by rw [Array.getElem?_toList]; exact hoj) (by rw [Array.getElem?_toList]; exact ho) hd (h ▸ hd2))
          rw [put_get_ne hne]
          exact h1
  refine wp_region_inv (fun s a w => s.size = ops.size ∧ Tabbed ops T a0 w0 s a w) hm ?_ ?_ ?_
  · rintro s a w hr ⟨hs, hI⟩
    have hall : ∀ n : Nat, n ≤ ops.size → ∀ i : Nat, i < n → s[i]? = some true := by
      intro n
      induction n with
      | zero => intro _ i hi; exact absurd hi (Nat.not_lt_zero _)
      | succ n ih =>
        intro hn i hi
        have ih := ih (by omega)
        by_cases hin : i < n
        · exact ih i hin
        · have hin : i = n := by omega
          subst hin
          cases hsi : s[i]? with
          | none => rw [Array.getElem?_eq_none_iff] at hsi; omega
          | some b =>
            cases b with
            | true => rfl
            | false =>
              exfalso
              have hio : i < ops.size := by omega
              have : i ∈ Region.ready .any ops s := by
                unfold Region.ready
                refine List.mem_filter.mpr ⟨List.mem_range.mpr hio, ?_⟩
                rw [Bool.and_eq_true]
                refine ⟨by simp [Array.getD_eq_getD_getElem?, hsi], ?_⟩
                have ho : ops[i]? = some ops[i] := Array.getElem?_eq_getElem hio
                rw [ho, Option.map_some, Option.getD_some, Array.all_eq_true_iff_forall_mem]
                intro e he
                have h1 := ih e.on (hah' i _ ho e he)
                simp [Array.getD_eq_getD_getElem?, h1]
              rw [hr] at this
              exact absurd this (by simp)
    refine hend a w hI.below hI.defers hI.size hI.still (fun t ht => ?_)
    obtain ⟨o, ho, hd⟩ := List.mem_filterMap.mp ht
    obtain ⟨i, hi⟩ := List.mem_iff_getElem?.mp ho
    rw [Array.getElem?_toList] at hi
    exact hI.done i o t (hall ops.size (Nat.le_refl _) i (Array.getElem?_eq_some_iff.mp hi).1) hi hd
  · rintro s a w i hi ⟨hs, hI⟩
    obtain ⟨hsi, o, ho, haf⟩ := ready_mem hi
    have h := hop i o ho a w ⟨hI.below, hI.still, fun e he hb o' t ho' hd => hI.done e.on o' t (haf e he hb) ho' hd⟩
    have hss : (s.setIfInBounds i true).size = ops.size := by simp [hs]
    unfold OpOk at h
    unfold wpOp
    rw [ho]
    dsimp only
    by_cases hw : Region.wanted o (yielded ops a.tmps) = true
    · rw [if_pos hw] at h ⊢
      refine h.imp (Oper.wp_mono ?_) (fun h => h)
      rintro a' w' ⟨v, rfl, hv, hb⟩
      exact ⟨hss, hset hmono hs ho hI hv hb⟩
    · rw [if_neg hw] at h ⊢
      exact ⟨hss, hset hmono hs ho hI h (Below.refl _ _)⟩
  · refine ⟨by simp, ⟨⟨rfl, rfl, rfl, Nat.le_refl _, fun _ _ => rfl⟩, rfl, rfl, fun _ _ => rfl, fun i o t h _ _ => ?_⟩⟩
    rw [Array.getElem?_replicate] at h
    split at h <;> simp at h
end

end Go.Proofs.Ytjeaicahdnoonaa

/- The goals of a region by a table, operation by operation. -/
namespace Go.Proofs.Ytjeaicahdnoonaa
open Go.RowKit

/-- Does an operation wait for the one that writes t? -/
def waitsFor (ops : Array Oper) (o : Oper) (t : Nat) : Bool := o.after.toList.any fun e => Region.binds .any e && ((ops[e.on]?).map fun o' => o'.dst == some t).getD false
def stays (ops : Array Oper) (t : Nat) : Bool := !(ops.toList.filterMap (·.dst)).contains t

section
variable {P : Program} {ops : Array Oper} {Q : Exit → Act → World → Prop} {T : Nat → Value → World → Prop} {a0 a : Act} {w0 w : World} {o : Oper}

theorem OpIn.of (h : OpIn ops T a0 w0 o a w) (t : Nat) (hw : waitsFor ops o t = true) : T t (a.tmps.getD t undef) w := by
  unfold waitsFor at hw
  obtain ⟨e, he, hb⟩ := List.any_eq_true.mp hw
  rw [Bool.and_eq_true] at hb
  cases ho : ops[e.on]? with
  | none => rw [ho] at hb; simp at hb
  | some o' =>
    rw [ho, Option.map_some, Option.getD_some] at hb
    exact h.has e (by simpa using he) hb.1 o' t ho (by simpa using hb.2)
theorem OpIn.old (h : OpIn ops T a0 w0 o a w) (t : Nat) (hs : stays ops t = true) : a.tmps.getD t undef = a0.tmps.getD t undef := by
  refine h.still t fun hm => ?_
  unfold stays at hs
  simp [hm] at hs
theorem wanted_none {y : Nat → Option Bool} (hg : o.guard = none) : Region.wanted o y = true := by simp [Region.wanted, hg]
theorem wanted_some {j t : Nat} {b : Bool} {oj : Oper} (hg : o.guard = some (j, b)) (hj : ops[j]? = some oj) (hd : oj.dst = some t) (hv : a.tmps.getD t undef = .bool b) : Region.wanted o (yielded ops a.tmps) = true := by
  have ht : a.tmps[t]? = some (.bool b) := by
    rw [Array.getD_eq_getD_getElem?] at hv
    cases h : a.tmps[t]? with
    | none => rw [h] at hv; simp [undef] at hv
    | some v => rw [h] at hv; simpa using hv
  unfold Region.wanted
  rw [hg]
  dsimp only
  unfold yielded
  rw [hj, Option.bind_some, hd, Option.bind_some, ht]
  simp
theorem opOk_val {v : Value} {w' : World} (hw : Region.wanted o (yielded ops a.tmps) = true) (hr : (execOp a.eval o).run P w = .ok (.value v) w') (hT : ∀ t, o.dst = some t → T t v w') (hb : Below w.heap.size w w') : OpOk P ops Q T o a w := by
  unfold OpOk
  rw [if_pos hw]
  left
  unfold Oper.wp
  rw [hr, Oper.upon_value]
  exact ⟨v, rfl, hT, hb⟩
theorem opOk_call {f : FuncId} {args : Array Value} (hw : Region.wanted o (yielded ops a.tmps) = true) (hr : (execOp a.eval o).run P w = .ok (.enter f args) w)
    (hc : Calls P f args w fun e w' => ∃ v, e = .returned v ∧ (∀ t, o.dst = some t → T t v w') ∧ Below w.heap.size w w') : OpOk P ops Q T o a w := by
  unfold OpOk
  rw [if_pos hw]
  left
  unfold Oper.wp
  rw [hr, Oper.upon_enter]
  refine Calls.mono hc ?_
  rintro e w' ⟨v, rfl, hT, hb⟩
  exact ⟨v, rfl, hT, hb⟩

/-- All operations, one by one. -/
def AllOps (Φ : Oper → Prop) : List Oper → Prop
  | [] => True
  | o :: l => Φ o ∧ AllOps Φ l
theorem AllOps.nil {Φ : Oper → Prop} : AllOps Φ [] := trivial
theorem AllOps.cons {Φ : Oper → Prop} {o : Oper} {l : List Oper} (h : Φ o) (hl : AllOps Φ l) : AllOps Φ (o :: l) := ⟨h, hl⟩
theorem AllOps.mem {Φ : Oper → Prop} : ∀ (l : List Oper), AllOps Φ l → ∀ o, o ∈ l → Φ o
  | [], _, o, ho => absurd ho (by simp)
  | x :: l, h, o, ho => by
    rcases List.mem_cons.mp ho with rfl | ho
    · exact h.1
    · exact AllOps.mem l h.2 o ho
theorem AllOps.at {Φ : Oper → Prop} {ops : Array Oper} (h : AllOps Φ ops.toList) (i : Nat) (o : Oper) (ho : ops[i]? = some o) : Φ o := by
  rw [← Array.getElem?_toList] at ho
  exact AllOps.mem _ h o (List.mem_of_getElem? ho)
theorem ends_at {t : Nat} (h : ∀ t, t ∈ ops.toList.filterMap (·.dst) → T t (a.tmps.getD t undef) w) (hs : stays ops t = false) : T t (a.tmps.getD t undef) w := by
  refine h t ?_
  unfold stays at hs
  simpa [List.contains_iff_mem] using hs
theorem wp_region_tabA (T : Nat → Value → World → Prop) {id : Nat} {a0 : Act} {w0 : World} (hm : P.follows .mixedOrders = true) (hf : tabFine ops a0.tmps.size = true)
    (hmono : ∀ t v w w', Below w.heap.size w w' → T t v w → T t v w')
    (hop : AllOps (fun o => ∀ a w, OpIn ops T a0 w0 o a w → OpOk P ops Q T o a w) ops.toList)
    (hend : ∀ a w, Below w0.heap.size w0 w → a.defers = a0.defers → a.tmps.size = a0.tmps.size → (∀ t, t ∉ ops.toList.filterMap (·.dst) → a.tmps.getD t undef = a0.tmps.getD t undef) → (∀ t, t ∈ ops.toList.filterMap (·.dst) → T t (a.tmps.getD t undef) w) → Q .normal a w) :
    (Code.region id ops true).wp P Q a0 w0 :=
  wp_region_tab T hm hf hmono (fun i o ho => AllOps.at hop i o ho) hend
end

end Go.Proofs.Ytjeaicahdnoonaa

/- Behind a region by a table: the frame, written out. -/
namespace Go.Proofs.Ytjeaicahdnoonaa
open Go.RowKit

theorem tmps_fold : ∀ (D : List Nat) (x y : Array Value), x.size = y.size → (∀ t, t ∉ D → x.getD t undef = y.getD t undef) → x = D.foldl (fun arr t => arr.setIfInBounds t (x.getD t undef)) y
  | [], x, y, hs, h => by
    show x = y
    refine Array.ext hs fun i h1 h2 => ?_
    have := h i (by simp)
    rw [Array.getD_eq_getD_getElem?, Array.getD_eq_getD_getElem?, Array.getElem?_eq_getElem h1, Array.getElem?_eq_getElem h2] at this
    exact this
  | t :: D, x, y, hs, h => by
    show x = D.foldl (fun arr t => arr.setIfInBounds t (x.getD t undef)) (y.setIfInBounds t (x.getD t undef))
    refine tmps_fold D x _ (by simp [hs]) fun s hsD => ?_
    by_cases hst : s = t
    · subst hst
      by_cases hl : s < y.size
      · simp [Array.getD_eq_getD_getElem?, hl]
      · have h1 : x[s]? = none := by rw [Array.getElem?_eq_none_iff]; omega
        have h2 : ∀ v, (y.setIfInBounds s v)[s]? = none := fun v => by rw [Array.getElem?_eq_none_iff]; simp; omega
        rw [Array.getD_eq_getD_getElem?, Array.getD_eq_getD_getElem?, h1, h2]
    · rw [h s (by simp [hst, hsD])]
      simp [Array.getD_eq_getD_getElem?, Ne.symm hst]

/-- The region by itself, then what follows. -/
theorem wp_mid {P : Program} {c : Code} {Q : Exit → Act → World → Prop} {a0 : Act} {w : World} (R : Act → Act → World → Prop) (first : c.wp P (fun e a w => e = .normal ∧ R a0 a w) a0 w) (rest : ∀ a w, R a0 a w → Q .normal a w) : c.wp P Q a0 w :=
  Code.wp_mono (fun e a w h => by obtain ⟨rfl, h⟩ := h; exact rest a w h) first

section
variable {P : Program} {ops : Array Oper} {Q : Exit → Act → World → Prop} {T : Nat → Value → World → Prop} {a : Act} {w : World} {o : Oper}
/-- An operation that is not wanted. -/
theorem opOk_skip {j t : Nat} {b c : Bool} {oj : Oper} (hg : o.guard = some (j, b)) (hj : ops[j]? = some oj) (hd : oj.dst = some t) (hv : a.tmps.getD t undef = .bool c) (hbc : c ≠ b) (hT : ∀ t, o.dst = some t → T t undef w) : OpOk P ops Q T o a w := by
  have ht : a.tmps[t]? = some (.bool c) := by
    rw [Array.getD_eq_getD_getElem?] at hv
    cases h : a.tmps[t]? with
    | none => rw [h] at hv; simp [undef] at hv
    | some v => rw [h] at hv; simpa using hv
  have hw : Region.wanted o (yielded ops a.tmps) = false := by
    unfold Region.wanted
    rw [hg]
    dsimp only
    unfold yielded
    rw [hj, Option.bind_some, hd, Option.bind_some, ht]
    simp [hbc]
  unfold OpOk
  rw [hw, if_neg (by simp)]
  exact hT
end

end Go.Proofs.Ytjeaicahdnoonaa

/- What must be in any case: an update's bytes. -/
namespace Go.Proofs.Ytjeaicahdnoonaa
open Go.RowKit

theorem UpV.below {w w' : World} {u : Wr.Up} {vp vs vt : Value} (h : UpV w u vp vs vt) (hb : Below w.heap.size w w') : UpV w' u vp vs vt := ⟨idsV_below h.1 hb, factsV_below h.2.1 hb, idsV_below h.2.2.1 hb, h.2.2.2.1, h.2.2.2.2⟩
def Wr.secE : Wr.By := [1, 1, 0, 1, 0, 1, 0, 1, 0, 2, 4, 0, 0, 0, 5, 0, 0, 0, 1, 0, 1, 0]
theorem first_chk : Wr.check Wr.firstU = 0 := by kernel_rfl
theorem second_chk : Wr.check Wr.secondU = 0 := by kernel_rfl
theorem second_enc : Wr.enc Wr.secondU = Wr.secE := by kernel_rfl
theorem second_out : Wr.encOut Wr.secondU = Wr.secE := by unfold Wr.encOut; rw [if_pos second_chk, second_enc]
theorem second_dec : Wr.decU Wr.secE = Wr.secondU ∧ Wr.decE Wr.secE = 0 := by
  rw [← second_enc]
  exact Wr.decU_ok (Wr.dec_enc (Wr.right_of second_chk)) second_chk
theorem UpV.long {w : World} {u : Wr.Up} {vp vs vt : Value} (h : UpV w u vp vs vt) : u.ps.length ≤ 9223372036854775807 ∧ u.says.length ≤ 9223372036854775807 ∧ u.ts.length ≤ 9223372036854775807 := by have := h.2.2.2.2; omega
def wbV (VX : Value) (tQ : Nat) (vQ : Value) : Prop :=
  match tQ with
  | 15 => vQ = (.int .i64 0 : Value)
  | 16 => vQ = (.bool true : Value)
  | 17 => vQ = (.bool true : Value)
  | 18 => vQ = (.int .i64 0 : Value)
  | 19 => vQ = (.bool true : Value)
  | 20 => vQ = (.bool true : Value)
  | 21 => vQ = (.bool true : Value)
  | 23 => vQ = (.int .i64 0 : Value)
  | 24 => vQ = (.bool true : Value)
  | 25 => vQ = (.bool true : Value)
  | 26 => vQ = (.bool true : Value)
  | 27 => vQ = (strVal Wr.secE : Value)
  | 28 => vQ = (.bool true : Value)
  | 29 => vQ = (.bool true : Value)
  | 30 => vQ = (.bool true : Value)
  | 31 => vQ = (VX : Value)
  | 33 => vQ = (.bool true : Value)
  | 34 => vQ = (.bool true : Value)
  | 0 => vQ = (.bool true : Value)
  | _ => True
def wbT (VX : Value) (tQ : Nat) (vQ : Value) (WQ : World) : Prop :=
  if tQ = 22 then ∃ vp vs vt, vQ = upVal Wr.firstU vp vs vt ∧ UpV WQ Wr.firstU vp vs vt
  else if tQ = 32 then ∃ vp vs vt, vQ = upVal Wr.secondU vp vs vt ∧ UpV WQ Wr.secondU vp vs vt
  else wbV VX tQ vQ
theorem wbT_mono (VX : Value) (tQ : Nat) (vQ : Value) (W W' : World) (hb : Below W.heap.size W W') (h : wbT VX tQ vQ W) : wbT VX tQ vQ W' := by
  unfold wbT at h ⊢
  by_cases h22 : tQ = 22
  · rw [if_pos h22] at h ⊢; obtain ⟨vp, vs, vt, h1, h2⟩ := h; exact ⟨vp, vs, vt, h1, h2.below hb⟩
  · rw [if_neg h22] at h ⊢
    by_cases h32 : tQ = 32
    · rw [if_pos h32] at h ⊢; obtain ⟨vp, vs, vt, h1, h2⟩ := h; exact ⟨vp, vs, vt, h1, h2.below hb⟩
    · rw [if_neg h32] at h ⊢
      exact h

set_option maxRecDepth 100000 in
set_option maxHeartbeats 3000000 in
theorem wireBegun_any (w : World) : Calls Try.prog 10 #[] w fun e w' => e = .returned (.bool true) ∧ Below w.heap.size w w' := by
  have HFI : Hid (∀ w, Calls Try.prog 27 #[] w fun e w' => ∃ vp vs vt, e = .returned (upVal Wr.firstU vp vs vt) ∧ UpV w' Wr.firstU vp vs vt ∧ Below w.heap.size w w') := first_any
  have HSE : Hid (∀ w, Calls Try.prog 26 #[] w fun e w' => ∃ vp vs vt, e = .returned (upVal Wr.secondU vp vs vt) ∧ UpV w' Wr.secondU vp vs vt ∧ Below w.heap.size w w') := second_any
  go_enter Try.func10, Try.ntmps10
  go_wp2_with fail
  refine Calls.mono (HSE.out _) ?_
  rintro e w1 ⟨vp, vs, vt, rfl, hU, hb1⟩
  have HEN : Hid _ := Encode_any Wr.secondU vp vs vt w1 hU.1 hU.2.1 hU.2.2.1 hU.2.2.2.1 hU.long
  rw [second_out, second_chk] at HEN
  have HB1 : Hid (Below w.heap.size w w1) := hb1
  obtain ⟨ap0, cp0, rfl, _⟩ := hU.1
  obtain ⟨as0, cs0, rfl, _⟩ := hU.2.1
  obtain ⟨at0, ct0, rfl, _⟩ := hU.2.2.1
  clear hU hb1
  go_wp2_with fail
  refine Calls.mono HEN.out ?_
  rintro e w2 ⟨rfl, hb2⟩
  have HB2 : Hid (Below w.heap.size w w2) := HB1.out.trans (hb2.mono HB1.out.size)
  have HDE : Hid _ := Decode_any Wr.secE w2
  rw [second_dec.1, second_dec.2] at HDE
  clear hb2 HB1 HEN
  go_wp2_with fail
  refine Calls.mono HDE.out ?_
  rintro e w3 ⟨vp, vs, vt, rfl, hU, hb3⟩
  have HX3 : Hid _ := hU
  obtain ⟨ap, cp, rfl, _⟩ := hU.1
  obtain ⟨as_, cs, rfl, _⟩ := hU.2.1
  obtain ⟨at_, ct, rfl, _⟩ := hU.2.2.1
  have HB3 : Hid (Below w.heap.size w w3) := HB2.out.trans (hb3.mono HB2.out.size)
  clear hU hb3 HB2 HDE
  go_upto_region 3 with fail
  have hBx := heap_alloc_new w3 (.cells #[.int .i64 Wr.secondU.id.a, .int .i64 Wr.secondU.id.n, .slice ap Wr.secondU.ps.length cp, .slice as_ Wr.secondU.says.length cs, .slice at_ Wr.secondU.ts.length ct] 27)
  have HX : Hid (UpV (w3.alloc (.cells #[.int .i64 Wr.secondU.id.a, .int .i64 Wr.secondU.id.n, .slice ap Wr.secondU.ps.length cp, .slice as_ Wr.secondU.says.length cs, .slice at_ Wr.secondU.ts.length ct] 27)) Wr.secondU (.slice ap Wr.secondU.ps.length cp) (.slice as_ Wr.secondU.says.length cs) (.slice at_ Wr.secondU.ts.length ct)) := UpV.below HX3.out (new_below w3 _)
  have HB7 : Hid (Below w.heap.size w (w3.alloc (.cells #[.int .i64 Wr.secondU.id.a, .int .i64 Wr.secondU.id.n, .slice ap Wr.secondU.ps.length cp, .slice as_ Wr.secondU.says.length cs, .slice at_ Wr.secondU.ts.length ct] 27))) := HB3.out.alloc HB3.out.size _
  clear HX3 HB3
  generalize w3.alloc (.cells #[.int .i64 Wr.secondU.id.a, .int .i64 Wr.secondU.id.n, .slice ap Wr.secondU.ps.length cp, .slice as_ Wr.secondU.says.length cs, .slice at_ Wr.secondU.ts.length ct] 27) = w4 at *
  generalize w3.heap.size = XB at *
  have c0 : w4.cell? ⟨XB, 0, none⟩ = some (.int .i64 Wr.secondU.id.a) := by rw [Lib.cell_of_heap hBx]; rfl
  have c1 : w4.cell? ⟨XB, 1, none⟩ = some (.int .i64 Wr.secondU.id.n) := by rw [Lib.cell_of_heap hBx]; rfl
  have c2 : w4.cell? ⟨XB, 2, none⟩ = some (.slice ap Wr.secondU.ps.length cp) := by rw [Lib.cell_of_heap hBx]; rfl
  have c3 : w4.cell? ⟨XB, 3, none⟩ = some (.slice as_ Wr.secondU.says.length cs) := by rw [Lib.cell_of_heap hBx]; rfl
  have c4 : w4.cell? ⟨XB, 4, none⟩ = some (.slice at_ Wr.secondU.ts.length ct) := by rw [Lib.cell_of_heap hBx]; rfl
  clear hBx
  refine wp_region_tabA (wbT (upVal Wr.secondU (.slice ap Wr.secondU.ps.length cp) (.slice as_ Wr.secondU.says.length cs) (.slice at_ Wr.secondU.ts.length ct))) (by kernel_rfl) (by kernel_rfl) (wbT_mono _) ?hop ?hend
  case hop =>
    refine AllOps.cons (fun a y h => ?_) ?_
    · have e2 : a.eval (.tmp 2) = (.int .i64 0 : Value) := h.old 2 (by kernel_rfl)
      refine opOk_val (v := .int .i64 0) (w' := y) (wanted_none rfl) ?_ (fun t ht => by cases ht; exact rfl) (Below.refl _ _)
      have ec : ∀ v, a.eval (.const v) = v := fun _ => rfl
      generalize a.eval = ev at *
      clear h
      go_simp
    refine AllOps.cons (fun a y h => ?_) ?_
    · have e15 : a.eval (.tmp 15) = (.int .i64 0 : Value) := h.of 15 (by kernel_rfl)
      refine opOk_val (v := .bool true) (w' := y) (wanted_none rfl) ?_ (fun t ht => by cases ht; exact rfl) (Below.refl _ _)
      have ec : ∀ v, a.eval (.const v) = v := fun _ => rfl
      generalize a.eval = ev at *
      clear h
      go_simp
    refine AllOps.cons (fun a y h => ?_) ?_
    · have e16 : a.eval (.tmp 16) = (.bool true : Value) := h.of 16 (by kernel_rfl)
      refine opOk_val (v := .bool true) (w' := y) (wanted_none rfl) ?_ (fun t ht => by cases ht; exact rfl) (Below.refl _ _)
      have ec : ∀ v, a.eval (.const v) = v := fun _ => rfl
      generalize a.eval = ev at *
      clear h
      go_simp
    refine AllOps.cons (fun a y h => ?_) ?_
    · have e4 : a.eval (.tmp 4) = (.int .i64 0 : Value) := h.old 4 (by kernel_rfl)
      refine opOk_val (v := .int .i64 0) (w' := y) (wanted_some (j := 2) (t := 17) (b := true) rfl rfl rfl (h.of 17 (by kernel_rfl))) ?_ (fun t ht => by cases ht; exact rfl) (Below.refl _ _)
      have ec : ∀ v, a.eval (.const v) = v := fun _ => rfl
      generalize a.eval = ev at *
      clear h
      go_simp
    refine AllOps.cons (fun a y h => ?_) ?_
    · have e18 : a.eval (.tmp 18) = (.int .i64 0 : Value) := h.of 18 (by kernel_rfl)
      refine opOk_val (v := .bool true) (w' := y) (wanted_some (j := 2) (t := 17) (b := true) rfl rfl rfl (h.of 17 (by kernel_rfl))) ?_ (fun t ht => by cases ht; exact rfl) (Below.refl _ _)
      have ec : ∀ v, a.eval (.const v) = v := fun _ => rfl
      generalize a.eval = ev at *
      clear h
      go_simp
    refine AllOps.cons (fun a y h => ?_) ?_
    · have e17 : a.eval (.tmp 17) = (.bool true : Value) := h.of 17 (by kernel_rfl)
      have e19 : a.eval (.tmp 19) = (.bool true : Value) := h.of 19 (by kernel_rfl)
      refine opOk_val (v := .bool true) (w' := y) (wanted_none rfl) ?_ (fun t ht => by cases ht; exact rfl) (Below.refl _ _)
      have ec : ∀ v, a.eval (.const v) = v := fun _ => rfl
      generalize a.eval = ev at *
      clear h
      go_simp
    refine AllOps.cons (fun a y h => ?_) ?_
    · have e20 : a.eval (.tmp 20) = (.bool true : Value) := h.of 20 (by kernel_rfl)
      refine opOk_val (v := .bool true) (w' := y) (wanted_none rfl) ?_ (fun t ht => by cases ht; exact rfl) (Below.refl _ _)
      have ec : ∀ v, a.eval (.const v) = v := fun _ => rfl
      generalize a.eval = ev at *
      clear h
      go_simp
    refine AllOps.cons (fun a y h => ?_) ?_
    · refine opOk_call (f := 27) (args := #[]) (wanted_some (j := 6) (t := 21) (b := true) rfl rfl rfl (h.of 21 (by kernel_rfl))) ?_ ?_
      · have ec : ∀ v, a.eval (.const v) = v := fun _ => rfl
        have ef : ∀ f, a.eval (.func f) = .func (.func f) #[] #[] := fun _ => rfl
        generalize a.eval = ev at *
        clear h
        go_simp
      · refine Calls.mono (HFI.out y) ?_
        rintro _ y2 ⟨vp, vs, vt, rfl, hU, hb2⟩
        exact ⟨_, rfl, fun t ht => by cases ht; exact ⟨vp, vs, vt, rfl, hU⟩, hb2⟩
    refine AllOps.cons (fun a y h => ?_) ?_
    · obtain ⟨vp, vs, vt, e22, hU⟩ : ∃ vp vs vt, a.eval (.tmp 22) = upVal Wr.firstU vp vs vt ∧ UpV y Wr.firstU vp vs vt := h.of 22 (by kernel_rfl)
      refine opOk_call (f := 11) (args := #[upVal Wr.firstU vp vs vt]) (wanted_some (j := 6) (t := 21) (b := true) rfl rfl rfl (h.of 21 (by kernel_rfl))) ?_ ?_
      · have ec : ∀ v, a.eval (.const v) = v := fun _ => rfl
        have ef : ∀ f, a.eval (.func f) = .func (.func f) #[] #[] := fun _ => rfl
        generalize a.eval = ev at *
        clear h
        go_simp
      · refine Calls.mono (Check_any Wr.firstU _ _ _ y hU.1 hU.2.1 hU.2.2.1 hU.2.2.2.1 (by decide)) ?_
        rintro _ y2 ⟨rfl, hb2⟩
        exact ⟨_, rfl, fun t ht => by cases ht; exact congrArg (Value.int .i64) first_chk, hb2⟩
    refine AllOps.cons (fun a y h => ?_) ?_
    · have e23 : a.eval (.tmp 23) = (.int .i64 0 : Value) := h.of 23 (by kernel_rfl)
      refine opOk_val (v := .bool true) (w' := y) (wanted_some (j := 6) (t := 21) (b := true) rfl rfl rfl (h.of 21 (by kernel_rfl))) ?_ (fun t ht => by cases ht; exact rfl) (Below.refl _ _)
      have ec : ∀ v, a.eval (.const v) = v := fun _ => rfl
      generalize a.eval = ev at *
      clear h
      go_simp
    refine AllOps.cons (fun a y h => ?_) ?_
    · have e21 : a.eval (.tmp 21) = (.bool true : Value) := h.of 21 (by kernel_rfl)
      have e24 : a.eval (.tmp 24) = (.bool true : Value) := h.of 24 (by kernel_rfl)
      refine opOk_val (v := .bool true) (w' := y) (wanted_none rfl) ?_ (fun t ht => by cases ht; exact rfl) (Below.refl _ _)
      have ec : ∀ v, a.eval (.const v) = v := fun _ => rfl
      generalize a.eval = ev at *
      clear h
      go_simp
    refine AllOps.cons (fun a y h => ?_) ?_
    · have e25 : a.eval (.tmp 25) = (.bool true : Value) := h.of 25 (by kernel_rfl)
      refine opOk_val (v := .bool true) (w' := y) (wanted_none rfl) ?_ (fun t ht => by cases ht; exact rfl) (Below.refl _ _)
      have ec : ∀ v, a.eval (.const v) = v := fun _ => rfl
      generalize a.eval = ev at *
      clear h
      go_simp
    refine AllOps.cons (fun a y h => ?_) ?_
    · have e1 : a.eval (.tmp 1) = (strVal Wr.secE : Value) := h.old 1 (by kernel_rfl)
      refine opOk_val (v := strVal Wr.secE) (w' := y) (wanted_some (j := 11) (t := 26) (b := true) rfl rfl rfl (h.of 26 (by kernel_rfl))) ?_ (fun t ht => by cases ht; exact rfl) (Below.refl _ _)
      have ec : ∀ v, a.eval (.const v) = v := fun _ => rfl
      generalize a.eval = ev at *
      clear h
      go_simp
    refine AllOps.cons (fun a y h => ?_) ?_
    · have e27 : a.eval (.tmp 27) = (strVal Wr.secE : Value) := h.of 27 (by kernel_rfl)
      rw [show strVal Wr.secE = .string ⟨#[1, 1, 0, 1, 0, 1, 0, 1, 0, 2, 4, 0, 0, 0, 5, 0, 0, 0, 1, 0, 1, 0]⟩ from rfl] at e27
      refine opOk_val (v := .bool true) (w' := y) (wanted_some (j := 11) (t := 26) (b := true) rfl rfl rfl (h.of 26 (by kernel_rfl))) ?_ (fun t ht => by cases ht; exact rfl) (Below.refl _ _)
      have ec : ∀ v, a.eval (.const v) = v := fun _ => rfl
      generalize a.eval = ev at *
      clear h
      go_simp
    refine AllOps.cons (fun a y h => ?_) ?_
    · have e26 : a.eval (.tmp 26) = (.bool true : Value) := h.of 26 (by kernel_rfl)
      have e28 : a.eval (.tmp 28) = (.bool true : Value) := h.of 28 (by kernel_rfl)
      refine opOk_val (v := .bool true) (w' := y) (wanted_none rfl) ?_ (fun t ht => by cases ht; exact rfl) (Below.refl _ _)
      have ec : ∀ v, a.eval (.const v) = v := fun _ => rfl
      generalize a.eval = ev at *
      clear h
      go_simp
    refine AllOps.cons (fun a y h => ?_) ?_
    · have e29 : a.eval (.tmp 29) = (.bool true : Value) := h.of 29 (by kernel_rfl)
      refine opOk_val (v := .bool true) (w' := y) (wanted_none rfl) ?_ (fun t ht => by cases ht; exact rfl) (Below.refl _ _)
      have ec : ∀ v, a.eval (.const v) = v := fun _ => rfl
      generalize a.eval = ev at *
      clear h
      go_simp
    refine AllOps.cons (fun a y h => ?_) ?_
    · have e3 : a.eval (.tmp 3) = (.pointer (some ⟨XB, 0, none⟩) : Value) := h.old 3 (by kernel_rfl)
      have q0 := cell_below h.below c0
      have q1 := cell_below h.below c1
      have q2 := cell_below h.below c2
      have q3 := cell_below h.below c3
      have q4 := cell_below h.below c4
      refine opOk_val (v := upVal Wr.secondU (.slice ap Wr.secondU.ps.length cp) (.slice as_ Wr.secondU.says.length cs) (.slice at_ Wr.secondU.ts.length ct)) (w' := y) (wanted_some (j := 15) (t := 30) (b := true) rfl rfl rfl (h.of 30 (by kernel_rfl))) ?_ (fun t ht => by cases ht; exact rfl) (Below.refl _ _)
      have ec : ∀ v, a.eval (.const v) = v := fun _ => rfl
      generalize a.eval = ev at *
      clear h
      go_simp
    refine AllOps.cons (fun a y h => ?_) ?_
    · refine opOk_call (f := 26) (args := #[]) (wanted_some (j := 15) (t := 30) (b := true) rfl rfl rfl (h.of 30 (by kernel_rfl))) ?_ ?_
      · have ec : ∀ v, a.eval (.const v) = v := fun _ => rfl
        have ef : ∀ f, a.eval (.func f) = .func (.func f) #[] #[] := fun _ => rfl
        generalize a.eval = ev at *
        clear h
        go_simp
      · refine Calls.mono (HSE.out y) ?_
        rintro _ y2 ⟨vp, vs, vt, rfl, hU, hb2⟩
        exact ⟨_, rfl, fun t ht => by cases ht; exact ⟨vp, vs, vt, rfl, hU⟩, hb2⟩
    refine AllOps.cons (fun a y h => ?_) ?_
    · have e31 : a.eval (.tmp 31) = (upVal Wr.secondU (.slice ap Wr.secondU.ps.length cp) (.slice as_ Wr.secondU.says.length cs) (.slice at_ Wr.secondU.ts.length ct) : Value) := h.of 31 (by kernel_rfl)
      obtain ⟨vp, vs, vt, e32, hU⟩ : ∃ vp vs vt, a.eval (.tmp 32) = upVal Wr.secondU vp vs vt ∧ UpV y Wr.secondU vp vs vt := h.of 32 (by kernel_rfl)
      have hX := UpV.below HX.out h.below
      refine opOk_call (f := 12) (args := #[upVal Wr.secondU (.slice ap Wr.secondU.ps.length cp) (.slice as_ Wr.secondU.says.length cs) (.slice at_ Wr.secondU.ts.length ct), upVal Wr.secondU vp vs vt]) (wanted_some (j := 15) (t := 30) (b := true) rfl rfl rfl (h.of 30 (by kernel_rfl))) ?_ ?_
      · have ec : ∀ v, a.eval (.const v) = v := fun _ => rfl
        have ef : ∀ f, a.eval (.func f) = .func (.func f) #[] #[] := fun _ => rfl
        generalize a.eval = ev at *
        clear h
        go_simp
      · refine Calls.mono (SameUpdate_any Wr.secondU Wr.secondU _ _ _ _ _ _ y hX.1 hX.2.1 hX.2.2.1 hU.1 hU.2.1 hU.2.2.1 hX.2.2.2.1 hU.2.2.2.1 (UpV.long hX)) ?_
        rintro _ y2 ⟨bt, rfl, hbt, hb2⟩
        exact ⟨_, rfl, fun t ht => by cases ht; exact congrArg Value.bool (hbt.mpr rfl), hb2⟩
    refine AllOps.cons (fun a y h => ?_) ?_
    · have e30 : a.eval (.tmp 30) = (.bool true : Value) := h.of 30 (by kernel_rfl)
      have e33 : a.eval (.tmp 33) = (.bool true : Value) := h.of 33 (by kernel_rfl)
      refine opOk_val (v := .bool true) (w' := y) (wanted_none rfl) ?_ (fun t ht => by cases ht; exact rfl) (Below.refl _ _)
      have ec : ∀ v, a.eval (.const v) = v := fun _ => rfl
      generalize a.eval = ev at *
      clear h
      go_simp
    refine AllOps.cons (fun a y h => ?_) ?_
    · have e34 : a.eval (.tmp 34) = (.bool true : Value) := h.of 34 (by kernel_rfl)
      refine opOk_val (v := .bool true) (w' := y) (wanted_none rfl) ?_ (fun t ht => by cases ht; exact rfl) (Below.refl _ _)
      have ec : ∀ v, a.eval (.const v) = v := fun _ => rfl
      generalize a.eval = ev at *
      clear h
      go_simp
    exact AllOps.nil
  case hend =>
    rintro ⟨tm, df⟩ wE hbE hdE hsE hstE hTE
    have h0 : tm.getD 0 undef = (.bool true : Value) := ends_at (T := wbT (upVal Wr.secondU (.slice ap Wr.secondU.ps.length cp) (.slice as_ Wr.secondU.says.length cs) (.slice at_ Wr.secondU.ts.length ct))) (w := wE) (a := ⟨tm, df⟩) (t := 0) hTE (by kernel_rfl)
    obtain rfl : df = [] := hdE
    have HBE : Hid (Below w.heap.size w wE) := HB7.out.trans (hbE.mono HB7.out.size)
    have hFE := tmps_fold [15, 16, 17, 18, 19, 20, 21, 22, 23, 24, 25, 26, 27, 28, 29, 30, 31, 32, 33, 34, 0] tm _ hsE hstE
    clear hsE hstE hTE hbE
    simp only [List.foldl_cons, List.foldl_nil, h0] at hFE
    clear h0
    generalize tm.getD 15 undef = x15 at hFE
    generalize tm.getD 16 undef = x16 at hFE
    generalize tm.getD 17 undef = x17 at hFE
    generalize tm.getD 18 undef = x18 at hFE
    generalize tm.getD 19 undef = x19 at hFE
    generalize tm.getD 20 undef = x20 at hFE
    generalize tm.getD 21 undef = x21 at hFE
    generalize tm.getD 22 undef = x22 at hFE
    generalize tm.getD 23 undef = x23 at hFE
    generalize tm.getD 24 undef = x24 at hFE
    generalize tm.getD 25 undef = x25 at hFE
    generalize tm.getD 26 undef = x26 at hFE
    generalize tm.getD 27 undef = x27 at hFE
    generalize tm.getD 28 undef = x28 at hFE
    generalize tm.getD 29 undef = x29 at hFE
    generalize tm.getD 30 undef = x30 at hFE
    generalize tm.getD 31 undef = x31 at hFE
    generalize tm.getD 32 undef = x32 at hFE
    generalize tm.getD 33 undef = x33 at hFE
    generalize tm.getD 34 undef = x34 at hFE
    simp only [List.setIfInBounds_toArray, List.set_cons_zero, List.set_cons_succ] at hFE
    subst hFE
    go_wp2_with fail
    go_ret
    exact ⟨rfl, HBE.out⟩
end Go.Proofs.Ytjeaicahdnoonaa

/- The document's bytes of numbers, ids and updates. -/
namespace Go.Proofs.Ytjeaicahdnoonaa
open Go.RowKit

theorem app_list (a b : List UInt8) : ({ data := a.toArray } : ByteArray) ++ { data := b.toArray } = { data := (a ++ b).toArray } := by
  apply ByteArray.ext
  simp
theorem le_neg (m : Nat) (hm : m ≤ 4) (n : Int) : Wr.le m (n + 4294967296) = Wr.le m n := by
  refine Wr.le_mod m _ _ ?_
  obtain rfl | rfl | rfl | rfl | rfl : m = 0 ∨ m = 1 ∨ m = 2 ∨ m = 3 ∨ m = 4 := by omega
  all_goals omega

set_option maxRecDepth 100000 in
set_option maxHeartbeats 1000000 in
theorem Bytes_any (n : Int) (m : Nat) (w : World) (hm : m ≤ 4) (hn0 : -4294967296 ≤ n) (hn1 : n ≤ 9223372036854775807) :
    Calls Try.prog 22 #[.int .i64 n, .int .i64 m] w fun e w' => e = .returned (strVal (Wr.le m n)) ∧ Gr w w' := by
  by_cases hn : n < 0
  · obtain ⟨N, hN⟩ : ∃ N, N = n + 4294967296 := ⟨_, rfl⟩
    have HN : Hid (Wr.le m n = Wr.le m N) := by show _ = _; rw [hN, le_neg m hm]
    have hN0 : 0 ≤ N := by omega
    have hN1 : N ≤ 9223372036854775807 := by omega
    have HNE : Hid (N = n + 4294967296) := hN
    have hd : decide (n < 0) = true := decide_eq_true hn
    clear hN
    go_enter Try.func22, Try.ntmps22
    go_wp2_with fail
    go_loopw [0, 5, 6] (fun nv sv iv wr => ∃ k : Nat, k ≤ m ∧ iv = .int .i64 k ∧ nv = .int .i64 (N / (256 ^ k : Nat)) ∧ sv = strVal (Wr.le k N) ∧ Gr w wr) (fun _ _ iv _ => m - (intOf iv).toNat)
    case atStart => exact ⟨0, Nat.zero_le _, rfl, by simp [HNE.out], rfl, Gr.refl _⟩
    case round =>
      obtain ⟨k, hk, rfl, rfl, rfl, hgr⟩ := hrel
      by_cases hlt : k < m
      · have HSN : Hid (strVal (Wr.le (k + 1) N) = strVal (Wr.le k N ++ [UInt8.ofNat (N / (256 ^ k : Nat) % 256).toNat])) := by show _ = _; rw [le_snoc]
        have HS : Hid (N / (256 ^ k : Nat) / 256 = N / (256 ^ (k + 1) : Nat)) := shift_step N k
        have hx0 : 0 ≤ N / (256 ^ k : Nat) := Int.ediv_nonneg hN0 (by exact_mod_cast Nat.zero_le _)
        have hx1 : N / (256 ^ k : Nat) ≤ 9223372036854775807 := Int.le_trans (Int.ediv_le_self _ hN0) hN1
        have hlen : (Wr.le k N).length ≤ 4 := by rw [le_len]; omega
        generalize N / (256 ^ k : Nat) = x at *
        generalize Wr.le k N = L at *
        obtain ⟨y, rfl⟩ := Int.eq_ofNat_of_zero_le hx0
        have hs : ¬ 9223372036854775807 < L.length + [UInt8.ofNat ((y : Int) % 256).toNat].length := by simp; omega
        have HC : Hid ((convert 38 9 (.slice (some ⟨wr.heap.size, 0, none⟩) 1 1)).run Try.prog (wr.alloc (.cells #[.int .u8 ((y : Int) % 256)] 5)) = .ok (strVal [UInt8.ofNat ((y : Int) % 256).toNat]) (wr.alloc (.cells #[.int .u8 ((y : Int) % 256)] 5))) := by
          refine run_convert_bytes_back _ 38 9 5 ⟨wr.heap.size, 0, none⟩ 1 [UInt8.ofNat ((y : Int) % 256).toNat] Try.underlying38 (by kernel_rfl) (by kernel_rfl) (fun j hj => ?_)
          obtain rfl : j = 0 := by simpa using hj
          have := byte_val (y : Int)
          unfold bVal at this
          show World.cell? _ ⟨wr.heap.size, 0, none⟩ = some (.int .u8 (((UInt8.ofNat ((y : Int) % 256).toNat).toNat : Nat) : Int))
          rw [this, Lib.cell_of_heap (heap_alloc_new wr _)]
          rfl
        generalize UInt8.ofNat ((y : Int) % 256).toNat = c at *
        have HGR : Hid _ := hgr.alloc (.cells #[.int .u8 ((y : Int) % 256)] 5)
        go_wp2_with (rw [HC.out])
        generalize wr.alloc (.cells #[.int .u8 ((y : Int) % 256)] 5) = w4 at *
        go_roundw
        case rel => exact ⟨k + 1, hlt, by go_num, by rw [← HS.out], by rw [HSN.out]; exact congrArg Value.string (app_list L [c]), HGR.out⟩
        case measure => simp [intOf]; omega
      · obtain rfl : k = m := by omega
        go_wp2_with fail
        go_ret
        exact ⟨by rw [HN.out]; rfl, hgr⟩
  · obtain ⟨N, hN⟩ : ∃ N, N = n := ⟨_, rfl⟩
    have HN : Hid (Wr.le m n = Wr.le m N) := by show _ = _; rw [hN]
    have hN0 : 0 ≤ N := by omega
    have hN1 : N ≤ 9223372036854775807 := by omega
    have HNE : Hid (N = n) := hN
    have hd : decide (n < 0) = false := decide_eq_false hn
    clear hN
    go_enter Try.func22, Try.ntmps22
    go_wp2_with fail
    go_loopw [0, 5, 6] (fun nv sv iv wr => ∃ k : Nat, k ≤ m ∧ iv = .int .i64 k ∧ nv = .int .i64 (N / (256 ^ k : Nat)) ∧ sv = strVal (Wr.le k N) ∧ Gr w wr) (fun _ _ iv _ => m - (intOf iv).toNat)
    case atStart => exact ⟨0, Nat.zero_le _, rfl, by simp [HNE.out], rfl, Gr.refl _⟩
    case round =>
      obtain ⟨k, hk, rfl, rfl, rfl, hgr⟩ := hrel
      by_cases hlt : k < m
      · have HSN : Hid (strVal (Wr.le (k + 1) N) = strVal (Wr.le k N ++ [UInt8.ofNat (N / (256 ^ k : Nat) % 256).toNat])) := by show _ = _; rw [le_snoc]
        have HS : Hid (N / (256 ^ k : Nat) / 256 = N / (256 ^ (k + 1) : Nat)) := shift_step N k
        have hx0 : 0 ≤ N / (256 ^ k : Nat) := Int.ediv_nonneg hN0 (by exact_mod_cast Nat.zero_le _)
        have hx1 : N / (256 ^ k : Nat) ≤ 9223372036854775807 := Int.le_trans (Int.ediv_le_self _ hN0) hN1
        have hlen : (Wr.le k N).length ≤ 4 := by rw [le_len]; omega
        generalize N / (256 ^ k : Nat) = x at *
        generalize Wr.le k N = L at *
        obtain ⟨y, rfl⟩ := Int.eq_ofNat_of_zero_le hx0
        have hs : ¬ 9223372036854775807 < L.length + [UInt8.ofNat ((y : Int) % 256).toNat].length := by simp; omega
        have HC : Hid ((convert 38 9 (.slice (some ⟨wr.heap.size, 0, none⟩) 1 1)).run Try.prog (wr.alloc (.cells #[.int .u8 ((y : Int) % 256)] 5)) = .ok (strVal [UInt8.ofNat ((y : Int) % 256).toNat]) (wr.alloc (.cells #[.int .u8 ((y : Int) % 256)] 5))) := by
          refine run_convert_bytes_back _ 38 9 5 ⟨wr.heap.size, 0, none⟩ 1 [UInt8.ofNat ((y : Int) % 256).toNat] Try.underlying38 (by kernel_rfl) (by kernel_rfl) (fun j hj => ?_)
          obtain rfl : j = 0 := by simpa using hj
          have := byte_val (y : Int)
          unfold bVal at this
          show World.cell? _ ⟨wr.heap.size, 0, none⟩ = some (.int .u8 (((UInt8.ofNat ((y : Int) % 256).toNat).toNat : Nat) : Int))
          rw [this, Lib.cell_of_heap (heap_alloc_new wr _)]
          rfl
        generalize UInt8.ofNat ((y : Int) % 256).toNat = c at *
        have HGR : Hid _ := hgr.alloc (.cells #[.int .u8 ((y : Int) % 256)] 5)
        go_wp2_with (rw [HC.out])
        generalize wr.alloc (.cells #[.int .u8 ((y : Int) % 256)] 5) = w4 at *
        go_roundw
        case rel => exact ⟨k + 1, hlt, by go_num, by rw [← HS.out], by rw [HSN.out]; exact congrArg Value.string (app_list L [c]), HGR.out⟩
        case measure => simp [intOf]; omega
      · obtain rfl : k = m := by omega
        go_wp2_with fail
        go_ret
        exact ⟨by rw [HN.out]; rfl, hgr⟩
end Go.Proofs.Ytjeaicahdnoonaa

/- The document's bytes of a list of ids. -/
namespace Go.Proofs.Ytjeaicahdnoonaa
open Go.RowKit
theorem idD_mem (l : List Wr.Id) (k : Nat) (hk : k < l.length) : idD l k ∈ l := by simp [idD, hk]

set_option maxRecDepth 100000 in
set_option maxHeartbeats 1000000 in
theorem idsBytes_any (xs : List Wr.Id) (u : Value) (w : World) (hU : IdsV w u xs) (hx : xs.length ≤ 255) (hi : ∀ x, x ∈ xs → Wr.isId x = true) :
    Calls Try.prog 23 #[u] w fun e w' => e = .returned (strVal (Wr.encIds xs)) ∧ Below w.heap.size w w' := by
  obtain ⟨au, cu, rfl, _, hA⟩ := hU
  have HA : Hid (IdsAt w au xs) := hA
  have HI : Hid (∀ x, x ∈ xs → Wr.isId x = true) := hi
  have HB1 : Hid _ := Bytes_any xs.length 1 w (by omega) (by omega) (by omega)
  clear hA hi
  go_enter Try.func23, Try.ntmps23
  go_wp2_with fail
  refine Calls.mono HB1.out ?_
  rintro e w1 ⟨rfl, hg1⟩
  clear HB1
  go_wp2_with fail
  go_loopw [3, 4] (fun sv iv wr => ∃ k : Nat, k ≤ xs.length ∧ iv = .int .i64 k ∧ sv = strVal (Wr.le 1 xs.length ++ ((xs.take k).map Wr.encId).flatten) ∧ Below w.heap.size w wr) (fun _ iv _ => xs.length - (intOf iv).toNat)
  case atStart => exact ⟨0, Nat.zero_le _, rfl, by simp, hg1.below⟩
  case round =>
    obtain ⟨k, hk, rfl, rfl, hbw⟩ := hrel
    have hlen : (Wr.le 1 xs.length ++ ((xs.take k).map Wr.encId).flatten).length ≤ 810000 := by rw [List.length_append, le_len, ids_flat_len, List.length_take]; omega
    have HS : Hid (k < xs.length → ((xs.take (k + 1)).map Wr.encId).flatten = ((xs.take k).map Wr.encId).flatten ++ Wr.encId (idD xs k)) := ids_flat_snoc xs k
    have HE : Hid (¬ k < xs.length → ((xs.take k).map Wr.encId).flatten = (xs.map Wr.encId).flatten) := fun h => by rw [List.take_of_length_le (by omega)]
    by_cases hlt : k < xs.length
    · obtain ⟨b, off, rfl, p0, p1⟩ := ids_at HA.out k hlt
      have a0 := cell_below hbw p0
      have a1 := cell_below hbw p1
      have HST : Hid _ := HS.out hlt
      have hid := of_decide_eq_true (HI.out _ (idD_mem xs k hlt))
      clear HS HE p0 p1
      generalize idD xs k = x at *
      obtain ⟨xa, xn⟩ := x
      dsimp only at a0 a1 hid
      have HN : Hid (strVal (Wr.le 1 xs.length ++ ((xs.take (k + 1)).map Wr.encId).flatten) = strVal ((Wr.le 1 xs.length ++ ((xs.take k).map Wr.encId).flatten) ++ (Wr.le 1 xa ++ Wr.le 2 xn))) := by
        show _ = _
        rw [HST.out, ← List.append_assoc]
        rfl
      have hl1 := le_len 1 xa
      have hl2 := le_len 2 xn
      have HB1 : Hid (∀ z, Below wr.heap.size wr z → Calls Try.prog 22 #[.int .i64 xa, .int .i64 1] z fun e w' => e = .returned (strVal (Wr.le 1 xa)) ∧ Below wr.heap.size wr w' ∧ w'.cell? ⟨b, off + k * 2, none⟩ = some (.int .i64 xa) ∧ w'.cell? ⟨b, off + k * 2 + 1, none⟩ = some (.int .i64 xn)) := by
        intro z hz
        refine (Bytes_any xa 1 z (by omega) (by omega) (by omega)).mono ?_
        rintro e w' ⟨h1, h2⟩
        have h3 := hz.trans (h2.below.mono hz.size)
        exact ⟨h1, h3, cell_below h3 a0, cell_below h3 a1⟩
      have HB2 : Hid (∀ z, Below wr.heap.size wr z → Calls Try.prog 22 #[.int .i64 xn, .int .i64 2] z fun e w' => e = .returned (strVal (Wr.le 2 xn)) ∧ Below wr.heap.size wr w' ∧ w'.cell? ⟨b, off + k * 2, none⟩ = some (.int .i64 xa) ∧ w'.cell? ⟨b, off + k * 2 + 1, none⟩ = some (.int .i64 xn)) := by
        intro z hz
        refine (Bytes_any xn 2 z (by omega) (by omega) (by omega)).mono ?_
        rintro e w' ⟨h1, h2⟩
        have h3 := hz.trans (h2.below.mono hz.size)
        exact ⟨h1, h3, cell_below h3 a0, cell_below h3 a1⟩
      generalize Wr.le 1 xa = D1 at *
      generalize Wr.le 2 xn = D2 at *
      generalize Wr.le 1 xs.length ++ ((xs.take k).map Wr.encId).flatten = L at *
      have hs1 : ¬ 9223372036854775807 < D1.length + D2.length := by omega
      have hs2 : ¬ 9223372036854775807 < L.length + (D1.length + D2.length) := by omega
      have HGA : ∀ b o, Below wr.heap.size wr b → Below wr.heap.size wr (b.alloc o) := fun _ o h => h.alloc h.size o
      have HGD : ∀ b, Below wr.heap.size wr b → Below wr.heap.size wr b.drew := fun _ h => ⟨h.os, h.tape, h.output, h.size, h.block⟩
      have HGR : Below wr.heap.size wr wr := Below.refl _ _
      clear hl1 hl2 HST hid
      go_upto_region 5 with fail
      go_region_held3 (fun yy => yy.cell? ⟨b, off + k * 2, none⟩ = some (.int .i64 xa) ∧ yy.cell? ⟨b, off + k * 2 + 1, none⟩ = some (.int .i64 xn) ∧ Below wr.heap.size wr yy) (go_keep) (first
        | (go_at_call 22; with_reducible refine Calls.mono (HB1.out _ ?_) ?_; (simp [*]); rintro e w2 ⟨rfl, hb2, hz2, hz3⟩)
        | (go_at_call 22; with_reducible refine Calls.mono (HB2.out _ ?_) ?_; (simp [*]); rintro e w3 ⟨rfl, hb3, hz4, hz5⟩))
      all_goals first
        | (have hbb := hbw.trans (hb3.mono hbw.size)
           clear hb2 hb3 hz2 hz3 hz4 hz5 HGA HGD HGR HB1 HB2 a0 a1 hbw
           go_wp2_with fail
           go_roundw
           case rel => exact ⟨k + 1, hlt, by go_num, by rw [HN.out, app_list, app_list], hbb⟩
           case measure => (simp [intOf]; omega))
        | (have hbb := hbw.trans (hb2.mono hbw.size)
           clear hb2 hb3 hz2 hz3 hz4 hz5 HGA HGD HGR HB1 HB2 a0 a1 hbw
           go_wp2_with fail
           go_roundw
           case rel => exact ⟨k + 1, hlt, by go_num, by rw [HN.out, app_list, app_list], hbb⟩
           case measure => (simp [intOf]; omega))
    · have HST : Hid _ := HE.out hlt
      clear HS HE
      have HN : Hid (strVal (Wr.encIds xs) = strVal (Wr.le 1 xs.length ++ ((xs.take k).map Wr.encId).flatten)) := by show _ = _; rw [HST.out]; rfl
      clear HST
      have hdd : decide (k < xs.length) = false := decide_eq_false hlt
      go_wp2_with fail
      go_ret
      exact ⟨by rw [HN.out]; rfl, hbw⟩
end Go.Proofs.Ytjeaicahdnoonaa

