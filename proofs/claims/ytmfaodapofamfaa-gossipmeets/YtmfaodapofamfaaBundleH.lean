/- Own texts, one behind the other (part 8). -/
import Derived.Test.YtmfaodapofamfaaBundleG
import Derived.Test.YtmfaodapofamfaaRows
/- The law GossipMeets: behind a round both have what one of them had. -/
namespace Go.Proofs.Ytmfaodapofamfaa
open Go.RowKit

def mtT6 (B F1 F2 : Nat) (o1 : Nat) (a1 : Option Addr) (n1 c1 : Nat) (a2 : Option Addr) (n2 c2 : Nat) (q : List Uv) (tQ : Nat) (vQ : Value) (WQ : World) : Prop :=
  match tQ with
  | 36 => ∃ b, vQ = .slice (some ⟨b, 0, none⟩) 0 0 ∧ URow WQ B (.slice (some ⟨b, 0, none⟩) 0 0) []
  | 37 => vQ = .pointer (some ⟨F1, o1, none⟩)
  | 38 => vQ = .slice a1 n1 c1
  | 39 => URow WQ B vQ q
  | 40 => vQ = .pointer (some ⟨F2, o1, none⟩)
  | 41 => vQ = .slice a2 n2 c2
  | _ => True
theorem mtT6_mono (B F1 F2 : Nat) (o1 : Nat) (a1 : Option Addr) (n1 c1 : Nat) (a2 : Option Addr) (n2 c2 : Nat) (q : List Uv) (tQ : Nat) (vQ : Value) (W W' : World) (hb : Below W.heap.size W W') (h : mtT6 B F1 F2 o1 a1 n1 c1 a2 n2 c2 q tQ vQ W) : mtT6 B F1 F2 o1 a1 n1 c1 a2 n2 c2 q tQ vQ W' := by
  revert h
  unfold mtT6
  split <;> (intro h; first | exact h | exact (h.elim fun b h => ⟨b, h.1, ownsRow_below h.2 hb⟩) | exact (ownsRow_below h hb))
def mtT15 (B F1 F2 : Nat) (o1 : Nat) (a1 : Option Addr) (n1 c1 : Nat) (a2 : Option Addr) (n2 c2 : Nat) (q : List Uv) (tQ : Nat) (vQ : Value) (WQ : World) : Prop :=
  match tQ with
  | 77 => ∃ b, vQ = .slice (some ⟨b, 0, none⟩) 0 0 ∧ URow WQ B (.slice (some ⟨b, 0, none⟩) 0 0) []
  | 78 => vQ = .pointer (some ⟨F1, o1, none⟩)
  | 79 => vQ = .slice a1 n1 c1
  | 80 => URow WQ B vQ q
  | 81 => vQ = .pointer (some ⟨F2, o1, none⟩)
  | 82 => vQ = .slice a2 n2 c2
  | _ => True
theorem mtT15_mono (B F1 F2 : Nat) (o1 : Nat) (a1 : Option Addr) (n1 c1 : Nat) (a2 : Option Addr) (n2 c2 : Nat) (q : List Uv) (tQ : Nat) (vQ : Value) (W W' : World) (hb : Below W.heap.size W W') (h : mtT15 B F1 F2 o1 a1 n1 c1 a2 n2 c2 q tQ vQ W) : mtT15 B F1 F2 o1 a1 n1 c1 a2 n2 c2 q tQ vQ W' := by
  revert h
  unfold mtT15
  split <;> (intro h; first | exact h | exact (h.elim fun b h => ⟨b, h.1, ownsRow_below h.2 hb⟩) | exact (ownsRow_below h hb))
theorem own_ge {w : World} {B : Nat} {v : Value} {q : List Uv} (h : URow w B v q) : ∀ j, v.ownBlock = some j → B ≤ j := fun j e => by
  obtain ⟨_, h | ⟨g, cap, cur, rfl, hg, _⟩⟩ := h
  · rw [h.1] at e
    cases e
  · cases e
    exact hg
theorem Gs.round_ok {h w p k : List Wr.Up} (e : Gs.roundErr h w p k = 0) : Dg.Ok h w ∧ Dg.Ok p k ∧ Gs.tellErr (h ++ w) (Gs.missing p (Dg.heads h)) = 0 ∧ Gs.tellErr (p ++ k) (Gs.missing h (Dg.heads p)) = 0 := by
  unfold Gs.roundErr at e
  by_cases h1 : Dg.check h w = 0
  · rw [if_neg (fun x => x h1)] at e
    by_cases h2 : Dg.check p k = 0
    · rw [if_neg (fun x => x h2)] at e
      by_cases h3 : Gs.tellErr (h ++ w) (Gs.missing p (Dg.heads h)) ≠ 0 ∨ Gs.tellErr (p ++ k) (Gs.missing h (Dg.heads p)) ≠ 0
      · rw [if_pos h3] at e
        cases e
      · refine ⟨Dg.check_ok.mp h1, Dg.check_ok.mp h2, ?_, ?_⟩
        · exact Classical.byContradiction fun x => h3 (.inl x)
        · exact Classical.byContradiction fun x => h3 (.inr x)
    · rw [if_pos h2] at e
      exact absurd e h2
  · rw [if_pos h1] at e
    exact absurd e h1
theorem Gs.tell_fair {h w us : List Wr.Up} (o : Dg.Ok h w) (hu : ∀ u, u ∈ us → Wr.check u = 0) (he : Gs.tellErr (h ++ w) us = 0) : Fair (Dg.mores (h ++ w) us) := by
  refine ⟨Dg.mores_nodup o.nd, Dg.mores_check o.each hu, ?_⟩
  unfold Gs.tellErr at he
  split at he
  · cases he
  · omega

/-- A table of values. -/
def tabV (l : List (Nat × Value)) (t : Nat) (v : Value) (_ : World) : Prop := match l.lookup t with | some x => v = x | none => True
theorem tabV_mono (l : List (Nat × Value)) (t : Nat) (v : Value) (W W' : World) (_ : Below W.heap.size W W') (h : tabV l t v W) : tabV l t v W' := h
theorem ups_parts {w : World} {a : Option Addr} {q : List Uv} {n c : Nat} (h : UpsV w (.slice a n c) q) : n = q.length ∧ UpsAt w a q ∧ (a = none → c = 0) := by
  obtain ⟨a2, c2, e, h1, h2⟩ := h
  cases e
  exact ⟨rfl, h2, h1.2⟩
theorem two_ups (u x : Wr.Up) : ∃ s : Bool, s = true ↔ u = x := by
  classical exact ⟨decide _, decide_eq_true_iff⟩
theorem wpOps_end2 {P : Program} {ops : Array Oper} {Q : Exit → Act → World → Prop} {tm : Array Value} {df : List Deferred} {w : World} {s t : Nat} {u v : Value} (h : Q .normal ⟨(tm.setIfInBounds s u).setIfInBounds t v, df⟩ w) : wpOps P ops Q [] ((Act.put ⟨tm, df⟩ (some s) u).put (some t) v) w := h
def mtT25 (b o off n c i : Nat) (ua un : Int) (F G : Nat) (a1 : Option Addr) (c1 : Nat) (a3 : Option Addr) (c3 : Nat) (X Y : List Uv) (tQ : Nat) (vQ : Value) (_ : World) : Prop :=
  match tQ with
  | 117 => vQ = .pointer (some ⟨F, 0, none⟩)
  | 118 => vQ = .slice a1 X.length c1
  | 119 => vQ = .slice (some ⟨b, off, none⟩) n c
  | 120 => vQ = .int .i64 i
  | 121 => vQ = .pointer (some ⟨b, o, none⟩)
  | 122 => vQ = .pointer (some ⟨b, o, none⟩)
  | 123 => vQ = .agg #[.int .i64 ua, .int .i64 un]
  | 124 => ∃ r : Int, vQ = .int .i64 r ∧ PlaceR X ⟨ua, un⟩ r
  | 125 => vQ = .pointer (some ⟨G, 0, none⟩)
  | 126 => vQ = .slice a3 Y.length c3
  | 127 => vQ = .slice (some ⟨b, off, none⟩) n c
  | 128 => vQ = .int .i64 i
  | 129 => vQ = .pointer (some ⟨b, o, none⟩)
  | 130 => vQ = .pointer (some ⟨b, o, none⟩)
  | 131 => vQ = .agg #[.int .i64 ua, .int .i64 un]
  | 132 => ∃ r : Int, vQ = .int .i64 r ∧ PlaceR Y ⟨ua, un⟩ r
  | 15 => ∃ r : Int, vQ = .int .i64 r ∧ PlaceR X ⟨ua, un⟩ r
  | 16 => ∃ r : Int, vQ = .int .i64 r ∧ PlaceR Y ⟨ua, un⟩ r
  | _ => True
theorem mtT25_mono (b o off n c i : Nat) (ua un : Int) (F G : Nat) (a1 : Option Addr) (c1 : Nat) (a3 : Option Addr) (c3 : Nat) (X Y : List Uv) (tQ : Nat) (vQ : Value) (W W' : World) (_ : Below W.heap.size W W') (h : mtT25 b o off n c i ua un F G a1 c1 a3 c3 X Y tQ vQ W) : mtT25 b o off n c i ua un F G a1 c1 a3 c3 X Y tQ vQ W' := by
  revert h
  unfold mtT25
  split <;> (intro h; first | exact h)

set_option maxRecDepth 100000 in
set_option maxHeartbeats 16000000 in
theorem gossipMeets_any (hq wq ph pw : List Uv) (hv wv jv kv : Value) (w : World) (hV : UpsV w hv hq) (wV : UpsV w wv wq) (jV : UpsV w jv ph) (kV : UpsV w kv pw) (hl : hq.length ≤ 4611686018427387903 ∧ wq.length ≤ 4611686018427387903) (jl : ph.length ≤ 4611686018427387903 ∧ pw.length ≤ 4611686018427387903) (hok : ∀ y, y ∈ hq ++ wq → UvOk w y) (jok : ∀ y, y ∈ ph ++ pw → UvOk w y) :
    Calls Try.prog 3 #[.agg #[hv, wv], .agg #[jv, kv]] w fun e w' => e = .returned (.bool true) ∧ Below w.heap.size w w' := by
  obtain ⟨ah, ch, rfl, q1, q2⟩ := id hV
  obtain ⟨aw, cw, rfl, q3, q4⟩ := id wV
  obtain ⟨aj, cj, rfl, q5, q6⟩ := id jV
  obtain ⟨ak, ck, rfl, q7, q8⟩ := id kV
  clear q2 q4 q6 q8
  have HCC : Hid ((ah = none → ch = 0) ∧ (aw = none → cw = 0) ∧ (aj = none → cj = 0) ∧ (ak = none → ck = 0)) := ⟨q1.2, q3.2, q5.2, q7.2⟩
  clear q1 q3 q5 q7
  obtain ⟨E, HE⟩ : ∃ e, Hid (e = Gs.roundErr (ups hq) (ups wq) (ups ph) (ups pw)) := ⟨_, rfl⟩
  have HR : Hid (∀ z, Below w.heap.size w z → UpsV z (.slice ah hq.length ch) hq ∧ UpsV z (.slice aw wq.length cw) wq ∧ (∀ y, y ∈ hq ++ wq → UvOk z y)) := fun z hz => ⟨hV.kc (Kc.below hz), wV.kc (Kc.below hz), fun y hy => (hok y hy).below hz⟩
  have HJ : Hid (∀ z, Below w.heap.size w z → UpsV z (.slice aj ph.length cj) ph ∧ UpsV z (.slice ak pw.length ck) pw ∧ (∀ y, y ∈ ph ++ pw → UvOk z y)) := fun z hz => ⟨jV.kc (Kc.below hz), kV.kc (Kc.below hz), fun y hy => (jok y hy).below hz⟩
  have H5 : Hid (∀ z, Below w.heap.size w z → Calls Try.prog 5 #[.agg #[.slice ah hq.length ch, .slice aw wq.length cw], .agg #[.slice aj ph.length cj, .slice ak pw.length ck]] z fun e w' => ∃ a1 n1 c1 a2 n2 c2 a3 n3 c3 a4 n4 c4, e = .returned (.tuple #[.agg #[.slice a1 n1 c1, .slice a2 n2 c2], .agg #[.slice a3 n3 c3, .slice a4 n4 c4], .int .i64 E]) ∧ ReE (Dg.mores (ups hq ++ ups wq) (Gs.missing (ups ph) (Dg.heads (ups hq)))) E w' (.slice a1 n1 c1) (.slice a2 n2 c2) ∧ ReE (Dg.mores (ups ph ++ ups pw) (Gs.missing (ups hq) (Dg.heads (ups ph)))) E w' (.slice a3 n3 c3) (.slice a4 n4 c4) ∧ Below z.heap.size z w') := fun z hz => by
    obtain ⟨k1, k2, k3⟩ := HR.out z hz
    obtain ⟨l1, l2, l3⟩ := HJ.out z hz
    rw [HE.out]
    exact Round_any hq wq ph pw _ _ _ _ z k1 k2 l1 l2 hl jl k3 l3
  have H4 : Hid (∀ z, Calls Try.prog 4 #[] z fun e w' => e = .returned (.bool true) ∧ Below z.heap.size z w') := gossipBegun_any
  clear hV wV jV kV hok jok hl jl
  have b0 := heap_alloc_new w (.cells #[.slice ah hq.length ch, .slice aw wq.length cw] 24)
  have g0 := new_below w (.cells #[.slice ah hq.length ch, .slice aw wq.length cw] 24)
  have b1 := heap_alloc_new (w.alloc (.cells #[.slice ah hq.length ch, .slice aw wq.length cw] 24)) (.cells #[.slice aj ph.length cj, .slice ak pw.length ck] 24)
  have g1 := new_below (w.alloc (.cells #[.slice ah hq.length ch, .slice aw wq.length cw] 24)) (.cells #[.slice aj ph.length cj, .slice ak pw.length ck] 24)
  have hsz : (w.alloc (.cells #[.slice ah hq.length ch, .slice aw wq.length cw] 24)).heap.size = w.heap.size + 1 := by simp
  rw [hsz] at b1
  have b0' := (g1.block _ (by rw [hsz]; omega)).trans b0
  have g2 := g0.trans (g1.mono g0.size)
  go_enter Try.func3, Try.ntmps3
  go_upto_region 1 with fail
  generalize (w.alloc (.cells #[.slice ah hq.length ch, .slice aw wq.length cw] 24)).alloc (.cells #[.slice aj ph.length cj, .slice ak pw.length ck] 24) = w1 at *
  have HX1 : Hid (∀ z, Below w1.heap.size w1 z → z.cell? ⟨w.heap.size, 0, none⟩ = some (.slice ah hq.length ch) ∧ z.cell? ⟨w.heap.size, 1, none⟩ = some (.slice aw wq.length cw) ∧ z.cell? ⟨w.heap.size + 1, 0, none⟩ = some (.slice aj ph.length cj) ∧ z.cell? ⟨w.heap.size + 1, 1, none⟩ = some (.slice ak pw.length ck)) := fun z hz => ⟨cell_below hz (by rw [Lib.cell_of_heap b0']; rfl), cell_below hz (by rw [Lib.cell_of_heap b0']; rfl), cell_below hz (by rw [Lib.cell_of_heap b1]; rfl), cell_below hz (by rw [Lib.cell_of_heap b1]; rfl)⟩
  have HG1 : Hid (Below w.heap.size w w1) := g2
  clear b0 g0 b1 g1 hsz b0' g2
  go_wp2_with fail
  refine Calls.mono (H4.out w1) ?_
  rintro _ w2 ⟨rfl, hb2⟩
  have HX2 : Hid (∀ z, Below w2.heap.size w2 z → z.cell? ⟨w.heap.size, 0, none⟩ = some (.slice ah hq.length ch) ∧ z.cell? ⟨w.heap.size, 1, none⟩ = some (.slice aw wq.length cw) ∧ z.cell? ⟨w.heap.size + 1, 0, none⟩ = some (.slice aj ph.length cj) ∧ z.cell? ⟨w.heap.size + 1, 1, none⟩ = some (.slice ak pw.length ck)) := fun z hz => HX1.out z (hb2.trans (hz.mono hb2.size))
  have HG2 : Hid (Below w.heap.size w w2) := HG1.out.trans (hb2.mono HG1.out.size)
  clear hb2 HX1 HG1 H4
  obtain ⟨x0, x1, x2, x3⟩ := HX2.out w2 (Below.refl _ _)
  go_wp2_with fail
  refine Calls.mono (H5.out w2 HG2.out) ?_
  rintro _ w3 ⟨a1, n1, c1, a2, n2, c2, a3, n3, c3, a4, n4, c4, rfl, hx, hy, hb3⟩
  clear x0 x1 x2 x3

  have b0 := heap_alloc_new w3 (.cells #[.slice a1 n1 c1, .slice a2 n2 c2] 24)
  have g0 := new_below w3 (.cells #[.slice a1 n1 c1, .slice a2 n2 c2] 24)
  have b1 := heap_alloc_new (w3.alloc (.cells #[.slice a1 n1 c1, .slice a2 n2 c2] 24)) (.cells #[.slice a3 n3 c3, .slice a4 n4 c4] 24)
  have g1 := new_below (w3.alloc (.cells #[.slice a1 n1 c1, .slice a2 n2 c2] 24)) (.cells #[.slice a3 n3 c3, .slice a4 n4 c4] 24)
  have hsz : (w3.alloc (.cells #[.slice a1 n1 c1, .slice a2 n2 c2] 24)).heap.size = w3.heap.size + 1 := by simp
  rw [hsz] at b1
  have b0' := (g1.block _ (by rw [hsz]; omega)).trans b0
  have g2 := g0.trans (g1.mono g0.size)
  have HG3 : Hid (Below w.heap.size w w3) := HG2.out.trans (hb3.mono HG2.out.size)
  have HX3 : Hid (∀ z, Below w3.heap.size w3 z → z.cell? ⟨w.heap.size, 0, none⟩ = some (.slice ah hq.length ch) ∧ z.cell? ⟨w.heap.size, 1, none⟩ = some (.slice aw wq.length cw) ∧ z.cell? ⟨w.heap.size + 1, 0, none⟩ = some (.slice aj ph.length cj) ∧ z.cell? ⟨w.heap.size + 1, 1, none⟩ = some (.slice ak pw.length ck)) := fun z hz => HX2.out z (hb3.trans (hz.mono hb3.size))
  clear hb3 HX2 HG2 H5
  go_upto_region 4 with fail
  generalize (w3.alloc (.cells #[.slice a1 n1 c1, .slice a2 n2 c2] 24)).alloc (.cells #[.slice a3 n3 c3, .slice a4 n4 c4] 24) = w4 at *
  have HX4 : Hid (∀ z, Below w4.heap.size w4 z → z.cell? ⟨w.heap.size, 0, none⟩ = some (.slice ah hq.length ch) ∧ z.cell? ⟨w.heap.size, 1, none⟩ = some (.slice aw wq.length cw) ∧ z.cell? ⟨w.heap.size + 1, 0, none⟩ = some (.slice aj ph.length cj) ∧ z.cell? ⟨w.heap.size + 1, 1, none⟩ = some (.slice ak pw.length ck) ∧ z.cell? ⟨w3.heap.size, 0, none⟩ = some (.slice a1 n1 c1) ∧ z.cell? ⟨w3.heap.size, 1, none⟩ = some (.slice a2 n2 c2) ∧ z.cell? ⟨w3.heap.size + 1, 0, none⟩ = some (.slice a3 n3 c3) ∧ z.cell? ⟨w3.heap.size + 1, 1, none⟩ = some (.slice a4 n4 c4)) := fun z hz => by
    obtain ⟨t0, t1, t2, t3⟩ := HX3.out z (g2.trans (hz.mono g2.size))
    exact ⟨t0, t1, t2, t3, cell_below hz (by rw [Lib.cell_of_heap b0']; rfl), cell_below hz (by rw [Lib.cell_of_heap b0']; rfl), cell_below hz (by rw [Lib.cell_of_heap b1]; rfl), cell_below hz (by rw [Lib.cell_of_heap b1]; rfl)⟩
  have HG4 : Hid (Below w.heap.size w w4) := HG3.out.trans (g2.mono HG3.out.size)
  have HK4 : Hid (Below w3.heap.size w3 w4) := g2
  clear b0 g0 b1 g1 hsz b0' g2 HX3 HG3
  by_cases h0 : E = 0
  case neg =>
    have d0 : (!decide (E = 0)) = true := by simp [h0]
    obtain ⟨e1, e2⟩ := hx.2 h0
    obtain ⟨e3, e4⟩ := hy.2 h0
    cases e1
    cases e2
    cases e3
    cases e4
    obtain ⟨x0, x1, x2, x3, x4, x5, x6, x7⟩ := HX4.out w4 (Below.refl _ _)
    clear hx hy
    go_wp2_with fail
    go_ret
    exact ⟨rfl, HG4.out⟩
  subst h0
  obtain ⟨O1, O2, T1, T2⟩ := Gs.round_ok HE.out.symm
  have HO1 : Hid (Dg.Ok (ups hq) (ups wq)) := O1
  have HO2 : Hid (Dg.Ok (ups ph) (ups pw)) := O2
  have F1 := Gs.tell_fair O1 (us := Gs.missing (ups ph) (Dg.heads (ups hq))) (fun u hu => O2.each u (List.mem_append_left _ (List.mem_filter.mp hu).1)) T1
  have F2 := Gs.tell_fair O2 (us := Gs.missing (ups hq) (Dg.heads (ups ph))) (fun u hu => O1.each u (List.mem_append_left _ (List.mem_filter.mp hu).1)) T2
  obtain ⟨xh, xw, X1, X2, X3, X4, X5, X6⟩ := (hx.1 rfl).ok F1
  obtain ⟨yh, yw, Y1, Y2, Y3, Y4, Y5, Y6⟩ := (hy.1 rfl).ok F2
  have hlx := F1.len
  have hly := F2.len
  have hfa := O1.few
  have hfb := O2.few
  rw [ups_length, ups_length] at hfa hfb
  rw [← X6] at hlx
  rw [← Y6] at hly
  clear T1 T2 O1 O2 F1 F2 X5 Y5 X6 Y6 hx hy HE
  have en := (ups_parts X1).1
  subst en
  have en := (ups_parts X2).1
  subst en
  have en := (ups_parts Y1).1
  subst en
  have en := (ups_parts Y2).1
  subst en
  have HXV : Hid (∀ z, Below w4.heap.size w4 z → (UpsV z (.slice a1 xh.length c1) xh ∧ UpsV z (.slice a2 xw.length c2) xw ∧ ∀ y, y ∈ xh ++ xw → UvOk z y) ∧ UpsV z (.slice a3 yh.length c3) yh ∧ UpsV z (.slice a4 yw.length c4) yw ∧ ∀ y, y ∈ yh ++ yw → UvOk z y) := fun z hz => by
    have hk := HK4.out.trans (hz.mono HK4.out.size)
    exact ⟨⟨X1.kc (Kc.below hk), X2.kc (Kc.below hk), fun y hy => (X3 y hy).below hk⟩, Y1.kc (Kc.below hk), Y2.kc (Kc.below hk), fun y hy => (Y3 y hy).below hk⟩
  have HI1 : Hid _ := X4
  have HI2 : Hid _ := Y4
  clear X1 X2 X3 X4 Y1 Y2 Y3 Y4 HK4
  have HQA : Hid (∀ z, Below w4.heap.size w4 z → UpsAt z ah hq ∧ (ah = none → ch = 0) ∧ (∀ x, x ∈ hq → UvOk z x) ∧ UpsAt z aj ph ∧ (aj = none → cj = 0) ∧ (∀ x, x ∈ ph → UvOk z x)) := fun z hz => by
    have hk := HG4.out.trans (hz.mono HG4.out.size)
    obtain ⟨k1, _, k3⟩ := HR.out z hk
    obtain ⟨l1, _, l3⟩ := HJ.out z hk
    exact ⟨(ups_parts k1).2.1, (ups_parts k1).2.2, fun x hx => k3 x (List.mem_append_left _ hx), (ups_parts l1).2.1, (ups_parts l1).2.2, fun x hx => l3 x (List.mem_append_left _ hx)⟩
  obtain ⟨Q, HQe⟩ : ∃ Q, Hid (Q = hq ++ ph) := ⟨_, rfl⟩
  have hQl : Q.length ≤ 400 := by rw [HQe.out, List.length_append]; omega
  go_upto_region 6 with fail

  refine wp_region_tail2 (mtT6 w4.heap.size w.heap.size (w.heap.size + 1) 0 ah hq.length ch aj ph.length cj hq) 6 (by decide) (by kernel_rfl) (by kernel_rfl) (by kernel_rfl) (mtT6_mono _ _ _ _ _ _ _ _ _ _ _) ?hop6 ?hend6
  case hop6 =>
    refine AllOps.cons (fun a y h hpre => ?_) ?_
    · refine opOk_val (v := .slice (some ⟨y.heap.size, 0, none⟩) 0 0) (w' := y.alloc (.cells #[] 34)) (wanted_none rfl) ?_ (fun t ht => by cases ht; exact ⟨_, rfl, World.ownsRow_lit y #[] 0 h.below.size (by decide) rfl⟩) ((Below.refl _ _).alloc (Nat.le_refl _) _)
      have ec : ∀ v, a.eval (.const v) = v := fun _ => rfl
      generalize a.eval = ev at *
      clear h hpre
      go_simp
    refine AllOps.cons (fun a y h hpre => ?_) ?_
    · have e2 : a.eval (.tmp 2) = (.pointer (some ⟨w.heap.size, 0, none⟩) : Value) := h.old 2 (by kernel_rfl)
      refine opOk_val (v := .pointer (some ⟨w.heap.size, 0, none⟩)) (w' := y) (wanted_none rfl) ?_ (fun t ht => by cases ht; exact rfl) (Below.refl _ _)
      have ec : ∀ v, a.eval (.const v) = v := fun _ => rfl
      generalize a.eval = ev at *
      clear h hpre
      go_simp
    refine AllOps.cons (fun a y h hpre => ?_) ?_
    · have e37 : a.eval (.tmp 37) = (.pointer (some ⟨w.heap.size, 0, none⟩) : Value) := h.of 37 (by kernel_rfl)
      obtain ⟨x0, x1, x2, x3, x4, x5, x6, x7⟩ := HX4.out y h.below
      refine opOk_val (v := .slice ah hq.length ch) (w' := y) (wanted_none rfl) ?_ (fun t ht => by cases ht; exact rfl) (Below.refl _ _)
      have ec : ∀ v, a.eval (.const v) = v := fun _ => rfl
      generalize a.eval = ev at *
      clear h hpre
      go_simp
    refine AllOps.cons (fun a y h hpre => ?_) ?_
    · obtain ⟨b, e36, hr⟩ : ∃ b, a.eval (.tmp 36) = (.slice (some ⟨b, 0, none⟩) 0 0 : Value) ∧ URow y w4.heap.size (.slice (some ⟨b, 0, none⟩) 0 0) [] := h.of 36 (by kernel_rfl)
      have e38 : a.eval (.tmp 38) = (.slice ah hq.length ch : Value) := h.of 38 (by kernel_rfl)
      obtain ⟨k1, k2, k3, _⟩ := HQA.out y h.below
      obtain ⟨v, y2, hr2, h2, hb2⟩ := run_append_new y w4.heap.size b h.below.size hr ah ch hq 22 k1 k2 k3 (by omega)
      refine opOk_val (v := v) (w' := y2) (wanted_none rfl) ?_ (fun t ht => by cases ht; exact h2) hb2
      have ec : ∀ v, a.eval (.const v) = v := fun _ => rfl
      generalize a.eval = ev at *
      clear h hpre k1 k2 k3
      simp [execOp, resolve, invoke, builtin, *]
    refine AllOps.cons (fun a y h hpre => ?_) ?_
    · have e3 : a.eval (.tmp 3) = (.pointer (some ⟨w.heap.size + 1, 0, none⟩) : Value) := h.old 3 (by kernel_rfl)
      refine opOk_val (v := .pointer (some ⟨w.heap.size + 1, 0, none⟩)) (w' := y) (wanted_none rfl) ?_ (fun t ht => by cases ht; exact rfl) (Below.refl _ _)
      have ec : ∀ v, a.eval (.const v) = v := fun _ => rfl
      generalize a.eval = ev at *
      clear h hpre
      go_simp
    refine AllOps.cons (fun a y h hpre => ?_) ?_
    · have e40 : a.eval (.tmp 40) = (.pointer (some ⟨w.heap.size + 1, 0, none⟩) : Value) := h.of 40 (by kernel_rfl)
      obtain ⟨x0, x1, x2, x3, x4, x5, x6, x7⟩ := HX4.out y h.below
      refine opOk_val (v := .slice aj ph.length cj) (w' := y) (wanted_none rfl) ?_ (fun t ht => by cases ht; exact rfl) (Below.refl _ _)
      have ec : ∀ v, a.eval (.const v) = v := fun _ => rfl
      generalize a.eval = ev at *
      clear h hpre
      go_simp
    exact AllOps.nil
  case hend6 =>
    rintro ⟨tm, df⟩ y hI _
    have h39 : URow y w4.heap.size (Act.eval ⟨tm, df⟩ (.tmp 39)) hq := hI.all 3 _ 39 (by decide) rfl rfl
    have e41 : Act.eval ⟨tm, df⟩ (.tmp 41) = (.slice aj ph.length cj : Value) := hI.all 5 _ 41 (by decide) rfl rfl
    obtain ⟨_, _, _, k1, k2, k3⟩ := HQA.out y hI.below
    obtain ⟨v9, w9, hr2, hrow, hgr⟩ := run_append_own2 y w4.heap.size hI.below.size _ hq h39 aj cj ph 22 k1 k2 k3 (by omega)
    have HROW8 : Hid (URow w9 w4.heap.size v9 Q) := by show URow _ _ _ _; rw [HQe.out]; exact hrow
    have HB9 : Hid (Below w4.heap.size w4 w9) := hI.below.grown hgr hI.below.size (own_ge h39)
    show wpOps Try.prog _ _ [6, 7] _ _
    rw [wpOps_cons]
    refine wpOp_val rfl (wanted_none rfl) (v := v9) (w' := w9) ?_ ?_
    · generalize Act.eval ⟨tm, df⟩ = ev at *
      clear hI k1 k2 k3 hrow hgr h39
      simp [execOp, resolve, invoke, builtin, *]
    rw [wpOps_cons]
    have hszE := hI.size
    have hstE := hI.still
    obtain rfl : df = [] := hI.defers
    clear hI k1 k2 k3 hrow hgr h39 e41 hr2
    have hF8 := tmps_fold [36, 37, 38, 39, 40, 41, 42, 8] tm _ hszE hstE
    clear hszE hstE
    simp only [List.foldl_cons, List.foldl_nil] at hF8
    generalize tm.getD 36 undef = x36 at hF8
    generalize tm.getD 37 undef = x37 at hF8
    generalize tm.getD 38 undef = x38 at hF8
    generalize tm.getD 39 undef = x39 at hF8
    generalize tm.getD 40 undef = x40 at hF8
    generalize tm.getD 41 undef = x41 at hF8
    generalize tm.getD 42 undef = x42 at hF8
    generalize tm.getD 8 undef = x8 at hF8
    simp only [List.setIfInBounds_toArray, List.set_cons_zero, List.set_cons_succ] at hF8
    subst hF8
    refine wpOp_val rfl (wanted_none rfl) (v := v9) (w' := w9) rfl ?_
    refine wpOps_end2 (s := 42) (t := 8) ?_
    simp only [List.setIfInBounds_toArray, List.set_cons_zero, List.set_cons_succ]
    obtain ⟨a8, c8, rfl, hc8, hA8⟩ := own_ups HROW8.out
    have HA8 : Hid (∀ z, Below w9.heap.size w9 z → UpsAt z a8 Q ∧ ∀ x, x ∈ Q → UvOk z x) := fun z hz => by
      refine ⟨hA8.kc (Kc.below hz), fun x hx => ?_⟩
      have h := HQA.out z (HB9.out.trans (hz.mono HB9.out.size))
      rw [HQe.out] at hx
      rcases List.mem_append.mp hx with h1 | h1
      · exact h.2.2.1 x h1
      · exact h.2.2.2.2.2 x h1
    have HX9 : Hid (∀ z, Below w9.heap.size w9 z → z.cell? ⟨w.heap.size, 0, none⟩ = some (.slice ah hq.length ch) ∧ z.cell? ⟨w.heap.size, 1, none⟩ = some (.slice aw wq.length cw) ∧ z.cell? ⟨w.heap.size + 1, 0, none⟩ = some (.slice aj ph.length cj) ∧ z.cell? ⟨w.heap.size + 1, 1, none⟩ = some (.slice ak pw.length ck) ∧ z.cell? ⟨w3.heap.size, 0, none⟩ = some (.slice a1 xh.length c1) ∧ z.cell? ⟨w3.heap.size, 1, none⟩ = some (.slice a2 xw.length c2) ∧ z.cell? ⟨w3.heap.size + 1, 0, none⟩ = some (.slice a3 yh.length c3) ∧ z.cell? ⟨w3.heap.size + 1, 1, none⟩ = some (.slice a4 yw.length c4)) := fun z hz => HX4.out z (HB9.out.trans (hz.mono HB9.out.size))
    have HG9 : Hid (Below w.heap.size w w9) := HG4.out.trans (HB9.out.mono HG4.out.size)
    have HV9 : Hid (∀ z, Below w9.heap.size w9 z → Below w4.heap.size w4 z) := fun z hz => HB9.out.trans (hz.mono HB9.out.size)
    have HC8 : Hid (Q.length ≤ c8 ∧ (a8 = none → c8 = 0)) := hc8
    clear HX4 HQA HROW8 HB9 HG4 hA8 hc8
    go_wp2_with fail
    go_loopw [9] (fun iv wr => ∃ i : Nat, i ≤ Q.length ∧ iv = .int .i64 i ∧ Hid (Dg.Apart (ups (Q.take i))) ∧ Hid (Below w9.heap.size w9 wr)) (fun iv _ => Q.length - (intOf iv).toNat)
    case atStart => exact ⟨0, Nat.zero_le _, rfl, fun u v hu => absurd hu (by simp [ups]), Below.refl _ _⟩
    case round =>
      obtain ⟨i, hi, rfl, HAP, HGR⟩ := hrel
      generalize wr = wO at *
      by_cases hlt : i < Q.length
      · have d1 : decide (i < Q.length) = true := decide_eq_true hlt
        go_wp2_with fail
        go_loopw [10] (fun jv wr => ∃ k : Nat, k ≤ i ∧ jv = .int .i64 k ∧ Hid (∀ j, j < k → (uvD Q j).u.id = (uvD Q i).u.id → (uvD Q j).u = (uvD Q i).u) ∧ Hid (Below w9.heap.size w9 wr)) (fun jv _ => i - (intOf jv).toNat)
        case atStart => exact ⟨0, Nat.zero_le _, rfl, fun j hj => absurd hj (Nat.not_lt_zero _), HGR.out⟩
        case round =>
          obtain ⟨k, hk, rfl, HAL, HGI⟩ := hrel
          by_cases hlt2 : k < i
          · have d2 : decide (k < i) = true := decide_eq_true hlt2
            have hlt3 : k < Q.length := by omega
            have d3 : decide (k < Q.length) = true := decide_eq_true hlt3
            obtain ⟨hA, hO⟩ := HA8.out wr HGI.out
            obtain ⟨b, off, rfl, p0, p1, p2, p3, p4⟩ := ups_at hA i hlt
            obtain ⟨b9, off9, eb, s0, s1, s2, s3, s4⟩ := ups_at hA k hlt3
            cases eb
            obtain ⟨x, HXe⟩ : ∃ x, Hid (x = uvD Q i) := ⟨_, rfl⟩
            obtain ⟨y, HYe⟩ : ∃ y, Hid (y = uvD Q k) := ⟨_, rfl⟩
            have hx : UvOk wr x := by rw [HXe.out]; exact hO _ (uvD_mem Q i hlt)
            have hy : UvOk wr y := by rw [HYe.out]; exact hO _ (uvD_mem Q k hlt3)
            obtain ⟨t0, ht0⟩ := two_ups x.u y.u
            have HT0 : Hid (t0 = true ↔ x.u = y.u) := ht0
            have HCL : Hid (∀ z, Below wr.heap.size wr z → Calls Try.prog 6 #[uvVal x, uvVal y] z fun e w' => e = .returned (.bool t0) ∧ Below z.heap.size z w') := fun z hz => by
              have h1 := hx.below hz
              have h2 := hy.below hz
              refine (SameUpdate_any x.u y.u _ _ _ _ _ _ z h1.p h1.s h1.t h2.p h2.s h2.t h1.f h2.f h1.l).mono ?_
              rintro e w' ⟨t, rfl, ht, hb⟩
              exact ⟨by rw [Bool.eq_iff_iff.mpr (ht.trans ht0.symm)], hb⟩
            have HU : Hid (∀ z, Below wr.heap.size wr z → UpIn z b (off + i * 5) x ∧ UpIn z b (off + k * 5) y) := fun z hz => by
              rw [HXe.out, HYe.out]
              exact ⟨⟨cell_below hz p0, cell_below hz p1, cell_below hz p2, cell_below hz p3, cell_below hz p4⟩, ⟨cell_below hz s0, cell_below hz s1, cell_below hz s2, cell_below hz s3, cell_below hz s4⟩⟩
            have HNX : Hid ((x.u.id = y.u.id → x.u = y.u) → ∀ j, j < k + 1 → (uvD Q j).u.id = (uvD Q i).u.id → (uvD Q j).u = (uvD Q i).u) := fun h j hj e => by
              rcases Nat.lt_or_eq_of_le (Nat.le_of_lt_succ hj) with h1 | rfl
              · exact HAL.out j h1 e
              · rw [← HXe.out, ← HYe.out] at e ⊢
                exact (h e.symm).symm
            clear p0 p1 p2 p3 p4 s0 s1 s2 s3 s4 ht0 HAL HXe HYe hA hO
            obtain ⟨xa1, xan1, xac1, xa2, xan2, xac2, xa3, xan3, xac3, e1, e2, e3⟩ := hx.forms
            obtain ⟨ya1, yan1, yac1, ya2, yan2, yac2, ya3, yan3, yac3, e4, e5, e6⟩ := hy.forms
            clear hx hy
            obtain ⟨⟨⟨ua, un⟩, ps, says, ts⟩, vp, vs, vt⟩ := x
            obtain ⟨⟨⟨va, vn⟩, ps2, says2, ts2⟩, vp2, vs2, vt2⟩ := y
            dsimp only at *
            subst e1 e2 e3 e4 e5 e6
            obtain ⟨nt, hnt⟩ : ∃ nt, (!t0) = nt := ⟨_, rfl⟩
            go_upto_region 13 with fail
            by_cases hs : ua = va ∧ un = vn
            all_goals
              have HS : Hid _ := hs
              clear hs
            case neg =>
              refine wp_region_tabA (tabV [(54, .slice (some ⟨b, off, none⟩) Q.length c8), (55, .int .i64 i), (56, .pointer (some ⟨b, off + i * 5, none⟩)), (57, .pointer (some ⟨b, off + i * 5, none⟩)), (58, .agg #[.int .i64 ua, .int .i64 un]), (59, .slice (some ⟨b, off, none⟩) Q.length c8), (60, .int .i64 k), (61, .pointer (some ⟨b, off + k * 5, none⟩)), (62, .pointer (some ⟨b, off + k * 5, none⟩)), (63, .agg #[.int .i64 va, .int .i64 vn]), (64, .bool false), (65, .bool false), (76, .bool false)]) (by kernel_rfl) (by kernel_rfl) (tabV_mono _) ?hop13a ?hend13a
              case hop13a =>
                refine AllOps.cons (fun a y h => ?_) ?_
                · have e8 : a.eval (.tmp 8) = (.slice (some ⟨b, off, none⟩) Q.length c8 : Value) := h.old 8 (by kernel_rfl)
                  refine opOk_val (v := .slice (some ⟨b, off, none⟩) Q.length c8) (w' := y) (wanted_none rfl) ?_ (fun t ht => by cases ht; exact rfl) (Below.refl _ _)
                  have ec : ∀ v, a.eval (.const v) = v := fun _ => rfl
                  generalize a.eval = ev at *
                  clear h
                  go_simp
                refine AllOps.cons (fun a y h => ?_) ?_
                · have e9 : a.eval (.tmp 9) = (.int .i64 i : Value) := h.old 9 (by kernel_rfl)
                  refine opOk_val (v := .int .i64 i) (w' := y) (wanted_none rfl) ?_ (fun t ht => by cases ht; exact rfl) (Below.refl _ _)
                  have ec : ∀ v, a.eval (.const v) = v := fun _ => rfl
                  generalize a.eval = ev at *
                  clear h
                  go_simp
                refine AllOps.cons (fun a y h => ?_) ?_
                · have e54 : a.eval (.tmp 54) = (.slice (some ⟨b, off, none⟩) Q.length c8 : Value) := h.of 54 (by kernel_rfl)
                  have e55 : a.eval (.tmp 55) = (.int .i64 i : Value) := h.of 55 (by kernel_rfl)
                  refine opOk_val (v := .pointer (some ⟨b, off + i * 5, none⟩)) (w' := y) (wanted_none rfl) ?_ (fun t ht => by cases ht; exact rfl) (Below.refl _ _)
                  have ec : ∀ v, a.eval (.const v) = v := fun _ => rfl
                  generalize a.eval = ev at *
                  clear h
                  go_simp
                refine AllOps.cons (fun a y h => ?_) ?_
                · have e56 : a.eval (.tmp 56) = (.pointer (some ⟨b, off + i * 5, none⟩) : Value) := h.of 56 (by kernel_rfl)
                  refine opOk_val (v := .pointer (some ⟨b, off + i * 5, none⟩)) (w' := y) (wanted_none rfl) ?_ (fun t ht => by cases ht; exact rfl) (Below.refl _ _)
                  have ec : ∀ v, a.eval (.const v) = v := fun _ => rfl
                  generalize a.eval = ev at *
                  clear h
                  go_simp
                refine AllOps.cons (fun a y h => ?_) ?_
                · have e57 : a.eval (.tmp 57) = (.pointer (some ⟨b, off + i * 5, none⟩) : Value) := h.of 57 (by kernel_rfl)
                  obtain ⟨⟨u0, u1, u2, u3, u4⟩, ⟨r0, r1, r2, r3, r4⟩⟩ := HU.out y h.below
                  refine opOk_val (v := .agg #[.int .i64 ua, .int .i64 un]) (w' := y) (wanted_none rfl) ?_ (fun t ht => by cases ht; exact rfl) (Below.refl _ _)
                  have ec : ∀ v, a.eval (.const v) = v := fun _ => rfl
                  generalize a.eval = ev at *
                  clear h
                  go_simp
                refine AllOps.cons (fun a y h => ?_) ?_
                · have e8 : a.eval (.tmp 8) = (.slice (some ⟨b, off, none⟩) Q.length c8 : Value) := h.old 8 (by kernel_rfl)
                  refine opOk_val (v := .slice (some ⟨b, off, none⟩) Q.length c8) (w' := y) (wanted_none rfl) ?_ (fun t ht => by cases ht; exact rfl) (Below.refl _ _)
                  have ec : ∀ v, a.eval (.const v) = v := fun _ => rfl
                  generalize a.eval = ev at *
                  clear h
                  go_simp
                refine AllOps.cons (fun a y h => ?_) ?_
                · have e10 : a.eval (.tmp 10) = (.int .i64 k : Value) := h.old 10 (by kernel_rfl)
                  refine opOk_val (v := .int .i64 k) (w' := y) (wanted_none rfl) ?_ (fun t ht => by cases ht; exact rfl) (Below.refl _ _)
                  have ec : ∀ v, a.eval (.const v) = v := fun _ => rfl
                  generalize a.eval = ev at *
                  clear h
                  go_simp
                refine AllOps.cons (fun a y h => ?_) ?_
                · have e59 : a.eval (.tmp 59) = (.slice (some ⟨b, off, none⟩) Q.length c8 : Value) := h.of 59 (by kernel_rfl)
                  have e60 : a.eval (.tmp 60) = (.int .i64 k : Value) := h.of 60 (by kernel_rfl)
                  refine opOk_val (v := .pointer (some ⟨b, off + k * 5, none⟩)) (w' := y) (wanted_none rfl) ?_ (fun t ht => by cases ht; exact rfl) (Below.refl _ _)
                  have ec : ∀ v, a.eval (.const v) = v := fun _ => rfl
                  generalize a.eval = ev at *
                  clear h
                  go_simp
                refine AllOps.cons (fun a y h => ?_) ?_
                · have e61 : a.eval (.tmp 61) = (.pointer (some ⟨b, off + k * 5, none⟩) : Value) := h.of 61 (by kernel_rfl)
                  refine opOk_val (v := .pointer (some ⟨b, off + k * 5, none⟩)) (w' := y) (wanted_none rfl) ?_ (fun t ht => by cases ht; exact rfl) (Below.refl _ _)
                  have ec : ∀ v, a.eval (.const v) = v := fun _ => rfl
                  generalize a.eval = ev at *
                  clear h
                  go_simp
                refine AllOps.cons (fun a y h => ?_) ?_
                · have e62 : a.eval (.tmp 62) = (.pointer (some ⟨b, off + k * 5, none⟩) : Value) := h.of 62 (by kernel_rfl)
                  obtain ⟨⟨u0, u1, u2, u3, u4⟩, ⟨r0, r1, r2, r3, r4⟩⟩ := HU.out y h.below
                  refine opOk_val (v := .agg #[.int .i64 va, .int .i64 vn]) (w' := y) (wanted_none rfl) ?_ (fun t ht => by cases ht; exact rfl) (Below.refl _ _)
                  have ec : ∀ v, a.eval (.const v) = v := fun _ => rfl
                  generalize a.eval = ev at *
                  clear h
                  go_simp
                refine AllOps.cons (fun a y h => ?_) ?_
                · have e58 : a.eval (.tmp 58) = (.agg #[.int .i64 ua, .int .i64 un] : Value) := h.of 58 (by kernel_rfl)
                  have e63 : a.eval (.tmp 63) = (.agg #[.int .i64 va, .int .i64 vn] : Value) := h.of 63 (by kernel_rfl)
                  refine opOk_val (v := .bool false) (w' := y) (wanted_none rfl) ?_ (fun t ht => by cases ht; exact rfl) (Below.refl _ _)
                  have ec : ∀ v, a.eval (.const v) = v := fun _ => rfl
                  generalize a.eval = ev at *
                  clear h
                  go_simp
                  exact fun h1 h2 => HS.out ⟨h1, h2⟩
                refine AllOps.cons (fun a y h => ?_) ?_
                · have e64 : a.eval (.tmp 64) = (.bool false : Value) := h.of 64 (by kernel_rfl)
                  refine opOk_val (v := .bool false) (w' := y) (wanted_none rfl) ?_ (fun t ht => by cases ht; exact rfl) (Below.refl _ _)
                  have ec : ∀ v, a.eval (.const v) = v := fun _ => rfl
                  generalize a.eval = ev at *
                  clear h
                  go_simp
                refine AllOps.cons (fun a y h => ?_) ?_
                · exact opOk_skip (j := 11) (t := 65) (b := true) (c := false) rfl rfl rfl (h.of 65 (by kernel_rfl)) (by decide) (fun t ht => by cases ht; exact trivial)
                refine AllOps.cons (fun a y h => ?_) ?_
                · exact opOk_skip (j := 11) (t := 65) (b := true) (c := false) rfl rfl rfl (h.of 65 (by kernel_rfl)) (by decide) (fun t ht => by cases ht; exact trivial)
                refine AllOps.cons (fun a y h => ?_) ?_
                · exact opOk_skip (j := 11) (t := 65) (b := true) (c := false) rfl rfl rfl (h.of 65 (by kernel_rfl)) (by decide) (fun t ht => by cases ht; exact trivial)
                refine AllOps.cons (fun a y h => ?_) ?_
                · exact opOk_skip (j := 11) (t := 65) (b := true) (c := false) rfl rfl rfl (h.of 65 (by kernel_rfl)) (by decide) (fun t ht => by cases ht; exact trivial)
                refine AllOps.cons (fun a y h => ?_) ?_
                · exact opOk_skip (j := 11) (t := 65) (b := true) (c := false) rfl rfl rfl (h.of 65 (by kernel_rfl)) (by decide) (fun t ht => by cases ht; exact trivial)
                refine AllOps.cons (fun a y h => ?_) ?_
                · exact opOk_skip (j := 11) (t := 65) (b := true) (c := false) rfl rfl rfl (h.of 65 (by kernel_rfl)) (by decide) (fun t ht => by cases ht; exact trivial)
                refine AllOps.cons (fun a y h => ?_) ?_
                · exact opOk_skip (j := 11) (t := 65) (b := true) (c := false) rfl rfl rfl (h.of 65 (by kernel_rfl)) (by decide) (fun t ht => by cases ht; exact trivial)
                refine AllOps.cons (fun a y h => ?_) ?_
                · exact opOk_skip (j := 11) (t := 65) (b := true) (c := false) rfl rfl rfl (h.of 65 (by kernel_rfl)) (by decide) (fun t ht => by cases ht; exact trivial)
                refine AllOps.cons (fun a y h => ?_) ?_
                · exact opOk_skip (j := 11) (t := 65) (b := true) (c := false) rfl rfl rfl (h.of 65 (by kernel_rfl)) (by decide) (fun t ht => by cases ht; exact trivial)
                refine AllOps.cons (fun a y h => ?_) ?_
                · exact opOk_skip (j := 11) (t := 65) (b := true) (c := false) rfl rfl rfl (h.of 65 (by kernel_rfl)) (by decide) (fun t ht => by cases ht; exact trivial)
                refine AllOps.cons (fun a y h => ?_) ?_
                · have e65 : a.eval (.tmp 65) = (.bool false : Value) := h.of 65 (by kernel_rfl)
                  refine opOk_val (v := .bool false) (w' := y) (wanted_none rfl) ?_ (fun t ht => by cases ht; exact rfl) (Below.refl _ _)
                  have ec : ∀ v, a.eval (.const v) = v := fun _ => rfl
                  generalize a.eval = ev at *
                  clear h
                  go_simp
                exact AllOps.nil
              rintro ⟨tm, df⟩ wE hbE hdE hszE hstE hTE
              have k76 : tm.getD 76 undef = .bool false := ends_at (T := (tabV [(54, .slice (some ⟨b, off, none⟩) Q.length c8), (55, .int .i64 i), (56, .pointer (some ⟨b, off + i * 5, none⟩)), (57, .pointer (some ⟨b, off + i * 5, none⟩)), (58, .agg #[.int .i64 ua, .int .i64 un]), (59, .slice (some ⟨b, off, none⟩) Q.length c8), (60, .int .i64 k), (61, .pointer (some ⟨b, off + k * 5, none⟩)), (62, .pointer (some ⟨b, off + k * 5, none⟩)), (63, .agg #[.int .i64 va, .int .i64 vn]), (64, .bool false), (65, .bool false), (76, .bool false)])) (w := wE) (a := ⟨tm, df⟩) (t := 76) hTE (by kernel_rfl)
              obtain rfl : df = [] := hdE
              clear hTE
              have hF8 := tmps_fold [54, 55, 56, 57, 58, 59, 60, 61, 62, 63, 64, 65, 66, 67, 68, 69, 70, 71, 72, 73, 74, 75, 76] tm _ hszE hstE
              clear hszE hstE
              simp only [List.foldl_cons, List.foldl_nil, k76] at hF8
              clear k76
              generalize tm.getD 54 undef = x54 at hF8
              generalize tm.getD 55 undef = x55 at hF8
              generalize tm.getD 56 undef = x56 at hF8
              generalize tm.getD 57 undef = x57 at hF8
              generalize tm.getD 58 undef = x58 at hF8
              generalize tm.getD 59 undef = x59 at hF8
              generalize tm.getD 60 undef = x60 at hF8
              generalize tm.getD 61 undef = x61 at hF8
              generalize tm.getD 62 undef = x62 at hF8
              generalize tm.getD 63 undef = x63 at hF8
              generalize tm.getD 64 undef = x64 at hF8
              generalize tm.getD 65 undef = x65 at hF8
              generalize tm.getD 66 undef = x66 at hF8
              generalize tm.getD 67 undef = x67 at hF8
              generalize tm.getD 68 undef = x68 at hF8
              generalize tm.getD 69 undef = x69 at hF8
              generalize tm.getD 70 undef = x70 at hF8
              generalize tm.getD 71 undef = x71 at hF8
              generalize tm.getD 72 undef = x72 at hF8
              generalize tm.getD 73 undef = x73 at hF8
              generalize tm.getD 74 undef = x74 at hF8
              generalize tm.getD 75 undef = x75 at hF8
              simp only [List.setIfInBounds_toArray, List.set_cons_zero, List.set_cons_succ] at hF8
              subst hF8
              have HG2 : Hid (Below w9.heap.size w9 wE) := HGI.out.trans (hbE.mono HGI.out.size)
              clear hbE HU HGI HCL
              have HN : Hid _ := HNX.out (fun h => by injection h with h1 h2; exact absurd ⟨h1, h2⟩ HS.out)
              clear HNX HT0 HS hnt
              go_wp2_with fail
              go_roundw
              case rel => exact ⟨k + 1, hlt2, by go_num, HN.out, HG2.out⟩
              case measure => simp [intOf]; omega
            case pos =>
              refine wp_region_tabA (tabV [(54, .slice (some ⟨b, off, none⟩) Q.length c8), (55, .int .i64 i), (56, .pointer (some ⟨b, off + i * 5, none⟩)), (57, .pointer (some ⟨b, off + i * 5, none⟩)), (58, .agg #[.int .i64 ua, .int .i64 un]), (59, .slice (some ⟨b, off, none⟩) Q.length c8), (60, .int .i64 k), (61, .pointer (some ⟨b, off + k * 5, none⟩)), (62, .pointer (some ⟨b, off + k * 5, none⟩)), (63, .agg #[.int .i64 va, .int .i64 vn]), (64, .bool true), (65, .bool true), (66, .slice (some ⟨b, off, none⟩) Q.length c8), (67, .int .i64 i), (68, .pointer (some ⟨b, off + i * 5, none⟩)), (69, .agg #[.int .i64 ua, .int .i64 un, .slice xa1 xan1 xac1, .slice xa2 xan2 xac2, .slice xa3 xan3 xac3]), (70, .slice (some ⟨b, off, none⟩) Q.length c8), (71, .int .i64 k), (72, .pointer (some ⟨b, off + k * 5, none⟩)), (73, .agg #[.int .i64 va, .int .i64 vn, .slice ya1 yan1 yac1, .slice ya2 yan2 yac2, .slice ya3 yan3 yac3]), (74, .bool t0), (75, .bool nt), (76, .bool nt)]) (by kernel_rfl) (by kernel_rfl) (tabV_mono _) ?hop13b ?hend13b
              case hop13b =>
                refine AllOps.cons (fun a y h => ?_) ?_
                · have e8 : a.eval (.tmp 8) = (.slice (some ⟨b, off, none⟩) Q.length c8 : Value) := h.old 8 (by kernel_rfl)
                  refine opOk_val (v := .slice (some ⟨b, off, none⟩) Q.length c8) (w' := y) (wanted_none rfl) ?_ (fun t ht => by cases ht; exact rfl) (Below.refl _ _)
                  have ec : ∀ v, a.eval (.const v) = v := fun _ => rfl
                  generalize a.eval = ev at *
                  clear h
                  go_simp
                refine AllOps.cons (fun a y h => ?_) ?_
                · have e9 : a.eval (.tmp 9) = (.int .i64 i : Value) := h.old 9 (by kernel_rfl)
                  refine opOk_val (v := .int .i64 i) (w' := y) (wanted_none rfl) ?_ (fun t ht => by cases ht; exact rfl) (Below.refl _ _)
                  have ec : ∀ v, a.eval (.const v) = v := fun _ => rfl
                  generalize a.eval = ev at *
                  clear h
                  go_simp
                refine AllOps.cons (fun a y h => ?_) ?_
                · have e54 : a.eval (.tmp 54) = (.slice (some ⟨b, off, none⟩) Q.length c8 : Value) := h.of 54 (by kernel_rfl)
                  have e55 : a.eval (.tmp 55) = (.int .i64 i : Value) := h.of 55 (by kernel_rfl)
                  refine opOk_val (v := .pointer (some ⟨b, off + i * 5, none⟩)) (w' := y) (wanted_none rfl) ?_ (fun t ht => by cases ht; exact rfl) (Below.refl _ _)
                  have ec : ∀ v, a.eval (.const v) = v := fun _ => rfl
                  generalize a.eval = ev at *
                  clear h
                  go_simp
                refine AllOps.cons (fun a y h => ?_) ?_
                · have e56 : a.eval (.tmp 56) = (.pointer (some ⟨b, off + i * 5, none⟩) : Value) := h.of 56 (by kernel_rfl)
                  refine opOk_val (v := .pointer (some ⟨b, off + i * 5, none⟩)) (w' := y) (wanted_none rfl) ?_ (fun t ht => by cases ht; exact rfl) (Below.refl _ _)
                  have ec : ∀ v, a.eval (.const v) = v := fun _ => rfl
                  generalize a.eval = ev at *
                  clear h
                  go_simp
                refine AllOps.cons (fun a y h => ?_) ?_
                · have e57 : a.eval (.tmp 57) = (.pointer (some ⟨b, off + i * 5, none⟩) : Value) := h.of 57 (by kernel_rfl)
                  obtain ⟨⟨u0, u1, u2, u3, u4⟩, ⟨r0, r1, r2, r3, r4⟩⟩ := HU.out y h.below
                  refine opOk_val (v := .agg #[.int .i64 ua, .int .i64 un]) (w' := y) (wanted_none rfl) ?_ (fun t ht => by cases ht; exact rfl) (Below.refl _ _)
                  have ec : ∀ v, a.eval (.const v) = v := fun _ => rfl
                  generalize a.eval = ev at *
                  clear h
                  go_simp
                refine AllOps.cons (fun a y h => ?_) ?_
                · have e8 : a.eval (.tmp 8) = (.slice (some ⟨b, off, none⟩) Q.length c8 : Value) := h.old 8 (by kernel_rfl)
                  refine opOk_val (v := .slice (some ⟨b, off, none⟩) Q.length c8) (w' := y) (wanted_none rfl) ?_ (fun t ht => by cases ht; exact rfl) (Below.refl _ _)
                  have ec : ∀ v, a.eval (.const v) = v := fun _ => rfl
                  generalize a.eval = ev at *
                  clear h
                  go_simp
                refine AllOps.cons (fun a y h => ?_) ?_
                · have e10 : a.eval (.tmp 10) = (.int .i64 k : Value) := h.old 10 (by kernel_rfl)
                  refine opOk_val (v := .int .i64 k) (w' := y) (wanted_none rfl) ?_ (fun t ht => by cases ht; exact rfl) (Below.refl _ _)
                  have ec : ∀ v, a.eval (.const v) = v := fun _ => rfl
                  generalize a.eval = ev at *
                  clear h
                  go_simp
                refine AllOps.cons (fun a y h => ?_) ?_
                · have e59 : a.eval (.tmp 59) = (.slice (some ⟨b, off, none⟩) Q.length c8 : Value) := h.of 59 (by kernel_rfl)
                  have e60 : a.eval (.tmp 60) = (.int .i64 k : Value) := h.of 60 (by kernel_rfl)
                  refine opOk_val (v := .pointer (some ⟨b, off + k * 5, none⟩)) (w' := y) (wanted_none rfl) ?_ (fun t ht => by cases ht; exact rfl) (Below.refl _ _)
                  have ec : ∀ v, a.eval (.const v) = v := fun _ => rfl
                  generalize a.eval = ev at *
                  clear h
                  go_simp
                refine AllOps.cons (fun a y h => ?_) ?_
                · have e61 : a.eval (.tmp 61) = (.pointer (some ⟨b, off + k * 5, none⟩) : Value) := h.of 61 (by kernel_rfl)
                  refine opOk_val (v := .pointer (some ⟨b, off + k * 5, none⟩)) (w' := y) (wanted_none rfl) ?_ (fun t ht => by cases ht; exact rfl) (Below.refl _ _)
                  have ec : ∀ v, a.eval (.const v) = v := fun _ => rfl
                  generalize a.eval = ev at *
                  clear h
                  go_simp
                refine AllOps.cons (fun a y h => ?_) ?_
                · have e62 : a.eval (.tmp 62) = (.pointer (some ⟨b, off + k * 5, none⟩) : Value) := h.of 62 (by kernel_rfl)
                  obtain ⟨⟨u0, u1, u2, u3, u4⟩, ⟨r0, r1, r2, r3, r4⟩⟩ := HU.out y h.below
                  refine opOk_val (v := .agg #[.int .i64 va, .int .i64 vn]) (w' := y) (wanted_none rfl) ?_ (fun t ht => by cases ht; exact rfl) (Below.refl _ _)
                  have ec : ∀ v, a.eval (.const v) = v := fun _ => rfl
                  generalize a.eval = ev at *
                  clear h
                  go_simp
                refine AllOps.cons (fun a y h => ?_) ?_
                · have e58 : a.eval (.tmp 58) = (.agg #[.int .i64 ua, .int .i64 un] : Value) := h.of 58 (by kernel_rfl)
                  have e63 : a.eval (.tmp 63) = (.agg #[.int .i64 va, .int .i64 vn] : Value) := h.of 63 (by kernel_rfl)
                  refine opOk_val (v := .bool true) (w' := y) (wanted_none rfl) ?_ (fun t ht => by cases ht; exact rfl) (Below.refl _ _)
                  have ec : ∀ v, a.eval (.const v) = v := fun _ => rfl
                  generalize a.eval = ev at *
                  clear h
                  go_simp
                  rw [if_pos HS.out.1, if_pos HS.out.2]
                refine AllOps.cons (fun a y h => ?_) ?_
                · have e64 : a.eval (.tmp 64) = (.bool true : Value) := h.of 64 (by kernel_rfl)
                  refine opOk_val (v := .bool true) (w' := y) (wanted_none rfl) ?_ (fun t ht => by cases ht; exact rfl) (Below.refl _ _)
                  have ec : ∀ v, a.eval (.const v) = v := fun _ => rfl
                  generalize a.eval = ev at *
                  clear h
                  go_simp
                refine AllOps.cons (fun a y h => ?_) ?_
                · have e8 : a.eval (.tmp 8) = (.slice (some ⟨b, off, none⟩) Q.length c8 : Value) := h.old 8 (by kernel_rfl)
                  refine opOk_val (v := .slice (some ⟨b, off, none⟩) Q.length c8) (w' := y) (wanted_some (j := 11) (t := 65) (b := true) rfl rfl rfl (h.of 65 (by kernel_rfl))) ?_ (fun t ht => by cases ht; exact rfl) (Below.refl _ _)
                  have ec : ∀ v, a.eval (.const v) = v := fun _ => rfl
                  generalize a.eval = ev at *
                  clear h
                  go_simp
                refine AllOps.cons (fun a y h => ?_) ?_
                · have e9 : a.eval (.tmp 9) = (.int .i64 i : Value) := h.old 9 (by kernel_rfl)
                  refine opOk_val (v := .int .i64 i) (w' := y) (wanted_some (j := 11) (t := 65) (b := true) rfl rfl rfl (h.of 65 (by kernel_rfl))) ?_ (fun t ht => by cases ht; exact rfl) (Below.refl _ _)
                  have ec : ∀ v, a.eval (.const v) = v := fun _ => rfl
                  generalize a.eval = ev at *
                  clear h
                  go_simp
                refine AllOps.cons (fun a y h => ?_) ?_
                · have e66 : a.eval (.tmp 66) = (.slice (some ⟨b, off, none⟩) Q.length c8 : Value) := h.of 66 (by kernel_rfl)
                  have e67 : a.eval (.tmp 67) = (.int .i64 i : Value) := h.of 67 (by kernel_rfl)
                  refine opOk_val (v := .pointer (some ⟨b, off + i * 5, none⟩)) (w' := y) (wanted_some (j := 11) (t := 65) (b := true) rfl rfl rfl (h.of 65 (by kernel_rfl))) ?_ (fun t ht => by cases ht; exact rfl) (Below.refl _ _)
                  have ec : ∀ v, a.eval (.const v) = v := fun _ => rfl
                  generalize a.eval = ev at *
                  clear h
                  go_simp
                refine AllOps.cons (fun a y h => ?_) ?_
                · have e68 : a.eval (.tmp 68) = (.pointer (some ⟨b, off + i * 5, none⟩) : Value) := h.of 68 (by kernel_rfl)
                  obtain ⟨⟨u0, u1, u2, u3, u4⟩, ⟨r0, r1, r2, r3, r4⟩⟩ := HU.out y h.below
                  refine opOk_val (v := .agg #[.int .i64 ua, .int .i64 un, .slice xa1 xan1 xac1, .slice xa2 xan2 xac2, .slice xa3 xan3 xac3]) (w' := y) (wanted_some (j := 11) (t := 65) (b := true) rfl rfl rfl (h.of 65 (by kernel_rfl))) ?_ (fun t ht => by cases ht; exact rfl) (Below.refl _ _)
                  have ec : ∀ v, a.eval (.const v) = v := fun _ => rfl
                  generalize a.eval = ev at *
                  clear h
                  go_simp
                refine AllOps.cons (fun a y h => ?_) ?_
                · have e8 : a.eval (.tmp 8) = (.slice (some ⟨b, off, none⟩) Q.length c8 : Value) := h.old 8 (by kernel_rfl)
                  refine opOk_val (v := .slice (some ⟨b, off, none⟩) Q.length c8) (w' := y) (wanted_some (j := 11) (t := 65) (b := true) rfl rfl rfl (h.of 65 (by kernel_rfl))) ?_ (fun t ht => by cases ht; exact rfl) (Below.refl _ _)
                  have ec : ∀ v, a.eval (.const v) = v := fun _ => rfl
                  generalize a.eval = ev at *
                  clear h
                  go_simp
                refine AllOps.cons (fun a y h => ?_) ?_
                · have e10 : a.eval (.tmp 10) = (.int .i64 k : Value) := h.old 10 (by kernel_rfl)
                  refine opOk_val (v := .int .i64 k) (w' := y) (wanted_some (j := 11) (t := 65) (b := true) rfl rfl rfl (h.of 65 (by kernel_rfl))) ?_ (fun t ht => by cases ht; exact rfl) (Below.refl _ _)
                  have ec : ∀ v, a.eval (.const v) = v := fun _ => rfl
                  generalize a.eval = ev at *
                  clear h
                  go_simp
                refine AllOps.cons (fun a y h => ?_) ?_
                · have e70 : a.eval (.tmp 70) = (.slice (some ⟨b, off, none⟩) Q.length c8 : Value) := h.of 70 (by kernel_rfl)
                  have e71 : a.eval (.tmp 71) = (.int .i64 k : Value) := h.of 71 (by kernel_rfl)
                  refine opOk_val (v := .pointer (some ⟨b, off + k * 5, none⟩)) (w' := y) (wanted_some (j := 11) (t := 65) (b := true) rfl rfl rfl (h.of 65 (by kernel_rfl))) ?_ (fun t ht => by cases ht; exact rfl) (Below.refl _ _)
                  have ec : ∀ v, a.eval (.const v) = v := fun _ => rfl
                  generalize a.eval = ev at *
                  clear h
                  go_simp
                refine AllOps.cons (fun a y h => ?_) ?_
                · have e72 : a.eval (.tmp 72) = (.pointer (some ⟨b, off + k * 5, none⟩) : Value) := h.of 72 (by kernel_rfl)
                  obtain ⟨⟨u0, u1, u2, u3, u4⟩, ⟨r0, r1, r2, r3, r4⟩⟩ := HU.out y h.below
                  refine opOk_val (v := .agg #[.int .i64 va, .int .i64 vn, .slice ya1 yan1 yac1, .slice ya2 yan2 yac2, .slice ya3 yan3 yac3]) (w' := y) (wanted_some (j := 11) (t := 65) (b := true) rfl rfl rfl (h.of 65 (by kernel_rfl))) ?_ (fun t ht => by cases ht; exact rfl) (Below.refl _ _)
                  have ec : ∀ v, a.eval (.const v) = v := fun _ => rfl
                  generalize a.eval = ev at *
                  clear h
                  go_simp
                refine AllOps.cons (fun a y h => ?_) ?_
                · have e69 : a.eval (.tmp 69) = (.agg #[.int .i64 ua, .int .i64 un, .slice xa1 xan1 xac1, .slice xa2 xan2 xac2, .slice xa3 xan3 xac3] : Value) := h.of 69 (by kernel_rfl)
                  have e73 : a.eval (.tmp 73) = (.agg #[.int .i64 va, .int .i64 vn, .slice ya1 yan1 yac1, .slice ya2 yan2 yac2, .slice ya3 yan3 yac3] : Value) := h.of 73 (by kernel_rfl)
                  refine opOk_call (f := 6) (args := #[.agg #[.int .i64 ua, .int .i64 un, .slice xa1 xan1 xac1, .slice xa2 xan2 xac2, .slice xa3 xan3 xac3], .agg #[.int .i64 va, .int .i64 vn, .slice ya1 yan1 yac1, .slice ya2 yan2 yac2, .slice ya3 yan3 yac3]]) (wanted_some (j := 11) (t := 65) (b := true) rfl rfl rfl (h.of 65 (by kernel_rfl))) ?_ ?_
                  · have ec : ∀ v, a.eval (.const v) = v := fun _ => rfl
                    have ef : ∀ f, a.eval (.func f) = .func (.func f) #[] #[] := fun _ => rfl
                    generalize a.eval = ev at *
                    clear h
                    go_simp
                  · refine (HCL.out y h.below).mono ?_
                    rintro e w' ⟨rfl, hb⟩
                    exact ⟨_, rfl, fun t ht => by cases ht; exact rfl, hb⟩
                refine AllOps.cons (fun a y h => ?_) ?_
                · have e74 : a.eval (.tmp 74) = (.bool t0 : Value) := h.of 74 (by kernel_rfl)
                  refine opOk_val (v := .bool nt) (w' := y) (wanted_some (j := 11) (t := 65) (b := true) rfl rfl rfl (h.of 65 (by kernel_rfl))) ?_ (fun t ht => by cases ht; exact rfl) (Below.refl _ _)
                  have ec : ∀ v, a.eval (.const v) = v := fun _ => rfl
                  generalize a.eval = ev at *
                  clear h
                  go_simp
                refine AllOps.cons (fun a y h => ?_) ?_
                · have e65 : a.eval (.tmp 65) = (.bool true : Value) := h.of 65 (by kernel_rfl)
                  have e75 : a.eval (.tmp 75) = (.bool nt : Value) := h.of 75 (by kernel_rfl)
                  refine opOk_val (v := .bool nt) (w' := y) (wanted_none rfl) ?_ (fun t ht => by cases ht; exact rfl) (Below.refl _ _)
                  have ec : ∀ v, a.eval (.const v) = v := fun _ => rfl
                  generalize a.eval = ev at *
                  clear h
                  go_simp
                exact AllOps.nil
              rintro ⟨tm, df⟩ wE hbE hdE hszE hstE hTE
              have k76 : tm.getD 76 undef = .bool nt := ends_at (T := (tabV [(54, .slice (some ⟨b, off, none⟩) Q.length c8), (55, .int .i64 i), (56, .pointer (some ⟨b, off + i * 5, none⟩)), (57, .pointer (some ⟨b, off + i * 5, none⟩)), (58, .agg #[.int .i64 ua, .int .i64 un]), (59, .slice (some ⟨b, off, none⟩) Q.length c8), (60, .int .i64 k), (61, .pointer (some ⟨b, off + k * 5, none⟩)), (62, .pointer (some ⟨b, off + k * 5, none⟩)), (63, .agg #[.int .i64 va, .int .i64 vn]), (64, .bool true), (65, .bool true), (66, .slice (some ⟨b, off, none⟩) Q.length c8), (67, .int .i64 i), (68, .pointer (some ⟨b, off + i * 5, none⟩)), (69, .agg #[.int .i64 ua, .int .i64 un, .slice xa1 xan1 xac1, .slice xa2 xan2 xac2, .slice xa3 xan3 xac3]), (70, .slice (some ⟨b, off, none⟩) Q.length c8), (71, .int .i64 k), (72, .pointer (some ⟨b, off + k * 5, none⟩)), (73, .agg #[.int .i64 va, .int .i64 vn, .slice ya1 yan1 yac1, .slice ya2 yan2 yac2, .slice ya3 yan3 yac3]), (74, .bool t0), (75, .bool nt), (76, .bool nt)])) (w := wE) (a := ⟨tm, df⟩) (t := 76) hTE (by kernel_rfl)
              obtain rfl : df = [] := hdE
              clear hTE
              have hF8 := tmps_fold [54, 55, 56, 57, 58, 59, 60, 61, 62, 63, 64, 65, 66, 67, 68, 69, 70, 71, 72, 73, 74, 75, 76] tm _ hszE hstE
              clear hszE hstE
              simp only [List.foldl_cons, List.foldl_nil, k76] at hF8
              clear k76
              generalize tm.getD 54 undef = x54 at hF8
              generalize tm.getD 55 undef = x55 at hF8
              generalize tm.getD 56 undef = x56 at hF8
              generalize tm.getD 57 undef = x57 at hF8
              generalize tm.getD 58 undef = x58 at hF8
              generalize tm.getD 59 undef = x59 at hF8
              generalize tm.getD 60 undef = x60 at hF8
              generalize tm.getD 61 undef = x61 at hF8
              generalize tm.getD 62 undef = x62 at hF8
              generalize tm.getD 63 undef = x63 at hF8
              generalize tm.getD 64 undef = x64 at hF8
              generalize tm.getD 65 undef = x65 at hF8
              generalize tm.getD 66 undef = x66 at hF8
              generalize tm.getD 67 undef = x67 at hF8
              generalize tm.getD 68 undef = x68 at hF8
              generalize tm.getD 69 undef = x69 at hF8
              generalize tm.getD 70 undef = x70 at hF8
              generalize tm.getD 71 undef = x71 at hF8
              generalize tm.getD 72 undef = x72 at hF8
              generalize tm.getD 73 undef = x73 at hF8
              generalize tm.getD 74 undef = x74 at hF8
              generalize tm.getD 75 undef = x75 at hF8
              simp only [List.setIfInBounds_toArray, List.set_cons_zero, List.set_cons_succ] at hF8
              subst hF8
              have HG2 : Hid (Below w9.heap.size w9 wE) := HGI.out.trans (hbE.mono HGI.out.size)
              clear hbE HU HGI HCL
              cases nt with
              | true =>
                clear HNX HT0 HS hnt
                go_wp2_with fail
                go_ret
                exact ⟨rfl, HG9.out.trans (HG2.out.mono HG9.out.size)⟩
              | false =>
                have HN : Hid _ := HNX.out (fun _ => HT0.out.mp (by cases t0 <;> simp_all))
                clear HNX HT0 HS hnt
                go_wp2_with fail
                go_roundw
                case rel => exact ⟨k + 1, hlt2, by go_num, HN.out, HG2.out⟩
                case measure => simp [intOf]; omega
          · have d2 : decide (k < i) = false := decide_eq_false hlt2
            have HN : Hid (Dg.Apart (ups (Q.take (i + 1)))) := apart_more hlt HAP.out fun j hj => HAL.out j (by omega)
            clear HAL HAP
            go_wp2_with fail
            go_roundw
            case rel => exact ⟨i + 1, hlt, by go_num, HN.out, HGI.out⟩
            case measure => simp [intOf]; omega
      · have d1 : decide (i < Q.length) = false := decide_eq_false hlt
        have HAQ : Hid (Dg.Apart (ups Q)) := by
          have h := HAP.out
          rwa [List.take_of_length_le (by omega)] at h
        clear HAP
        have HXO : Hid (∀ z, Below wO.heap.size wO z → z.cell? ⟨w.heap.size, 0, none⟩ = some (.slice ah hq.length ch) ∧ z.cell? ⟨w.heap.size, 1, none⟩ = some (.slice aw wq.length cw) ∧ z.cell? ⟨w.heap.size + 1, 0, none⟩ = some (.slice aj ph.length cj) ∧ z.cell? ⟨w.heap.size + 1, 1, none⟩ = some (.slice ak pw.length ck) ∧ z.cell? ⟨w3.heap.size, 0, none⟩ = some (.slice a1 xh.length c1) ∧ z.cell? ⟨w3.heap.size, 1, none⟩ = some (.slice a2 xw.length c2) ∧ z.cell? ⟨w3.heap.size + 1, 0, none⟩ = some (.slice a3 yh.length c3) ∧ z.cell? ⟨w3.heap.size + 1, 1, none⟩ = some (.slice a4 yw.length c4)) := fun z hz => HX9.out z (HGR.out.trans (hz.mono HGR.out.size))
        have HQB : Hid (∀ z, Below wO.heap.size wO z → UpsAt z aw wq ∧ (aw = none → cw = 0) ∧ (∀ x, x ∈ wq → UvOk z x) ∧ UpsAt z ak pw ∧ (ak = none → ck = 0) ∧ (∀ x, x ∈ pw → UvOk z x)) := fun z hz => by
          have hk := HG9.out.trans ((HGR.out.trans (hz.mono HGR.out.size)).mono HG9.out.size)
          obtain ⟨_, k1, k3⟩ := HR.out z hk
          obtain ⟨_, l1, l3⟩ := HJ.out z hk
          exact ⟨(ups_parts k1).2.1, (ups_parts k1).2.2, fun x hx => k3 x (List.mem_append_right _ hx), (ups_parts l1).2.1, (ups_parts l1).2.2, fun x hx => l3 x (List.mem_append_right _ hx)⟩
        obtain ⟨W, HWe⟩ : ∃ W, Hid (W = wq ++ pw) := ⟨_, rfl⟩
        have hWl : W.length ≤ 400 := by rw [HWe.out, List.length_append]; omega
        go_upto_region 15 with fail
        refine wp_region_tail2 (mtT15 wO.heap.size w.heap.size (w.heap.size + 1) 1 aw wq.length cw ak pw.length ck wq) 6 (by decide) (by kernel_rfl) (by kernel_rfl) (by kernel_rfl) (mtT15_mono _ _ _ _ _ _ _ _ _ _ _) ?hop15 ?hend15
        case hop15 =>
          refine AllOps.cons (fun a y h hpre => ?_) ?_
          · refine opOk_val (v := .slice (some ⟨y.heap.size, 0, none⟩) 0 0) (w' := y.alloc (.cells #[] 34)) (wanted_none rfl) ?_ (fun t ht => by cases ht; exact ⟨_, rfl, World.ownsRow_lit y #[] 0 h.below.size (by decide) rfl⟩) ((Below.refl _ _).alloc (Nat.le_refl _) _)
            have ec : ∀ v, a.eval (.const v) = v := fun _ => rfl
            generalize a.eval = ev at *
            clear h hpre
            go_simp
          refine AllOps.cons (fun a y h hpre => ?_) ?_
          · have e2 : a.eval (.tmp 2) = (.pointer (some ⟨w.heap.size, 0, none⟩) : Value) := h.old 2 (by kernel_rfl)
            refine opOk_val (v := .pointer (some ⟨w.heap.size, 1, none⟩)) (w' := y) (wanted_none rfl) ?_ (fun t ht => by cases ht; exact rfl) (Below.refl _ _)
            have ec : ∀ v, a.eval (.const v) = v := fun _ => rfl
            generalize a.eval = ev at *
            clear h hpre
            go_simp
          refine AllOps.cons (fun a y h hpre => ?_) ?_
          · have e78 : a.eval (.tmp 78) = (.pointer (some ⟨w.heap.size, 1, none⟩) : Value) := h.of 78 (by kernel_rfl)
            obtain ⟨x0, x1, x2, x3, x4, x5, x6, x7⟩ := HXO.out y h.below
            refine opOk_val (v := .slice aw wq.length cw) (w' := y) (wanted_none rfl) ?_ (fun t ht => by cases ht; exact rfl) (Below.refl _ _)
            have ec : ∀ v, a.eval (.const v) = v := fun _ => rfl
            generalize a.eval = ev at *
            clear h hpre
            go_simp
          refine AllOps.cons (fun a y h hpre => ?_) ?_
          · obtain ⟨b, e77, hr⟩ : ∃ b, a.eval (.tmp 77) = (.slice (some ⟨b, 0, none⟩) 0 0 : Value) ∧ URow y wO.heap.size (.slice (some ⟨b, 0, none⟩) 0 0) [] := h.of 77 (by kernel_rfl)
            have e79 : a.eval (.tmp 79) = (.slice aw wq.length cw : Value) := h.of 79 (by kernel_rfl)
            obtain ⟨k1, k2, k3, _⟩ := HQB.out y h.below
            obtain ⟨v, y2, hr2, h2, hb2⟩ := run_append_new y wO.heap.size b h.below.size hr aw cw wq 22 k1 k2 k3 (by omega)
            refine opOk_val (v := v) (w' := y2) (wanted_none rfl) ?_ (fun t ht => by cases ht; exact h2) hb2
            have ec : ∀ v, a.eval (.const v) = v := fun _ => rfl
            generalize a.eval = ev at *
            clear h hpre k1 k2 k3
            simp [execOp, resolve, invoke, builtin, *]
          refine AllOps.cons (fun a y h hpre => ?_) ?_
          · have e3 : a.eval (.tmp 3) = (.pointer (some ⟨w.heap.size + 1, 0, none⟩) : Value) := h.old 3 (by kernel_rfl)
            refine opOk_val (v := .pointer (some ⟨w.heap.size + 1, 1, none⟩)) (w' := y) (wanted_none rfl) ?_ (fun t ht => by cases ht; exact rfl) (Below.refl _ _)
            have ec : ∀ v, a.eval (.const v) = v := fun _ => rfl
            generalize a.eval = ev at *
            clear h hpre
            go_simp
          refine AllOps.cons (fun a y h hpre => ?_) ?_
          · have e81 : a.eval (.tmp 81) = (.pointer (some ⟨w.heap.size + 1, 1, none⟩) : Value) := h.of 81 (by kernel_rfl)
            obtain ⟨x0, x1, x2, x3, x4, x5, x6, x7⟩ := HXO.out y h.below
            refine opOk_val (v := .slice ak pw.length ck) (w' := y) (wanted_none rfl) ?_ (fun t ht => by cases ht; exact rfl) (Below.refl _ _)
            have ec : ∀ v, a.eval (.const v) = v := fun _ => rfl
            generalize a.eval = ev at *
            clear h hpre
            go_simp
          exact AllOps.nil
        case hend15 =>
          rintro ⟨tm, df⟩ y hI _
          have h80 : URow y wO.heap.size (Act.eval ⟨tm, df⟩ (.tmp 80)) wq := hI.all 3 _ 80 (by decide) rfl rfl
          have e82 : Act.eval ⟨tm, df⟩ (.tmp 82) = (.slice ak pw.length ck : Value) := hI.all 5 _ 82 (by decide) rfl rfl
          obtain ⟨_, _, _, k1, k2, k3⟩ := HQB.out y hI.below
          obtain ⟨v11, w11, hr2, hrow, hgr⟩ := run_append_own2 y wO.heap.size hI.below.size _ wq h80 ak ck pw 22 k1 k2 k3 (by omega)
          have HROW11 : Hid (URow w11 wO.heap.size v11 W) := by show URow _ _ _ _; rw [HWe.out]; exact hrow
          have HB11 : Hid (Below wO.heap.size wO w11) := hI.below.grown hgr hI.below.size (own_ge h80)
          show wpOps Try.prog _ _ [6, 7] _ _
          rw [wpOps_cons]
          refine wpOp_val rfl (wanted_none rfl) (v := v11) (w' := w11) ?_ ?_
          · generalize Act.eval ⟨tm, df⟩ = ev at *
            clear hI k1 k2 k3 hrow hgr h80
            simp [execOp, resolve, invoke, builtin, *]
          rw [wpOps_cons]
          have hszE := hI.size
          have hstE := hI.still
          obtain rfl : df = [] := hI.defers
          clear hI k1 k2 k3 hrow hgr h80 e82 hr2
          have hF8 := tmps_fold [77, 78, 79, 80, 81, 82, 83, 11] tm _ hszE hstE
          clear hszE hstE
          simp only [List.foldl_cons, List.foldl_nil] at hF8
          generalize tm.getD 77 undef = x77 at hF8
          generalize tm.getD 78 undef = x78 at hF8
          generalize tm.getD 79 undef = x79 at hF8
          generalize tm.getD 80 undef = x80 at hF8
          generalize tm.getD 81 undef = x81 at hF8
          generalize tm.getD 82 undef = x82 at hF8
          generalize tm.getD 83 undef = x83 at hF8
          generalize tm.getD 11 undef = x11 at hF8
          simp only [List.setIfInBounds_toArray, List.set_cons_zero, List.set_cons_succ] at hF8
          subst hF8
          refine wpOp_val rfl (wanted_none rfl) (v := v11) (w' := w11) rfl ?_
          refine wpOps_end2 (s := 83) (t := 11) ?_
          simp only [List.setIfInBounds_toArray, List.set_cons_zero, List.set_cons_succ]
          obtain ⟨a11, c11, rfl, hc11, hA11⟩ := own_ups HROW11.out
          have HA11 : Hid (∀ z, Below w11.heap.size w11 z → UpsAt z a11 W ∧ ∀ x, x ∈ W → UvOk z x) := fun z hz => by
            refine ⟨hA11.kc (Kc.below hz), fun x hx => ?_⟩
            have h := HQB.out z (HB11.out.trans (hz.mono HB11.out.size))
            rw [HWe.out] at hx
            rcases List.mem_append.mp hx with h1 | h1
            · exact h.2.2.1 x h1
            · exact h.2.2.2.2.2 x h1
          have HBK : Hid (∀ z, Below w11.heap.size w11 z → Below w9.heap.size w9 z) := fun z hz => by
            have h1 := HGR.out.trans (HB11.out.mono HGR.out.size)
            exact h1.trans (hz.mono h1.size)
          clear HXO HQB HROW11 HB11 HGR hA11 hc11
          go_wp2_with fail
          go_loopw [12] (fun iv wr => ∃ m : Nat, m ≤ W.length ∧ iv = .int .i64 m ∧ Hid (Waits Q (W.take m)) ∧ Hid (Below w11.heap.size w11 wr)) (fun iv _ => W.length - (intOf iv).toNat)
          case atStart => exact ⟨0, Nat.zero_le _, rfl, fun u v hu => absurd hu (by simp [ups]), Below.refl _ _⟩
          case round =>
            obtain ⟨m, hm, rfl, HWT, HGR⟩ := hrel
            by_cases hltm : m < W.length
            · have d2 : decide (m < W.length) = true := decide_eq_true hltm
              obtain ⟨hA, hO⟩ := HA11.out wr HGR.out
              obtain ⟨b2, off2, rfl, p0, p1, p2, p3, p4⟩ := ups_at hA m hltm
              obtain ⟨x, HXe⟩ : ∃ x, Hid (x = uvD W m) := ⟨_, rfl⟩
              have HOX : Hid (UvOk wr x) := by show UvOk wr x; rw [HXe.out]; exact hO _ (uvD_mem W m hltm)
              have HUX : Hid (UpIn wr b2 (off2 + m * 5) x) := by show UpIn _ _ _ _; rw [HXe.out]; exact ⟨p0, p1, p2, p3, p4⟩
              have HNX : Hid ((∀ u, u ∈ ups Q → x.u.id = u.id → x.u = u) → Waits Q (W.take (m + 1))) := fun h => waits_more hltm HWT.out (by rw [← HXe.out]; exact h)
              have HPL : Hid (∀ z, Below w9.heap.size w9 z → ∀ x : Wr.Id, Calls Try.prog 7 #[.slice a8 Q.length c8, .agg #[.int .i64 x.a, .int .i64 x.n]] z fun e w' => ∃ r : Int, e = .returned (.int .i64 r) ∧ PlaceR Q x r ∧ Below z.heap.size z w') := fun z hz x => PlaceOf_any Q x _ z ⟨a8, c8, rfl, HC8.out, (HA8.out z hz).1⟩ (by omega)
              have HPX : Hid (∀ z, Below wr.heap.size wr z → Calls Try.prog 7 #[.slice a8 Q.length c8, .agg #[.int .i64 x.u.id.a, .int .i64 x.u.id.n]] z fun e w' => ∃ r : Int, e = .returned (.int .i64 r) ∧ PlaceR Q x.u.id r ∧ Below z.heap.size z w') := fun z hz => HPL.out z (HBK.out z (HGR.out.trans (hz.mono HGR.out.size))) x.u.id
              clear p0 p1 p2 p3 p4 hA hO HWT HPL HXe
              obtain ⟨a0, a1', _⟩ := id HUX.out
              go_wp2_with fail
              refine Calls.mono (HPX.out wr (Below.refl _ _)) ?_
              rintro _ w12 ⟨r, rfl, hp, hb12⟩
              have HGI : Hid (Below w11.heap.size w11 w12) := HGR.out.trans (hb12.mono HGR.out.size)
              have hx := HOX.out.below hb12
              have HUX2 : Hid (UpIn w12 b2 (off2 + m * 5) x) := (Kc.below hb12).up HUX.out
              clear a0 a1' HOX HUX HPX HGR hb12
              rcases hp with ⟨rfl, hno⟩ | ⟨k, rfl, hk, he⟩
              · have HN : Hid _ := HNX.out (waits_none hno)
                clear HNX hno
                go_upto_region 20 with fail
                refine wp_region_tabA (tabV [(97, .int .i64 (-1)), (98, .bool false), (99, .bool false), (110, .bool false)]) (by kernel_rfl) (by kernel_rfl) (tabV_mono _) ?hop20a ?hend20a
                case hop20a =>
                  refine AllOps.cons (fun a y h => ?_) ?_
                  · have e13 : a.eval (.tmp 13) = (.int .i64 (-1) : Value) := h.old 13 (by kernel_rfl)
                    refine opOk_val (v := .int .i64 (-1)) (w' := y) (wanted_none rfl) ?_ (fun t ht => by cases ht; exact rfl) (Below.refl _ _)
                    have ec : ∀ v, a.eval (.const v) = v := fun _ => rfl
                    generalize a.eval = ev at *
                    clear h
                    go_simp
                  refine AllOps.cons (fun a y h => ?_) ?_
                  · have e97 : a.eval (.tmp 97) = (.int .i64 (-1) : Value) := h.of 97 (by kernel_rfl)
                    refine opOk_val (v := .bool false) (w' := y) (wanted_none rfl) ?_ (fun t ht => by cases ht; exact rfl) (Below.refl _ _)
                    have ec : ∀ v, a.eval (.const v) = v := fun _ => rfl
                    generalize a.eval = ev at *
                    clear h
                    go_simp
                  refine AllOps.cons (fun a y h => ?_) ?_
                  · have e98 : a.eval (.tmp 98) = (.bool false : Value) := h.of 98 (by kernel_rfl)
                    refine opOk_val (v := .bool false) (w' := y) (wanted_none rfl) ?_ (fun t ht => by cases ht; exact rfl) (Below.refl _ _)
                    have ec : ∀ v, a.eval (.const v) = v := fun _ => rfl
                    generalize a.eval = ev at *
                    clear h
                    go_simp
                  refine AllOps.cons (fun a y h => ?_) ?_
                  · exact opOk_skip (j := 2) (t := 99) (b := true) (c := false) rfl rfl rfl (h.of 99 (by kernel_rfl)) (by decide) (fun t ht => by cases ht; exact trivial)
                  refine AllOps.cons (fun a y h => ?_) ?_
                  · exact opOk_skip (j := 2) (t := 99) (b := true) (c := false) rfl rfl rfl (h.of 99 (by kernel_rfl)) (by decide) (fun t ht => by cases ht; exact trivial)
                  refine AllOps.cons (fun a y h => ?_) ?_
                  · exact opOk_skip (j := 2) (t := 99) (b := true) (c := false) rfl rfl rfl (h.of 99 (by kernel_rfl)) (by decide) (fun t ht => by cases ht; exact trivial)
                  refine AllOps.cons (fun a y h => ?_) ?_
                  · exact opOk_skip (j := 2) (t := 99) (b := true) (c := false) rfl rfl rfl (h.of 99 (by kernel_rfl)) (by decide) (fun t ht => by cases ht; exact trivial)
                  refine AllOps.cons (fun a y h => ?_) ?_
                  · exact opOk_skip (j := 2) (t := 99) (b := true) (c := false) rfl rfl rfl (h.of 99 (by kernel_rfl)) (by decide) (fun t ht => by cases ht; exact trivial)
                  refine AllOps.cons (fun a y h => ?_) ?_
                  · exact opOk_skip (j := 2) (t := 99) (b := true) (c := false) rfl rfl rfl (h.of 99 (by kernel_rfl)) (by decide) (fun t ht => by cases ht; exact trivial)
                  refine AllOps.cons (fun a y h => ?_) ?_
                  · exact opOk_skip (j := 2) (t := 99) (b := true) (c := false) rfl rfl rfl (h.of 99 (by kernel_rfl)) (by decide) (fun t ht => by cases ht; exact trivial)
                  refine AllOps.cons (fun a y h => ?_) ?_
                  · exact opOk_skip (j := 2) (t := 99) (b := true) (c := false) rfl rfl rfl (h.of 99 (by kernel_rfl)) (by decide) (fun t ht => by cases ht; exact trivial)
                  refine AllOps.cons (fun a y h => ?_) ?_
                  · exact opOk_skip (j := 2) (t := 99) (b := true) (c := false) rfl rfl rfl (h.of 99 (by kernel_rfl)) (by decide) (fun t ht => by cases ht; exact trivial)
                  refine AllOps.cons (fun a y h => ?_) ?_
                  · exact opOk_skip (j := 2) (t := 99) (b := true) (c := false) rfl rfl rfl (h.of 99 (by kernel_rfl)) (by decide) (fun t ht => by cases ht; exact trivial)
                  refine AllOps.cons (fun a y h => ?_) ?_
                  · have e99 : a.eval (.tmp 99) = (.bool false : Value) := h.of 99 (by kernel_rfl)
                    refine opOk_val (v := .bool false) (w' := y) (wanted_none rfl) ?_ (fun t ht => by cases ht; exact rfl) (Below.refl _ _)
                    have ec : ∀ v, a.eval (.const v) = v := fun _ => rfl
                    generalize a.eval = ev at *
                    clear h
                    go_simp
                  exact AllOps.nil
                rintro ⟨tm, df⟩ wE hbE hdE hszE hstE hTE
                have k110 : tm.getD 110 undef = .bool false := ends_at (T := (tabV [(97, .int .i64 (-1)), (98, .bool false), (99, .bool false), (110, .bool false)])) (w := wE) (a := ⟨tm, df⟩) (t := 110) hTE (by kernel_rfl)
                obtain rfl : df = [] := hdE
                clear hTE
                have hF8 := tmps_fold [97, 98, 99, 100, 101, 102, 103, 104, 105, 106, 107, 108, 109, 110] tm _ hszE hstE
                clear hszE hstE
                simp only [List.foldl_cons, List.foldl_nil, k110] at hF8
                clear k110
                generalize tm.getD 97 undef = x97 at hF8
                generalize tm.getD 98 undef = x98 at hF8
                generalize tm.getD 99 undef = x99 at hF8
                generalize tm.getD 100 undef = x100 at hF8
                generalize tm.getD 101 undef = x101 at hF8
                generalize tm.getD 102 undef = x102 at hF8
                generalize tm.getD 103 undef = x103 at hF8
                generalize tm.getD 104 undef = x104 at hF8
                generalize tm.getD 105 undef = x105 at hF8
                generalize tm.getD 106 undef = x106 at hF8
                generalize tm.getD 107 undef = x107 at hF8
                generalize tm.getD 108 undef = x108 at hF8
                generalize tm.getD 109 undef = x109 at hF8
                simp only [List.setIfInBounds_toArray, List.set_cons_zero, List.set_cons_succ] at hF8
                subst hF8
                have HG2 : Hid (Below w11.heap.size w11 wE) := HGI.out.trans (hbE.mono HGI.out.size)
                clear hbE HGI HUX2 hx
                go_wp2_with fail
                go_roundw
                case rel => exact ⟨m + 1, hltm, by go_num, HN.out, HG2.out⟩
                case measure => simp [intOf]; omega
              · obtain ⟨hA, hO⟩ := HA8.out w12 (HBK.out w12 HGI.out)
                obtain ⟨b, off, rfl, s0, s1, s2, s3, s4⟩ := ups_at hA k hk
                have d3 : decide (k < Q.length) = true := decide_eq_true hk
                obtain ⟨y, HYe⟩ : ∃ y, Hid (y = uvD Q k) := ⟨_, rfl⟩
                have hy : UvOk w12 y := by rw [HYe.out]; exact hO _ (uvD_mem Q k hk)
                obtain ⟨t0, ht0⟩ := two_ups y.u x.u
                have HT0 : Hid (t0 = true ↔ y.u = x.u) := ht0
                have HCL : Hid (∀ z, Below w12.heap.size w12 z → Calls Try.prog 6 #[uvVal y, uvVal x] z fun e w' => e = .returned (.bool t0) ∧ Below z.heap.size z w') := fun z hz => by
                  have h1 := hy.below hz
                  have h2 := hx.below hz
                  refine (SameUpdate_any y.u x.u _ _ _ _ _ _ z h1.p h1.s h1.t h2.p h2.s h2.t h1.f h2.f h1.l).mono ?_
                  rintro e w' ⟨t, rfl, ht, hb⟩
                  exact ⟨by rw [Bool.eq_iff_iff.mpr (ht.trans ht0.symm)], hb⟩
                have HU : Hid (∀ z, Below w12.heap.size w12 z → UpIn z b (off + k * 5) y ∧ UpIn z b2 (off2 + m * 5) x) := fun z hz => by
                  rw [HYe.out]
                  exact ⟨⟨cell_below hz s0, cell_below hz s1, cell_below hz s2, cell_below hz s3, cell_below hz s4⟩, (Kc.below hz).up HUX2.out⟩
                have HNY : Hid (y.u = x.u → Waits Q (W.take (m + 1))) := fun h => HNX.out (waits_same HAQ.out hk (by rw [← HYe.out]; exact h))
                clear s0 s1 s2 s3 s4 ht0 HNX HYe hA hO he HUX2
                obtain ⟨xa1, xan1, xac1, xa2, xan2, xac2, xa3, xan3, xac3, e1, e2, e3⟩ := hx.forms
                obtain ⟨ya1, yan1, yac1, ya2, yan2, yac2, ya3, yan3, yac3, e4, e5, e6⟩ := hy.forms
                clear hx hy
                obtain ⟨⟨⟨ua, un⟩, ps, says, ts⟩, vp, vs, vt⟩ := x
                obtain ⟨⟨⟨va, vn⟩, ps2, says2, ts2⟩, vp2, vs2, vt2⟩ := y
                dsimp only at *
                subst e1 e2 e3 e4 e5 e6
                obtain ⟨nt, hnt⟩ : ∃ nt, (!t0) = nt := ⟨_, rfl⟩
                go_upto_region 20 with fail
                refine wp_region_tabA (tabV [(97, .int .i64 k), (98, .bool true), (99, .bool true), (100, .slice (some ⟨b, off, none⟩) Q.length c8), (101, .int .i64 k), (102, .pointer (some ⟨b, off + k * 5, none⟩)), (103, .agg #[.int .i64 va, .int .i64 vn, .slice ya1 yan1 yac1, .slice ya2 yan2 yac2, .slice ya3 yan3 yac3]), (104, .slice (some ⟨b2, off2, none⟩) W.length c11), (105, .int .i64 m), (106, .pointer (some ⟨b2, off2 + m * 5, none⟩)), (107, .agg #[.int .i64 ua, .int .i64 un, .slice xa1 xan1 xac1, .slice xa2 xan2 xac2, .slice xa3 xan3 xac3]), (108, .bool t0), (109, .bool nt), (110, .bool nt)]) (by kernel_rfl) (by kernel_rfl) (tabV_mono _) ?hop20b ?hend20b
                case hop20b =>
                  refine AllOps.cons (fun a y h => ?_) ?_
                  · have e13 : a.eval (.tmp 13) = (.int .i64 k : Value) := h.old 13 (by kernel_rfl)
                    refine opOk_val (v := .int .i64 k) (w' := y) (wanted_none rfl) ?_ (fun t ht => by cases ht; exact rfl) (Below.refl _ _)
                    have ec : ∀ v, a.eval (.const v) = v := fun _ => rfl
                    generalize a.eval = ev at *
                    clear h
                    go_simp
                  refine AllOps.cons (fun a y h => ?_) ?_
                  · have e97 : a.eval (.tmp 97) = (.int .i64 k : Value) := h.of 97 (by kernel_rfl)
                    refine opOk_val (v := .bool true) (w' := y) (wanted_none rfl) ?_ (fun t ht => by cases ht; exact rfl) (Below.refl _ _)
                    have ec : ∀ v, a.eval (.const v) = v := fun _ => rfl
                    generalize a.eval = ev at *
                    clear h
                    go_simp
                  refine AllOps.cons (fun a y h => ?_) ?_
                  · have e98 : a.eval (.tmp 98) = (.bool true : Value) := h.of 98 (by kernel_rfl)
                    refine opOk_val (v := .bool true) (w' := y) (wanted_none rfl) ?_ (fun t ht => by cases ht; exact rfl) (Below.refl _ _)
                    have ec : ∀ v, a.eval (.const v) = v := fun _ => rfl
                    generalize a.eval = ev at *
                    clear h
                    go_simp
                  refine AllOps.cons (fun a y h => ?_) ?_
                  · have e8 : a.eval (.tmp 8) = (.slice (some ⟨b, off, none⟩) Q.length c8 : Value) := h.old 8 (by kernel_rfl)
                    refine opOk_val (v := .slice (some ⟨b, off, none⟩) Q.length c8) (w' := y) (wanted_some (j := 2) (t := 99) (b := true) rfl rfl rfl (h.of 99 (by kernel_rfl))) ?_ (fun t ht => by cases ht; exact rfl) (Below.refl _ _)
                    have ec : ∀ v, a.eval (.const v) = v := fun _ => rfl
                    generalize a.eval = ev at *
                    clear h
                    go_simp
                  refine AllOps.cons (fun a y h => ?_) ?_
                  · have e13 : a.eval (.tmp 13) = (.int .i64 k : Value) := h.old 13 (by kernel_rfl)
                    refine opOk_val (v := .int .i64 k) (w' := y) (wanted_some (j := 2) (t := 99) (b := true) rfl rfl rfl (h.of 99 (by kernel_rfl))) ?_ (fun t ht => by cases ht; exact rfl) (Below.refl _ _)
                    have ec : ∀ v, a.eval (.const v) = v := fun _ => rfl
                    generalize a.eval = ev at *
                    clear h
                    go_simp
                  refine AllOps.cons (fun a y h => ?_) ?_
                  · have e100 : a.eval (.tmp 100) = (.slice (some ⟨b, off, none⟩) Q.length c8 : Value) := h.of 100 (by kernel_rfl)
                    have e101 : a.eval (.tmp 101) = (.int .i64 k : Value) := h.of 101 (by kernel_rfl)
                    refine opOk_val (v := .pointer (some ⟨b, off + k * 5, none⟩)) (w' := y) (wanted_some (j := 2) (t := 99) (b := true) rfl rfl rfl (h.of 99 (by kernel_rfl))) ?_ (fun t ht => by cases ht; exact rfl) (Below.refl _ _)
                    have ec : ∀ v, a.eval (.const v) = v := fun _ => rfl
                    generalize a.eval = ev at *
                    clear h
                    go_simp
                  refine AllOps.cons (fun a y h => ?_) ?_
                  · have e102 : a.eval (.tmp 102) = (.pointer (some ⟨b, off + k * 5, none⟩) : Value) := h.of 102 (by kernel_rfl)
                    obtain ⟨⟨u0, u1, u2, u3, u4⟩, ⟨r0, r1, r2, r3, r4⟩⟩ := HU.out y h.below
                    refine opOk_val (v := .agg #[.int .i64 va, .int .i64 vn, .slice ya1 yan1 yac1, .slice ya2 yan2 yac2, .slice ya3 yan3 yac3]) (w' := y) (wanted_some (j := 2) (t := 99) (b := true) rfl rfl rfl (h.of 99 (by kernel_rfl))) ?_ (fun t ht => by cases ht; exact rfl) (Below.refl _ _)
                    have ec : ∀ v, a.eval (.const v) = v := fun _ => rfl
                    generalize a.eval = ev at *
                    clear h
                    go_simp
                  refine AllOps.cons (fun a y h => ?_) ?_
                  · have e11 : a.eval (.tmp 11) = (.slice (some ⟨b2, off2, none⟩) W.length c11 : Value) := h.old 11 (by kernel_rfl)
                    refine opOk_val (v := .slice (some ⟨b2, off2, none⟩) W.length c11) (w' := y) (wanted_some (j := 2) (t := 99) (b := true) rfl rfl rfl (h.of 99 (by kernel_rfl))) ?_ (fun t ht => by cases ht; exact rfl) (Below.refl _ _)
                    have ec : ∀ v, a.eval (.const v) = v := fun _ => rfl
                    generalize a.eval = ev at *
                    clear h
                    go_simp
                  refine AllOps.cons (fun a y h => ?_) ?_
                  · have e12 : a.eval (.tmp 12) = (.int .i64 m : Value) := h.old 12 (by kernel_rfl)
                    refine opOk_val (v := .int .i64 m) (w' := y) (wanted_some (j := 2) (t := 99) (b := true) rfl rfl rfl (h.of 99 (by kernel_rfl))) ?_ (fun t ht => by cases ht; exact rfl) (Below.refl _ _)
                    have ec : ∀ v, a.eval (.const v) = v := fun _ => rfl
                    generalize a.eval = ev at *
                    clear h
                    go_simp
                  refine AllOps.cons (fun a y h => ?_) ?_
                  · have e104 : a.eval (.tmp 104) = (.slice (some ⟨b2, off2, none⟩) W.length c11 : Value) := h.of 104 (by kernel_rfl)
                    have e105 : a.eval (.tmp 105) = (.int .i64 m : Value) := h.of 105 (by kernel_rfl)
                    refine opOk_val (v := .pointer (some ⟨b2, off2 + m * 5, none⟩)) (w' := y) (wanted_some (j := 2) (t := 99) (b := true) rfl rfl rfl (h.of 99 (by kernel_rfl))) ?_ (fun t ht => by cases ht; exact rfl) (Below.refl _ _)
                    have ec : ∀ v, a.eval (.const v) = v := fun _ => rfl
                    generalize a.eval = ev at *
                    clear h
                    go_simp
                  refine AllOps.cons (fun a y h => ?_) ?_
                  · have e106 : a.eval (.tmp 106) = (.pointer (some ⟨b2, off2 + m * 5, none⟩) : Value) := h.of 106 (by kernel_rfl)
                    obtain ⟨⟨u0, u1, u2, u3, u4⟩, ⟨r0, r1, r2, r3, r4⟩⟩ := HU.out y h.below
                    refine opOk_val (v := .agg #[.int .i64 ua, .int .i64 un, .slice xa1 xan1 xac1, .slice xa2 xan2 xac2, .slice xa3 xan3 xac3]) (w' := y) (wanted_some (j := 2) (t := 99) (b := true) rfl rfl rfl (h.of 99 (by kernel_rfl))) ?_ (fun t ht => by cases ht; exact rfl) (Below.refl _ _)
                    have ec : ∀ v, a.eval (.const v) = v := fun _ => rfl
                    generalize a.eval = ev at *
                    clear h
                    go_simp
                  refine AllOps.cons (fun a y h => ?_) ?_
                  · have e103 : a.eval (.tmp 103) = (.agg #[.int .i64 va, .int .i64 vn, .slice ya1 yan1 yac1, .slice ya2 yan2 yac2, .slice ya3 yan3 yac3] : Value) := h.of 103 (by kernel_rfl)
                    have e107 : a.eval (.tmp 107) = (.agg #[.int .i64 ua, .int .i64 un, .slice xa1 xan1 xac1, .slice xa2 xan2 xac2, .slice xa3 xan3 xac3] : Value) := h.of 107 (by kernel_rfl)
                    refine opOk_call (f := 6) (args := #[.agg #[.int .i64 va, .int .i64 vn, .slice ya1 yan1 yac1, .slice ya2 yan2 yac2, .slice ya3 yan3 yac3], .agg #[.int .i64 ua, .int .i64 un, .slice xa1 xan1 xac1, .slice xa2 xan2 xac2, .slice xa3 xan3 xac3]]) (wanted_some (j := 2) (t := 99) (b := true) rfl rfl rfl (h.of 99 (by kernel_rfl))) ?_ ?_
                    · have ec : ∀ v, a.eval (.const v) = v := fun _ => rfl
                      have ef : ∀ f, a.eval (.func f) = .func (.func f) #[] #[] := fun _ => rfl
                      generalize a.eval = ev at *
                      clear h
                      go_simp
                    · refine (HCL.out y h.below).mono ?_
                      rintro e w' ⟨rfl, hb⟩
                      exact ⟨_, rfl, fun t ht => by cases ht; exact rfl, hb⟩
                  refine AllOps.cons (fun a y h => ?_) ?_
                  · have e108 : a.eval (.tmp 108) = (.bool t0 : Value) := h.of 108 (by kernel_rfl)
                    refine opOk_val (v := .bool nt) (w' := y) (wanted_some (j := 2) (t := 99) (b := true) rfl rfl rfl (h.of 99 (by kernel_rfl))) ?_ (fun t ht => by cases ht; exact rfl) (Below.refl _ _)
                    have ec : ∀ v, a.eval (.const v) = v := fun _ => rfl
                    generalize a.eval = ev at *
                    clear h
                    go_simp
                  refine AllOps.cons (fun a y h => ?_) ?_
                  · have e99 : a.eval (.tmp 99) = (.bool true : Value) := h.of 99 (by kernel_rfl)
                    have e109 : a.eval (.tmp 109) = (.bool nt : Value) := h.of 109 (by kernel_rfl)
                    refine opOk_val (v := .bool nt) (w' := y) (wanted_none rfl) ?_ (fun t ht => by cases ht; exact rfl) (Below.refl _ _)
                    have ec : ∀ v, a.eval (.const v) = v := fun _ => rfl
                    generalize a.eval = ev at *
                    clear h
                    go_simp
                  exact AllOps.nil
                rintro ⟨tm, df⟩ wE hbE hdE hszE hstE hTE
                have k110 : tm.getD 110 undef = .bool nt := ends_at (T := (tabV [(97, .int .i64 k), (98, .bool true), (99, .bool true), (100, .slice (some ⟨b, off, none⟩) Q.length c8), (101, .int .i64 k), (102, .pointer (some ⟨b, off + k * 5, none⟩)), (103, .agg #[.int .i64 va, .int .i64 vn, .slice ya1 yan1 yac1, .slice ya2 yan2 yac2, .slice ya3 yan3 yac3]), (104, .slice (some ⟨b2, off2, none⟩) W.length c11), (105, .int .i64 m), (106, .pointer (some ⟨b2, off2 + m * 5, none⟩)), (107, .agg #[.int .i64 ua, .int .i64 un, .slice xa1 xan1 xac1, .slice xa2 xan2 xac2, .slice xa3 xan3 xac3]), (108, .bool t0), (109, .bool nt), (110, .bool nt)])) (w := wE) (a := ⟨tm, df⟩) (t := 110) hTE (by kernel_rfl)
                obtain rfl : df = [] := hdE
                clear hTE
                have hF8 := tmps_fold [97, 98, 99, 100, 101, 102, 103, 104, 105, 106, 107, 108, 109, 110] tm _ hszE hstE
                clear hszE hstE
                simp only [List.foldl_cons, List.foldl_nil, k110] at hF8
                clear k110
                generalize tm.getD 97 undef = x97 at hF8
                generalize tm.getD 98 undef = x98 at hF8
                generalize tm.getD 99 undef = x99 at hF8
                generalize tm.getD 100 undef = x100 at hF8
                generalize tm.getD 101 undef = x101 at hF8
                generalize tm.getD 102 undef = x102 at hF8
                generalize tm.getD 103 undef = x103 at hF8
                generalize tm.getD 104 undef = x104 at hF8
                generalize tm.getD 105 undef = x105 at hF8
                generalize tm.getD 106 undef = x106 at hF8
                generalize tm.getD 107 undef = x107 at hF8
                generalize tm.getD 108 undef = x108 at hF8
                generalize tm.getD 109 undef = x109 at hF8
                simp only [List.setIfInBounds_toArray, List.set_cons_zero, List.set_cons_succ] at hF8
                subst hF8
                have HG2 : Hid (Below w11.heap.size w11 wE) := HGI.out.trans (hbE.mono HGI.out.size)
                clear hbE HGI HU HCL
                cases nt with
                | true =>
                  have HE9 : Hid (Below w9.heap.size w9 wE) := HBK.out wE HG2.out
                  clear HNY HT0 hnt
                  go_wp2_with fail
                  go_ret
                  exact ⟨rfl, HG9.out.trans (HE9.out.mono HG9.out.size)⟩
                | false =>
                  have HN : Hid _ := HNY.out (HT0.out.mp (by cases t0 <;> simp_all))
                  clear HNY HT0 hnt
                  go_wp2_with fail
                  go_roundw
                  case rel => exact ⟨m + 1, hltm, by go_num, HN.out, HG2.out⟩
                  case measure => simp [intOf]; omega
            · have d2 : decide (m < W.length) = false := decide_eq_false hltm
              have HWQ : Hid (Waits Q W) := by
                have h := HWT.out
                rwa [List.take_of_length_le (by omega)] at h
              clear HWT
              have HF1 : Hid _ := found_all HO1.out HO2.out HQe.out HWe.out HAQ.out HWQ.out HI1.out
              have HF2 : Hid _ := found_all2 HO1.out HO2.out HQe.out HWe.out HAQ.out HWQ.out HI2.out
              have HS9 : Hid (W = [] → ups xh = ups yh ∧ ups xw = ups yw) := fun hW => none_waits HO1.out HO2.out HQe.out HWe.out HAQ.out HWQ.out hW HI1.out HI2.out
              have HG9P : Hid (Below w9.heap.size w9 wr) := HBK.out wr HGR.out
              clear HGR HBK HA11 HO1 HO2 HAQ HWQ HI1 HI2 HQe HWe
              generalize wr = wP at *
              have HXP0 : Hid (∀ z, Below wP.heap.size wP z → z.cell? ⟨w.heap.size, 0, none⟩ = some (.slice ah hq.length ch) ∧ z.cell? ⟨w.heap.size, 1, none⟩ = some (.slice aw wq.length cw) ∧ z.cell? ⟨w.heap.size + 1, 0, none⟩ = some (.slice aj ph.length cj) ∧ z.cell? ⟨w.heap.size + 1, 1, none⟩ = some (.slice ak pw.length ck) ∧ z.cell? ⟨w3.heap.size, 0, none⟩ = some (.slice a1 xh.length c1) ∧ z.cell? ⟨w3.heap.size, 1, none⟩ = some (.slice a2 xw.length c2) ∧ z.cell? ⟨w3.heap.size + 1, 0, none⟩ = some (.slice a3 yh.length c3) ∧ z.cell? ⟨w3.heap.size + 1, 1, none⟩ = some (.slice a4 yw.length c4)) := fun z hz => HX9.out z (HG9P.out.trans (hz.mono HG9P.out.size))
              have HXV0 : Hid _ := fun z (hz : Below wP.heap.size wP z) => HXV.out z (HV9.out z (HG9P.out.trans (hz.mono HG9P.out.size)))
              have HA80 : Hid (∀ z, Below wP.heap.size wP z → UpsAt z a8 Q ∧ ∀ x, x ∈ Q → UvOk z x) := fun z hz => HA8.out z (HG9P.out.trans (hz.mono HG9P.out.size))
              have HGP : Hid (Below w.heap.size w wP) := HG9.out.trans (HG9P.out.mono HG9.out.size)
              clear HX9 HXV HV9 HA8 HG9P HG9 HR HJ
              go_wp2_with fail
              go_loopw [14] (fun iv wr => ∃ i : Nat, i ≤ Q.length ∧ iv = .int .i64 i ∧ Hid (Below wP.heap.size wP wr)) (fun iv _ => Q.length - (intOf iv).toNat)
              case atStart => exact ⟨0, Nat.zero_le _, rfl, Below.refl _ _⟩
              case round =>
                clear hi hlt d1
                obtain ⟨i, hi, rfl, HGR⟩ := hrel
                by_cases hlt : i < Q.length
                · have d1 : decide (i < Q.length) = true := decide_eq_true hlt
                  obtain ⟨hA, hO⟩ := HA80.out wr HGR.out
                  obtain ⟨b, off, rfl, p0, p1, p2, p3, p4⟩ := ups_at hA i hlt
                  obtain ⟨x, HXe⟩ : ∃ x, Hid (x = uvD Q i) := ⟨_, rfl⟩
                  have HOX : Hid (UvOk wr x) := by show UvOk wr x; rw [HXe.out]; exact hO _ (uvD_mem Q i hlt)
                  have HU : Hid (∀ z, Below wr.heap.size wr z → UpIn z b (off + i * 5) x) := fun z hz => by
                    rw [HXe.out]
                    exact ⟨cell_below hz p0, cell_below hz p1, cell_below hz p2, cell_below hz p3, cell_below hz p4⟩
                  have HXQ : Hid (x.u ∈ ups Q) := by show x.u ∈ ups Q; rw [HXe.out]; exact uvD_ups hlt
                  have HE1 : Hid (∀ r, PlaceR xh x.u.id r → ∃ k : Nat, r = k ∧ k < xh.length ∧ (uvD xh k).u = x.u) := HF1.out x.u HXQ.out
                  have HE2 : Hid (∀ r, PlaceR yh x.u.id r → ∃ k : Nat, r = k ∧ k < yh.length ∧ (uvD yh k).u = x.u) := HF2.out x.u HXQ.out
                  have HXP : Hid (∀ z, Below wr.heap.size wr z → z.cell? ⟨w.heap.size, 0, none⟩ = some (.slice ah hq.length ch) ∧ z.cell? ⟨w.heap.size, 1, none⟩ = some (.slice aw wq.length cw) ∧ z.cell? ⟨w.heap.size + 1, 0, none⟩ = some (.slice aj ph.length cj) ∧ z.cell? ⟨w.heap.size + 1, 1, none⟩ = some (.slice ak pw.length ck) ∧ z.cell? ⟨w3.heap.size, 0, none⟩ = some (.slice a1 xh.length c1) ∧ z.cell? ⟨w3.heap.size, 1, none⟩ = some (.slice a2 xw.length c2) ∧ z.cell? ⟨w3.heap.size + 1, 0, none⟩ = some (.slice a3 yh.length c3) ∧ z.cell? ⟨w3.heap.size + 1, 1, none⟩ = some (.slice a4 yw.length c4)) := fun z hz => HXP0.out z (HGR.out.trans (hz.mono HGR.out.size))
                  have HP1 : Hid (∀ z, Below wr.heap.size wr z → Calls Try.prog 7 #[.slice a1 xh.length c1, .agg #[.int .i64 x.u.id.a, .int .i64 x.u.id.n]] z fun e w' => ∃ r : Int, e = .returned (.int .i64 r) ∧ PlaceR xh x.u.id r ∧ Below z.heap.size z w') := fun z hz => PlaceOf_any xh x.u.id _ z (HXV0.out z (HGR.out.trans (hz.mono HGR.out.size))).1.1 (by omega)
                  have HP2 : Hid (∀ z, Below wr.heap.size wr z → Calls Try.prog 7 #[.slice a3 yh.length c3, .agg #[.int .i64 x.u.id.a, .int .i64 x.u.id.n]] z fun e w' => ∃ r : Int, e = .returned (.int .i64 r) ∧ PlaceR yh x.u.id r ∧ Below z.heap.size z w') := fun z hz => PlaceOf_any yh x.u.id _ z (HXV0.out z (HGR.out.trans (hz.mono HGR.out.size))).2.1 (by omega)
                  obtain ⟨xa1, xan1, xac1, xa2, xan2, xac2, xa3, xan3, xac3, e1, e2, e3⟩ := HOX.out.forms
                  clear p0 p1 p2 p3 p4 hA hO HXe HXQ
                  obtain ⟨⟨⟨ua, un⟩, ps, says, ts⟩, vp, vs, vt⟩ := x
                  dsimp only at *
                  subst e1 e2 e3
                  go_upto_region 25 with fail
                  refine wp_region_tabA (mtT25 b (off + i * 5) off Q.length c8 i ua un w3.heap.size (w3.heap.size + 1) a1 c1 a3 c3 xh yh) (by kernel_rfl) (by kernel_rfl) (mtT25_mono _ _ _ _ _ _ _ _ _ _ _ _ _ _ _ _) ?hop25 ?hend25
                  case hop25 =>
                    refine AllOps.cons (fun a y h => ?_) ?_
                    · have e5 : a.eval (.tmp 5) = (.pointer (some ⟨w3.heap.size, 0, none⟩) : Value) := h.old 5 (by kernel_rfl)
                      refine opOk_val (v := .pointer (some ⟨w3.heap.size, 0, none⟩)) (w' := y) (wanted_none rfl) ?_ (fun t ht => by cases ht; exact rfl) (Below.refl _ _)
                      have ec : ∀ v, a.eval (.const v) = v := fun _ => rfl
                      generalize a.eval = ev at *
                      clear h
                      go_simp
                    refine AllOps.cons (fun a y h => ?_) ?_
                    · have e117 : a.eval (.tmp 117) = (.pointer (some ⟨w3.heap.size, 0, none⟩) : Value) := h.of 117 (by kernel_rfl)
                      obtain ⟨x0, x1, x2, x3, x4, x5, x6, x7⟩ := HXP.out y h.below
                      refine opOk_val (v := .slice a1 xh.length c1) (w' := y) (wanted_none rfl) ?_ (fun t ht => by cases ht; exact rfl) (Below.refl _ _)
                      have ec : ∀ v, a.eval (.const v) = v := fun _ => rfl
                      generalize a.eval = ev at *
                      clear h
                      go_simp
                    refine AllOps.cons (fun a y h => ?_) ?_
                    · have e8 : a.eval (.tmp 8) = (.slice (some ⟨b, off, none⟩) Q.length c8 : Value) := h.old 8 (by kernel_rfl)
                      refine opOk_val (v := .slice (some ⟨b, off, none⟩) Q.length c8) (w' := y) (wanted_none rfl) ?_ (fun t ht => by cases ht; exact rfl) (Below.refl _ _)
                      have ec : ∀ v, a.eval (.const v) = v := fun _ => rfl
                      generalize a.eval = ev at *
                      clear h
                      go_simp
                    refine AllOps.cons (fun a y h => ?_) ?_
                    · have e14 : a.eval (.tmp 14) = (.int .i64 i : Value) := h.old 14 (by kernel_rfl)
                      refine opOk_val (v := .int .i64 i) (w' := y) (wanted_none rfl) ?_ (fun t ht => by cases ht; exact rfl) (Below.refl _ _)
                      have ec : ∀ v, a.eval (.const v) = v := fun _ => rfl
                      generalize a.eval = ev at *
                      clear h
                      go_simp
                    refine AllOps.cons (fun a y h => ?_) ?_
                    · have e119 : a.eval (.tmp 119) = (.slice (some ⟨b, off, none⟩) Q.length c8 : Value) := h.of 119 (by kernel_rfl)
                      have e120 : a.eval (.tmp 120) = (.int .i64 i : Value) := h.of 120 (by kernel_rfl)
                      refine opOk_val (v := .pointer (some ⟨b, (off + i * 5), none⟩)) (w' := y) (wanted_none rfl) ?_ (fun t ht => by cases ht; exact rfl) (Below.refl _ _)
                      have ec : ∀ v, a.eval (.const v) = v := fun _ => rfl
                      generalize a.eval = ev at *
                      clear h
                      go_simp
                    refine AllOps.cons (fun a y h => ?_) ?_
                    · have e121 : a.eval (.tmp 121) = (.pointer (some ⟨b, (off + i * 5), none⟩) : Value) := h.of 121 (by kernel_rfl)
                      refine opOk_val (v := .pointer (some ⟨b, (off + i * 5), none⟩)) (w' := y) (wanted_none rfl) ?_ (fun t ht => by cases ht; exact rfl) (Below.refl _ _)
                      have ec : ∀ v, a.eval (.const v) = v := fun _ => rfl
                      generalize a.eval = ev at *
                      clear h
                      go_simp
                    refine AllOps.cons (fun a y h => ?_) ?_
                    · have e122 : a.eval (.tmp 122) = (.pointer (some ⟨b, (off + i * 5), none⟩) : Value) := h.of 122 (by kernel_rfl)
                      obtain ⟨u0, u1, u2, u3, u4⟩ := HU.out y h.below
                      refine opOk_val (v := .agg #[.int .i64 ua, .int .i64 un]) (w' := y) (wanted_none rfl) ?_ (fun t ht => by cases ht; exact rfl) (Below.refl _ _)
                      have ec : ∀ v, a.eval (.const v) = v := fun _ => rfl
                      generalize a.eval = ev at *
                      clear h
                      go_simp
                    refine AllOps.cons (fun a y h => ?_) ?_
                    · have e118 : a.eval (.tmp 118) = (.slice a1 xh.length c1 : Value) := h.of 118 (by kernel_rfl)
                      have e123 : a.eval (.tmp 123) = (.agg #[.int .i64 ua, .int .i64 un] : Value) := h.of 123 (by kernel_rfl)
                      refine opOk_call (f := 7) (args := #[.slice a1 xh.length c1, .agg #[.int .i64 ua, .int .i64 un]]) (wanted_none rfl) ?_ ?_
                      · have ec : ∀ v, a.eval (.const v) = v := fun _ => rfl
                        have ef : ∀ f, a.eval (.func f) = .func (.func f) #[] #[] := fun _ => rfl
                        generalize a.eval = ev at *
                        clear h
                        go_simp
                      · refine (HP1.out y h.below).mono ?_
                        rintro e w' ⟨r, rfl, hp, hb⟩
                        exact ⟨_, rfl, fun t ht => by cases ht; exact ⟨r, rfl, hp⟩, hb⟩
                    refine AllOps.cons (fun a y h => ?_) ?_
                    · have e6 : a.eval (.tmp 6) = (.pointer (some ⟨w3.heap.size + 1, 0, none⟩) : Value) := h.old 6 (by kernel_rfl)
                      refine opOk_val (v := .pointer (some ⟨(w3.heap.size + 1), 0, none⟩)) (w' := y) (wanted_none rfl) ?_ (fun t ht => by cases ht; exact rfl) (Below.refl _ _)
                      have ec : ∀ v, a.eval (.const v) = v := fun _ => rfl
                      generalize a.eval = ev at *
                      clear h
                      go_simp
                    refine AllOps.cons (fun a y h => ?_) ?_
                    · have e125 : a.eval (.tmp 125) = (.pointer (some ⟨(w3.heap.size + 1), 0, none⟩) : Value) := h.of 125 (by kernel_rfl)
                      obtain ⟨x0, x1, x2, x3, x4, x5, x6, x7⟩ := HXP.out y h.below
                      refine opOk_val (v := .slice a3 yh.length c3) (w' := y) (wanted_none rfl) ?_ (fun t ht => by cases ht; exact rfl) (Below.refl _ _)
                      have ec : ∀ v, a.eval (.const v) = v := fun _ => rfl
                      generalize a.eval = ev at *
                      clear h
                      go_simp
                    refine AllOps.cons (fun a y h => ?_) ?_
                    · have e8 : a.eval (.tmp 8) = (.slice (some ⟨b, off, none⟩) Q.length c8 : Value) := h.old 8 (by kernel_rfl)
                      refine opOk_val (v := .slice (some ⟨b, off, none⟩) Q.length c8) (w' := y) (wanted_none rfl) ?_ (fun t ht => by cases ht; exact rfl) (Below.refl _ _)
                      have ec : ∀ v, a.eval (.const v) = v := fun _ => rfl
                      generalize a.eval = ev at *
                      clear h
                      go_simp
                    refine AllOps.cons (fun a y h => ?_) ?_
                    · have e14 : a.eval (.tmp 14) = (.int .i64 i : Value) := h.old 14 (by kernel_rfl)
                      refine opOk_val (v := .int .i64 i) (w' := y) (wanted_none rfl) ?_ (fun t ht => by cases ht; exact rfl) (Below.refl _ _)
                      have ec : ∀ v, a.eval (.const v) = v := fun _ => rfl
                      generalize a.eval = ev at *
                      clear h
                      go_simp
                    refine AllOps.cons (fun a y h => ?_) ?_
                    · have e127 : a.eval (.tmp 127) = (.slice (some ⟨b, off, none⟩) Q.length c8 : Value) := h.of 127 (by kernel_rfl)
                      have e128 : a.eval (.tmp 128) = (.int .i64 i : Value) := h.of 128 (by kernel_rfl)
                      refine opOk_val (v := .pointer (some ⟨b, (off + i * 5), none⟩)) (w' := y) (wanted_none rfl) ?_ (fun t ht => by cases ht; exact rfl) (Below.refl _ _)
                      have ec : ∀ v, a.eval (.const v) = v := fun _ => rfl
                      generalize a.eval = ev at *
                      clear h
                      go_simp
                    refine AllOps.cons (fun a y h => ?_) ?_
                    · have e129 : a.eval (.tmp 129) = (.pointer (some ⟨b, (off + i * 5), none⟩) : Value) := h.of 129 (by kernel_rfl)
                      refine opOk_val (v := .pointer (some ⟨b, (off + i * 5), none⟩)) (w' := y) (wanted_none rfl) ?_ (fun t ht => by cases ht; exact rfl) (Below.refl _ _)
                      have ec : ∀ v, a.eval (.const v) = v := fun _ => rfl
                      generalize a.eval = ev at *
                      clear h
                      go_simp
                    refine AllOps.cons (fun a y h => ?_) ?_
                    · have e130 : a.eval (.tmp 130) = (.pointer (some ⟨b, (off + i * 5), none⟩) : Value) := h.of 130 (by kernel_rfl)
                      obtain ⟨u0, u1, u2, u3, u4⟩ := HU.out y h.below
                      refine opOk_val (v := .agg #[.int .i64 ua, .int .i64 un]) (w' := y) (wanted_none rfl) ?_ (fun t ht => by cases ht; exact rfl) (Below.refl _ _)
                      have ec : ∀ v, a.eval (.const v) = v := fun _ => rfl
                      generalize a.eval = ev at *
                      clear h
                      go_simp
                    refine AllOps.cons (fun a y h => ?_) ?_
                    · have e126 : a.eval (.tmp 126) = (.slice a3 yh.length c3 : Value) := h.of 126 (by kernel_rfl)
                      have e131 : a.eval (.tmp 131) = (.agg #[.int .i64 ua, .int .i64 un] : Value) := h.of 131 (by kernel_rfl)
                      refine opOk_call (f := 7) (args := #[.slice a3 yh.length c3, .agg #[.int .i64 ua, .int .i64 un]]) (wanted_none rfl) ?_ ?_
                      · have ec : ∀ v, a.eval (.const v) = v := fun _ => rfl
                        have ef : ∀ f, a.eval (.func f) = .func (.func f) #[] #[] := fun _ => rfl
                        generalize a.eval = ev at *
                        clear h
                        go_simp
                      · refine (HP2.out y h.below).mono ?_
                        rintro e w' ⟨r, rfl, hp, hb⟩
                        exact ⟨_, rfl, fun t ht => by cases ht; exact ⟨r, rfl, hp⟩, hb⟩
                    refine AllOps.cons (fun a y h => ?_) ?_
                    · have t124 : ∃ r : Int, (a.eval (.tmp 124)) = .int .i64 r ∧ PlaceR xh ⟨ua, un⟩ r := h.of 124 (by kernel_rfl)
                      obtain ⟨r, e124, hp⟩ := t124
                      refine opOk_val (v := .int .i64 r) (w' := y) (wanted_none rfl) ?_ (fun t ht => by cases ht; exact ⟨r, rfl, hp⟩) (Below.refl _ _)
                      have ec : ∀ v, a.eval (.const v) = v := fun _ => rfl
                      generalize a.eval = ev at *
                      clear h
                      go_simp
                    refine AllOps.cons (fun a y h => ?_) ?_
                    · have t132 : ∃ r : Int, (a.eval (.tmp 132)) = .int .i64 r ∧ PlaceR yh ⟨ua, un⟩ r := h.of 132 (by kernel_rfl)
                      obtain ⟨r, e132, hp⟩ := t132
                      refine opOk_val (v := .int .i64 r) (w' := y) (wanted_none rfl) ?_ (fun t ht => by cases ht; exact ⟨r, rfl, hp⟩) (Below.refl _ _)
                      have ec : ∀ v, a.eval (.const v) = v := fun _ => rfl
                      generalize a.eval = ev at *
                      clear h
                      go_simp
                    exact AllOps.nil
                  rintro ⟨tm, df⟩ wE hbE hdE hszE hstE hTE
                  obtain ⟨r1, k15, hp1⟩ : ∃ r : Int, tm.getD 15 undef = .int .i64 r ∧ PlaceR xh ⟨ua, un⟩ r := ends_at (T := (mtT25 b (off + i * 5) off Q.length c8 i ua un w3.heap.size (w3.heap.size + 1) a1 c1 a3 c3 xh yh)) (w := wE) (a := ⟨tm, df⟩) (t := 15) hTE (by kernel_rfl)
                  obtain ⟨r2, k16, hp2⟩ : ∃ r : Int, tm.getD 16 undef = .int .i64 r ∧ PlaceR yh ⟨ua, un⟩ r := ends_at (T := (mtT25 b (off + i * 5) off Q.length c8 i ua un w3.heap.size (w3.heap.size + 1) a1 c1 a3 c3 xh yh)) (w := wE) (a := ⟨tm, df⟩) (t := 16) hTE (by kernel_rfl)
                  obtain ⟨k, rfl, hk1, hxe⟩ := HE1.out r1 hp1
                  obtain ⟨l, rfl, hk2, hye⟩ := HE2.out r2 hp2
                  obtain rfl : df = [] := hdE
                  clear hTE hp1 hp2
                  have hF8 := tmps_fold [117, 118, 119, 120, 121, 122, 123, 124, 125, 126, 127, 128, 129, 130, 131, 132, 15, 16] tm _ hszE hstE
                  clear hszE hstE
                  simp only [List.foldl_cons, List.foldl_nil, k15, k16] at hF8
                  clear k15 k16
                  generalize tm.getD 117 undef = x117 at hF8
                  generalize tm.getD 118 undef = x118 at hF8
                  generalize tm.getD 119 undef = x119 at hF8
                  generalize tm.getD 120 undef = x120 at hF8
                  generalize tm.getD 121 undef = x121 at hF8
                  generalize tm.getD 122 undef = x122 at hF8
                  generalize tm.getD 123 undef = x123 at hF8
                  generalize tm.getD 124 undef = x124 at hF8
                  generalize tm.getD 125 undef = x125 at hF8
                  generalize tm.getD 126 undef = x126 at hF8
                  generalize tm.getD 127 undef = x127 at hF8
                  generalize tm.getD 128 undef = x128 at hF8
                  generalize tm.getD 129 undef = x129 at hF8
                  generalize tm.getD 130 undef = x130 at hF8
                  generalize tm.getD 131 undef = x131 at hF8
                  generalize tm.getD 132 undef = x132 at hF8
                  simp only [List.setIfInBounds_toArray, List.set_cons_zero, List.set_cons_succ] at hF8
                  subst hF8
                  have HGI : Hid (Below wP.heap.size wP wE) := HGR.out.trans (hbE.mono HGR.out.size)
                  have hx : UvOk wE _ := HOX.out.below hbE
                  have HU2 : Hid (∀ z, Below wE.heap.size wE z → UpIn z b (off + i * 5) _) := fun z hz => HU.out z (hbE.trans (hz.mono hbE.size))
                  have HXE : Hid (∀ z, Below wE.heap.size wE z → z.cell? ⟨w.heap.size, 0, none⟩ = some (.slice ah hq.length ch) ∧ z.cell? ⟨w.heap.size, 1, none⟩ = some (.slice aw wq.length cw) ∧ z.cell? ⟨w.heap.size + 1, 0, none⟩ = some (.slice aj ph.length cj) ∧ z.cell? ⟨w.heap.size + 1, 1, none⟩ = some (.slice ak pw.length ck) ∧ z.cell? ⟨w3.heap.size, 0, none⟩ = some (.slice a1 xh.length c1) ∧ z.cell? ⟨w3.heap.size, 1, none⟩ = some (.slice a2 xw.length c2) ∧ z.cell? ⟨w3.heap.size + 1, 0, none⟩ = some (.slice a3 yh.length c3) ∧ z.cell? ⟨w3.heap.size + 1, 1, none⟩ = some (.slice a4 yw.length c4)) := fun z hz => HXP.out z (hbE.trans (hz.mono hbE.size))
                  clear HP1 HP2 HE1 HE2 HU HXP HOX HGR hbE
                  obtain ⟨⟨g1, g2, g3⟩, g4, g5, g6⟩ := HXV0.out wE HGI.out
                  have d3 : decide (k < xh.length) = true := decide_eq_true hk1
                  have d4 : decide (l < yh.length) = true := decide_eq_true hk2
                  obtain ⟨b3, off3, rfl, p0, p1, p2, p3, p4⟩ := ups_at (ups_parts g1).2.1 k hk1
                  obtain ⟨b4, off4, rfl, s0, s1, s2, s3, s4⟩ := ups_at (ups_parts g4).2.1 l hk2
                  have hp := g3 _ (List.mem_append_left _ (uvD_mem xh k hk1))
                  have hr := g6 _ (List.mem_append_left _ (uvD_mem yh l hk2))
                  generalize uvD xh k = p at *
                  generalize uvD yh l = r at *
                  have HC1 : Hid (∀ z, Below wE.heap.size wE z → Calls Try.prog 6 #[uvVal p, uvVal ⟨⟨⟨ua, un⟩, ps, says, ts⟩, .slice xa1 xan1 xac1, .slice xa2 xan2 xac2, .slice xa3 xan3 xac3⟩] z fun e w' => e = .returned (.bool true) ∧ Below z.heap.size z w') := fun z hz => by
                    have h1 := hp.below hz
                    have h2 := hx.below hz
                    refine (SameUpdate_any p.u ⟨⟨ua, un⟩, ps, says, ts⟩ _ _ _ _ _ _ z h1.p h1.s h1.t h2.p h2.s h2.t h1.f h2.f h1.l).mono ?_
                    rintro e w' ⟨t, rfl, ht, hb⟩
                    exact ⟨by rw [ht.mpr hxe], hb⟩
                  have HC2 : Hid (∀ z, Below wE.heap.size wE z → Calls Try.prog 6 #[uvVal r, uvVal ⟨⟨⟨ua, un⟩, ps, says, ts⟩, .slice xa1 xan1 xac1, .slice xa2 xan2 xac2, .slice xa3 xan3 xac3⟩] z fun e w' => e = .returned (.bool true) ∧ Below z.heap.size z w') := fun z hz => by
                    have h1 := hr.below hz
                    have h2 := hx.below hz
                    refine (SameUpdate_any r.u ⟨⟨ua, un⟩, ps, says, ts⟩ _ _ _ _ _ _ z h1.p h1.s h1.t h2.p h2.s h2.t h1.f h2.f h1.l).mono ?_
                    rintro e w' ⟨t, rfl, ht, hb⟩
                    exact ⟨by rw [ht.mpr hye], hb⟩
                  have HUP : Hid (∀ z, Below wE.heap.size wE z → UpIn z b3 (off3 + k * 5) p ∧ UpIn z b4 (off4 + l * 5) r) := fun z hz => ⟨⟨cell_below hz p0, cell_below hz p1, cell_below hz p2, cell_below hz p3, cell_below hz p4⟩, ⟨cell_below hz s0, cell_below hz s1, cell_below hz s2, cell_below hz s3, cell_below hz s4⟩⟩
                  clear g1 g2 g3 g4 g5 g6 p0 p1 p2 p3 p4 s0 s1 s2 s3 s4 hx hxe hye
                  obtain ⟨pa1, pan1, pac1, pa2, pan2, pac2, pa3, pan3, pac3, e1, e2, e3⟩ := hp.forms
                  obtain ⟨ra1, ran1, rac1, ra2, ran2, rac2, ra3, ran3, rac3, e4, e5, e6⟩ := hr.forms
                  clear hp hr
                  obtain ⟨⟨⟨pa, pn⟩, ps2, says2, ts2⟩, vp2, vs2, vt2⟩ := p
                  obtain ⟨⟨⟨ra, rn⟩, ps3, says3, ts3⟩, vp3, vs3, vt3⟩ := r
                  dsimp only at *
                  subst e1 e2 e3 e4 e5 e6
                  go_upto_region 26 with fail
                  refine wp_region_tabA (tabV [(133, .int .i64 k), (134, .bool false), (135, .bool false), (136, .int .i64 l), (137, .bool false), (138, .bool false), (139, .bool false), (140, .pointer (some ⟨w3.heap.size, 0, none⟩)), (141, .slice (some ⟨b3, off3, none⟩) xh.length c1), (142, .int .i64 k), (143, .pointer (some ⟨b3, off3 + k * 5, none⟩)), (144, .agg #[.int .i64 pa, .int .i64 pn, .slice pa1 pan1 pac1, .slice pa2 pan2 pac2, .slice pa3 pan3 pac3]), (145, .slice (some ⟨b, off, none⟩) Q.length c8), (146, .int .i64 i), (147, .pointer (some ⟨b, off + i * 5, none⟩)), (148, .agg #[.int .i64 ua, .int .i64 un, .slice xa1 xan1 xac1, .slice xa2 xan2 xac2, .slice xa3 xan3 xac3]), (149, .bool true), (150, .bool false), (151, .bool false), (152, .bool false), (153, .pointer (some ⟨w3.heap.size + 1, 0, none⟩)), (154, .slice (some ⟨b4, off4, none⟩) yh.length c3), (155, .int .i64 l), (156, .pointer (some ⟨b4, off4 + l * 5, none⟩)), (157, .agg #[.int .i64 ra, .int .i64 rn, .slice ra1 ran1 rac1, .slice ra2 ran2 rac2, .slice ra3 ran3 rac3]), (158, .slice (some ⟨b, off, none⟩) Q.length c8), (159, .int .i64 i), (160, .pointer (some ⟨b, off + i * 5, none⟩)), (161, .agg #[.int .i64 ua, .int .i64 un, .slice xa1 xan1 xac1, .slice xa2 xan2 xac2, .slice xa3 xan3 xac3]), (162, .bool true), (163, .bool false), (164, .bool false)]) (by kernel_rfl) (by kernel_rfl) (tabV_mono _) ?hop26 ?hend26
                  case hop26 =>
                    refine AllOps.cons (fun a y h => ?_) ?_
                    · have e15 : a.eval (.tmp 15) = (.int .i64 k : Value) := h.old 15 (by kernel_rfl)
                      refine opOk_val (v := .int .i64 k) (w' := y) (wanted_none rfl) ?_ (fun t ht => by cases ht; exact rfl) (Below.refl _ _)
                      have ec : ∀ v, a.eval (.const v) = v := fun _ => rfl
                      generalize a.eval = ev at *
                      clear h
                      go_simp
                    refine AllOps.cons (fun a y h => ?_) ?_
                    · have e133 : a.eval (.tmp 133) = (.int .i64 k : Value) := h.of 133 (by kernel_rfl)
                      refine opOk_val (v := .bool false) (w' := y) (wanted_none rfl) ?_ (fun t ht => by cases ht; exact rfl) (Below.refl _ _)
                      have ec : ∀ v, a.eval (.const v) = v := fun _ => rfl
                      generalize a.eval = ev at *
                      clear h
                      go_simp
                    refine AllOps.cons (fun a y h => ?_) ?_
                    · have e134 : a.eval (.tmp 134) = (.bool false : Value) := h.of 134 (by kernel_rfl)
                      refine opOk_val (v := .bool false) (w' := y) (wanted_none rfl) ?_ (fun t ht => by cases ht; exact rfl) (Below.refl _ _)
                      have ec : ∀ v, a.eval (.const v) = v := fun _ => rfl
                      generalize a.eval = ev at *
                      clear h
                      go_simp
                    refine AllOps.cons (fun a y h => ?_) ?_
                    · have e16 : a.eval (.tmp 16) = (.int .i64 l : Value) := h.old 16 (by kernel_rfl)
                      refine opOk_val (v := .int .i64 l) (w' := y) (wanted_some (j := 2) (t := 135) (b := false) rfl rfl rfl (h.of 135 (by kernel_rfl))) ?_ (fun t ht => by cases ht; exact rfl) (Below.refl _ _)
                      have ec : ∀ v, a.eval (.const v) = v := fun _ => rfl
                      generalize a.eval = ev at *
                      clear h
                      go_simp
                    refine AllOps.cons (fun a y h => ?_) ?_
                    · have e136 : a.eval (.tmp 136) = (.int .i64 l : Value) := h.of 136 (by kernel_rfl)
                      refine opOk_val (v := .bool false) (w' := y) (wanted_some (j := 2) (t := 135) (b := false) rfl rfl rfl (h.of 135 (by kernel_rfl))) ?_ (fun t ht => by cases ht; exact rfl) (Below.refl _ _)
                      have ec : ∀ v, a.eval (.const v) = v := fun _ => rfl
                      generalize a.eval = ev at *
                      clear h
                      go_simp
                    refine AllOps.cons (fun a y h => ?_) ?_
                    · have e135 : a.eval (.tmp 135) = (.bool false : Value) := h.of 135 (by kernel_rfl)
                      have e137 : a.eval (.tmp 137) = (.bool false : Value) := h.of 137 (by kernel_rfl)
                      refine opOk_val (v := .bool false) (w' := y) (wanted_none rfl) ?_ (fun t ht => by cases ht; exact rfl) (Below.refl _ _)
                      have ec : ∀ v, a.eval (.const v) = v := fun _ => rfl
                      generalize a.eval = ev at *
                      clear h
                      go_simp
                    refine AllOps.cons (fun a y h => ?_) ?_
                    · have e138 : a.eval (.tmp 138) = (.bool false : Value) := h.of 138 (by kernel_rfl)
                      refine opOk_val (v := .bool false) (w' := y) (wanted_none rfl) ?_ (fun t ht => by cases ht; exact rfl) (Below.refl _ _)
                      have ec : ∀ v, a.eval (.const v) = v := fun _ => rfl
                      generalize a.eval = ev at *
                      clear h
                      go_simp
                    refine AllOps.cons (fun a y h => ?_) ?_
                    · have e5 : a.eval (.tmp 5) = (.pointer (some ⟨w3.heap.size, 0, none⟩) : Value) := h.old 5 (by kernel_rfl)
                      refine opOk_val (v := .pointer (some ⟨w3.heap.size, 0, none⟩)) (w' := y) (wanted_some (j := 6) (t := 139) (b := false) rfl rfl rfl (h.of 139 (by kernel_rfl))) ?_ (fun t ht => by cases ht; exact rfl) (Below.refl _ _)
                      have ec : ∀ v, a.eval (.const v) = v := fun _ => rfl
                      generalize a.eval = ev at *
                      clear h
                      go_simp
                    refine AllOps.cons (fun a y h => ?_) ?_
                    · have e140 : a.eval (.tmp 140) = (.pointer (some ⟨w3.heap.size, 0, none⟩) : Value) := h.of 140 (by kernel_rfl)
                      obtain ⟨x0, x1, x2, x3, x4, x5, x6, x7⟩ := HXE.out y h.below
                      refine opOk_val (v := .slice (some ⟨b3, off3, none⟩) xh.length c1) (w' := y) (wanted_some (j := 6) (t := 139) (b := false) rfl rfl rfl (h.of 139 (by kernel_rfl))) ?_ (fun t ht => by cases ht; exact rfl) (Below.refl _ _)
                      have ec : ∀ v, a.eval (.const v) = v := fun _ => rfl
                      generalize a.eval = ev at *
                      clear h
                      go_simp
                    refine AllOps.cons (fun a y h => ?_) ?_
                    · have e15 : a.eval (.tmp 15) = (.int .i64 k : Value) := h.old 15 (by kernel_rfl)
                      refine opOk_val (v := .int .i64 k) (w' := y) (wanted_some (j := 6) (t := 139) (b := false) rfl rfl rfl (h.of 139 (by kernel_rfl))) ?_ (fun t ht => by cases ht; exact rfl) (Below.refl _ _)
                      have ec : ∀ v, a.eval (.const v) = v := fun _ => rfl
                      generalize a.eval = ev at *
                      clear h
                      go_simp
                    refine AllOps.cons (fun a y h => ?_) ?_
                    · have e141 : a.eval (.tmp 141) = (.slice (some ⟨b3, off3, none⟩) xh.length c1 : Value) := h.of 141 (by kernel_rfl)
                      have e142 : a.eval (.tmp 142) = (.int .i64 k : Value) := h.of 142 (by kernel_rfl)
                      refine opOk_val (v := .pointer (some ⟨b3, off3 + k * 5, none⟩)) (w' := y) (wanted_some (j := 6) (t := 139) (b := false) rfl rfl rfl (h.of 139 (by kernel_rfl))) ?_ (fun t ht => by cases ht; exact rfl) (Below.refl _ _)
                      have ec : ∀ v, a.eval (.const v) = v := fun _ => rfl
                      generalize a.eval = ev at *
                      clear h
                      go_simp
                    refine AllOps.cons (fun a y h => ?_) ?_
                    · have e143 : a.eval (.tmp 143) = (.pointer (some ⟨b3, off3 + k * 5, none⟩) : Value) := h.of 143 (by kernel_rfl)
                      obtain ⟨⟨q0, q1, q2, q3, q4⟩, ⟨r0, r1, r2, r3, r4⟩⟩ := HUP.out y h.below
                      refine opOk_val (v := .agg #[.int .i64 pa, .int .i64 pn, .slice pa1 pan1 pac1, .slice pa2 pan2 pac2, .slice pa3 pan3 pac3]) (w' := y) (wanted_some (j := 6) (t := 139) (b := false) rfl rfl rfl (h.of 139 (by kernel_rfl))) ?_ (fun t ht => by cases ht; exact rfl) (Below.refl _ _)
                      have ec : ∀ v, a.eval (.const v) = v := fun _ => rfl
                      generalize a.eval = ev at *
                      clear h
                      go_simp
                    refine AllOps.cons (fun a y h => ?_) ?_
                    · have e8 : a.eval (.tmp 8) = (.slice (some ⟨b, off, none⟩) Q.length c8 : Value) := h.old 8 (by kernel_rfl)
                      refine opOk_val (v := .slice (some ⟨b, off, none⟩) Q.length c8) (w' := y) (wanted_some (j := 6) (t := 139) (b := false) rfl rfl rfl (h.of 139 (by kernel_rfl))) ?_ (fun t ht => by cases ht; exact rfl) (Below.refl _ _)
                      have ec : ∀ v, a.eval (.const v) = v := fun _ => rfl
                      generalize a.eval = ev at *
                      clear h
                      go_simp
                    refine AllOps.cons (fun a y h => ?_) ?_
                    · have e14 : a.eval (.tmp 14) = (.int .i64 i : Value) := h.old 14 (by kernel_rfl)
                      refine opOk_val (v := .int .i64 i) (w' := y) (wanted_some (j := 6) (t := 139) (b := false) rfl rfl rfl (h.of 139 (by kernel_rfl))) ?_ (fun t ht => by cases ht; exact rfl) (Below.refl _ _)
                      have ec : ∀ v, a.eval (.const v) = v := fun _ => rfl
                      generalize a.eval = ev at *
                      clear h
                      go_simp
                    refine AllOps.cons (fun a y h => ?_) ?_
                    · have e145 : a.eval (.tmp 145) = (.slice (some ⟨b, off, none⟩) Q.length c8 : Value) := h.of 145 (by kernel_rfl)
                      have e146 : a.eval (.tmp 146) = (.int .i64 i : Value) := h.of 146 (by kernel_rfl)
                      refine opOk_val (v := .pointer (some ⟨b, off + i * 5, none⟩)) (w' := y) (wanted_some (j := 6) (t := 139) (b := false) rfl rfl rfl (h.of 139 (by kernel_rfl))) ?_ (fun t ht => by cases ht; exact rfl) (Below.refl _ _)
                      have ec : ∀ v, a.eval (.const v) = v := fun _ => rfl
                      generalize a.eval = ev at *
                      clear h
                      go_simp
                    refine AllOps.cons (fun a y h => ?_) ?_
                    · have e147 : a.eval (.tmp 147) = (.pointer (some ⟨b, off + i * 5, none⟩) : Value) := h.of 147 (by kernel_rfl)
                      obtain ⟨u0, u1, u2, u3, u4⟩ := HU2.out y h.below
                      refine opOk_val (v := .agg #[.int .i64 ua, .int .i64 un, .slice xa1 xan1 xac1, .slice xa2 xan2 xac2, .slice xa3 xan3 xac3]) (w' := y) (wanted_some (j := 6) (t := 139) (b := false) rfl rfl rfl (h.of 139 (by kernel_rfl))) ?_ (fun t ht => by cases ht; exact rfl) (Below.refl _ _)
                      have ec : ∀ v, a.eval (.const v) = v := fun _ => rfl
                      generalize a.eval = ev at *
                      clear h
                      go_simp
                    refine AllOps.cons (fun a y h => ?_) ?_
                    · have e144 : a.eval (.tmp 144) = (.agg #[.int .i64 pa, .int .i64 pn, .slice pa1 pan1 pac1, .slice pa2 pan2 pac2, .slice pa3 pan3 pac3] : Value) := h.of 144 (by kernel_rfl)
                      have e148 : a.eval (.tmp 148) = (.agg #[.int .i64 ua, .int .i64 un, .slice xa1 xan1 xac1, .slice xa2 xan2 xac2, .slice xa3 xan3 xac3] : Value) := h.of 148 (by kernel_rfl)
                      refine opOk_call (f := 6) (args := #[.agg #[.int .i64 pa, .int .i64 pn, .slice pa1 pan1 pac1, .slice pa2 pan2 pac2, .slice pa3 pan3 pac3], .agg #[.int .i64 ua, .int .i64 un, .slice xa1 xan1 xac1, .slice xa2 xan2 xac2, .slice xa3 xan3 xac3]]) (wanted_some (j := 6) (t := 139) (b := false) rfl rfl rfl (h.of 139 (by kernel_rfl))) ?_ ?_
                      · have ec : ∀ v, a.eval (.const v) = v := fun _ => rfl
                        have ef : ∀ f, a.eval (.func f) = .func (.func f) #[] #[] := fun _ => rfl
                        generalize a.eval = ev at *
                        clear h
                        go_simp
                      · refine (HC1.out y h.below).mono ?_
                        rintro e w' ⟨rfl, hb⟩
                        exact ⟨_, rfl, fun t ht => by cases ht; exact rfl, hb⟩
                    refine AllOps.cons (fun a y h => ?_) ?_
                    · have e149 : a.eval (.tmp 149) = (.bool true : Value) := h.of 149 (by kernel_rfl)
                      refine opOk_val (v := .bool false) (w' := y) (wanted_some (j := 6) (t := 139) (b := false) rfl rfl rfl (h.of 139 (by kernel_rfl))) ?_ (fun t ht => by cases ht; exact rfl) (Below.refl _ _)
                      have ec : ∀ v, a.eval (.const v) = v := fun _ => rfl
                      generalize a.eval = ev at *
                      clear h
                      go_simp
                    refine AllOps.cons (fun a y h => ?_) ?_
                    · have e139 : a.eval (.tmp 139) = (.bool false : Value) := h.of 139 (by kernel_rfl)
                      have e150 : a.eval (.tmp 150) = (.bool false : Value) := h.of 150 (by kernel_rfl)
                      refine opOk_val (v := .bool false) (w' := y) (wanted_none rfl) ?_ (fun t ht => by cases ht; exact rfl) (Below.refl _ _)
                      have ec : ∀ v, a.eval (.const v) = v := fun _ => rfl
                      generalize a.eval = ev at *
                      clear h
                      go_simp
                    refine AllOps.cons (fun a y h => ?_) ?_
                    · have e151 : a.eval (.tmp 151) = (.bool false : Value) := h.of 151 (by kernel_rfl)
                      refine opOk_val (v := .bool false) (w' := y) (wanted_none rfl) ?_ (fun t ht => by cases ht; exact rfl) (Below.refl _ _)
                      have ec : ∀ v, a.eval (.const v) = v := fun _ => rfl
                      generalize a.eval = ev at *
                      clear h
                      go_simp
                    refine AllOps.cons (fun a y h => ?_) ?_
                    · have e6 : a.eval (.tmp 6) = (.pointer (some ⟨w3.heap.size + 1, 0, none⟩) : Value) := h.old 6 (by kernel_rfl)
                      refine opOk_val (v := .pointer (some ⟨w3.heap.size + 1, 0, none⟩)) (w' := y) (wanted_some (j := 19) (t := 152) (b := false) rfl rfl rfl (h.of 152 (by kernel_rfl))) ?_ (fun t ht => by cases ht; exact rfl) (Below.refl _ _)
                      have ec : ∀ v, a.eval (.const v) = v := fun _ => rfl
                      generalize a.eval = ev at *
                      clear h
                      go_simp
                    refine AllOps.cons (fun a y h => ?_) ?_
                    · have e153 : a.eval (.tmp 153) = (.pointer (some ⟨w3.heap.size + 1, 0, none⟩) : Value) := h.of 153 (by kernel_rfl)
                      obtain ⟨x0, x1, x2, x3, x4, x5, x6, x7⟩ := HXE.out y h.below
                      refine opOk_val (v := .slice (some ⟨b4, off4, none⟩) yh.length c3) (w' := y) (wanted_some (j := 19) (t := 152) (b := false) rfl rfl rfl (h.of 152 (by kernel_rfl))) ?_ (fun t ht => by cases ht; exact rfl) (Below.refl _ _)
                      have ec : ∀ v, a.eval (.const v) = v := fun _ => rfl
                      generalize a.eval = ev at *
                      clear h
                      go_simp
                    refine AllOps.cons (fun a y h => ?_) ?_
                    · have e16 : a.eval (.tmp 16) = (.int .i64 l : Value) := h.old 16 (by kernel_rfl)
                      refine opOk_val (v := .int .i64 l) (w' := y) (wanted_some (j := 19) (t := 152) (b := false) rfl rfl rfl (h.of 152 (by kernel_rfl))) ?_ (fun t ht => by cases ht; exact rfl) (Below.refl _ _)
                      have ec : ∀ v, a.eval (.const v) = v := fun _ => rfl
                      generalize a.eval = ev at *
                      clear h
                      go_simp
                    refine AllOps.cons (fun a y h => ?_) ?_
                    · have e154 : a.eval (.tmp 154) = (.slice (some ⟨b4, off4, none⟩) yh.length c3 : Value) := h.of 154 (by kernel_rfl)
                      have e155 : a.eval (.tmp 155) = (.int .i64 l : Value) := h.of 155 (by kernel_rfl)
                      refine opOk_val (v := .pointer (some ⟨b4, off4 + l * 5, none⟩)) (w' := y) (wanted_some (j := 19) (t := 152) (b := false) rfl rfl rfl (h.of 152 (by kernel_rfl))) ?_ (fun t ht => by cases ht; exact rfl) (Below.refl _ _)
                      have ec : ∀ v, a.eval (.const v) = v := fun _ => rfl
                      generalize a.eval = ev at *
                      clear h
                      go_simp
                    refine AllOps.cons (fun a y h => ?_) ?_
                    · have e156 : a.eval (.tmp 156) = (.pointer (some ⟨b4, off4 + l * 5, none⟩) : Value) := h.of 156 (by kernel_rfl)
                      obtain ⟨⟨q0, q1, q2, q3, q4⟩, ⟨r0, r1, r2, r3, r4⟩⟩ := HUP.out y h.below
                      refine opOk_val (v := .agg #[.int .i64 ra, .int .i64 rn, .slice ra1 ran1 rac1, .slice ra2 ran2 rac2, .slice ra3 ran3 rac3]) (w' := y) (wanted_some (j := 19) (t := 152) (b := false) rfl rfl rfl (h.of 152 (by kernel_rfl))) ?_ (fun t ht => by cases ht; exact rfl) (Below.refl _ _)
                      have ec : ∀ v, a.eval (.const v) = v := fun _ => rfl
                      generalize a.eval = ev at *
                      clear h
                      go_simp
                    refine AllOps.cons (fun a y h => ?_) ?_
                    · have e8 : a.eval (.tmp 8) = (.slice (some ⟨b, off, none⟩) Q.length c8 : Value) := h.old 8 (by kernel_rfl)
                      refine opOk_val (v := .slice (some ⟨b, off, none⟩) Q.length c8) (w' := y) (wanted_some (j := 19) (t := 152) (b := false) rfl rfl rfl (h.of 152 (by kernel_rfl))) ?_ (fun t ht => by cases ht; exact rfl) (Below.refl _ _)
                      have ec : ∀ v, a.eval (.const v) = v := fun _ => rfl
                      generalize a.eval = ev at *
                      clear h
                      go_simp
                    refine AllOps.cons (fun a y h => ?_) ?_
                    · have e14 : a.eval (.tmp 14) = (.int .i64 i : Value) := h.old 14 (by kernel_rfl)
                      refine opOk_val (v := .int .i64 i) (w' := y) (wanted_some (j := 19) (t := 152) (b := false) rfl rfl rfl (h.of 152 (by kernel_rfl))) ?_ (fun t ht => by cases ht; exact rfl) (Below.refl _ _)
                      have ec : ∀ v, a.eval (.const v) = v := fun _ => rfl
                      generalize a.eval = ev at *
                      clear h
                      go_simp
                    refine AllOps.cons (fun a y h => ?_) ?_
                    · have e158 : a.eval (.tmp 158) = (.slice (some ⟨b, off, none⟩) Q.length c8 : Value) := h.of 158 (by kernel_rfl)
                      have e159 : a.eval (.tmp 159) = (.int .i64 i : Value) := h.of 159 (by kernel_rfl)
                      refine opOk_val (v := .pointer (some ⟨b, off + i * 5, none⟩)) (w' := y) (wanted_some (j := 19) (t := 152) (b := false) rfl rfl rfl (h.of 152 (by kernel_rfl))) ?_ (fun t ht => by cases ht; exact rfl) (Below.refl _ _)
                      have ec : ∀ v, a.eval (.const v) = v := fun _ => rfl
                      generalize a.eval = ev at *
                      clear h
                      go_simp
                    refine AllOps.cons (fun a y h => ?_) ?_
                    · have e160 : a.eval (.tmp 160) = (.pointer (some ⟨b, off + i * 5, none⟩) : Value) := h.of 160 (by kernel_rfl)
                      obtain ⟨u0, u1, u2, u3, u4⟩ := HU2.out y h.below
                      refine opOk_val (v := .agg #[.int .i64 ua, .int .i64 un, .slice xa1 xan1 xac1, .slice xa2 xan2 xac2, .slice xa3 xan3 xac3]) (w' := y) (wanted_some (j := 19) (t := 152) (b := false) rfl rfl rfl (h.of 152 (by kernel_rfl))) ?_ (fun t ht => by cases ht; exact rfl) (Below.refl _ _)
                      have ec : ∀ v, a.eval (.const v) = v := fun _ => rfl
                      generalize a.eval = ev at *
                      clear h
                      go_simp
                    refine AllOps.cons (fun a y h => ?_) ?_
                    · have e157 : a.eval (.tmp 157) = (.agg #[.int .i64 ra, .int .i64 rn, .slice ra1 ran1 rac1, .slice ra2 ran2 rac2, .slice ra3 ran3 rac3] : Value) := h.of 157 (by kernel_rfl)
                      have e161 : a.eval (.tmp 161) = (.agg #[.int .i64 ua, .int .i64 un, .slice xa1 xan1 xac1, .slice xa2 xan2 xac2, .slice xa3 xan3 xac3] : Value) := h.of 161 (by kernel_rfl)
                      refine opOk_call (f := 6) (args := #[.agg #[.int .i64 ra, .int .i64 rn, .slice ra1 ran1 rac1, .slice ra2 ran2 rac2, .slice ra3 ran3 rac3], .agg #[.int .i64 ua, .int .i64 un, .slice xa1 xan1 xac1, .slice xa2 xan2 xac2, .slice xa3 xan3 xac3]]) (wanted_some (j := 19) (t := 152) (b := false) rfl rfl rfl (h.of 152 (by kernel_rfl))) ?_ ?_
                      · have ec : ∀ v, a.eval (.const v) = v := fun _ => rfl
                        have ef : ∀ f, a.eval (.func f) = .func (.func f) #[] #[] := fun _ => rfl
                        generalize a.eval = ev at *
                        clear h
                        go_simp
                      · refine (HC2.out y h.below).mono ?_
                        rintro e w' ⟨rfl, hb⟩
                        exact ⟨_, rfl, fun t ht => by cases ht; exact rfl, hb⟩
                    refine AllOps.cons (fun a y h => ?_) ?_
                    · have e162 : a.eval (.tmp 162) = (.bool true : Value) := h.of 162 (by kernel_rfl)
                      refine opOk_val (v := .bool false) (w' := y) (wanted_some (j := 19) (t := 152) (b := false) rfl rfl rfl (h.of 152 (by kernel_rfl))) ?_ (fun t ht => by cases ht; exact rfl) (Below.refl _ _)
                      have ec : ∀ v, a.eval (.const v) = v := fun _ => rfl
                      generalize a.eval = ev at *
                      clear h
                      go_simp
                    refine AllOps.cons (fun a y h => ?_) ?_
                    · have e152 : a.eval (.tmp 152) = (.bool false : Value) := h.of 152 (by kernel_rfl)
                      have e163 : a.eval (.tmp 163) = (.bool false : Value) := h.of 163 (by kernel_rfl)
                      refine opOk_val (v := .bool false) (w' := y) (wanted_none rfl) ?_ (fun t ht => by cases ht; exact rfl) (Below.refl _ _)
                      have ec : ∀ v, a.eval (.const v) = v := fun _ => rfl
                      generalize a.eval = ev at *
                      clear h
                      go_simp
                    exact AllOps.nil
                  rintro ⟨tm, df⟩ wF hbF hdE hszE hstE hTE
                  have k164 : tm.getD 164 undef = .bool false := ends_at (T := (tabV [(133, .int .i64 k), (134, .bool false), (135, .bool false), (136, .int .i64 l), (137, .bool false), (138, .bool false), (139, .bool false), (140, .pointer (some ⟨w3.heap.size, 0, none⟩)), (141, .slice (some ⟨b3, off3, none⟩) xh.length c1), (142, .int .i64 k), (143, .pointer (some ⟨b3, off3 + k * 5, none⟩)), (144, .agg #[.int .i64 pa, .int .i64 pn, .slice pa1 pan1 pac1, .slice pa2 pan2 pac2, .slice pa3 pan3 pac3]), (145, .slice (some ⟨b, off, none⟩) Q.length c8), (146, .int .i64 i), (147, .pointer (some ⟨b, off + i * 5, none⟩)), (148, .agg #[.int .i64 ua, .int .i64 un, .slice xa1 xan1 xac1, .slice xa2 xan2 xac2, .slice xa3 xan3 xac3]), (149, .bool true), (150, .bool false), (151, .bool false), (152, .bool false), (153, .pointer (some ⟨w3.heap.size + 1, 0, none⟩)), (154, .slice (some ⟨b4, off4, none⟩) yh.length c3), (155, .int .i64 l), (156, .pointer (some ⟨b4, off4 + l * 5, none⟩)), (157, .agg #[.int .i64 ra, .int .i64 rn, .slice ra1 ran1 rac1, .slice ra2 ran2 rac2, .slice ra3 ran3 rac3]), (158, .slice (some ⟨b, off, none⟩) Q.length c8), (159, .int .i64 i), (160, .pointer (some ⟨b, off + i * 5, none⟩)), (161, .agg #[.int .i64 ua, .int .i64 un, .slice xa1 xan1 xac1, .slice xa2 xan2 xac2, .slice xa3 xan3 xac3]), (162, .bool true), (163, .bool false), (164, .bool false)])) (w := wF) (a := ⟨tm, df⟩) (t := 164) hTE (by kernel_rfl)
                  obtain rfl : df = [] := hdE
                  clear hTE
                  have hF8 := tmps_fold [133, 134, 135, 136, 137, 138, 139, 140, 141, 142, 143, 144, 145, 146, 147, 148, 149, 150, 151, 152, 153, 154, 155, 156, 157, 158, 159, 160, 161, 162, 163, 164] tm _ hszE hstE
                  clear hszE hstE
                  simp only [List.foldl_cons, List.foldl_nil, k164] at hF8
                  clear k164
                  generalize tm.getD 133 undef = x133 at hF8
                  generalize tm.getD 134 undef = x134 at hF8
                  generalize tm.getD 135 undef = x135 at hF8
                  generalize tm.getD 136 undef = x136 at hF8
                  generalize tm.getD 137 undef = x137 at hF8
                  generalize tm.getD 138 undef = x138 at hF8
                  generalize tm.getD 139 undef = x139 at hF8
                  generalize tm.getD 140 undef = x140 at hF8
                  generalize tm.getD 141 undef = x141 at hF8
                  generalize tm.getD 142 undef = x142 at hF8
                  generalize tm.getD 143 undef = x143 at hF8
                  generalize tm.getD 144 undef = x144 at hF8
                  generalize tm.getD 145 undef = x145 at hF8
                  generalize tm.getD 146 undef = x146 at hF8
                  generalize tm.getD 147 undef = x147 at hF8
                  generalize tm.getD 148 undef = x148 at hF8
                  generalize tm.getD 149 undef = x149 at hF8
                  generalize tm.getD 150 undef = x150 at hF8
                  generalize tm.getD 151 undef = x151 at hF8
                  generalize tm.getD 152 undef = x152 at hF8
                  generalize tm.getD 153 undef = x153 at hF8
                  generalize tm.getD 154 undef = x154 at hF8
                  generalize tm.getD 155 undef = x155 at hF8
                  generalize tm.getD 156 undef = x156 at hF8
                  generalize tm.getD 157 undef = x157 at hF8
                  generalize tm.getD 158 undef = x158 at hF8
                  generalize tm.getD 159 undef = x159 at hF8
                  generalize tm.getD 160 undef = x160 at hF8
                  generalize tm.getD 161 undef = x161 at hF8
                  generalize tm.getD 162 undef = x162 at hF8
                  generalize tm.getD 163 undef = x163 at hF8
                  simp only [List.setIfInBounds_toArray, List.set_cons_zero, List.set_cons_succ] at hF8
                  subst hF8
                  have HG2 : Hid (Below wP.heap.size wP wF) := HGI.out.trans (hbF.mono HGI.out.size)
                  clear hbF HGI HU2 HXE HC1 HC2 HUP
                  go_wp2_with fail
                  go_roundw
                  case rel => exact ⟨i + 1, hlt, by go_num, HG2.out⟩
                  case measure => simp [intOf]; omega
                · have d1 : decide (i < Q.length) = false := decide_eq_false hlt
                  have HGE : Hid (Below w.heap.size w wr) := HGP.out.trans (HGR.out.mono HGP.out.size)
                  obtain ⟨x0, x1, x2, x3, x4, x5, x6, x7⟩ := HXP0.out wr HGR.out
                  by_cases hW : W = []
                  · have HC : Hid (Calls Try.prog 8 #[.agg #[.slice a1 xh.length c1, .slice a2 xw.length c2], .agg #[.slice a3 yh.length c3, .slice a4 yw.length c4]] wr fun e w' => e = .returned (.bool true) ∧ Below wr.heap.size wr w') := by
                      obtain ⟨⟨g1, g2, g3⟩, g4, g5, g6⟩ := HXV0.out wr HGR.out
                      obtain ⟨e1, e2⟩ := HS9.out hW
                      exact SameReplica_same xh xw yh yw _ _ _ _ wr g1 g2 g4 g5 e1 e2 (by omega) g3 g6
                    have d5 : decide (0 < W.length) = false := by rw [hW]; rfl
                    have d6 : decide ((0 : Int) < (W.length : Int)) = false := by rw [hW]; rfl
                    clear HF1 HF2 HS9 HGR hltm hm d2 HXV0
                    clear hW
                    go_wp2_with fail
                    refine Calls.mono HC.out ?_
                    rintro _ w13 ⟨rfl, hb13⟩
                    have HGF : Hid (Below w.heap.size w w13) := HGE.out.trans (hb13.mono HGE.out.size)
                    clear hb13
                    go_wp2_with fail
                    go_ret
                    exact ⟨rfl, HGF.out⟩
                  · have hpos : 0 < W.length := List.length_pos_iff.mpr hW
                    have d5 : decide (0 < W.length) = true := decide_eq_true hpos
                    have d6 : decide ((0 : Int) < (W.length : Int)) = true := decide_eq_true (by omega)
                    clear HF1 HF2 HS9 HGR HXV0 hW
                    go_wp2_with fail
                    go_ret
                    exact ⟨rfl, HGE.out⟩
end Go.Proofs.Ytmfaodapofamfaa

