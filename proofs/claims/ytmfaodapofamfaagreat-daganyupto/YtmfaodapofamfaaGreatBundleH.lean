/- Own texts, one behind the other (part 8). -/
import Derived.Test.YtmfaodapofamfaaGreatBundleG
import Derived.Test.YtmfaodapofamfaaGreatRows
/- The document's CheckReplica. -/
namespace Go.Proofs.YtmfaodapofamfaaGreat
open Go.RowKit

def ckT13 (X : Nat) (ah : Option Addr) (nh ch b f nq cq i j o p : Nat) (ua un va vn : Int) (r : Int) (tQ : Nat) (vQ : Value) (_ : World) : Prop :=
  match tQ with
  | 45 => vQ = .int .i64 i
  | 46 => vQ = .pointer (some ⟨X, 0, none⟩)
  | 47 => vQ = .slice ah nh ch
  | 48 => vQ = .int .i64 nh
  | 49 => vQ = .bool true
  | 50 => vQ = .bool true
  | 51 => vQ = .slice (some ⟨b, f, none⟩) nq cq
  | 52 => vQ = .int .i64 i
  | 53 => vQ = .int .i64 j
  | 54 => vQ = .pointer (some ⟨b, o, none⟩)
  | 55 => vQ = .pointer (some ⟨b, o, none⟩)
  | 56 => vQ = .agg #[.int .i64 ua, .int .i64 un]
  | 57 => vQ = .slice (some ⟨b, f, none⟩) nq cq
  | 58 => vQ = .int .i64 i
  | 59 => vQ = .pointer (some ⟨b, p, none⟩)
  | 60 => vQ = .pointer (some ⟨b, p, none⟩)
  | 61 => vQ = .agg #[.int .i64 va, .int .i64 vn]
  | 62 => vQ = .int .i64 r
  | 63 => vQ = .bool (decide (0 ≤ r))
  | 64 => vQ = .bool (decide (0 ≤ r))
  | _ => True
theorem ckT13_mono (X : Nat) (ah : Option Addr) (nh ch b f nq cq i j o p : Nat) (ua un va vn : Int) (r : Int) (tQ : Nat) (vQ : Value) (W W' : World) (_ : Below W.heap.size W W') (h : ckT13 X ah nh ch b f nq cq i j o p ua un va vn r tQ vQ W) : ckT13 X ah nh ch b f nq cq i j o p ua un va vn r tQ vQ W' := by
  revert h
  unfold ckT13
  split <;> (intro h; first | exact h)
def ckT18 (X : Nat) (ah : Option Addr) (nh ch : Nat) (aw : Option Addr) (nw cw k b o : Nat) (ua un : Int) (hq : List Uv) (hb9 : Bool) (tQ : Nat) (vQ : Value) (_ : World) : Prop :=
  match tQ with
  | 72 => vQ = .pointer (some ⟨X, 0, none⟩)
  | 73 => vQ = .slice ah nh ch
  | 74 => vQ = .pointer (some ⟨X, 1, none⟩)
  | 75 => vQ = .slice aw nw cw
  | 76 => vQ = .int .i64 k
  | 77 => vQ = .pointer (some ⟨b, o, none⟩)
  | 78 => vQ = .pointer (some ⟨b, o, none⟩)
  | 79 => vQ = .agg #[.int .i64 ua, .int .i64 un]
  | 80 => ∃ r, vQ = .int .i64 r ∧ PlaceR hq ⟨ua, un⟩ r
  | 81 => vQ = .bool hb9
  | _ => True
theorem ckT18_mono (X : Nat) (ah : Option Addr) (nh ch : Nat) (aw : Option Addr) (nw cw k b o : Nat) (ua un : Int) (hq : List Uv) (hb9 : Bool) (tQ : Nat) (vQ : Value) (W W' : World) (_ : Below W.heap.size W W') (h : ckT18 X ah nh ch aw nw cw k b o ua un hq hb9 tQ vQ W) : ckT18 X ah nh ch aw nw cw k b o ua un hq hb9 tQ vQ W' := by
  revert h
  unfold ckT18
  split <;> (intro h; first | exact h)
def ckT23 (X : Nat) (ah : Option Addr) (nh ch : Nat) (k b o : Nat) (ua un : Int) (a1 : Option Addr) (n1 d1 : Nat) (a2 : Option Addr) (n2 d2 : Nat) (a3 : Option Addr) (n3 d3 : Nat) (hb9 : Bool) (tQ : Nat) (vQ : Value) (_ : World) : Prop :=
  match tQ with
  | 89 => vQ = .pointer (some ⟨X, 0, none⟩)
  | 90 => vQ = .slice ah nh ch
  | 91 => vQ = .pointer (some ⟨X, 0, none⟩)
  | 92 => vQ = .slice ah nh ch
  | 93 => vQ = .int .i64 k
  | 94 => vQ = .pointer (some ⟨b, o, none⟩)
  | 95 => vQ = .agg #[.int .i64 ua, .int .i64 un, .slice a1 n1 d1, .slice a2 n2 d2, .slice a3 n3 d3]
  | 96 => vQ = .bool hb9
  | 97 => vQ = .bool (!hb9)
  | _ => True
theorem ckT23_mono (X : Nat) (ah : Option Addr) (nh ch : Nat) (k b o : Nat) (ua un : Int) (a1 : Option Addr) (n1 d1 : Nat) (a2 : Option Addr) (n2 d2 : Nat) (a3 : Option Addr) (n3 d3 : Nat) (hb9 : Bool) (tQ : Nat) (vQ : Value) (W W' : World) (_ : Below W.heap.size W W') (h : ckT23 X ah nh ch k b o ua un a1 n1 d1 a2 n2 d2 a3 n3 d3 hb9 tQ vQ W) : ckT23 X ah nh ch k b o ua un a1 n1 d1 a2 n2 d2 a3 n3 d3 hb9 tQ vQ W' := by
  revert h
  unfold ckT23
  split <;> (intro h; first | exact h)
def ckT30 (X : Nat) (ah : Option Addr) (nh ch : Nat) (aw : Option Addr) (nw cw k b o : Nat) (ua un : Int) (a1 : Option Addr) (n1 d1 : Nat) (a2 : Option Addr) (n2 d2 : Nat) (a3 : Option Addr) (n3 d3 : Nat) (hb9 : Bool) (tQ : Nat) (vQ : Value) (_ : World) : Prop :=
  match tQ with
  | 108 => vQ = .pointer (some ⟨X, 0, none⟩)
  | 109 => vQ = .slice ah nh ch
  | 110 => vQ = .pointer (some ⟨X, 1, none⟩)
  | 111 => vQ = .slice aw nw cw
  | 112 => vQ = .int .i64 k
  | 113 => vQ = .pointer (some ⟨b, o, none⟩)
  | 114 => vQ = .agg #[.int .i64 ua, .int .i64 un, .slice a1 n1 d1, .slice a2 n2 d2, .slice a3 n3 d3]
  | 115 => vQ = .bool hb9
  | _ => True
theorem ckT30_mono (X : Nat) (ah : Option Addr) (nh ch : Nat) (aw : Option Addr) (nw cw k b o : Nat) (ua un : Int) (a1 : Option Addr) (n1 d1 : Nat) (a2 : Option Addr) (n2 d2 : Nat) (a3 : Option Addr) (n3 d3 : Nat) (hb9 : Bool) (tQ : Nat) (vQ : Value) (W W' : World) (_ : Below W.heap.size W W') (h : ckT30 X ah nh ch aw nw cw k b o ua un a1 n1 d1 a2 n2 d2 a3 n3 d3 hb9 tQ vQ W) : ckT30 X ah nh ch aw nw cw k b o ua un a1 n1 d1 a2 n2 d2 a3 n3 d3 hb9 tQ vQ W' := by
  revert h
  unfold ckT30
  split <;> (intro h; first | exact h)

set_option maxRecDepth 100000 in
set_option maxHeartbeats 4000000 in
theorem CheckReplica_any (hq wq : List Uv) (hv wv : Value) (w : World) (hV : UpsV w hv hq) (wV : UpsV w wv wq) (hl : hq.length ≤ 4611686018427387903 ∧ wq.length ≤ 4611686018427387903) (hok : ∀ x, x ∈ hq ++ wq → UvOk w x) :
    Calls Tryz.prog 9 #[repVal hv wv] w fun e w' => e = .returned (.int .i64 (Dg.check (ups hq) (ups wq))) ∧ Below w.heap.size w w' := by
  have HO : Hid (∀ x, x ∈ hq ++ wq → UvOk w x) := hok
  have HHV : Hid (UpsV w hv hq) := hV
  have HWV : Hid (UpsV w wv wq) := wV
  obtain ⟨ah, ch, rfl, hch, _⟩ := hV
  obtain ⟨aw, cw, rfl, hcw, _⟩ := wV
  clear hok
  have HB1 : Hid (Below w.heap.size w (w.alloc (.cells #[.slice ah hq.length ch, .slice aw wq.length cw] 24))) := (Below.refl _ _).alloc (Nat.le_refl _) _
  have HH1 : Hid ((w.alloc (.cells #[.slice ah hq.length ch, .slice aw wq.length cw] 24)).heap[w.heap.size]? = some (.cells #[.slice ah hq.length ch, .slice aw wq.length cw] 24)) := rl_new w _
  have HCH : Hid (ah = none → ch = 0) := hch.2
  have HCW : Hid (aw = none → cw = 0) := hcw.2
  clear hch hcw
  go_enter Tryz.func9, Tryz.ntmps9
  go_upto_region 1 with fail
  generalize w.alloc (.cells #[.slice ah hq.length ch, .slice aw wq.length cw] 24) = w1 at *
  have HF : Hid (∀ z, Below w1.heap.size w1 z → z.cell? ⟨w.heap.size, 0, none⟩ = some (.slice ah hq.length ch) ∧ z.cell? ⟨w.heap.size, 1, none⟩ = some (.slice aw wq.length cw)) := fun z hz => by
    have hh1 := (hz.block _ (Array.getElem?_eq_some_iff.1 HH1.out).1).trans HH1.out
    exact ⟨by rw [Lib.cell_of_heap hh1]; rfl, by rw [Lib.cell_of_heap hh1]; rfl⟩
  obtain ⟨c0, c1⟩ := HF.out w1 (Below.refl _ _)
  have hwr : IntKind.i64.wrap ((hq.length : Int) + (wq.length : Int)) = ((hq.length + wq.length : Nat) : Int) := by
    rw [← Int.natCast_add]
    simp [IntKind.wrap, IntKind.bits, IntKind.signed]
    omega
  by_cases hmany : 200 < hq.length + wq.length
  · have g0 : decide ((200 : Int) < ((hq.length + wq.length : Nat) : Int)) = true := decide_eq_true (by omega)
    have g1 : decide (200 < hq.length + wq.length) = true := decide_eq_true hmany
    have HTG : Hid (Dg.check (ups hq) (ups wq) = 2) := by
      show _ = _
      unfold Dg.check
      rw [ups_length, ups_length, if_pos hmany]
    clear HF HO
    go_wp2_with fail
    go_ret
    exact ⟨by rw [HTG.out]; rfl, HB1.out⟩
  have g0 : decide ((200 : Int) < ((hq.length + wq.length : Nat) : Int)) = false := decide_eq_false (by omega)
  have g1 : decide (200 < hq.length + wq.length) = false := decide_eq_false hmany
  have HTG : Hid (Dg.check (ups hq) (ups wq) = if Dg.first (ups (hq ++ wq)) ≠ 0 then Dg.first (ups (hq ++ wq)) else Dg.together (ups hq) (ups wq)) := by
    show _ = _
    unfold Dg.check
    rw [ups_length, ups_length, if_neg hmany, ups_append]
  obtain ⟨q, HQE⟩ : ∃ q, Hid (q = hq ++ wq) := ⟨_, rfl⟩
  rw [← HQE.out] at HTG
  have HT : Hid (∀ z, Below w1.heap.size w1 z → Below w.heap.size w z) := fun z hz => HB1.out.trans (hz.mono HB1.out.size)
  have HAA : Hid (∀ y : World, Below w1.heap.size w1 y → UpsAt y ah hq ∧ UpsAt y aw wq) := fun y hy => by
    obtain ⟨_, _, e1, _, k1⟩ := HHV.out.kc (Kc.below (HT.out y hy))
    obtain ⟨_, _, e2, _, k2⟩ := HWV.out.kc (Kc.below (HT.out y hy))
    cases e1
    cases e2
    exact ⟨k1, k2⟩
  go_upto_region 3 with fail
  clear hwr g0 g1 hl
  refine wp_region_held_drew (S := (fun y => y.cell? ⟨w.heap.size, 0, none⟩ = some (.slice ah hq.length ch) ∧ y.cell? ⟨w.heap.size, 1, none⟩ = some (.slice aw wq.length cw))) (by kernel_rfl) (by go_keep) (fun hHeld => ?_)
  refine wpAnyH_take (i := 1) (v := ?v1x0) rfl (by kernel_rfl) (by kernel_rfl) (by kernel_rfl) (fun _ _ _ h => h) (Or.inl ⟨by rfl, ?hy1x0⟩) (by assumption) ?_
  case hy1x0 =>
    intro w hSw
    (try dsimp only at hSw)
    go_simp
    try with_reducible rfl
  try simp only [Act.put, List.setIfInBounds_toArray]
  refine wpAnyH_take (i := 2) (v := ?v2x1) rfl (by kernel_rfl) (by kernel_rfl) (by kernel_rfl) (fun _ _ _ h => h) (Or.inl ⟨by rfl, ?hy2x1⟩) (by assumption) ?_
  case hy2x1 =>
    intro w hSw
    (try dsimp only at hSw)
    go_simp
    try with_reducible rfl
  try simp only [Act.put]
  refine wpAnyH_take (i := 4) (v := ?v4x2) rfl (by kernel_rfl) (by kernel_rfl) (by kernel_rfl) (fun _ _ _ h => h) (Or.inl ⟨by rfl, ?hy4x2⟩) (by assumption) ?_
  case hy4x2 =>
    intro w hSw
    (try dsimp only at hSw)
    go_simp
    try with_reducible rfl
  try simp only [Act.put]
  refine wpAnyH_take (i := 5) (v := ?v5x3) rfl (by kernel_rfl) (by kernel_rfl) (by kernel_rfl) (fun _ _ _ h => h) (Or.inl ⟨by rfl, ?hy5x3⟩) (by assumption) ?_
  case hy5x3 =>
    intro w hSw
    (try dsimp only at hSw)
    go_simp
    try with_reducible rfl
  try simp only [Act.put]
  refine wpAnyH_ready (rs := [0]) (by kernel_rfl) (by simp) ?_
  refine AllReadyH.cons rfl (fun K hK => ?_) AllReadyH.nil
  go_simp
  have hby0 : Below w1.heap.size w1 (w1.alloc (.cells #[] 30)).drew := by
    have h2 : Below w1.heap.size w1 (w1.alloc (.cells #[] 30)) := (Below.refl _ _).alloc (Nat.le_refl _) _
    exact ⟨h2.os, h2.tape, h2.output, h2.size, h2.block⟩
  have ho0 : URow (w1.alloc (.cells #[] 30)).drew w1.heap.size (.slice (some ⟨w1.heap.size, 0, none⟩) 0 0) [] := World.ownsRow_made w1 #[] 0 (Nat.le_refl _) (Nat.zero_le _) (by simp)
  refine hK.out _ _ (HF.out _ hby0) (fun hHeld => ?_)
  clear hK K
  generalize (w1.alloc (.cells #[] 30)).drew = y0 at *
  try simp only [Act.put, List.setIfInBounds_toArray, List.set_cons_zero, List.set_cons_succ]
  obtain ⟨v1, y1, r1, o1, g1⟩ := appUps_run (W := w) y0 w1.heap.size hby0.size _ [] ho0 ah ch hq (HAA.out y0 hby0).1 HCH.out (fun x hx => HO.out x (List.mem_append_left _ hx)) (by simp; omega) 22
  have hby1 : Below w1.heap.size w1 y1 := hby0.grown g1 hby0.size (fun k hk => (ho0.lt k hk).1)
  obtain ⟨p1, q1, rfl⟩ := own_slice o1
  simp only [List.nil_append] at o1 r1
  obtain ⟨v2, y2, r2, o2, g2⟩ := appUps_run (W := w) y1 w1.heap.size hby1.size _ hq o1 aw cw wq (HAA.out y1 hby1).2 HCW.out (fun x hx => HO.out x (List.mem_append_right _ hx)) (by omega) 22
  have hby2 : Below w1.heap.size w1 y2 := hby1.grown g2 hby1.size (fun k hk => (o1.lt k hk).1)
  obtain ⟨p2, q2, rfl⟩ := own_slice o2
  refine wpAnyH_ready (rs := [3]) (by kernel_rfl) (by simp) ?_
  refine AllReadyH.cons rfl (fun K hK => ?_) AllReadyH.nil
  rw [if_pos (wanted_none rfl)]
  refine wp_app (.tmp 18) (.tmp 20) 22 rfl rfl rfl r1 ?_
  refine hK.out _ _ (HF.out _ hby1) (fun hHeld => ?_)
  clear hK K
  simp only [Act.put, List.getElem_toArray, List.getElem_cons_succ, List.getElem_cons_zero, List.setIfInBounds_toArray, List.set_cons_succ, List.set_cons_zero]
  refine wpAnyH_ready (rs := [6]) (by kernel_rfl) (by simp) ?_
  refine AllReadyH.cons rfl (fun K hK => ?_) AllReadyH.nil
  rw [if_pos (wanted_none rfl)]
  refine wp_app (.tmp 21) (.tmp 23) 22 rfl rfl rfl r2 ?_
  refine hK.out _ _ (HF.out _ hby2) (fun hHeld => ?_)
  clear hK K
  simp only [Act.put, List.getElem_toArray, List.getElem_cons_succ, List.getElem_cons_zero, List.setIfInBounds_toArray, List.set_cons_succ, List.set_cons_zero]
  refine wpAnyH_take (i := 7) (v := ?v7z0) rfl (by kernel_rfl) (by kernel_rfl) (by kernel_rfl) (fun _ _ _ h => h) (Or.inl ⟨by rfl, ?hy7z0⟩) (by assumption) ?_
  case hy7z0 =>
    intro w hSw
    (try dsimp only at hSw)
    go_simp
    try with_reducible rfl
  simp only [Act.put, List.getElem_toArray, List.getElem_cons_succ, List.getElem_cons_zero, List.setIfInBounds_toArray, List.set_cons_succ, List.set_cons_zero]
  refine wpAnyH_done (by kernel_rfl) ?_ _
  rw [show hq.length + wq.length = (hq ++ wq).length from List.length_append.symm]
  rw [← HQE.out] at o2 ⊢
  have HR2 : Hid (UpsV y2 (.slice p2 q.length q2) q) := own_ups o2
  have HG2 : Hid (Below w1.heap.size w1 y2) := hby2
  clear o1 o2 g1 g2 hby0 hby1 hby2 ho0 r1 r2 hHeld
  generalize y2 = w2 at *

  have hlen : q.length ≤ 200 := by rw [HQE.out, List.length_append]; omega
  have hlh : hq.length ≤ 200 ∧ wq.length ≤ 200 := by omega
  have HQ : Hid (hq.length + wq.length ≤ 200) := by show _ ≤ _; omega
  have HAPP : Hid (∀ z, Below w1.heap.size w1 z → ∀ x, x ∈ q → UvOk z x) := fun z hz x hx => (HO.out x (HQE.out ▸ hx)).below (HT.out z hz)
  have HHK0 : Hid (∀ z, Below w1.heap.size w1 z → UpsV z (.slice ah hq.length ch) hq) := fun z hz => HHV.out.kc (Kc.below (HT.out z hz))
  clear HHV HWV HO hmany HH1 HB1 c0 c1
  go_wp2_with fail
  go_loopw [4] (fun iv wr => ∃ k : Nat, k ≤ q.length ∧ iv = .int .i64 k ∧ Hid (Dg.first (ups q) = Dg.first (ups (q.drop k))) ∧ Hid (Below w2.heap.size w2 wr)) (fun iv _ => q.length - (intOf iv).toNat)
  case atStart => exact ⟨0, Nat.zero_le _, rfl, rfl, Below.refl _ _⟩
  case round =>
    obtain ⟨k, hk, rfl, HR, HG⟩ := hrel
    have HG1 : Hid (Below w1.heap.size w1 wr) := HG2.out.trans (HG.out.mono HG2.out.size)
    by_cases hlt : k < q.length
    · obtain ⟨_, _, e9, _, hA⟩ := HR2.out.kc (Kc.below HG.out)
      cases e9
      obtain ⟨b, off, rfl, d0, d1, d2, d3, d4⟩ := ups_at hA k hlt
      have hx := HAPP.out _ HG1.out _ (uvD_mem q k hlt)
      have HD1 : Hid (Wr.check (uvD q k).u = 0 → Dg.first (ups q) = Dg.first (ups (q.drop (k + 1)))) := fun h => by
        rw [HR.out, uvD_drop q k hlt]
        exact first_step _ _ h
      have HD2 : Hid (¬ Wr.check (uvD q k).u = 0 → Dg.first (ups q) = Wr.check (uvD q k).u) := fun h => by
        rw [HR.out, uvD_drop q k hlt]
        exact first_stop _ _ h
      have HC : Hid (Calls Tryz.prog 10 #[uvVal (uvD q k)] wr fun e w' => e = .returned (.int .i64 (Wr.check (uvD q k).u)) ∧ Below wr.heap.size wr w') :=
        CheckUpdate_any (uvD q k).u _ _ _ wr hx.p hx.s hx.t hx.f hx.l
      obtain ⟨a1, n1, f1, a3, n3, f3, a4, n4, f4, e1, e2, e3⟩ := hx.forms
      clear HR hx hA
      generalize uvD q k = x at *
      generalize Wr.check x.u = ck at *
      obtain ⟨⟨⟨ua, un⟩, ps, says, ts⟩, vp, vs, vt⟩ := x
      dsimp only at *
      subst e1 e2 e3
      by_cases hck : ck = 0
      · have HD3 : Hid _ := HD1.out hck
        subst hck
        go_wp2_with (go_at_call 10; refine Calls.mono HC.out ?_; rintro e z1 ⟨rfl, hg1⟩)
        have HG3 : Hid (Below w2.heap.size w2 z1) := HG.out.trans (hg1.mono HG.out.size)
        go_roundw
        case rel => exact ⟨k + 1, hlt, by go_num, HD3.out, HG3.out⟩
        case measure => simp [intOf]; omega
      · have HD3 : Hid _ := HD2.out hck
        have hne : (ck != 0) = true := by simpa using hck
        have HTG2 : Hid (Dg.check (ups hq) (ups wq) = ck) := by
          show _ = _
          rw [HTG.out, HD3.out, if_pos hck]
        go_wp2_with (go_at_call 10; refine Calls.mono HC.out ?_; rintro e z1 ⟨rfl, hg1⟩)
        go_ret
        exact ⟨by rw [HTG2.out]; rfl, HT.out _ (HG1.out.trans (hg1.mono HG1.out.size))⟩
    · have hdd : decide (k < q.length) = false := decide_eq_false hlt
      have h0 : Dg.first (ups q) = 0 := by
        rw [HR.out, List.drop_of_length_le (by omega)]
        rfl
      have HTG2 : Hid (Dg.check (ups hq) (ups wq) = Dg.together (ups hq) (ups wq)) := by
        show _ = _
        rw [HTG.out, if_neg (fun e => e h0)]
      have HEA : Hid (∀ x, x ∈ q → IdsOk x.u) := fun x hx => idsOk_of (Dg.first_ok.mp h0 x.u (List.mem_map.mpr ⟨x, hx, rfl⟩))
      have HR3 : Hid (∀ z, Below w2.heap.size w2 z → UpsV z (.slice p2 q.length q2) q) := fun z hz => HR2.out.kc (Kc.below hz)
      have HW3 : Hid (Below w2.heap.size w2 wr) := HG.out
      clear HTG HR h0 HR2 HG HG1
      generalize wr = w3 at *
      go_wp2_with fail

      go_loopw [6] (fun iv wr => ∃ i j : Nat, iv = .int .i64 i ∧ Hid (i = j + 1) ∧ i ≤ q.length + 1 ∧ Hid (Dg.Ord q hq.length i) ∧ Hid (Below w2.heap.size w2 wr)) (fun iv _ => q.length + 1 - (intOf iv).toNat)
      case atStart => exact ⟨1, 0, rfl, rfl, by omega, Dg.Ord.one _ _, HW3.out⟩
      case round =>
       clear HW3
       obtain ⟨i, j, rfl, HIJ, hi, HOR, HG⟩ := hrel
       have HG1 : Hid (Below w1.heap.size w1 wr) := HG2.out.trans (HG.out.mono HG2.out.size)
       have HC : Hid (∀ z, Below wr.heap.size wr z → z.cell? ⟨w.heap.size, 0, none⟩ = some (.slice ah hq.length ch) ∧ z.cell? ⟨w.heap.size, 1, none⟩ = some (.slice aw wq.length cw)) := fun z hz => HF.out z (HG1.out.trans (hz.mono HG1.out.size))
       by_cases hlt : i < q.length
       · by_cases hin : i = hq.length
         · have HN : Hid (Dg.Ord q hq.length (i + 1)) := HOR.out.skip hin
           obtain ⟨c0, c1⟩ := HF.out wr HG1.out
           subst hin
           clear HOR HIJ
           go_upto_region 13 with fail
           go_quiet (fail)
           go_wp2_with fail
           go_roundw
           case rel => exact ⟨hq.length + 1, hq.length, by go_num, rfl, by omega, HN.out, HG.out.trans ((blw_drewN wr _).mono HG.out.size)⟩
           case measure => simp [intOf]; omega
         · have g2 : ((i : Int) == (hq.length : Int)) = false := by
             have : ¬ (i : Int) = (hq.length : Int) := by omega
             simpa using this
           have g3 : (i == hq.length) = false := by simpa using hin
           have g4 : (i != hq.length) = true := by simpa using hin
           have g6 : ¬ ((i : Int) = (hq.length : Int)) := by omega
           have hj : j < q.length := by have := HIJ.out; omega
           have hsub : IntKind.i64.wrap ((i : Int) - 1) = (j : Int) := by
             have := HIJ.out
             rw [show (i : Int) - 1 = (j : Int) by omega]
             simp [IntKind.wrap, IntKind.bits, IntKind.signed]
             omega
           obtain ⟨_, _, e9, _, hA⟩ := HR3.out wr HG.out
           cases e9
           obtain ⟨b, off, rfl, p0, p1, _⟩ := ups_at hA j hj
           obtain ⟨b', off', e9, s0, s1, _⟩ := ups_at hA i hlt
           cases e9
           have HU : Hid (∀ z, Below wr.heap.size wr z → z.cell? ⟨b, off + j * 5, none⟩ = some (.int .i64 (uvD q j).u.id.a) ∧ z.cell? ⟨b, off + j * 5 + 1, none⟩ = some (.int .i64 (uvD q j).u.id.n) ∧ z.cell? ⟨b, off + i * 5, none⟩ = some (.int .i64 (uvD q i).u.id.a) ∧ z.cell? ⟨b, off + i * 5 + 1, none⟩ = some (.int .i64 (uvD q i).u.id.n)) := fun z hz => ⟨cell_below hz p0, cell_below hz p1, cell_below hz s0, cell_below hz s1⟩
           have HN : Hid (Wr.idOrd (uvD q j).u.id (uvD q i).u.id < 0 → Dg.Ord q hq.length (i + 1)) := fun h => HOR.out.step HIJ.out h
           have HY : Hid (¬ Wr.idOrd (uvD q j).u.id (uvD q i).u.id < 0 → Dg.check (ups hq) (ups wq) = 4) := fun h => by
             rw [HTG2.out]
             have h2 := HQE.out
             refine Dg.ord_no HIJ.out (h2 ▸ hlt) hin ?_
             rw [← h2]
             exact h
           clear HOR p0 p1 s0 s1 hA hin
           generalize (uvD q j).u.id = x at *
           generalize (uvD q i).u.id = y at *
           obtain ⟨ua, un⟩ := x
           obtain ⟨va, vn⟩ := y
           dsimp only at HU
           obtain ⟨r9, HR9⟩ : ∃ r, Hid (Wr.idOrd ⟨ua, un⟩ ⟨va, vn⟩ = r) := ⟨_, rfl⟩
           rw [HR9.out] at HN HY
           go_upto_region 13 with fail
           refine wp_region_tabA (ckT13 w.heap.size ah hq.length ch b off q.length q2 i j (off + j * 5) (off + i * 5) ua un va vn r9) (by kernel_rfl) (by kernel_rfl) (ckT13_mono _ _ _ _ _ _ _ _ _ _ _ _ _ _ _ _ _) ?hop13 ?hend13
           case hop13 =>
             refine AllOps.cons (fun a y h => ?_) ?_
             · have e6 : a.eval (.tmp 6) = (.int .i64 i : Value) := h.old 6 (by kernel_rfl)
               refine opOk_val (v := .int .i64 i) (w' := y) (wanted_none rfl) ?_ (fun t ht => by cases ht; exact rfl) (Below.refl _ _)
               have ec : ∀ v, a.eval (.const v) = v := fun _ => rfl
               generalize a.eval = ev at *
               clear h
               go_simp
             refine AllOps.cons (fun a y h => ?_) ?_
             · have e1 : a.eval (.tmp 1) = (.pointer (some ⟨w.heap.size, 0, none⟩) : Value) := h.old 1 (by kernel_rfl)
               refine opOk_val (v := .pointer (some ⟨w.heap.size, 0, none⟩)) (w' := y) (wanted_none rfl) ?_ (fun t ht => by cases ht; exact rfl) (Below.refl _ _)
               have ec : ∀ v, a.eval (.const v) = v := fun _ => rfl
               generalize a.eval = ev at *
               clear h
               go_simp
             refine AllOps.cons (fun a y h => ?_) ?_
             · have e46 : a.eval (.tmp 46) = (.pointer (some ⟨w.heap.size, 0, none⟩) : Value) := h.of 46 (by kernel_rfl)
               obtain ⟨c0, c1⟩ := HC.out y h.below
               refine opOk_val (v := .slice ah hq.length ch) (w' := y) (wanted_none rfl) ?_ (fun t ht => by cases ht; exact rfl) (Below.refl _ _)
               have ec : ∀ v, a.eval (.const v) = v := fun _ => rfl
               generalize a.eval = ev at *
               clear h
               go_simp
             refine AllOps.cons (fun a y h => ?_) ?_
             · have e47 : a.eval (.tmp 47) = (.slice ah hq.length ch : Value) := h.of 47 (by kernel_rfl)
               refine opOk_val (v := .int .i64 hq.length) (w' := y) (wanted_none rfl) ?_ (fun t ht => by cases ht; exact rfl) (Below.refl _ _)
               have ec : ∀ v, a.eval (.const v) = v := fun _ => rfl
               generalize a.eval = ev at *
               clear h
               go_simp
             refine AllOps.cons (fun a y h => ?_) ?_
             · have e45 : a.eval (.tmp 45) = (.int .i64 i : Value) := h.of 45 (by kernel_rfl)
               have e48 : a.eval (.tmp 48) = (.int .i64 hq.length : Value) := h.of 48 (by kernel_rfl)
               refine opOk_val (v := .bool true) (w' := y) (wanted_none rfl) ?_ (fun t ht => by cases ht; exact rfl) (Below.refl _ _)
               have ec : ∀ v, a.eval (.const v) = v := fun _ => rfl
               generalize a.eval = ev at *
               clear h
               go_simp
             refine AllOps.cons (fun a y h => ?_) ?_
             · have e49 : a.eval (.tmp 49) = (.bool true : Value) := h.of 49 (by kernel_rfl)
               refine opOk_val (v := .bool true) (w' := y) (wanted_none rfl) ?_ (fun t ht => by cases ht; exact rfl) (Below.refl _ _)
               have ec : ∀ v, a.eval (.const v) = v := fun _ => rfl
               generalize a.eval = ev at *
               clear h
               go_simp
             refine AllOps.cons (fun a y h => ?_) ?_
             · have e3 : a.eval (.tmp 3) = (.slice (some ⟨b, off, none⟩) q.length q2 : Value) := h.old 3 (by kernel_rfl)
               refine opOk_val (v := .slice (some ⟨b, off, none⟩) q.length q2) (w' := y) (wanted_some (j := 5) (t := 50) (b := true) rfl rfl rfl (h.of 50 (by kernel_rfl))) ?_ (fun t ht => by cases ht; exact rfl) (Below.refl _ _)
               have ec : ∀ v, a.eval (.const v) = v := fun _ => rfl
               generalize a.eval = ev at *
               clear h
               go_simp
             refine AllOps.cons (fun a y h => ?_) ?_
             · have e6 : a.eval (.tmp 6) = (.int .i64 i : Value) := h.old 6 (by kernel_rfl)
               refine opOk_val (v := .int .i64 i) (w' := y) (wanted_some (j := 5) (t := 50) (b := true) rfl rfl rfl (h.of 50 (by kernel_rfl))) ?_ (fun t ht => by cases ht; exact rfl) (Below.refl _ _)
               have ec : ∀ v, a.eval (.const v) = v := fun _ => rfl
               generalize a.eval = ev at *
               clear h
               go_simp
             refine AllOps.cons (fun a y h => ?_) ?_
             · have e52 : a.eval (.tmp 52) = (.int .i64 i : Value) := h.of 52 (by kernel_rfl)
               refine opOk_val (v := .int .i64 j) (w' := y) (wanted_some (j := 5) (t := 50) (b := true) rfl rfl rfl (h.of 50 (by kernel_rfl))) ?_ (fun t ht => by cases ht; exact rfl) (Below.refl _ _)
               have ec : ∀ v, a.eval (.const v) = v := fun _ => rfl
               generalize a.eval = ev at *
               clear h
               go_simp
             refine AllOps.cons (fun a y h => ?_) ?_
             · have e51 : a.eval (.tmp 51) = (.slice (some ⟨b, off, none⟩) q.length q2 : Value) := h.of 51 (by kernel_rfl)
               have e53 : a.eval (.tmp 53) = (.int .i64 j : Value) := h.of 53 (by kernel_rfl)
               refine opOk_val (v := .pointer (some ⟨b, off + j * 5, none⟩)) (w' := y) (wanted_some (j := 5) (t := 50) (b := true) rfl rfl rfl (h.of 50 (by kernel_rfl))) ?_ (fun t ht => by cases ht; exact rfl) (Below.refl _ _)
               have ec : ∀ v, a.eval (.const v) = v := fun _ => rfl
               generalize a.eval = ev at *
               clear h
               go_simp
             refine AllOps.cons (fun a y h => ?_) ?_
             · have e54 : a.eval (.tmp 54) = (.pointer (some ⟨b, off + j * 5, none⟩) : Value) := h.of 54 (by kernel_rfl)
               refine opOk_val (v := .pointer (some ⟨b, off + j * 5, none⟩)) (w' := y) (wanted_some (j := 5) (t := 50) (b := true) rfl rfl rfl (h.of 50 (by kernel_rfl))) ?_ (fun t ht => by cases ht; exact rfl) (Below.refl _ _)
               have ec : ∀ v, a.eval (.const v) = v := fun _ => rfl
               generalize a.eval = ev at *
               clear h
               go_simp
             refine AllOps.cons (fun a y h => ?_) ?_
             · have e55 : a.eval (.tmp 55) = (.pointer (some ⟨b, off + j * 5, none⟩) : Value) := h.of 55 (by kernel_rfl)
               obtain ⟨u0, u1, _⟩ := HU.out y h.below
               refine opOk_val (v := .agg #[.int .i64 ua, .int .i64 un]) (w' := y) (wanted_some (j := 5) (t := 50) (b := true) rfl rfl rfl (h.of 50 (by kernel_rfl))) ?_ (fun t ht => by cases ht; exact rfl) (Below.refl _ _)
               have ec : ∀ v, a.eval (.const v) = v := fun _ => rfl
               generalize a.eval = ev at *
               clear h
               go_simp
             refine AllOps.cons (fun a y h => ?_) ?_
             · have e3 : a.eval (.tmp 3) = (.slice (some ⟨b, off, none⟩) q.length q2 : Value) := h.old 3 (by kernel_rfl)
               refine opOk_val (v := .slice (some ⟨b, off, none⟩) q.length q2) (w' := y) (wanted_some (j := 5) (t := 50) (b := true) rfl rfl rfl (h.of 50 (by kernel_rfl))) ?_ (fun t ht => by cases ht; exact rfl) (Below.refl _ _)
               have ec : ∀ v, a.eval (.const v) = v := fun _ => rfl
               generalize a.eval = ev at *
               clear h
               go_simp
             refine AllOps.cons (fun a y h => ?_) ?_
             · have e6 : a.eval (.tmp 6) = (.int .i64 i : Value) := h.old 6 (by kernel_rfl)
               refine opOk_val (v := .int .i64 i) (w' := y) (wanted_some (j := 5) (t := 50) (b := true) rfl rfl rfl (h.of 50 (by kernel_rfl))) ?_ (fun t ht => by cases ht; exact rfl) (Below.refl _ _)
               have ec : ∀ v, a.eval (.const v) = v := fun _ => rfl
               generalize a.eval = ev at *
               clear h
               go_simp
             refine AllOps.cons (fun a y h => ?_) ?_
             · have e57 : a.eval (.tmp 57) = (.slice (some ⟨b, off, none⟩) q.length q2 : Value) := h.of 57 (by kernel_rfl)
               have e58 : a.eval (.tmp 58) = (.int .i64 i : Value) := h.of 58 (by kernel_rfl)
               refine opOk_val (v := .pointer (some ⟨b, off + i * 5, none⟩)) (w' := y) (wanted_some (j := 5) (t := 50) (b := true) rfl rfl rfl (h.of 50 (by kernel_rfl))) ?_ (fun t ht => by cases ht; exact rfl) (Below.refl _ _)
               have ec : ∀ v, a.eval (.const v) = v := fun _ => rfl
               generalize a.eval = ev at *
               clear h
               go_simp
             refine AllOps.cons (fun a y h => ?_) ?_
             · have e59 : a.eval (.tmp 59) = (.pointer (some ⟨b, off + i * 5, none⟩) : Value) := h.of 59 (by kernel_rfl)
               refine opOk_val (v := .pointer (some ⟨b, off + i * 5, none⟩)) (w' := y) (wanted_some (j := 5) (t := 50) (b := true) rfl rfl rfl (h.of 50 (by kernel_rfl))) ?_ (fun t ht => by cases ht; exact rfl) (Below.refl _ _)
               have ec : ∀ v, a.eval (.const v) = v := fun _ => rfl
               generalize a.eval = ev at *
               clear h
               go_simp
             refine AllOps.cons (fun a y h => ?_) ?_
             · have e60 : a.eval (.tmp 60) = (.pointer (some ⟨b, off + i * 5, none⟩) : Value) := h.of 60 (by kernel_rfl)
               obtain ⟨_, _, u0, u1⟩ := HU.out y h.below
               refine opOk_val (v := .agg #[.int .i64 va, .int .i64 vn]) (w' := y) (wanted_some (j := 5) (t := 50) (b := true) rfl rfl rfl (h.of 50 (by kernel_rfl))) ?_ (fun t ht => by cases ht; exact rfl) (Below.refl _ _)
               have ec : ∀ v, a.eval (.const v) = v := fun _ => rfl
               generalize a.eval = ev at *
               clear h
               go_simp
             refine AllOps.cons (fun a y h => ?_) ?_
             · have e56 : a.eval (.tmp 56) = (.agg #[.int .i64 ua, .int .i64 un] : Value) := h.of 56 (by kernel_rfl)
               have e61 : a.eval (.tmp 61) = (.agg #[.int .i64 va, .int .i64 vn] : Value) := h.of 61 (by kernel_rfl)
               refine opOk_call (f := 40) (args := #[.agg #[.int .i64 ua, .int .i64 un], .agg #[.int .i64 va, .int .i64 vn]]) (wanted_some (j := 5) (t := 50) (b := true) rfl rfl rfl (h.of 50 (by kernel_rfl))) ?_ ?_
               · have ec : ∀ v, a.eval (.const v) = v := fun _ => rfl
                 have ef : ∀ f, a.eval (.func f) = .func (.func f) #[] #[] := fun _ => rfl
                 generalize a.eval = ev at *
                 clear h
                 go_simp
               · refine (IdOrder_any ⟨ua, un⟩ ⟨va, vn⟩ y).mono ?_
                 rintro e w' ⟨rfl, hb⟩
                 exact ⟨_, rfl, fun t ht => by cases ht; show Value.int .i64 _ = Value.int .i64 r9; rw [HR9.out], hb.below⟩
             refine AllOps.cons (fun a y h => ?_) ?_
             · have e62 : a.eval (.tmp 62) = (.int .i64 r9 : Value) := h.of 62 (by kernel_rfl)
               refine opOk_val (v := .bool (decide (0 ≤ r9))) (w' := y) (wanted_some (j := 5) (t := 50) (b := true) rfl rfl rfl (h.of 50 (by kernel_rfl))) ?_ (fun t ht => by cases ht; exact rfl) (Below.refl _ _)
               have ec : ∀ v, a.eval (.const v) = v := fun _ => rfl
               generalize a.eval = ev at *
               clear h
               go_simp
             refine AllOps.cons (fun a y h => ?_) ?_
             · have e50 : a.eval (.tmp 50) = (.bool true : Value) := h.of 50 (by kernel_rfl)
               have e63 : a.eval (.tmp 63) = (.bool (decide (0 ≤ r9)) : Value) := h.of 63 (by kernel_rfl)
               refine opOk_val (v := .bool (decide (0 ≤ r9))) (w' := y) (wanted_none rfl) ?_ (fun t ht => by cases ht; exact rfl) (Below.refl _ _)
               have ec : ∀ v, a.eval (.const v) = v := fun _ => rfl
               generalize a.eval = ev at *
               clear h
               go_simp
             exact AllOps.nil
           rintro ⟨tm, df⟩ wE hbE hdE hszE hstE hTE
           have k64 : tm.getD 64 undef = .bool (decide (0 ≤ r9)) := ends_at (T := ckT13 w.heap.size ah hq.length ch b off q.length q2 i j (off + j * 5) (off + i * 5) ua un va vn r9) (w := wE) (a := ⟨tm, df⟩) (t := 64) hTE (by kernel_rfl)
           obtain rfl : df = [] := hdE
           clear hTE
           have hF8 := tmps_fold [45, 46, 47, 48, 49, 50, 51, 52, 53, 54, 55, 56, 57, 58, 59, 60, 61, 62, 63, 64] tm _ hszE hstE
           clear hszE hstE
           simp only [List.foldl_cons, List.foldl_nil, k64] at hF8
           clear k64
           generalize tm.getD 45 undef = x45 at hF8
           generalize tm.getD 46 undef = x46 at hF8
           generalize tm.getD 47 undef = x47 at hF8
           generalize tm.getD 48 undef = x48 at hF8
           generalize tm.getD 49 undef = x49 at hF8
           generalize tm.getD 50 undef = x50 at hF8
           generalize tm.getD 51 undef = x51 at hF8
           generalize tm.getD 52 undef = x52 at hF8
           generalize tm.getD 53 undef = x53 at hF8
           generalize tm.getD 54 undef = x54 at hF8
           generalize tm.getD 55 undef = x55 at hF8
           generalize tm.getD 56 undef = x56 at hF8
           generalize tm.getD 57 undef = x57 at hF8
           generalize tm.getD 58 undef = x58 at hF8
           generalize tm.getD 59 undef = x59 at hF8
           generalize tm.getD 60 undef = x60 at hF8
           generalize tm.getD 61 undef = x61 at hF8
           generalize tm.getD 62 undef = x62 at hF8
           generalize tm.getD 63 undef = x63 at hF8
           simp only [List.setIfInBounds_toArray, List.set_cons_zero, List.set_cons_succ] at hF8
           subst hF8
           have HG3 : Hid (Below w2.heap.size w2 wE) := HG.out.trans (hbE.mono HG.out.size)
           clear hbE HU HC HG HG1
           by_cases hr : 0 ≤ r9
           · have g5 : decide (0 ≤ r9) = true := decide_eq_true hr
             have HE : Hid _ := HY.out (by omega)
             clear HY HN
             go_wp2_with fail
             go_ret
             exact ⟨by rw [HE.out]; rfl, HT.out _ (HG2.out.trans (HG3.out.mono HG2.out.size))⟩
           · have g5 : decide (0 ≤ r9) = false := decide_eq_false hr
             have HE : Hid _ := HN.out (by omega)
             clear HY HN
             go_wp2_with fail
             go_roundw
             case rel => exact ⟨i + 1, i, by go_num, rfl, by omega, HE.out, HG3.out⟩
             case measure => simp [intOf]; omega
       have hdd : decide (i < q.length) = false := decide_eq_false hlt
       have HRS : Hid (Wr.rise Dg.uOrd (ups hq) = true ∧ Wr.rise Dg.uOrd (ups wq) = true) := by
         have h1 := HOR.out
         have h2 := HQE.out
         rw [h2] at h1
         exact h1.fin (h2 ▸ hlt)
       have HW4 : Hid (Below w2.heap.size w2 wr) := HG.out
       clear HOR HIJ HC HG HG1 HR3
       generalize wr = w4 at *
       go_wp2_with fail
       go_loopw [7] (fun iv wr => ∃ k : Nat, k ≤ wq.length ∧ iv = .int .i64 k ∧ Hid (∀ u, u ∈ ups (wq.take k) → Dg.hasU (ups hq) u.id = false) ∧ Hid (Below w2.heap.size w2 wr)) (fun iv _ => wq.length - (intOf iv).toNat)
       case atStart => exact ⟨0, Nat.zero_le _, rfl, (fun u hu => by simp [ups] at hu), HW4.out⟩
       case round =>
        clear HW4
        obtain ⟨k, hk, rfl, HP, HG⟩ := hrel
        have HG1 : Hid (Below w1.heap.size w1 wr) := HG2.out.trans (HG.out.mono HG2.out.size)
        have HC : Hid (∀ z, Below wr.heap.size wr z → z.cell? ⟨w.heap.size, 0, none⟩ = some (.slice ah hq.length ch) ∧ z.cell? ⟨w.heap.size, 1, none⟩ = some (.slice aw wq.length cw)) := fun z hz => HF.out z (HG1.out.trans (hz.mono HG1.out.size))
        obtain ⟨c0, c1⟩ := HF.out wr HG1.out
        have HHK : Hid (∀ z, Below wr.heap.size wr z → UpsV z (.slice ah hq.length ch) hq) := fun z hz => HHK0.out z (HG1.out.trans (hz.mono HG1.out.size))
        by_cases hlt : k < wq.length
        · obtain ⟨b, off, rfl, p0, p1, _⟩ := ups_at (HAA.out wr HG1.out).2 k hlt
          have HU : Hid (∀ z, Below wr.heap.size wr z → z.cell? ⟨b, off + k * 5, none⟩ = some (.int .i64 (uvD wq k).u.id.a) ∧ z.cell? ⟨b, off + k * 5 + 1, none⟩ = some (.int .i64 (uvD wq k).u.id.n)) := fun z hz => ⟨cell_below hz p0, cell_below hz p1⟩
          have HN : Hid (Dg.hasU (ups hq) (uvD wq k).u.id = false → ∀ u, u ∈ ups (wq.take (k + 1)) → Dg.hasU (ups hq) u.id = false) := fun h => take_mem (p := fun u => Dg.hasU (ups hq) u.id = false) hlt HP.out h
          have HY : Hid (Dg.hasU (ups hq) (uvD wq k).u.id = true → Dg.check (ups hq) (ups wq) = 4) := fun h => HTG2.out.trans (Dg.tog_both ⟨_, List.mem_map.mpr ⟨_, uvD_mem wq k hlt, rfl⟩, h⟩)
          clear HP p0 p1
          generalize (uvD wq k).u.id = x at *
          obtain ⟨ua, un⟩ := x
          dsimp only at HU
          obtain ⟨hb9, HB9⟩ : ∃ b, Hid (b = Dg.hasU (ups hq) ⟨ua, un⟩) := ⟨_, rfl⟩
          rw [← HB9.out] at HN HY
          go_upto_region 18 with fail
          refine wp_region_tabA (ckT18 w.heap.size ah hq.length ch (some ⟨b, off, none⟩) wq.length cw k b (off + k * 5) ua un hq hb9) (by kernel_rfl) (by kernel_rfl) (ckT18_mono _ _ _ _ _ _ _ _ _ _ _ _ _ _) ?hop18 ?hend18
          case hop18 =>
            refine AllOps.cons (fun a y h => ?_) ?_
            · have e1 : a.eval (.tmp 1) = (.pointer (some ⟨w.heap.size, 0, none⟩) : Value) := h.old 1 (by kernel_rfl)
              refine opOk_val (v := .pointer (some ⟨w.heap.size, 0, none⟩)) (w' := y) (wanted_none rfl) ?_ (fun t ht => by cases ht; exact rfl) (Below.refl _ _)
              have ec : ∀ v, a.eval (.const v) = v := fun _ => rfl
              generalize a.eval = ev at *
              clear h
              go_simp
            refine AllOps.cons (fun a y h => ?_) ?_
            · have e72 : a.eval (.tmp 72) = (.pointer (some ⟨w.heap.size, 0, none⟩) : Value) := h.of 72 (by kernel_rfl)
              obtain ⟨c0, c1⟩ := HC.out y h.below
              refine opOk_val (v := .slice ah hq.length ch) (w' := y) (wanted_none rfl) ?_ (fun t ht => by cases ht; exact rfl) (Below.refl _ _)
              have ec : ∀ v, a.eval (.const v) = v := fun _ => rfl
              generalize a.eval = ev at *
              clear h
              go_simp
            refine AllOps.cons (fun a y h => ?_) ?_
            · have e1 : a.eval (.tmp 1) = (.pointer (some ⟨w.heap.size, 0, none⟩) : Value) := h.old 1 (by kernel_rfl)
              refine opOk_val (v := .pointer (some ⟨w.heap.size, 1, none⟩)) (w' := y) (wanted_none rfl) ?_ (fun t ht => by cases ht; exact rfl) (Below.refl _ _)
              have ec : ∀ v, a.eval (.const v) = v := fun _ => rfl
              generalize a.eval = ev at *
              clear h
              go_simp
            refine AllOps.cons (fun a y h => ?_) ?_
            · have e74 : a.eval (.tmp 74) = (.pointer (some ⟨w.heap.size, 1, none⟩) : Value) := h.of 74 (by kernel_rfl)
              obtain ⟨c0, c1⟩ := HC.out y h.below
              refine opOk_val (v := .slice (some ⟨b, off, none⟩) wq.length cw) (w' := y) (wanted_none rfl) ?_ (fun t ht => by cases ht; exact rfl) (Below.refl _ _)
              have ec : ∀ v, a.eval (.const v) = v := fun _ => rfl
              generalize a.eval = ev at *
              clear h
              go_simp
            refine AllOps.cons (fun a y h => ?_) ?_
            · have e7 : a.eval (.tmp 7) = (.int .i64 k : Value) := h.old 7 (by kernel_rfl)
              refine opOk_val (v := .int .i64 k) (w' := y) (wanted_none rfl) ?_ (fun t ht => by cases ht; exact rfl) (Below.refl _ _)
              have ec : ∀ v, a.eval (.const v) = v := fun _ => rfl
              generalize a.eval = ev at *
              clear h
              go_simp
            refine AllOps.cons (fun a y h => ?_) ?_
            · have e75 : a.eval (.tmp 75) = (.slice (some ⟨b, off, none⟩) wq.length cw : Value) := h.of 75 (by kernel_rfl)
              have e76 : a.eval (.tmp 76) = (.int .i64 k : Value) := h.of 76 (by kernel_rfl)
              refine opOk_val (v := .pointer (some ⟨b, off + k * 5, none⟩)) (w' := y) (wanted_none rfl) ?_ (fun t ht => by cases ht; exact rfl) (Below.refl _ _)
              have ec : ∀ v, a.eval (.const v) = v := fun _ => rfl
              generalize a.eval = ev at *
              clear h
              go_simp
            refine AllOps.cons (fun a y h => ?_) ?_
            · have e77 : a.eval (.tmp 77) = (.pointer (some ⟨b, off + k * 5, none⟩) : Value) := h.of 77 (by kernel_rfl)
              refine opOk_val (v := .pointer (some ⟨b, off + k * 5, none⟩)) (w' := y) (wanted_none rfl) ?_ (fun t ht => by cases ht; exact rfl) (Below.refl _ _)
              have ec : ∀ v, a.eval (.const v) = v := fun _ => rfl
              generalize a.eval = ev at *
              clear h
              go_simp
            refine AllOps.cons (fun a y h => ?_) ?_
            · have e78 : a.eval (.tmp 78) = (.pointer (some ⟨b, off + k * 5, none⟩) : Value) := h.of 78 (by kernel_rfl)
              obtain ⟨u0, u1⟩ := HU.out y h.below
              refine opOk_val (v := .agg #[.int .i64 ua, .int .i64 un]) (w' := y) (wanted_none rfl) ?_ (fun t ht => by cases ht; exact rfl) (Below.refl _ _)
              have ec : ∀ v, a.eval (.const v) = v := fun _ => rfl
              generalize a.eval = ev at *
              clear h
              go_simp
            refine AllOps.cons (fun a y h => ?_) ?_
            · have e73 : a.eval (.tmp 73) = (.slice ah hq.length ch : Value) := h.of 73 (by kernel_rfl)
              have e79 : a.eval (.tmp 79) = (.agg #[.int .i64 ua, .int .i64 un] : Value) := h.of 79 (by kernel_rfl)
              refine opOk_call (f := 19) (args := #[.slice ah hq.length ch, .agg #[.int .i64 ua, .int .i64 un]]) (wanted_none rfl) ?_ ?_
              · have ec : ∀ v, a.eval (.const v) = v := fun _ => rfl
                have ef : ∀ f, a.eval (.func f) = .func (.func f) #[] #[] := fun _ => rfl
                generalize a.eval = ev at *
                clear h
                go_simp
              · refine (PlaceOf_any hq ⟨ua, un⟩ _ y (HHK.out y h.below) (by omega)).mono ?_
                rintro e w' ⟨r, rfl, hr, hb⟩
                exact ⟨_, rfl, fun t ht => by cases ht; exact ⟨r, rfl, hr⟩, hb⟩
            refine AllOps.cons (fun a y h => ?_) ?_
            · have t80 : ∃ r, (a.eval (.tmp 80)) = .int .i64 r ∧ PlaceR hq ⟨ua, un⟩ r := h.of 80 (by kernel_rfl)
              obtain ⟨r, e80, hr⟩ := t80
              refine opOk_val (v := .bool (decide (0 ≤ r))) (w' := y) (wanted_none rfl) ?_ (fun t ht => by cases ht; exact (by show Value.bool _ = Value.bool hb9; rw [HB9.out, hr.pos])) (Below.refl _ _)
              have ec : ∀ v, a.eval (.const v) = v := fun _ => rfl
              generalize a.eval = ev at *
              clear h
              go_simp
            exact AllOps.nil
          rintro ⟨tm, df⟩ wE hbE hdE hszE hstE hTE
          have k81 : tm.getD 81 undef = .bool hb9 := ends_at (T := ckT18 w.heap.size ah hq.length ch (some ⟨b, off, none⟩) wq.length cw k b (off + k * 5) ua un hq hb9) (w := wE) (a := ⟨tm, df⟩) (t := 81) hTE (by kernel_rfl)
          obtain rfl : df = [] := hdE
          clear hTE
          have hF8 := tmps_fold [72, 73, 74, 75, 76, 77, 78, 79, 80, 81] tm _ hszE hstE
          clear hszE hstE
          simp only [List.foldl_cons, List.foldl_nil, k81] at hF8
          clear k81
          generalize tm.getD 72 undef = x72 at hF8
          generalize tm.getD 73 undef = x73 at hF8
          generalize tm.getD 74 undef = x74 at hF8
          generalize tm.getD 75 undef = x75 at hF8
          generalize tm.getD 76 undef = x76 at hF8
          generalize tm.getD 77 undef = x77 at hF8
          generalize tm.getD 78 undef = x78 at hF8
          generalize tm.getD 79 undef = x79 at hF8
          generalize tm.getD 80 undef = x80 at hF8
          simp only [List.setIfInBounds_toArray, List.set_cons_zero, List.set_cons_succ] at hF8
          subst hF8
          have HG3 : Hid (Below w2.heap.size w2 wE) := HG.out.trans (hbE.mono HG.out.size)
          clear hbE HU HC HG HG1 c0 c1 HHK
          cases hb9
          · have HE : Hid _ := HN.out rfl
            clear HN HY HB9
            go_wp2_with fail
            go_roundw
            case rel => exact ⟨k + 1, hlt, by go_num, HE.out, HG3.out⟩
            case measure => simp [intOf]; omega
          · have HE : Hid _ := HY.out rfl
            clear HN HY HB9
            go_wp2_with fail
            go_ret
            exact ⟨by rw [HE.out]; rfl, HT.out _ (HG2.out.trans (HG3.out.mono HG2.out.size))⟩
        have hdd : decide (k < wq.length) = false := decide_eq_false hlt
        have HAP : Hid (∀ u, u ∈ ups wq → Dg.hasU (ups hq) u.id = false) := take_all (p := fun u => Dg.hasU (ups hq) u.id = false) hlt HP.out
        have HW5 : Hid (Below w2.heap.size w2 wr) := HG.out
        go_wp2_with fail
        clear HP HC HG HG1 c0 c1 HHK
        generalize wr = w5 at *
        go_loopw [8] (fun iv wr => ∃ k : Nat, k ≤ hq.length ∧ iv = .int .i64 k ∧ Hid (∀ u, u ∈ ups (hq.take k) → Dg.carry (ups hq) u = true) ∧ Hid (Below w2.heap.size w2 wr)) (fun iv _ => hq.length - (intOf iv).toNat)
        case atStart => exact ⟨0, Nat.zero_le _, rfl, (fun u hu => by simp [ups] at hu), HW5.out⟩
        case round =>
         clear HW5
         obtain ⟨k, hk, rfl, HP, HG⟩ := hrel
         have HG1 : Hid (Below w1.heap.size w1 wr) := HG2.out.trans (HG.out.mono HG2.out.size)
         have HC : Hid (∀ z, Below wr.heap.size wr z → z.cell? ⟨w.heap.size, 0, none⟩ = some (.slice ah hq.length ch) ∧ z.cell? ⟨w.heap.size, 1, none⟩ = some (.slice aw wq.length cw)) := fun z hz => HF.out z (HG1.out.trans (hz.mono HG1.out.size))
         obtain ⟨c0, c1⟩ := HF.out wr HG1.out
         have HHK : Hid (∀ z, Below wr.heap.size wr z → UpsV z (.slice ah hq.length ch) hq) := fun z hz => HHK0.out z (HG1.out.trans (hz.mono HG1.out.size))
         by_cases hlt : k < hq.length
         · obtain ⟨b, off, rfl, p0, p1, p2, p3, p4⟩ := ups_at (HAA.out wr HG1.out).1 k hlt
           have hmem : uvD hq k ∈ q := by rw [HQE.out]; exact List.mem_append_left _ (uvD_mem hq k hlt)
           have hx := HAPP.out wr HG1.out _ hmem
           have hxi := HEA.out _ hmem
           have HN : Hid (Dg.carry (ups hq) (uvD hq k).u = true → ∀ u, u ∈ ups (hq.take (k + 1)) → Dg.carry (ups hq) u = true) := fun h => take_mem (p := fun u => Dg.carry (ups hq) u = true) hlt HP.out h
           have HY : Hid (Dg.carry (ups hq) (uvD hq k).u = false → Dg.check (ups hq) (ups wq) = 5) := fun h => HTG2.out.trans (Dg.tog_none HRS.out HAP.out ⟨_, List.mem_map.mpr ⟨_, uvD_mem hq k hlt, rfl⟩, h⟩)
           clear HP hmem
           obtain ⟨hb9, HB9⟩ : ∃ b, Hid (b = Dg.carry (ups hq) (uvD hq k).u) := ⟨_, rfl⟩
           rw [← HB9.out] at HN HY
           have HRD : Hid (∀ z, Below wr.heap.size wr z → Calls Tryz.prog 41 #[.slice (some ⟨b, off, none⟩) hq.length ch, uvVal (uvD hq k)] z fun e w' => e = .returned (.bool (Dg.carry (ups hq) (uvD hq k).u)) ∧ Below z.heap.size z w') := fun z hz => IsReady_any hq _ _ z (HHK.out z hz) (by omega) (hx.below hz) ⟨hxi.lp, hxi.lt⟩
           have HU : Hid (∀ z, Below wr.heap.size wr z → UpIn z b (off + k * 5) (uvD hq k)) := fun z hz => ⟨cell_below hz p0, cell_below hz p1, cell_below hz p2, cell_below hz p3, cell_below hz p4⟩
           obtain ⟨a1, n1, d1, a2, n2, d2, a3, n3, d3, e1, e2, e3⟩ := hx.forms
           clear hx hxi p0 p1 p2 p3 p4
           generalize uvD hq k = x at *
           obtain ⟨⟨⟨ua, un⟩, ps, says, ts⟩, vp, vs, vt⟩ := x
           dsimp only at *
           subst e1 e2 e3
           go_upto_region 23 with fail
           refine wp_region_tabA (ckT23 w.heap.size (some ⟨b, off, none⟩) hq.length ch k b (off + k * 5) ua un a1 n1 d1 a2 n2 d2 a3 n3 d3 hb9) (by kernel_rfl) (by kernel_rfl) (ckT23_mono _ _ _ _ _ _ _ _ _ _ _ _ _ _ _ _ _ _ _) ?hop23 ?hend23
           case hop23 =>
             refine AllOps.cons (fun a y h => ?_) ?_
             · have e1 : a.eval (.tmp 1) = (.pointer (some ⟨w.heap.size, 0, none⟩) : Value) := h.old 1 (by kernel_rfl)
               refine opOk_val (v := .pointer (some ⟨w.heap.size, 0, none⟩)) (w' := y) (wanted_none rfl) ?_ (fun t ht => by cases ht; exact rfl) (Below.refl _ _)
               have ec : ∀ v, a.eval (.const v) = v := fun _ => rfl
               generalize a.eval = ev at *
               clear h
               go_simp
             refine AllOps.cons (fun a y h => ?_) ?_
             · have e89 : a.eval (.tmp 89) = (.pointer (some ⟨w.heap.size, 0, none⟩) : Value) := h.of 89 (by kernel_rfl)
               obtain ⟨c0, c1⟩ := HC.out y h.below
               refine opOk_val (v := .slice (some ⟨b, off, none⟩) hq.length ch) (w' := y) (wanted_none rfl) ?_ (fun t ht => by cases ht; exact rfl) (Below.refl _ _)
               have ec : ∀ v, a.eval (.const v) = v := fun _ => rfl
               generalize a.eval = ev at *
               clear h
               go_simp
             refine AllOps.cons (fun a y h => ?_) ?_
             · have e1 : a.eval (.tmp 1) = (.pointer (some ⟨w.heap.size, 0, none⟩) : Value) := h.old 1 (by kernel_rfl)
               refine opOk_val (v := .pointer (some ⟨w.heap.size, 0, none⟩)) (w' := y) (wanted_none rfl) ?_ (fun t ht => by cases ht; exact rfl) (Below.refl _ _)
               have ec : ∀ v, a.eval (.const v) = v := fun _ => rfl
               generalize a.eval = ev at *
               clear h
               go_simp
             refine AllOps.cons (fun a y h => ?_) ?_
             · have e91 : a.eval (.tmp 91) = (.pointer (some ⟨w.heap.size, 0, none⟩) : Value) := h.of 91 (by kernel_rfl)
               obtain ⟨c0, c1⟩ := HC.out y h.below
               refine opOk_val (v := .slice (some ⟨b, off, none⟩) hq.length ch) (w' := y) (wanted_none rfl) ?_ (fun t ht => by cases ht; exact rfl) (Below.refl _ _)
               have ec : ∀ v, a.eval (.const v) = v := fun _ => rfl
               generalize a.eval = ev at *
               clear h
               go_simp
             refine AllOps.cons (fun a y h => ?_) ?_
             · have e8 : a.eval (.tmp 8) = (.int .i64 k : Value) := h.old 8 (by kernel_rfl)
               refine opOk_val (v := .int .i64 k) (w' := y) (wanted_none rfl) ?_ (fun t ht => by cases ht; exact rfl) (Below.refl _ _)
               have ec : ∀ v, a.eval (.const v) = v := fun _ => rfl
               generalize a.eval = ev at *
               clear h
               go_simp
             refine AllOps.cons (fun a y h => ?_) ?_
             · have e92 : a.eval (.tmp 92) = (.slice (some ⟨b, off, none⟩) hq.length ch : Value) := h.of 92 (by kernel_rfl)
               have e93 : a.eval (.tmp 93) = (.int .i64 k : Value) := h.of 93 (by kernel_rfl)
               refine opOk_val (v := .pointer (some ⟨b, off + k * 5, none⟩)) (w' := y) (wanted_none rfl) ?_ (fun t ht => by cases ht; exact rfl) (Below.refl _ _)
               have ec : ∀ v, a.eval (.const v) = v := fun _ => rfl
               generalize a.eval = ev at *
               clear h
               go_simp
             refine AllOps.cons (fun a y h => ?_) ?_
             · have e94 : a.eval (.tmp 94) = (.pointer (some ⟨b, off + k * 5, none⟩) : Value) := h.of 94 (by kernel_rfl)
               obtain ⟨u0, u1, u2, u3, u4⟩ := HU.out y h.below
               refine opOk_val (v := .agg #[.int .i64 ua, .int .i64 un, .slice a1 n1 d1, .slice a2 n2 d2, .slice a3 n3 d3]) (w' := y) (wanted_none rfl) ?_ (fun t ht => by cases ht; exact rfl) (Below.refl _ _)
               have ec : ∀ v, a.eval (.const v) = v := fun _ => rfl
               generalize a.eval = ev at *
               clear h
               go_simp
             refine AllOps.cons (fun a y h => ?_) ?_
             · have e90 : a.eval (.tmp 90) = (.slice (some ⟨b, off, none⟩) hq.length ch : Value) := h.of 90 (by kernel_rfl)
               have e95 : a.eval (.tmp 95) = (.agg #[.int .i64 ua, .int .i64 un, .slice a1 n1 d1, .slice a2 n2 d2, .slice a3 n3 d3] : Value) := h.of 95 (by kernel_rfl)
               refine opOk_call (f := 41) (args := #[.slice (some ⟨b, off, none⟩) hq.length ch, .agg #[.int .i64 ua, .int .i64 un, .slice a1 n1 d1, .slice a2 n2 d2, .slice a3 n3 d3]]) (wanted_none rfl) ?_ ?_
               · have ec : ∀ v, a.eval (.const v) = v := fun _ => rfl
                 have ef : ∀ f, a.eval (.func f) = .func (.func f) #[] #[] := fun _ => rfl
                 generalize a.eval = ev at *
                 clear h
                 go_simp
               · refine (HRD.out y h.below).mono ?_
                 rintro e w' ⟨rfl, hb⟩
                 exact ⟨_, rfl, fun t ht => by cases ht; show Value.bool _ = Value.bool hb9; rw [HB9.out], hb⟩
             refine AllOps.cons (fun a y h => ?_) ?_
             · have e96 : a.eval (.tmp 96) = (.bool hb9 : Value) := h.of 96 (by kernel_rfl)
               refine opOk_val (v := .bool (!hb9)) (w' := y) (wanted_none rfl) ?_ (fun t ht => by cases ht; exact rfl) (Below.refl _ _)
               have ec : ∀ v, a.eval (.const v) = v := fun _ => rfl
               generalize a.eval = ev at *
               clear h
               go_simp
             exact AllOps.nil
           rintro ⟨tm, df⟩ wE hbE hdE hszE hstE hTE
           have k97 : tm.getD 97 undef = .bool (!hb9) := ends_at (T := ckT23 w.heap.size (some ⟨b, off, none⟩) hq.length ch k b (off + k * 5) ua un a1 n1 d1 a2 n2 d2 a3 n3 d3 hb9) (w := wE) (a := ⟨tm, df⟩) (t := 97) hTE (by kernel_rfl)
           obtain rfl : df = [] := hdE
           clear hTE
           have hF8 := tmps_fold [89, 90, 91, 92, 93, 94, 95, 96, 97] tm _ hszE hstE
           clear hszE hstE
           simp only [List.foldl_cons, List.foldl_nil, k97] at hF8
           clear k97
           generalize tm.getD 89 undef = x89 at hF8
           generalize tm.getD 90 undef = x90 at hF8
           generalize tm.getD 91 undef = x91 at hF8
           generalize tm.getD 92 undef = x92 at hF8
           generalize tm.getD 93 undef = x93 at hF8
           generalize tm.getD 94 undef = x94 at hF8
           generalize tm.getD 95 undef = x95 at hF8
           generalize tm.getD 96 undef = x96 at hF8
           simp only [List.setIfInBounds_toArray, List.set_cons_zero, List.set_cons_succ] at hF8
           subst hF8
           have HG3 : Hid (Below w2.heap.size w2 wE) := HG.out.trans (hbE.mono HG.out.size)
           clear hbE HU HC HG HG1 c0 c1 HHK HRD
           cases hb9
           · have HE : Hid _ := HY.out rfl
             clear HN HY HB9
             go_wp2_with fail
             go_ret
             exact ⟨by rw [HE.out]; rfl, HT.out _ (HG2.out.trans (HG3.out.mono HG2.out.size))⟩
           · have HE : Hid _ := HN.out rfl
             clear HN HY HB9
             go_wp2_with fail
             go_roundw
             case rel => exact ⟨k + 1, hlt, by go_num, HE.out, HG3.out⟩
             case measure => simp [intOf]; omega
         have hdd : decide (k < hq.length) = false := decide_eq_false hlt
         have HAL : Hid (∀ u, u ∈ ups hq → Dg.carry (ups hq) u = true) := take_all (p := fun u => Dg.carry (ups hq) u = true) hlt HP.out
         have HTG3 : Hid (Dg.check (ups hq) (ups wq) = if ((Dg.settle Dg.snoc [] (ups hq)).2.length != 0 || (ups wq).any (Dg.carry (ups hq))) = true then 4 else 0) := HTG2.out.trans (Dg.tog_then HRS.out HAP.out HAL.out)
         have HRD : Hid (Calls Tryz.prog 42 #[.slice ah hq.length ch] wr fun e w' => e = .returned (.bool ((Dg.settle Dg.snoc [] (ups hq)).2.length != 0)) ∧ Below wr.heap.size wr w') :=
           IsRound_any hq _ wr (HHK.out wr (Below.refl _ _)) (by omega) (fun x hx => HAPP.out wr HG1.out x (by rw [HQE.out]; exact List.mem_append_left _ hx)) (fun x hx => by have h := HEA.out x (by rw [HQE.out]; exact List.mem_append_left _ hx); exact ⟨h.lp, h.lt⟩) (Dg.rise_nodup HRS.out.1)
         clear HP HAL HTG2 HAP HRS
         generalize ((Dg.settle Dg.snoc [] (ups hq)).2.length != 0) = rnd at *
         have HG0 : Hid (Below w2.heap.size w2 wr) := HG.out
         clear HC
         cases rnd
         rotate_left
         · have HE : Hid (Dg.check (ups hq) (ups wq) = 4) := HTG3.out
           go_wp2_with (go_at_call 42; refine Calls.mono HRD.out ?_; rintro e z1 ⟨rfl, hg1⟩)
           have HW6 : Hid (Below w2.heap.size w2 z1) := HG0.out.trans (hg1.mono HG0.out.size)
           go_ret
           exact ⟨by rw [HE.out]; rfl, HT.out _ (HG2.out.trans (HW6.out.mono HG2.out.size))⟩
         have HTG4 : Hid (Dg.check (ups hq) (ups wq) = if (ups wq).any (Dg.carry (ups hq)) = true then 4 else 0) := HTG3.out
         clear HTG3 HHK
         go_wp2_with (go_at_call 42; refine Calls.mono HRD.out ?_; rintro e z1 ⟨rfl, hg1⟩)
         have HW6 : Hid (Below w2.heap.size w2 z1) := HG0.out.trans (hg1.mono HG0.out.size)
         clear HRD HG HG0 HG1 hg1 c0 c1
         generalize z1 = w6 at *
         go_loopw [9] (fun iv wr => ∃ k : Nat, k ≤ wq.length ∧ iv = .int .i64 k ∧ Hid (∀ u, u ∈ ups (wq.take k) → Dg.carry (ups hq) u = false) ∧ Hid (Below w2.heap.size w2 wr)) (fun iv _ => wq.length - (intOf iv).toNat)
         case atStart => exact ⟨0, Nat.zero_le _, rfl, (fun u hu => by simp [ups] at hu), HW6.out⟩
         case round =>
          clear HW6
          obtain ⟨k, hk, rfl, HP, HG⟩ := hrel
          have HG1 : Hid (Below w1.heap.size w1 wr) := HG2.out.trans (HG.out.mono HG2.out.size)
          have HC : Hid (∀ z, Below wr.heap.size wr z → z.cell? ⟨w.heap.size, 0, none⟩ = some (.slice ah hq.length ch) ∧ z.cell? ⟨w.heap.size, 1, none⟩ = some (.slice aw wq.length cw)) := fun z hz => HF.out z (HG1.out.trans (hz.mono HG1.out.size))
          obtain ⟨c0, c1⟩ := HF.out wr HG1.out
          have HHK : Hid (∀ z, Below wr.heap.size wr z → UpsV z (.slice ah hq.length ch) hq) := fun z hz => HHK0.out z (HG1.out.trans (hz.mono HG1.out.size))
          by_cases hlt : k < wq.length
          · obtain ⟨b, off, rfl, p0, p1, p2, p3, p4⟩ := ups_at (HAA.out wr HG1.out).2 k hlt
            have hmem : uvD wq k ∈ q := by rw [HQE.out]; exact List.mem_append_right _ (uvD_mem wq k hlt)
            have hx := HAPP.out wr HG1.out _ hmem
            have hxi := HEA.out _ hmem
            have HN : Hid (Dg.carry (ups hq) (uvD wq k).u = false → ∀ u, u ∈ ups (wq.take (k + 1)) → Dg.carry (ups hq) u = false) := fun h => take_mem (p := fun u => Dg.carry (ups hq) u = false) hlt HP.out h
            have HY : Hid (Dg.carry (ups hq) (uvD wq k).u = true → Dg.check (ups hq) (ups wq) = 4) := fun h => HTG4.out.trans (if_pos (Dg.any_yes ⟨_, List.mem_map.mpr ⟨_, uvD_mem wq k hlt, rfl⟩, h⟩))
            clear HP hmem
            obtain ⟨hb9, HB9⟩ : ∃ b, Hid (b = Dg.carry (ups hq) (uvD wq k).u) := ⟨_, rfl⟩
            rw [← HB9.out] at HN HY
            have HRD : Hid (∀ z, Below wr.heap.size wr z → Calls Tryz.prog 41 #[.slice ah hq.length ch, uvVal (uvD wq k)] z fun e w' => e = .returned (.bool (Dg.carry (ups hq) (uvD wq k).u)) ∧ Below z.heap.size z w') := fun z hz => IsReady_any hq _ _ z (HHK.out z hz) (by omega) (hx.below hz) ⟨hxi.lp, hxi.lt⟩
            have HU : Hid (∀ z, Below wr.heap.size wr z → UpIn z b (off + k * 5) (uvD wq k)) := fun z hz => ⟨cell_below hz p0, cell_below hz p1, cell_below hz p2, cell_below hz p3, cell_below hz p4⟩
            obtain ⟨a1, n1, d1, a2, n2, d2, a3, n3, d3, e1, e2, e3⟩ := hx.forms
            clear hx hxi p0 p1 p2 p3 p4
            generalize uvD wq k = x at *
            obtain ⟨⟨⟨ua, un⟩, ps, says, ts⟩, vp, vs, vt⟩ := x
            dsimp only at *
            subst e1 e2 e3
            go_upto_region 30 with fail
            refine wp_region_tabA (ckT30 w.heap.size ah hq.length ch (some ⟨b, off, none⟩) wq.length cw k b (off + k * 5) ua un a1 n1 d1 a2 n2 d2 a3 n3 d3 hb9) (by kernel_rfl) (by kernel_rfl) (ckT30_mono _ _ _ _ _ _ _ _ _ _ _ _ _ _ _ _ _ _ _ _ _ _) ?hop30 ?hend30
            case hop30 =>
              refine AllOps.cons (fun a y h => ?_) ?_
              · have e1 : a.eval (.tmp 1) = (.pointer (some ⟨w.heap.size, 0, none⟩) : Value) := h.old 1 (by kernel_rfl)
                refine opOk_val (v := .pointer (some ⟨w.heap.size, 0, none⟩)) (w' := y) (wanted_none rfl) ?_ (fun t ht => by cases ht; exact rfl) (Below.refl _ _)
                have ec : ∀ v, a.eval (.const v) = v := fun _ => rfl
                generalize a.eval = ev at *
                clear h
                go_simp
              refine AllOps.cons (fun a y h => ?_) ?_
              · have e108 : a.eval (.tmp 108) = (.pointer (some ⟨w.heap.size, 0, none⟩) : Value) := h.of 108 (by kernel_rfl)
                obtain ⟨c0, c1⟩ := HC.out y h.below
                refine opOk_val (v := .slice ah hq.length ch) (w' := y) (wanted_none rfl) ?_ (fun t ht => by cases ht; exact rfl) (Below.refl _ _)
                have ec : ∀ v, a.eval (.const v) = v := fun _ => rfl
                generalize a.eval = ev at *
                clear h
                go_simp
              refine AllOps.cons (fun a y h => ?_) ?_
              · have e1 : a.eval (.tmp 1) = (.pointer (some ⟨w.heap.size, 0, none⟩) : Value) := h.old 1 (by kernel_rfl)
                refine opOk_val (v := .pointer (some ⟨w.heap.size, 1, none⟩)) (w' := y) (wanted_none rfl) ?_ (fun t ht => by cases ht; exact rfl) (Below.refl _ _)
                have ec : ∀ v, a.eval (.const v) = v := fun _ => rfl
                generalize a.eval = ev at *
                clear h
                go_simp
              refine AllOps.cons (fun a y h => ?_) ?_
              · have e110 : a.eval (.tmp 110) = (.pointer (some ⟨w.heap.size, 1, none⟩) : Value) := h.of 110 (by kernel_rfl)
                obtain ⟨c0, c1⟩ := HC.out y h.below
                refine opOk_val (v := .slice (some ⟨b, off, none⟩) wq.length cw) (w' := y) (wanted_none rfl) ?_ (fun t ht => by cases ht; exact rfl) (Below.refl _ _)
                have ec : ∀ v, a.eval (.const v) = v := fun _ => rfl
                generalize a.eval = ev at *
                clear h
                go_simp
              refine AllOps.cons (fun a y h => ?_) ?_
              · have e9 : a.eval (.tmp 9) = (.int .i64 k : Value) := h.old 9 (by kernel_rfl)
                refine opOk_val (v := .int .i64 k) (w' := y) (wanted_none rfl) ?_ (fun t ht => by cases ht; exact rfl) (Below.refl _ _)
                have ec : ∀ v, a.eval (.const v) = v := fun _ => rfl
                generalize a.eval = ev at *
                clear h
                go_simp
              refine AllOps.cons (fun a y h => ?_) ?_
              · have e111 : a.eval (.tmp 111) = (.slice (some ⟨b, off, none⟩) wq.length cw : Value) := h.of 111 (by kernel_rfl)
                have e112 : a.eval (.tmp 112) = (.int .i64 k : Value) := h.of 112 (by kernel_rfl)
                refine opOk_val (v := .pointer (some ⟨b, off + k * 5, none⟩)) (w' := y) (wanted_none rfl) ?_ (fun t ht => by cases ht; exact rfl) (Below.refl _ _)
                have ec : ∀ v, a.eval (.const v) = v := fun _ => rfl
                generalize a.eval = ev at *
                clear h
                go_simp
              refine AllOps.cons (fun a y h => ?_) ?_
              · have e113 : a.eval (.tmp 113) = (.pointer (some ⟨b, off + k * 5, none⟩) : Value) := h.of 113 (by kernel_rfl)
                obtain ⟨u0, u1, u2, u3, u4⟩ := HU.out y h.below
                refine opOk_val (v := .agg #[.int .i64 ua, .int .i64 un, .slice a1 n1 d1, .slice a2 n2 d2, .slice a3 n3 d3]) (w' := y) (wanted_none rfl) ?_ (fun t ht => by cases ht; exact rfl) (Below.refl _ _)
                have ec : ∀ v, a.eval (.const v) = v := fun _ => rfl
                generalize a.eval = ev at *
                clear h
                go_simp
              refine AllOps.cons (fun a y h => ?_) ?_
              · have e109 : a.eval (.tmp 109) = (.slice ah hq.length ch : Value) := h.of 109 (by kernel_rfl)
                have e114 : a.eval (.tmp 114) = (.agg #[.int .i64 ua, .int .i64 un, .slice a1 n1 d1, .slice a2 n2 d2, .slice a3 n3 d3] : Value) := h.of 114 (by kernel_rfl)
                refine opOk_call (f := 41) (args := #[.slice ah hq.length ch, .agg #[.int .i64 ua, .int .i64 un, .slice a1 n1 d1, .slice a2 n2 d2, .slice a3 n3 d3]]) (wanted_none rfl) ?_ ?_
                · have ec : ∀ v, a.eval (.const v) = v := fun _ => rfl
                  have ef : ∀ f, a.eval (.func f) = .func (.func f) #[] #[] := fun _ => rfl
                  generalize a.eval = ev at *
                  clear h
                  go_simp
                · refine (HRD.out y h.below).mono ?_
                  rintro e w' ⟨rfl, hb⟩
                  exact ⟨_, rfl, fun t ht => by cases ht; show Value.bool _ = Value.bool hb9; rw [HB9.out], hb⟩
              exact AllOps.nil
            rintro ⟨tm, df⟩ wE hbE hdE hszE hstE hTE
            have k115 : tm.getD 115 undef = .bool hb9 := ends_at (T := ckT30 w.heap.size ah hq.length ch (some ⟨b, off, none⟩) wq.length cw k b (off + k * 5) ua un a1 n1 d1 a2 n2 d2 a3 n3 d3 hb9) (w := wE) (a := ⟨tm, df⟩) (t := 115) hTE (by kernel_rfl)
            obtain rfl : df = [] := hdE
            clear hTE
            have hF8 := tmps_fold [108, 109, 110, 111, 112, 113, 114, 115] tm _ hszE hstE
            clear hszE hstE
            simp only [List.foldl_cons, List.foldl_nil, k115] at hF8
            clear k115
            generalize tm.getD 108 undef = x108 at hF8
            generalize tm.getD 109 undef = x109 at hF8
            generalize tm.getD 110 undef = x110 at hF8
            generalize tm.getD 111 undef = x111 at hF8
            generalize tm.getD 112 undef = x112 at hF8
            generalize tm.getD 113 undef = x113 at hF8
            generalize tm.getD 114 undef = x114 at hF8
            simp only [List.setIfInBounds_toArray, List.set_cons_zero, List.set_cons_succ] at hF8
            subst hF8
            have HG3 : Hid (Below w2.heap.size w2 wE) := HG.out.trans (hbE.mono HG.out.size)
            clear hbE HU HC HG HG1 c0 c1 HHK HRD
            cases hb9
            · have HE : Hid _ := HN.out rfl
              clear HN HY HB9
              go_wp2_with fail
              go_roundw
              case rel => exact ⟨k + 1, hlt, by go_num, HE.out, HG3.out⟩
              case measure => simp [intOf]; omega
            · have HE : Hid _ := HY.out rfl
              clear HN HY HB9
              go_wp2_with fail
              go_ret
              exact ⟨by rw [HE.out]; rfl, HT.out _ (HG2.out.trans (HG3.out.mono HG2.out.size))⟩
          have hdd : decide (k < wq.length) = false := decide_eq_false hlt
          have HE : Hid (Dg.check (ups hq) (ups wq) = 0) := HTG4.out.trans (by rw [Dg.any_not (take_all (p := fun u => Dg.carry (ups hq) u = false) hlt HP.out)]; rfl)
          clear HP
          go_wp2_with fail
          go_ret
          exact ⟨by rw [HE.out]; rfl, HT.out _ HG1.out⟩

end Go.Proofs.YtmfaodapofamfaaGreat

/- The document's AddOf. -/
namespace Go.Proofs.YtmfaodapofamfaaGreat
open Go.RowKit

end Go.Proofs.YtmfaodapofamfaaGreat

/- The document's HeadsAre and FactsOf. -/
namespace Go.Proofs.YtmfaodapofamfaaGreat
open Go.RowKit

namespace Dg
open Wr
end Dg
end Go.Proofs.YtmfaodapofamfaaGreat

/- The document's FactsOf. -/
namespace Go.Proofs.YtmfaodapofamfaaGreat
open Go.RowKit

end Go.Proofs.YtmfaodapofamfaaGreat

/- The law DagTells: Check, Add, Heads and Facts answer just what the document says. -/
namespace Go.Proofs.YtmfaodapofamfaaGreat
open Go.RowKit

end Go.Proofs.YtmfaodapofamfaaGreat

/- A replica in memory that is what some updates come to. -/
namespace Go.Proofs.YtmfaodapofamfaaGreat
open Go.RowKit

/-- What may be added to: each id once, all right. -/
structure Fair (all : List Wr.Up) : Prop where
  nd : (all.map Wr.Up.id).Nodup
  ok : ∀ u, u ∈ all → Wr.check u = 0
  len : all.length ≤ 200
def RepI (all : List Wr.Up) (w : World) (v1 v2 : Value) : Prop := ∃ hq wq, UpsV w v1 hq ∧ UpsV w v2 wq ∧ (∀ y, y ∈ hq ++ wq → UvOk w y) ∧ Dg.Is all (ups hq) (ups wq)
theorem RepI.kn {all : List Wr.Up} {w w' : World} {v1 v2 : Value} (h : RepI all w v1 v2) (k : Kn w w') : RepI all w' v1 v2 := by
  obtain ⟨hq, wq, h1, h2, h3, h4⟩ := h
  exact ⟨hq, wq, h1.kn k, h2.kn k, fun y hy => (h3 y hy).kn k, h4⟩
theorem RepI.congr {all m : List Wr.Up} {w : World} {v1 v2 : Value} (h : RepI all w v1 v2) (he : ∀ u, u ∈ all ↔ u ∈ m) : RepI m w v1 v2 := by
  obtain ⟨hq, wq, h1, h2, h3, h4⟩ := h
  exact ⟨hq, wq, h1, h2, h3, h4.congr he⟩
def AdN (all : List Wr.Up) (w : World) (v : Value) : Prop := ∃ a1 n1 c1 a2 n2 c2, v = .tuple #[.agg #[.slice a1 n1 c1, .slice a2 n2 c2], .int .i64 0] ∧ RepI all w (.slice a1 n1 c1) (.slice a2 n2 c2)
theorem AdN.kn {all : List Wr.Up} {w w' : World} {v : Value} (h : AdN all w v) (k : Kn w w') : AdN all w' v := by
  obtain ⟨a1, n1, c1, a2, n2, c2, e, h⟩ := h
  exact ⟨a1, n1, c1, a2, n2, c2, e, h.kn k⟩
def ReN (all : List Wr.Up) (w : World) (v : Value) : Prop := ∃ a1 n1 c1 a2 n2 c2, v = .agg #[.slice a1 n1 c1, .slice a2 n2 c2] ∧ RepI all w (.slice a1 n1 c1) (.slice a2 n2 c2)
theorem ReN.kn {all : List Wr.Up} {w w' : World} {v : Value} (h : ReN all w v) (k : Kn w w') : ReN all w' v := by
  obtain ⟨a1, n1, c1, a2, n2, c2, e, h⟩ := h
  exact ⟨a1, n1, c1, a2, n2, c2, e, h.kn k⟩
def BoxI (all : List Wr.Up) (w : World) (F : Nat) : Prop := ∃ a1 n1 c1 a2 n2 c2, w.heap[F]? = some (.cells #[.slice a1 n1 c1, .slice a2 n2 c2] 24) ∧ RepI all w (.slice a1 n1 c1) (.slice a2 n2 c2)
theorem BoxI.lt {all : List Wr.Up} {w : World} {F : Nat} (h : BoxI all w F) : F < w.heap.size := by
  obtain ⟨a1, n1, c1, a2, n2, c2, h, _⟩ := h
  exact (Array.getElem?_eq_some_iff.1 h).1
theorem BoxI.bx {all : List Wr.Up} {w : World} {F : Nat} (h : BoxI all w F) : Bx w F := by
  obtain ⟨a1, n1, c1, a2, n2, c2, h, _⟩ := h
  exact ⟨a1, n1, c1, a2, n2, c2, h⟩
theorem BoxI.rb {all : List Wr.Up} {w w' : World} {F B : Nat} (h : BoxI all w F) (k : Rb B w w') (hF : F < B) : BoxI all w' F := by
  obtain ⟨a1, n1, c1, a2, n2, c2, h, r⟩ := h
  exact ⟨a1, n1, c1, a2, n2, c2, (k.1.block F hF).trans h, r.kn k.2.1⟩
theorem BoxI.below {all : List Wr.Up} {w w' : World} {F : Nat} (h : BoxI all w F) (k : Below w.heap.size w w') : BoxI all w' F := h.rb (Rb.of k (Nat.le_refl _)) h.lt
theorem BoxI.drew {all : List Wr.Up} {w : World} {F : Nat} (h : BoxI all w F) : BoxI all w.drew F := h.below (Below.refl _ _).drew
theorem BoxI.congr {all m : List Wr.Up} {w : World} {F : Nat} (h : BoxI all w F) (he : ∀ u, u ∈ all ↔ u ∈ m) : BoxI m w F := by
  obtain ⟨a1, n1, c1, a2, n2, c2, h, r⟩ := h
  exact ⟨a1, n1, c1, a2, n2, c2, h, r.congr he⟩
theorem RepI.ok {all : List Wr.Up} {w : World} {v1 v2 : Value} (hf : Fair all) (h : RepI all w v1 v2) : ∃ hq wq, UpsV w v1 hq ∧ UpsV w v2 wq ∧ (∀ y, y ∈ hq ++ wq → UvOk w y) ∧ Dg.Is all (ups hq) (ups wq) ∧ Dg.Ok (ups hq) (ups wq) ∧ hq.length + wq.length = all.length := by
  obtain ⟨hq, wq, h1, h2, h3, h4⟩ := h
  have hl := h4.len hf.nd (h4.nd (Dg.apart_of_nodup hf.nd))
  rw [ups_length, ups_length] at hl
  exact ⟨hq, wq, h1, h2, h3, h4, h4.okN hf.nd hf.ok hf.len, hl⟩
theorem add_more {all : List Wr.Up} (hf : Fair all) (hl : all.length < 200) (v1 v2 : Value) (x : Uv) (w : World) (h : RepI all w v1 v2) (hx : UvOk w x) (hc : Wr.check x.u = 0) :
    Calls Tryz.prog 6 #[.agg #[v1, v2], uvVal x] w fun e w' => ∃ v, e = .returned v ∧ AdN (Dg.more all x.u) w' v ∧ Below w.heap.size w w' := by
  obtain ⟨hq, wq, h1, h2, h3, h4, o, hn⟩ := h.ok hf
  refine (Add_any hq wq v1 v2 x w h1 h2 (by omega) h3 hx).mono ?_
  rintro e w' ⟨u1, u2, R1, R2, rfl, k1, k2, k3, k4, _, k6⟩
  have hz : Dg.addErr (ups hq) (ups wq) x.u = 0 := by
    unfold Dg.addErr
    have hc0 : Dg.check (ups hq) (ups wq) = 0 := Dg.check_ok.mpr o
    have hm := Dg.more_len (ups hq ++ ups wq) x.u
    rw [List.length_append, ups_length, ups_length] at hm
    rw [if_neg (fun h => h hc0), if_neg (fun h => h hc), if_neg (by omega)]
  have h7 := h4.on (k4 hz)
  rw [hz]
  obtain ⟨a1, c1, rfl, hj1⟩ := id k1
  obtain ⟨a2, c2, rfl, hj2⟩ := id k2
  exact ⟨_, rfl, ⟨a1, _, c1, a2, _, c2, rfl, R1, R2, k1, k2, k3, h7⟩, k6⟩
/-- .. one that is there already: also where there is no more room. -/
theorem add_same {all : List Wr.Up} (hf : Fair all) (v1 v2 : Value) (x : Uv) (w : World) (h : RepI all w v1 v2) (hx : UvOk w x) (hc : Wr.check x.u = 0) (hh : Dg.hasU all x.u.id = true) :
    Calls Tryz.prog 6 #[.agg #[v1, v2], uvVal x] w fun e w' => ∃ v, e = .returned v ∧ AdN all w' v ∧ Below w.heap.size w w' := by
  obtain ⟨hq, wq, h1, h2, h3, h4, o, hn⟩ := h.ok hf
  refine (Add_any hq wq v1 v2 x w h1 h2 (by have := hf.len; omega) h3 hx).mono ?_
  rintro e w' ⟨u1, u2, R1, R2, rfl, k1, k2, k3, k4, _, k6⟩
  have hm : Dg.more (ups hq ++ ups wq) x.u = ups hq ++ ups wq := by
    unfold Dg.more
    rw [Dg.hasU_congr (m := all) (fun v => by rw [List.mem_append]; exact h4.parts.mem v), hh]
    rfl
  have hz : Dg.addErr (ups hq) (ups wq) x.u = 0 := by
    unfold Dg.addErr
    have hc0 : Dg.check (ups hq) (ups wq) = 0 := Dg.check_ok.mpr o
    have hl := hf.len
    rw [if_neg (fun h => h hc0), if_neg (fun h => h hc), hm, List.length_append, ups_length, ups_length, if_neg (by omega)]
  have h7 := k4 hz
  rw [hm] at h7
  have h8 := h7.congr (all' := all) (fun v => by rw [List.mem_append]; exact h4.parts.mem v)
  rw [hz]
  obtain ⟨a1, c1, rfl, hj1⟩ := id k1
  obtain ⟨a2, c2, rfl, hj2⟩ := id k2
  exact ⟨_, rfl, ⟨a1, _, c1, a2, _, c2, rfl, R1, R2, k1, k2, k3, h8⟩, k6⟩
theorem check_rep {all : List Wr.Up} (hf : Fair all) (v1 v2 : Value) (w : World) (h : RepI all w v1 v2) :
    Calls Tryz.prog 15 #[.agg #[v1, v2]] w fun e w' => e = .returned (.int .i64 0) ∧ Below w.heap.size w w' := by
  obtain ⟨hq, wq, h1, h2, h3, h4, o, hn⟩ := h.ok hf
  refine (DCheck_any hq wq v1 v2 w h1 h2 (by have := hf.len; omega) h3).mono ?_
  rintro e w' ⟨rfl, hb⟩
  rw [Dg.check_ok.mpr o]
  exact ⟨rfl, hb⟩
theorem same_rep {all : List Wr.Up} (hf : Fair all) (v1 v2 u1 u2 : Value) (w : World) (h : RepI all w v1 v2) (k : RepI all w u1 u2) :
    Calls Tryz.prog 20 #[.agg #[v1, v2], .agg #[u1, u2]] w fun e w' => e = .returned (.bool true) ∧ Below w.heap.size w w' := by
  obtain ⟨hq, wq, h1, h2, h3, h4, _, hn⟩ := h.ok hf
  obtain ⟨hr, wr, k1, k2, k3, k4, _, kn⟩ := k.ok hf
  obtain ⟨e1, e2⟩ := h4.one k4
  have hl := hf.len
  exact SameReplica_same hq wq hr wr v1 v2 u1 u2 w h1 h2 k1 k2 e1 e2 (by omega) h3 k3
theorem Fair.mores {r us : List Wr.Up} (o : (r.map Wr.Up.id).Nodup) (h1 : ∀ u, u ∈ r → Wr.check u = 0) (h2 : ∀ u, u ∈ us → Wr.check u = 0) (hl : r.length + us.length ≤ 200) : Fair (Dg.mores r us) :=
  ⟨Dg.mores_nodup o, Dg.mores_check h1 h2, Nat.le_trans (Dg.mores_len us r) hl⟩
theorem mores_has {r us : List Wr.Up} (hn : (us.map Wr.Up.id).Nodup) {u : Wr.Up} (hu : u ∈ us) : Dg.hasU (Dg.mores r us) u.id = true := by
  cases hb : Dg.hasU r u.id with
  | false => exact Dg.hasU_iff.mpr ⟨u, (Dg.mores_mem hn u).mpr (.inr ⟨hb, hu⟩), rfl⟩
  | true =>
    obtain ⟨v, hv, e⟩ := Dg.hasU_iff.mp hb
    exact Dg.hasU_iff.mpr ⟨v, (Dg.mores_mem hn v).mpr (.inl hv), e⟩
end Go.Proofs.YtmfaodapofamfaaGreat

