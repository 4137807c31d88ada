/- Own texts, one behind the other (part 9). -/
import Derived.Test.YtmfaodapofamfaaGreatBundleH
import Derived.Test.YtmfaodapofamfaaGreatRows
/- The document's CheckReplica. -/
namespace Go.Proofs.YtmfaodapofamfaaGreat
open Go.RowKit

def ckT13 (X : Nat) (ah : Option Addr) (nh ch b f nq cq i j o p : Nat) (ua un va vn : Int) (r : Int) (tQ : Nat) (vQ : Value) (_ : World) : Prop :=
  match tQ with
  | 45 => vQ = .int .i64 i
  | 46 => vQ = .pointer (some ⟨X, 0, none⟩)
  | 47 => vQ = .slice ah nh ch
  | 48 => vQ = .int .i64 nh
  | 49 => vQ = .bool true
  | 50 => vQ = .bool true
  | 51 => vQ = .slice (some ⟨b, f, none⟩) nq cq
  | 52 => vQ = .int .i64 i
  | 53 => vQ = .int .i64 j
  | 54 => vQ = .pointer (some ⟨b, o, none⟩)
  | 55 => vQ = .pointer (some ⟨b, o, none⟩)
  | 56 => vQ = .agg #[.int .i64 ua, .int .i64 un]
  | 57 => vQ = .slice (some ⟨b, f, none⟩) nq cq
  | 58 => vQ = .int .i64 i
  | 59 => vQ = .pointer (some ⟨b, p, none⟩)
  | 60 => vQ = .pointer (some ⟨b, p, none⟩)
  | 61 => vQ = .agg #[.int .i64 va, .int .i64 vn]
  | 62 => vQ = .int .i64 r
  | 63 => vQ = .bool (decide (0 ≤ r))
  | 64 => vQ = .bool (decide (0 ≤ r))
  | _ => True
theorem ckT13_mono (X : Nat) (ah : Option Addr) (nh ch b f nq cq i j o p : Nat) (ua un va vn : Int) (r : Int) (tQ : Nat) (vQ : Value) (W W' : World) (_ : Below W.heap.size W W') (h : ckT13 X ah nh ch b f nq cq i j o p ua un va vn r tQ vQ W) : ckT13 X ah nh ch b f nq cq i j o p ua un va vn r tQ vQ W' := by
  revert h
  unfold ckT13
  split <;> (intro h; first | exact h)
def ckT18 (X : Nat) (ah : Option Addr) (nh ch : Nat) (aw : Option Addr) (nw cw k b o : Nat) (ua un : Int) (hq : List Uv) (hb9 : Bool) (tQ : Nat) (vQ : Value) (_ : World) : Prop :=
  match tQ with
  | 72 => vQ = .pointer (some ⟨X, 0, none⟩)
  | 73 => vQ = .slice ah nh ch
  | 74 => vQ = .pointer (some ⟨X, 1, none⟩)
  | 75 => vQ = .slice aw nw cw
  | 76 => vQ = .int .i64 k
  | 77 => vQ = .pointer (some ⟨b, o, none⟩)
  | 78 => vQ = .pointer (some ⟨b, o, none⟩)
  | 79 => vQ = .agg #[.int .i64 ua, .int .i64 un]
  | 80 => ∃ r, vQ = .int .i64 r ∧ PlaceR hq ⟨ua, un⟩ r
  | 81 => vQ = .bool hb9
  | _ => True
theorem ckT18_mono (X : Nat) (ah : Option Addr) (nh ch : Nat) (aw : Option Addr) (nw cw k b o : Nat) (ua un : Int) (hq : List Uv) (hb9 : Bool) (tQ : Nat) (vQ : Value) (W W' : World) (_ : Below W.heap.size W W') (h : ckT18 X ah nh ch aw nw cw k b o ua un hq hb9 tQ vQ W) : ckT18 X ah nh ch aw nw cw k b o ua un hq hb9 tQ vQ W' := by
  revert h
  unfold ckT18
  split <;> (intro h; first | exact h)
def ckT23 (X : Nat) (ah : Option Addr) (nh ch : Nat) (k b o : Nat) (ua un : Int) (a1 : Option Addr) (n1 d1 : Nat) (a2 : Option Addr) (n2 d2 : Nat) (a3 : Option Addr) (n3 d3 : Nat) (hb9 : Bool) (tQ : Nat) (vQ : Value) (_ : World) : Prop :=
  match tQ with
  | 89 => vQ = .pointer (some ⟨X, 0, none⟩)
  | 90 => vQ = .slice ah nh ch
  | 91 => vQ = .pointer (some ⟨X, 0, none⟩)
  | 92 => vQ = .slice ah nh ch
  | 93 => vQ = .int .i64 k
  | 94 => vQ = .pointer (some ⟨b, o, none⟩)
  | 95 => vQ = .agg #[.int .i64 ua, .int .i64 un, .slice a1 n1 d1, .slice a2 n2 d2, .slice a3 n3 d3]
  | 96 => vQ = .bool hb9
  | 97 => vQ = .bool (!hb9)
  | _ => True
theorem ckT23_mono (X : Nat) (ah : Option Addr) (nh ch : Nat) (k b o : Nat) (ua un : Int) (a1 : Option Addr) (n1 d1 : Nat) (a2 : Option Addr) (n2 d2 : Nat) (a3 : Option Addr) (n3 d3 : Nat) (hb9 : Bool) (tQ : Nat) (vQ : Value) (W W' : World) (_ : Below W.heap.size W W') (h : ckT23 X ah nh ch k b o ua un a1 n1 d1 a2 n2 d2 a3 n3 d3 hb9 tQ vQ W) : ckT23 X ah nh ch k b o ua un a1 n1 d1 a2 n2 d2 a3 n3 d3 hb9 tQ vQ W' := by
  revert h
  unfold ckT23
  split <;> (intro h; first | exact h)
def ckT30 (X : Nat) (ah : Option Addr) (nh ch : Nat) (aw : Option Addr) (nw cw k b o : Nat) (ua un : Int) (a1 : Option Addr) (n1 d1 : Nat) (a2 : Option Addr) (n2 d2 : Nat) (a3 : Option Addr) (n3 d3 : Nat) (hb9 : Bool) (tQ : Nat) (vQ : Value) (_ : World) : Prop :=
  match tQ with
  | 108 => vQ = .pointer (some ⟨X, 0, none⟩)
  | 109 => vQ = .slice ah nh ch
  | 110 => vQ = .pointer (some ⟨X, 1, none⟩)
  | 111 => vQ = .slice aw nw cw
  | 112 => vQ = .int .i64 k
  | 113 => vQ = .pointer (some ⟨b, o, none⟩)
  | 114 => vQ = .agg #[.int .i64 ua, .int .i64 un, .slice a1 n1 d1, .slice a2 n2 d2, .slice a3 n3 d3]
  | 115 => vQ = .bool hb9
  | _ => True
theorem ckT30_mono (X : Nat) (ah : Option Addr) (nh ch : Nat) (aw : Option Addr) (nw cw k b o : Nat) (ua un : Int) (a1 : Option Addr) (n1 d1 : Nat) (a2 : Option Addr) (n2 d2 : Nat) (a3 : Option Addr) (n3 d3 : Nat) (hb9 : Bool) (tQ : Nat) (vQ : Value) (W W' : World) (_ : Below W.heap.size W W') (h : ckT30 X ah nh ch aw nw cw k b o ua un a1 n1 d1 a2 n2 d2 a3 n3 d3 hb9 tQ vQ W) : ckT30 X ah nh ch aw nw cw k b o ua un a1 n1 d1 a2 n2 d2 a3 n3 d3 hb9 tQ vQ W' := by
  revert h
  unfold ckT30
  split <;> (intro h; first | exact h)

set_option maxRecDepth 100000 in
set_option maxHeartbeats 4000000 in
theorem CheckReplica_any (hq wq : List Uv) (hv wv : Value) (w : World) (hV : UpsV w hv hq) (wV : UpsV w wv wq) (hl : hq.length ≤ 4611686018427387903 ∧ wq.length ≤ 4611686018427387903) (hok : ∀ x, x ∈ hq ++ wq → UvOk w x) :
    Calls Tryz.prog 9 #[repVal hv wv] w fun e w' => e = .returned (.int .i64 (Dg.check (ups hq) (ups wq))) ∧ Below w.heap.size w w' := by
  have HO : Hid (∀ x, x ∈ hq ++ wq → UvOk w x) := hok
  have HHV : Hid (UpsV w hv hq) := hV
  have HWV : Hid (UpsV w wv wq) := wV
  obtain ⟨ah, ch, rfl, hch, _⟩ := hV
  obtain ⟨aw, cw, rfl, hcw, _⟩ := wV
  clear hok
  have HB1 : Hid (Below w.heap.size w (w.alloc (.cells #[.slice ah hq.length ch, .slice aw wq.length cw] 24))) := (Below.refl _ _).alloc (Nat.le_refl _) _
  have HH1 : Hid ((w.alloc (.cells #[.slice ah hq.length ch, .slice aw wq.length cw] 24)).heap[w.heap.size]? = some (.cells #[.slice ah hq.length ch, .slice aw wq.length cw] 24)) := rl_new w _
  have HCH : Hid (ah = none → ch = 0) := hch.2
  have HCW : Hid (aw = none → cw = 0) := hcw.2
  clear hch hcw
  go_enter Tryz.func9, Tryz.ntmps9
  go_upto_region 1 with fail
  generalize w.alloc (.cells #[.slice ah hq.length ch, .slice aw wq.length cw] 24) = w1 at *
  have HF : Hid (∀ z, Below w1.heap.size w1 z → z.cell? ⟨w.heap.size, 0, none⟩ = some (.slice ah hq.length ch) ∧ z.cell? ⟨w.heap.size, 1, none⟩ = some (.slice aw wq.length cw)) := fun z hz => by
    have hh1 := (hz.block _ (Array.getElem?_eq_some_iff.1 HH1.out).1).trans HH1.out
    exact ⟨by rw [Lib.cell_of_heap hh1]; rfl, by rw [Lib.cell_of_heap hh1]; rfl⟩
  obtain ⟨c0, c1⟩ := HF.out w1 (Below.refl _ _)
  have hwr : IntKind.i64.wrap ((hq.length : Int) + (wq.length : Int)) = ((hq.length + wq.length : Nat) : Int) := by
    rw [← Int.natCast_add]
    simp [IntKind.wrap, IntKind.bits, IntKind.signed]
    omega
  by_cases hmany : 200 < hq.length + wq.length
  · have g0 : decide ((200 : Int) < ((hq.length + wq.length : Nat) : Int)) = true := decide_eq_true (by omega)
    have g1 : decide (200 < hq.length + wq.length) = true := decide_eq_true hmany
    have HTG : Hid (Dg.check (ups hq) (ups wq) = 2) := by
      show _ = _
      unfold Dg.check
      rw [ups_length, ups_length, if_pos hmany]
    clear HF HO
    go_wp2_with fail
    go_ret
    exact ⟨by rw [HTG.out]; rfl, HB1.out⟩
  have g0 : decide ((200 : Int) < ((hq.length + wq.length : Nat) : Int)) = false := decide_eq_false (by omega)
  have g1 : decide (200 < hq.length + wq.length) = false := decide_eq_false hmany
  have HTG : Hid (Dg.check (ups hq) (ups wq) = if Dg.first (ups (hq ++ wq)) ≠ 0 then Dg.first (ups (hq ++ wq)) else Dg.together (ups hq) (ups wq)) := by
    show _ = _
    unfold Dg.check
    rw [ups_length, ups_length, if_neg hmany, ups_append]
  obtain ⟨q, HQE⟩ : ∃ q, Hid (q = hq ++ wq) := ⟨_, rfl⟩
  rw [← HQE.out] at HTG
  have HT : Hid (∀ z, Below w1.heap.size w1 z → Below w.heap.size w z) := fun z hz => HB1.out.trans (hz.mono HB1.out.size)
  have HAA : Hid (∀ y : World, Below w1.heap.size w1 y → UpsAt y ah hq ∧ UpsAt y aw wq) := fun y hy => by
    obtain ⟨_, _, e1, _, k1⟩ := HHV.out.kc (Kc.below (HT.out y hy))
    obtain ⟨_, _, e2, _, k2⟩ := HWV.out.kc (Kc.below (HT.out y hy))
    cases e1
    cases e2
    exact ⟨k1, k2⟩
  go_upto_region 3 with fail
  clear hwr g0 g1 hl
  refine wp_region_held_drew (S := (fun y => y.cell? ⟨w.heap.size, 0, none⟩ = some (.slice ah hq.length ch) ∧ y.cell? ⟨w.heap.size, 1, none⟩ = some (.slice aw wq.length cw))) (by kernel_rfl) (by go_keep) (fun hHeld => ?_)
  refine wpAnyH_take (i := 1) (v := ?v1x0) rfl (by kernel_rfl) (by kernel_rfl) (by kernel_rfl) (fun _ _ _ h => h) (Or.inl ⟨by rfl, ?hy1x0⟩) (by assumption) ?_
  case hy1x0 =>
    intro w hSw
    (try dsimp only at hSw)
    go_simp
    try with_reducible rfl
  try simp only [Act.put, List.setIfInBounds_toArray]
  refine wpAnyH_take (i := 2) (v := ?v2x1) rfl (by kernel_rfl) (by kernel_rfl) (by kernel_rfl) (fun _ _ _ h => h) (Or.inl ⟨by rfl, ?hy2x1⟩) (by assumption) ?_
  case hy2x1 =>
    intro w hSw
    (try dsimp only at hSw)
    go_simp
    try with_reducible rfl
  try simp only [Act.put]
  refine wpAnyH_take (i := 4) (v := ?v4x2) rfl (by kernel_rfl) (by kernel_rfl) (by kernel_rfl) (fun _ _ _ h => h) (Or.inl ⟨by rfl, ?hy4x2⟩) (by assumption) ?_
  case hy4x2 =>
    intro w hSw
    (try dsimp only at hSw)
    go_simp
    try with_reducible rfl
  try simp only [Act.put]
  refine wpAnyH_take (i := 5) (v := ?v5x3) rfl (by kernel_rfl) (by kernel_rfl) (by kernel_rfl) (fun _ _ _ h => h) (Or.inl ⟨by rfl, ?hy5x3⟩) (by assumption) ?_
  case hy5x3 =>
    intro w hSw
    (try dsimp only at hSw)
    go_simp
    try with_reducible rfl
  try simp only [Act.put]
  refine wpAnyH_ready (rs := [0]) (by kernel_rfl) (by simp) ?_
  refine AllReadyH.cons rfl (fun K hK => ?_) AllReadyH.nil
  go_simp
  have hby0 : Below w1.heap.size w1 (w1.alloc (.cells #[] 30)).drew := by
    have h2 : Below w1.heap.size w1 (w1.alloc (.cells #[] 30)) := (Below.refl _ _).alloc (Nat.le_refl _) _
    exact ⟨h2.os, h2.tape, h2.output, h2.size, h2.block⟩
  have ho0 : URow (w1.alloc (.cells #[] 30)).drew w1.heap.size (.slice (some ⟨w1.heap.size, 0, none⟩) 0 0) [] := World.ownsRow_made w1 #[] 0 (Nat.le_refl _) (Nat.zero_le _) (by simp)
  refine hK.out _ _ (HF.out _ hby0) (fun hHeld => ?_)
  clear hK K
  generalize (w1.alloc (.cells #[] 30)).drew = y0 at *
  try simp only [Act.put, List.setIfInBounds_toArray, List.set_cons_zero, List.set_cons_succ]
  obtain ⟨v1, y1, r1, o1, g1⟩ := appUps_run (W := w) y0 w1.heap.size hby0.size _ [] ho0 ah ch hq (HAA.out y0 hby0).1 HCH.out (fun x hx => HO.out x (List.mem_append_left _ hx)) (by simp; omega) 22
  have hby1 : Below w1.heap.size w1 y1 := hby0.grown g1 hby0.size (fun k hk => (ho0.lt k hk).1)
  obtain ⟨p1, q1, rfl⟩ := own_slice o1
  simp only [List.nil_append] at o1 r1
  obtain ⟨v2, y2, r2, o2, g2⟩ := appUps_run (W := w) y1 w1.heap.size hby1.size _ hq o1 aw cw wq (HAA.out y1 hby1).2 HCW.out (fun x hx => HO.out x (List.mem_append_right _ hx)) (by omega) 22
  have hby2 : Below w1.heap.size w1 y2 := hby1.grown g2 hby1.size (fun k hk => (o1.lt k hk).1)
  obtain ⟨p2, q2, rfl⟩ := own_slice o2
  refine wpAnyH_ready (rs := [3]) (by kernel_rfl) (by simp) ?_
  refine AllReadyH.cons rfl (fun K hK => ?_) AllReadyH.nil
  rw [if_pos (wanted_none rfl)]
  refine wp_app (.tmp 18) (.tmp 20) 22 rfl rfl rfl r1 ?_
  refine hK.out _ _ (HF.out _ hby1) (fun hHeld => ?_)
  clear hK K
  simp only [Act.put, List.getElem_toArray, List.getElem_cons_succ, List.getElem_cons_zero, List.setIfInBounds_toArray, List.set_cons_succ, List.set_cons_zero]
  refine wpAnyH_ready (rs := [6]) (by kernel_rfl) (by simp) ?_
  refine AllReadyH.cons rfl (fun K hK => ?_) AllReadyH.nil
  rw [if_pos (wanted_none rfl)]
  refine wp_app (.tmp 21) (.tmp 23) 22 rfl rfl rfl r2 ?_
  refine hK.out _ _ (HF.out _ hby2) (fun hHeld => ?_)
  clear hK K
  simp only [Act.put, List.getElem_toArray, List.getElem_cons_succ, List.getElem_cons_zero, List.setIfInBounds_toArray, List.set_cons_succ, List.set_cons_zero]
  refine wpAnyH_take (i := 7) (v := ?v7z0) rfl (by kernel_rfl) (by kernel_rfl) (by kernel_rfl) (fun _ _ _ h => h) (Or.inl ⟨by rfl, ?hy7z0⟩) (by assumption) ?_
  case hy7z0 =>
    intro w hSw
    (try dsimp only at hSw)
    go_simp
    try with_reducible rfl
  simp only [Act.put, List.getElem_toArray, List.getElem_cons_succ, List.getElem_cons_zero, List.setIfInBounds_toArray, List.set_cons_succ, List.set_cons_zero]
  refine wpAnyH_done (by kernel_rfl) ?_ _
  rw [show hq.length + wq.length = (hq ++ wq).length from List.length_append.symm]
  rw [← HQE.out] at o2 ⊢
  have HR2 : Hid (UpsV y2 (.slice p2 q.length q2) q) := own_ups o2
  have HG2 : Hid (Below w1.heap.size w1 y2) := hby2
  clear o1 o2 g1 g2 hby0 hby1 hby2 ho0 r1 r2 hHeld
  generalize y2 = w2 at *

  have hlen : q.length ≤ 200 := by rw [HQE.out, List.length_append]; omega
  have hlh : hq.length ≤ 200 ∧ wq.length ≤ 200 := by omega
  have HQ : Hid (hq.length + wq.length ≤ 200) := by show _ ≤ _; omega
  have HAPP : Hid (∀ z, Below w1.heap.size w1 z → ∀ x, x ∈ q → UvOk z x) := fun z hz x hx => (HO.out x (HQE.out ▸ hx)).below (HT.out z hz)
  have HHK0 : Hid (∀ z, Below w1.heap.size w1 z → UpsV z (.slice ah hq.length ch) hq) := fun z hz => HHV.out.kc (Kc.below (HT.out z hz))
  clear HHV HWV HO hmany HH1 HB1 c0 c1
  go_wp2_with fail
  go_loopw [4] (fun iv wr => ∃ k : Nat, k ≤ q.length ∧ iv = .int .i64 k ∧ Hid (Dg.first (ups q) = Dg.first (ups (q.drop k))) ∧ Hid (Below w2.heap.size w2 wr)) (fun iv _ => q.length - (intOf iv).toNat)
  case atStart => exact ⟨0, Nat.zero_le _, rfl, rfl, Below.refl _ _⟩
  case round =>
    obtain ⟨k, hk, rfl, HR, HG⟩ := hrel
    have HG1 : Hid (Below w1.heap.size w1 wr) := HG2.out.trans (HG.out.mono HG2.out.size)
    by_cases hlt : k < q.length
    · obtain ⟨_, _, e9, _, hA⟩ := HR2.out.kc (Kc.below HG.out)
      cases e9
      obtain ⟨b, off, rfl, d0, d1, d2, d3, d4⟩ := ups_at hA k hlt
      have hx := HAPP.out _ HG1.out _ (uvD_mem q k hlt)
      have HD1 : Hid (Wr.check (uvD q k).u = 0 → Dg.first (ups q) = Dg.first (ups (q.drop (k + 1)))) := fun h => by
        rw [HR.out, uvD_drop q k hlt]
        exact first_step _ _ h
      have HD2 : Hid (¬ Wr.check (uvD q k).u = 0 → Dg.first (ups q) = Wr.check (uvD q k).u) := fun h => by
        rw [HR.out, uvD_drop q k hlt]
        exact first_stop _ _ h
      have HC : Hid (Calls Tryz.prog 10 #[uvVal (uvD q k)] wr fun e w' => e = .returned (.int .i64 (Wr.check (uvD q k).u)) ∧ Below wr.heap.size wr w') :=
        CheckUpdate_any (uvD q k).u _ _ _ wr hx.p hx.s hx.t hx.f hx.l
      obtain ⟨a1, n1, f1, a3, n3, f3, a4, n4, f4, e1, e2, e3⟩ := hx.forms
      clear HR hx hA
      generalize uvD q k = x at *
      generalize Wr.check x.u = ck at *
      obtain ⟨⟨⟨ua, un⟩, ps, says, ts⟩, vp, vs, vt⟩ := x
      dsimp only at *
      subst e1 e2 e3
      by_cases hck : ck = 0
      · have HD3 : Hid _ := HD1.out hck
        subst hck
        go_wp2_with (go_at_call 10; refine Calls.mono HC.out ?_; rintro e z1 ⟨rfl, hg1⟩)
        have HG3 : Hid (Below w2.heap.size w2 z1) := HG.out.trans (hg1.mono HG.out.size)
        go_roundw
        case rel => exact ⟨k + 1, hlt, by go_num, HD3.out, HG3.out⟩
        case measure => simp [intOf]; omega
      · have HD3 : Hid _ := HD2.out hck
        have hne : (ck != 0) = true := by simpa using hck
        have HTG2 : Hid (Dg.check (ups hq) (ups wq) = ck) := by
          show _ = _
          rw [HTG.out, HD3.out, if_pos hck]
        go_wp2_with (go_at_call 10; refine Calls.mono HC.out ?_; rintro e z1 ⟨rfl, hg1⟩)
        go_ret
        exact ⟨by rw [HTG2.out]; rfl, HT.out _ (HG1.out.trans (hg1.mono HG1.out.size))⟩
    · have hdd : decide (k < q.length) = false := decide_eq_false hlt
      have h0 : Dg.first (ups q) = 0 := by
        rw [HR.out, List.drop_of_length_le (by omega)]
        rfl
      have HTG2 : Hid (Dg.check (ups hq) (ups wq) = Dg.together (ups hq) (ups wq)) := by
        show _ = _
        rw [HTG.out, if_neg (fun e => e h0)]
      have HEA : Hid (∀ x, x ∈ q → IdsOk x.u) := fun x hx => idsOk_of (Dg.first_ok.mp h0 x.u (List.mem_map.mpr ⟨x, hx, rfl⟩))
      have HR3 : Hid (∀ z, Below w2.heap.size w2 z → UpsV z (.slice p2 q.length q2) q) := fun z hz => HR2.out.kc (Kc.below hz)
      have HW3 : Hid (Below w2.heap.size w2 wr) := HG.out
      clear HTG HR h0 HR2 HG HG1
      generalize wr = w3 at *
      go_wp2_with fail

      go_loopw [6] (fun iv wr => ∃ i j : Nat, iv = .int .i64 i ∧ Hid (i = j + 1) ∧ i ≤ q.length + 1 ∧ Hid (Dg.Ord q hq.length i) ∧ Hid (Below w2.heap.size w2 wr)) (fun iv _ => q.length + 1 - (intOf iv).toNat)
      case atStart => exact ⟨1, 0, rfl, rfl, by omega, Dg.Ord.one _ _, HW3.out⟩
      case round =>
       clear HW3
       obtain ⟨i, j, rfl, HIJ, hi, HOR, HG⟩ := hrel
       have HG1 : Hid (Below w1.heap.size w1 wr) := HG2.out.trans (HG.out.mono HG2.out.size)
       have HC : Hid (∀ z, Below wr.heap.size wr z → z.cell? ⟨w.heap.size, 0, none⟩ = some (.slice ah hq.length ch) ∧ z.cell? ⟨w.heap.size, 1, none⟩ = some (.slice aw wq.length cw)) := fun z hz => HF.out z (HG1.out.trans (hz.mono HG1.out.size))
       by_cases hlt : i < q.length
       · by_cases hin : i = hq.length
         · have HN : Hid (Dg.Ord q hq.length (i + 1)) := HOR.out.skip hin
           obtain ⟨c0, c1⟩ := HF.out wr HG1.out
           subst hin
           clear HOR HIJ
           go_upto_region 13 with fail
           go_quiet (fail)
           go_wp2_with fail
           go_roundw
           case rel => exact ⟨hq.length + 1, hq.length, by go_num, rfl, by omega, HN.out, HG.out.trans ((blw_drewN wr _).mono HG.out.size)⟩
           case measure => simp [intOf]; omega
         · have g2 : ((i : Int) == (hq.length : Int)) = false := by
             have : ¬ (i : Int) = (hq.length : Int) := by omega
             simpa using this
           have g3 : (i == hq.length) = false := by simpa using hin
           have g4 : (i != hq.length) = true := by simpa using hin
           have g6 : ¬ ((i : Int) = (hq.length : Int)) := by omega
           have hj : j < q.length := by have := HIJ.out; omega
           have hsub : IntKind.i64.wrap ((i : Int) - 1) = (j : Int) := by
             have := HIJ.out
             rw [show (i : Int) - 1 = (j : Int) by omega]
             simp [IntKind.wrap, IntKind.bits, IntKind.signed]
             omega
           obtain ⟨_, _, e9, _, hA⟩ := HR3.out wr HG.out
           cases e9
           obtain ⟨b, off, rfl, p0, p1, _⟩ := ups_at hA j hj
           obtain ⟨b', off', e9, s0, s1, _⟩ := ups_at hA i hlt
           cases e9
           have HU : Hid (∀ z, Below wr.heap.size wr z → z.cell? ⟨b, off + j * 5, none⟩ = some (.int .i64 (uvD q j).u.id.a) ∧ z.cell? ⟨b, off + j * 5 + 1, none⟩ = some (.int .i64 (uvD q j).u.id.n) ∧ z.cell? ⟨b, off + i * 5, none⟩ = some (.int .i64 (uvD q i).u.id.a) ∧ z.cell? ⟨b, off + i * 5 + 1, none⟩ = some (.int .i64 (uvD q i).u.id.n)) := fun z hz => ⟨cell_below hz p0, cell_below hz p1, cell_below hz s0, cell_below hz s1⟩
           have HN : Hid (Wr.idOrd (uvD q j).u.id (uvD q i).u.id < 0 → Dg.Ord q hq.length (i + 1)) := fun h => HOR.out.step HIJ.out h
           have HY : Hid (¬ Wr.idOrd (uvD q j).u.id (uvD q i).u.id < 0 → Dg.check (ups hq) (ups wq) = 4) := fun h => by
             rw [HTG2.out]
             have h2 := HQE.out
             refine Dg.ord_no HIJ.out (h2 ▸ hlt) hin ?_
             rw [← h2]
             exact h
           clear HOR p0 p1 s0 s1 hA hin
           generalize (uvD q j).u.id = x at *
           generalize (uvD q i).u.id = y at *
           obtain ⟨ua, un⟩ := x
           obtain ⟨va, vn⟩ := y
           dsimp only at HU
           obtain ⟨r9, HR9⟩ : ∃ r, Hid (Wr.idOrd ⟨ua, un⟩ ⟨va, vn⟩ = r) := ⟨_, rfl⟩
           rw [HR9.out] at HN HY
           go_upto_region 13 with fail
           refine wp_region_tabA (ckT13 w.heap.size ah hq.length ch b off q.length q2 i j (off + j * 5) (off + i * 5) ua un va vn r9) (by kernel_rfl) (by kernel_rfl) (ckT13_mono _ _ _ _ _ _ _ _ _ _ _ _ _ _ _ _ _) ?hop13 ?hend13
           case hop13 =>
             refine AllOps.cons (fun a y h => ?_) ?_
             · have e6 : a.eval (.tmp 6) = (.int .i64 i : Value) := h.old 6 (by kernel_rfl)
               refine opOk_val (v := .int .i64 i) (w' := y) (wanted_none rfl) ?_ (fun t ht => by cases ht; exact rfl) (Below.refl _ _)
               have ec : ∀ v, a.eval (.const v) = v := fun _ => rfl
               generalize a.eval = ev at *
               clear h
               go_simp
             refine AllOps.cons (fun a y h => ?_) ?_
             · have e1 : a.eval (.tmp 1) = (.pointer (some ⟨w.heap.size, 0, none⟩) : Value) := h.old 1 (by kernel_rfl)
               refine opOk_val (v := .pointer (some ⟨w.heap.size, 0, none⟩)) (w' := y) (wanted_none rfl) ?_ (fun t ht => by cases ht; exact rfl) (Below.refl _ _)
               have ec : ∀ v, a.eval (.const v) = v := fun _ => rfl
               generalize a.eval = ev at *
               clear h
               go_simp
             refine AllOps.cons (fun a y h => ?_) ?_
             · have e46 : a.eval (.tmp 46) = (.pointer (some ⟨w.heap.size, 0, none⟩) : Value) := h.of 46 (by kernel_rfl)
               obtain ⟨c0, c1⟩ := HC.out y h.below
               refine opOk_val (v := .slice ah hq.length ch) (w' := y) (wanted_none rfl) ?_ (fun t ht => by cases ht; exact rfl) (Below.refl _ _)
               have ec : ∀ v, a.eval (.const v) = v := fun _ => rfl
               generalize a.eval = ev at *
               clear h
               go_simp
             refine AllOps.cons (fun a y h => ?_) ?_
             · have e47 : a.eval (.tmp 47) = (.slice ah hq.length ch : Value) := h.of 47 (by kernel_rfl)
               refine opOk_val (v := .int .i64 hq.length) (w' := y) (wanted_none rfl) ?_ (fun t ht => by cases ht; exact rfl) (Below.refl _ _)
               have ec : ∀ v, a.eval (.const v) = v := fun _ => rfl
               generalize a.eval = ev at *
               clear h
               go_simp
             refine AllOps.cons (fun a y h => ?_) ?_
             · have e45 : a.eval (.tmp 45) = (.int .i64 i : Value) := h.of 45 (by kernel_rfl)
               have e48 : a.eval (.tmp 48) = (.int .i64 hq.length : Value) := h.of 48 (by kernel_rfl)
               refine opOk_val (v := .bool true) (w' := y) (wanted_none rfl) ?_ (fun t ht => by cases ht; exact rfl) (Below.refl _ _)
               have ec : ∀ v, a.eval (.const v) = v := fun _ => rfl
               generalize a.eval = ev at *
               clear h
               go_simp
             refine AllOps.cons (fun a y h => ?_) ?_
             · have e49 : a.eval (.tmp 49) = (.bool true : Value) := h.of 49 (by kernel_rfl)
               refine opOk_val (v := .bool true) (w' := y) (wanted_none rfl) ?_ (fun t ht => by cases ht; exact rfl) (Below.refl _ _)
               have ec : ∀ v, a.eval (.const v) = v := fun _ => rfl
               generalize a.eval = ev at *
               clear h
               go_simp
             refine AllOps.cons (fun a y h => ?_) ?_
             · have e3 : a.eval (.tmp 3) = (.slice (some ⟨b, off, none⟩) q.length q2 : Value) := h.old 3 (by kernel_rfl)
               refine opOk_val (v := .slice (some ⟨b, off, none⟩) q.length q2) (w' := y) (wanted_some (j := 5) (t := 50) (b := true) rfl rfl rfl (h.of 50 (by kernel_rfl))) ?_ (fun t ht => by cases ht; exact rfl) (Below.refl _ _)
               have ec : ∀ v, a.eval (.const v) = v := fun _ => rfl
               generalize a.eval = ev at *
               clear h
               go_simp
             refine AllOps.cons (fun a y h => ?_) ?_
             · have e6 : a.eval (.tmp 6) = (.int .i64 i : Value) := h.old 6 (by kernel_rfl)
               refine opOk_val (v := .int .i64 i) (w' := y) (wanted_some (j := 5) (t := 50) (b := true) rfl rfl rfl (h.of 50 (by kernel_rfl))) ?_ (fun t ht => by cases ht; exact rfl) (Below.refl _ _)
               have ec : ∀ v, a.eval (.const v) = v := fun _ => rfl
               generalize a.eval = ev at *
               clear h
               go_simp
             refine AllOps.cons (fun a y h => ?_) ?_
             · have e52 : a.eval (.tmp 52) = (.int .i64 i : Value) := h.of 52 (by kernel_rfl)
               refine opOk_val (v := .int .i64 j) (w' := y) (wanted_some (j := 5) (t := 50) (b := true) rfl rfl rfl (h.of 50 (by kernel_rfl))) ?_ (fun t ht => by cases ht; exact rfl) (Below.refl _ _)
               have ec : ∀ v, a.eval (.const v) = v := fun _ => rfl
               generalize a.eval = ev at *
               clear h
               go_simp
             refine AllOps.cons (fun a y h => ?_) ?_
             · have e51 : a.eval (.tmp 51) = (.slice (some ⟨b, off, none⟩) q.length q2 : Value) := h.of 51 (by kernel_rfl)
               have e53 : a.eval (.tmp 53) = (.int .i64 j : Value) := h.of 53 (by kernel_rfl)
               refine opOk_val (v := .pointer (some ⟨b, off + j * 5, none⟩)) (w' := y) (wanted_some (j := 5) (t := 50) (b := true) rfl rfl rfl (h.of 50 (by kernel_rfl))) ?_ (fun t ht => by cases ht; exact rfl) (Below.refl _ _)
               have ec : ∀ v, a.eval (.const v) = v := fun _ => rfl
               generalize a.eval = ev at *
               clear h
               go_simp
             refine AllOps.cons (fun a y h => ?_) ?_
             · have e54 : a.eval (.tmp 54) = (.pointer (some ⟨b, off + j * 5, none⟩) : Value) := h.of 54 (by kernel_rfl)
               refine opOk_val (v := .pointer (some ⟨b, off + j * 5, none⟩)) (w' := y) (wanted_some (j := 5) (t := 50) (b := true) rfl rfl rfl (h.of 50 (by kernel_rfl))) ?_ (fun t ht => by cases ht; exact rfl) (Below.refl _ _)
               have ec : ∀ v, a.eval (.const v) = v := fun _ => rfl
               generalize a.eval = ev at *
               clear h
               go_simp
             refine AllOps.cons (fun a y h => ?_) ?_
             · have e55 : a.eval (.tmp 55) = (.pointer (some ⟨b, off + j * 5, none⟩) : Value) := h.of 55 (by kernel_rfl)
               obtain ⟨u0, u1, _⟩ := HU.out y h.below
               refine opOk_val (v := .agg #[.int .i64 ua, .int .i64 un]) (w' := y) (wanted_some (j := 5) (t := 50) (b := true) rfl rfl rfl (h.of 50 (by kernel_rfl))) ?_ (fun t ht => by cases ht; exact rfl) (Below.refl _ _)
               have ec : ∀ v, a.eval (.const v) = v := fun _ => rfl
               generalize a.eval = ev at *
               clear h
               go_simp
             refine AllOps.cons (fun a y h => ?_) ?_
             · have e3 : a.eval (.tmp 3) = (.slice (some ⟨b, off, none⟩) q.length q2 : Value) := h.old 3 (by kernel_rfl)
               refine opOk_val (v := .slice (some ⟨b, off, none⟩) q.length q2) (w' := y) (wanted_some (j := 5) (t := 50) (b := true) rfl rfl rfl (h.of 50 (by kernel_rfl))) ?_ (fun t ht => by cases ht; exact rfl) (Below.refl _ _)
               have ec : ∀ v, a.eval (.const v) = v := fun _ => rfl
               generalize a.eval = ev at *
               clear h
               go_simp
             refine AllOps.cons (fun a y h => ?_) ?_
             · have e6 : a.eval (.tmp 6) = (.int .i64 i : Value) := h.old 6 (by kernel_rfl)
               refine opOk_val (v := .int .i64 i) (w' := y) (wanted_some (j := 5) (t := 50) (b := true) rfl rfl rfl (h.of 50 (by kernel_rfl))) ?_ (fun t ht => by cases ht; exact rfl) (Below.refl _ _)
               have ec : ∀ v, a.eval (.const v) = v := fun _ => rfl
               generalize a.eval = ev at *
               clear h
               go_simp
             refine AllOps.cons (fun a y h => ?_) ?_
             · have e57 : a.eval (.tmp 57) = (.slice (some ⟨b, off, none⟩) q.length q2 : Value) := h.of 57 (by kernel_rfl)
               have e58 : a.eval (.tmp 58) = (.int .i64 i : Value) := h.of 58 (by kernel_rfl)
               refine opOk_val (v := .pointer (some ⟨b, off + i * 5, none⟩)) (w' := y) (wanted_some (j := 5) (t := 50) (b := true) rfl rfl rfl (h.of 50 (by kernel_rfl))) ?_ (fun t ht => by cases ht; exact rfl) (Below.refl _ _)
               have ec : ∀ v, a.eval (.const v) = v := fun _ => rfl
               generalize a.eval = ev at *
               clear h
               go_simp
             refine AllOps.cons (fun a y h => ?_) ?_
             · have e59 : a.eval (.tmp 59) = (.pointer (some ⟨b, off + i * 5, none⟩) : Value) := h.of 59 (by kernel_rfl)
               refine opOk_val (v := .pointer (some ⟨b, off + i * 5, none⟩)) (w' := y) (wanted_some (j := 5) (t := 50) (b := true) rfl rfl rfl (h.of 50 (by kernel_rfl))) ?_ (fun t ht => by cases ht; exact rfl) (Below.refl _ _)
               have ec : ∀ v, a.eval (.const v) = v := fun _ => rfl
               generalize a.eval = ev at *
               clear h
               go_simp
             refine AllOps.cons (fun a y h => ?_) ?_
             · have e60 : a.eval (.tmp 60) = (.pointer (some ⟨b, off + i * 5, none⟩) : Value) := h.of 60 (by kernel_rfl)
               obtain ⟨_, _, u0, u1⟩ := HU.out y h.below
               refine opOk_val (v := .agg #[.int .i64 va, .int .i64 vn]) (w' := y) (wanted_some (j := 5) (t := 50) (b := true) rfl rfl rfl (h.of 50 (by kernel_rfl))) ?_ (fun t ht => by cases ht; exact rfl) (Below.refl _ _)
               have ec : ∀ v, a.eval (.const v) = v := fun _ => rfl
               generalize a.eval = ev at *
               clear h
               go_simp
             refine AllOps.cons (fun a y h => ?_) ?_
             · have e56 : a.eval (.tmp 56) = (.agg #[.int .i64 ua, .int .i64 un] : Value) := h.of 56 (by kernel_rfl)
               have e61 : a.eval (.tmp 61) = (.agg #[.int .i64 va, .int .i64 vn] : Value) := h.of 61 (by kernel_rfl)
               refine opOk_call (f := 40) (args := #[.agg #[.int .i64 ua, .int .i64 un], .agg #[.int .i64 va, .int .i64 vn]]) (wanted_some (j := 5) (t := 50) (b := true) rfl rfl rfl (h.of 50 (by kernel_rfl))) ?_ ?_
               · have ec : ∀ v, a.eval (.const v) = v := fun _ => rfl
                 have ef : ∀ f, a.eval (.func f) = .func (.func f) #[] #[] := fun _ => rfl
                 generalize a.eval = ev at *
                 clear h
                 go_simp
               · refine (IdOrder_any ⟨ua, un⟩ ⟨va, vn⟩ y).mono ?_
                 rintro e w' ⟨rfl, hb⟩
                 exact ⟨_, rfl, fun t ht => by cases ht; show Value.int .i64 _ = Value.int .i64 r9; rw [HR9.out], hb.below⟩
             refine AllOps.cons (fun a y h => ?_) ?_
             · have e62 : a.eval (.tmp 62) = (.int .i64 r9 : Value) := h.of 62 (by kernel_rfl)
               refine opOk_val (v := .bool (decide (0 ≤ r9))) (w' := y) (wanted_some (j := 5) (t := 50) (b := true) rfl rfl rfl (h.of 50 (by kernel_rfl))) ?_ (fun t ht => by cases ht; exact rfl) (Below.refl _ _)
               have ec : ∀ v, a.eval (.const v) = v := fun _ => rfl
               generalize a.eval = ev at *
               clear h
               go_simp
             refine AllOps.cons (fun a y h => ?_) ?_
             · have e50 : a.eval (.tmp 50) = (.bool true : Value) := h.of 50 (by kernel_rfl)
               have e63 : a.eval (.tmp 63) = (.bool (decide (0 ≤ r9)) : Value) := h.of 63 (by kernel_rfl)
               refine opOk_val (v := .bool (decide (0 ≤ r9))) (w' := y) (wanted_none rfl) ?_ (fun t ht => by cases ht; exact rfl) (Below.refl _ _)
               have ec : ∀ v, a.eval (.const v) = v := fun _ => rfl
               generalize a.eval = ev at *
               clear h
               go_simp
             exact AllOps.nil
           rintro ⟨tm, df⟩ wE hbE hdE hszE hstE hTE
           have k64 : tm.getD 64 undef = .bool (decide (0 ≤ r9)) := ends_at (T := ckT13 w.heap.size ah hq.length ch b off q.length q2 i j (off + j * 5) (off + i * 5) ua un va vn r9) (w := wE) (a := ⟨tm, df⟩) (t := 64) hTE (by kernel_rfl)
           obtain rfl : df = [] := hdE
           clear hTE
           have hF8 := tmps_fold [45, 46, 47, 48, 49, 50, 51, 52, 53, 54, 55, 56, 57, 58, 59, 60, 61, 62, 63, 64] tm _ hszE hstE
           clear hszE hstE
           simp only [List.foldl_cons, List.foldl_nil, k64] at hF8
           clear k64
           generalize tm.getD 45 undef = x45 at hF8
           generalize tm.getD 46 undef = x46 at hF8
           generalize tm.getD 47 undef = x47 at hF8
           generalize tm.getD 48 undef = x48 at hF8
           generalize tm.getD 49 undef = x49 at hF8
           generalize tm.getD 50 undef = x50 at hF8
           generalize tm.getD 51 undef = x51 at hF8
           generalize tm.getD 52 undef = x52 at hF8
           generalize tm.getD 53 undef = x53 at hF8
           generalize tm.getD 54 undef = x54 at hF8
           generalize tm.getD 55 undef = x55 at hF8
           generalize tm.getD 56 undef = x56 at hF8
           generalize tm.getD 57 undef = x57 at hF8
           generalize tm.getD 58 undef = x58 at hF8
           generalize tm.getD 59 undef = x59 at hF8
           generalize tm.getD 60 undef = x60 at hF8
           generalize tm.getD 61 undef = x61 at hF8
           generalize tm.getD 62 undef = x62 at hF8
           generalize tm.getD 63 undef = x63 at hF8
           simp only [List.setIfInBounds_toArray, List.set_cons_zero, List.set_cons_succ] at hF8
           subst hF8
           have HG3 : Hid (Below w2.heap.size w2 wE) := HG.out.trans (hbE.mono HG.out.size)
           clear hbE HU HC HG HG1
           by_cases hr : 0 ≤ r9
           · have g5 : decide (0 ≤ r9) = true := decide_eq_true hr
             have HE : Hid _ := HY.out (by omega)
             clear HY HN
             go_wp2_with fail
             go_ret
             exact ⟨by rw [HE.out]; rfl, HT.out _ (HG2.out.trans (HG3.out.mono HG2.out.size))⟩
           · have g5 : decide (0 ≤ r9) = false := decide_eq_false hr
             have HE : Hid _ := HN.out (by omega)
             clear HY HN
             go_wp2_with fail
             go_roundw
             case rel => exact ⟨i + 1, i, by go_num, rfl, by omega, HE.out, HG3.out⟩
             case measure => simp [intOf]; omega
       have hdd : decide (i < q.length) = false := decide_eq_false hlt
       have HRS : Hid (Wr.rise Dg.uOrd (ups hq) = true ∧ Wr.rise Dg.uOrd (ups wq) = true) := by
         have h1 := HOR.out
         have h2 := HQE.out
         rw [h2] at h1
         exact h1.fin (h2 ▸ hlt)
       have HW4 : Hid (Below w2.heap.size w2 wr) := HG.out
       clear HOR HIJ HC HG HG1 HR3
       generalize wr = w4 at *
       go_wp2_with fail
       go_loopw [7] (fun iv wr => ∃ k : Nat, k ≤ wq.length ∧ iv = .int .i64 k ∧ Hid (∀ u, u ∈ ups (wq.take k) → Dg.hasU (ups hq) u.id = false) ∧ Hid (Below w2.heap.size w2 wr)) (fun iv _ => wq.length - (intOf iv).toNat)
       case atStart => exact ⟨0, Nat.zero_le _, rfl, (fun u hu => by simp [ups] at hu), HW4.out⟩
       case round =>
        clear HW4
        obtain ⟨k, hk, rfl, HP, HG⟩ := hrel
        have HG1 : Hid (Below w1.heap.size w1 wr) := HG2.out.trans (HG.out.mono HG2.out.size)
        have HC : Hid (∀ z, Below wr.heap.size wr z → z.cell? ⟨w.heap.size, 0, none⟩ = some (.slice ah hq.length ch) ∧ z.cell? ⟨w.heap.size, 1, none⟩ = some (.slice aw wq.length cw)) := fun z hz => HF.out z (HG1.out.trans (hz.mono HG1.out.size))
        obtain ⟨c0, c1⟩ := HF.out wr HG1.out
        have HHK : Hid (∀ z, Below wr.heap.size wr z → UpsV z (.slice ah hq.length ch) hq) := fun z hz => HHK0.out z (HG1.out.trans (hz.mono HG1.out.size))
        by_cases hlt : k < wq.length
        · obtain ⟨b, off, rfl, p0, p1, _⟩ := ups_at (HAA.out wr HG1.out).2 k hlt
          have HU : Hid (∀ z, Below wr.heap.size wr z → z.cell? ⟨b, off + k * 5, none⟩ = some (.int .i64 (uvD wq k).u.id.a) ∧ z.cell? ⟨b, off + k * 5 + 1, none⟩ = some (.int .i64 (uvD wq k).u.id.n)) := fun z hz => ⟨cell_below hz p0, cell_below hz p1⟩
          have HN : Hid (Dg.hasU (ups hq) (uvD wq k).u.id = false → ∀ u, u ∈ ups (wq.take (k + 1)) → Dg.hasU (ups hq) u.id = false) := fun h => take_mem (p := fun u => Dg.hasU (ups hq) u.id = false) hlt HP.out h
          have HY : Hid (Dg.hasU (ups hq) (uvD wq k).u.id = true → Dg.check (ups hq) (ups wq) = 4) := fun h => HTG2.out.trans (Dg.tog_both ⟨_, List.mem_map.mpr ⟨_, uvD_mem wq k hlt, rfl⟩, h⟩)
          clear HP p0 p1
          generalize (uvD wq k).u.id = x at *
          obtain ⟨ua, un⟩ := x
          dsimp only at HU
          obtain ⟨hb9, HB9⟩ : ∃ b, Hid (b = Dg.hasU (ups hq) ⟨ua, un⟩) := ⟨_, rfl⟩
          rw [← HB9.out] at HN HY
          go_upto_region 18 with fail
          refine wp_region_tabA (ckT18 w.heap.size ah hq.length ch (some ⟨b, off, none⟩) wq.length cw k b (off + k * 5) ua un hq hb9) (by kernel_rfl) (by kernel_rfl) (ckT18_mono _ _ _ _ _ _ _ _ _ _ _ _ _ _) ?hop18 ?hend18
          case hop18 =>
            refine AllOps.cons (fun a y h => ?_) ?_
            · have e1 : a.eval (.tmp 1) = (.pointer (some ⟨w.heap.size, 0, none⟩) : Value) := h.old 1 (by kernel_rfl)
              refine opOk_val (v := .pointer (some ⟨w.heap.size, 0, none⟩)) (w' := y) (wanted_none rfl) ?_ (fun t ht => by cases ht; exact rfl) (Below.refl _ _)
              have ec : ∀ v, a.eval (.const v) = v := fun _ => rfl
              generalize a.eval = ev at *
              clear h
              go_simp
            refine AllOps.cons (fun a y h => ?_) ?_
            · have e72 : a.eval (.tmp 72) = (.pointer (some ⟨w.heap.size, 0, none⟩) : Value) := h.of 72 (by kernel_rfl)
              obtain ⟨c0, c1⟩ := HC.out y h.below
              refine opOk_val (v := .slice ah hq.length ch) (w' := y) (wanted_none rfl) ?_ (fun t ht => by cases ht; exact rfl) (Below.refl _ _)
              have ec : ∀ v, a.eval (.const v) = v := fun _ => rfl
              generalize a.eval = ev at *
              clear h
              go_simp
            refine AllOps.cons (fun a y h => ?_) ?_
            · have e1 : a.eval (.tmp 1) = (.pointer (some ⟨w.heap.size, 0, none⟩) : Value) := h.old 1 (by kernel_rfl)
              refine opOk_val (v := .pointer (some ⟨w.heap.size, 1, none⟩)) (w' := y) (wanted_none rfl) ?_ (fun t ht => by cases ht; exact rfl) (Below.refl _ _)
              have ec : ∀ v, a.eval (.const v) = v := fun _ => rfl
              generalize a.eval = ev at *
              clear h
              go_simp
            refine AllOps.cons (fun a y h => ?_) ?_
            · have e74 : a.eval (.tmp 74) = (.pointer (some ⟨w.heap.size, 1, none⟩) : Value) := h.of 74 (by kernel_rfl)
              obtain ⟨c0, c1⟩ := HC.out y h.below
              refine opOk_val (v := .slice (some ⟨b, off, none⟩) wq.length cw) (w' := y) (wanted_none rfl) ?_ (fun t ht => by cases ht; exact rfl) (Below.refl _ _)
              have ec : ∀ v, a.eval (.const v) = v := fun _ => rfl
              generalize a.eval = ev at *
              clear h
              go_simp
            refine AllOps.cons (fun a y h => ?_) ?_
            · have e7 : a.eval (.tmp 7) = (.int .i64 k : Value) := h.old 7 (by kernel_rfl)
              refine opOk_val (v := .int .i64 k) (w' := y) (wanted_none rfl) ?_ (fun t ht => by cases ht; exact rfl) (Below.refl _ _)
              have ec : ∀ v, a.eval (.const v) = v := fun _ => rfl
              generalize a.eval = ev at *
              clear h
              go_simp
            refine AllOps.cons (fun a y h => ?_) ?_
            · have e75 : a.eval (.tmp 75) = (.slice (some ⟨b, off, none⟩) wq.length cw : Value) := h.of 75 (by kernel_rfl)
              have e76 : a.eval (.tmp 76) = (.int .i64 k : Value) := h.of 76 (by kernel_rfl)
              refine opOk_val (v := .pointer (some ⟨b, off + k * 5, none⟩)) (w' := y) (wanted_none rfl) ?_ (fun t ht => by cases ht; exact rfl) (Below.refl _ _)
              have ec : ∀ v, a.eval (.const v) = v := fun _ => rfl
              generalize a.eval = ev at *
              clear h
              go_simp
            refine AllOps.cons (fun a y h => ?_) ?_
            · have e77 : a.eval (.tmp 77) = (.pointer (some ⟨b, off + k * 5, none⟩) : Value) := h.of 77 (by kernel_rfl)
              refine opOk_val (v := .pointer (some ⟨b, off + k * 5, none⟩)) (w' := y) (wanted_none rfl) ?_ (fun t ht => by cases ht; exact rfl) (Below.refl _ _)
              have ec : ∀ v, a.eval (.const v) = v := fun _ => rfl
              generalize a.eval = ev at *
              clear h
              go_simp
            refine AllOps.cons (fun a y h => ?_) ?_
            · have e78 : a.eval (.tmp 78) = (.pointer (some ⟨b, off + k * 5, none⟩) : Value) := h.of 78 (by kernel_rfl)
              obtain ⟨u0, u1⟩ := HU.out y h.below
              refine opOk_val (v := .agg #[.int .i64 ua, .int .i64 un]) (w' := y) (wanted_none rfl) ?_ (fun t ht => by cases ht; exact rfl) (Below.refl _ _)
              have ec : ∀ v, a.eval (.const v) = v := fun _ => rfl
              generalize a.eval = ev at *
              clear h
              go_simp
            refine AllOps.cons (fun a y h => ?_) ?_
            · have e73 : a.eval (.tmp 73) = (.slice ah hq.length ch : Value) := h.of 73 (by kernel_rfl)
              have e79 : a.eval (.tmp 79) = (.agg #[.int .i64 ua, .int .i64 un] : Value) := h.of 79 (by kernel_rfl)
              refine opOk_call (f := 19) (args := #[.slice ah hq.length ch, .agg #[.int .i64 ua, .int .i64 un]]) (wanted_none rfl) ?_ ?_
              · have ec : ∀ v, a.eval (.const v) = v := fun _ => rfl
                have ef : ∀ f, a.eval (.func f) = .func (.func f) #[] #[] := fun _ => rfl
                generalize a.eval = ev at *
                clear h
                go_simp
              · refine (PlaceOf_any hq ⟨ua, un⟩ _ y (HHK.out y h.below) (by omega)).mono ?_
                rintro e w' ⟨r, rfl, hr, hb⟩
                exact ⟨_, rfl, fun t ht => by cases ht; exact ⟨r, rfl, hr⟩, hb⟩
            refine AllOps.cons (fun a y h => ?_) ?_
            · have t80 : ∃ r, (a.eval (.tmp 80)) = .int .i64 r ∧ PlaceR hq ⟨ua, un⟩ r := h.of 80 (by kernel_rfl)
              obtain ⟨r, e80, hr⟩ := t80
              refine opOk_val (v := .bool (decide (0 ≤ r))) (w' := y) (wanted_none rfl) ?_ (fun t ht => by cases ht; exact (by show Value.bool _ = Value.bool hb9; rw [HB9.out, hr.pos])) (Below.refl _ _)
              have ec : ∀ v, a.eval (.const v) = v := fun _ => rfl
              generalize a.eval = ev at *
              clear h
              go_simp
            exact AllOps.nil
          rintro ⟨tm, df⟩ wE hbE hdE hszE hstE hTE
          have k81 : tm.getD 81 undef = .bool hb9 := ends_at (T := ckT18 w.heap.size ah hq.length ch (some ⟨b, off, none⟩) wq.length cw k b (off + k * 5) ua un hq hb9) (w := wE) (a := ⟨tm, df⟩) (t := 81) hTE (by kernel_rfl)
          obtain rfl : df = [] := hdE
          clear hTE
          have hF8 := tmps_fold [72, 73, 74, 75, 76, 77, 78, 79, 80, 81] tm _ hszE hstE
          clear hszE hstE
          simp only [List.foldl_cons, List.foldl_nil, k81] at hF8
          clear k81
          generalize tm.getD 72 undef = x72 at hF8
          generalize tm.getD 73 undef = x73 at hF8
          generalize tm.getD 74 undef = x74 at hF8
          generalize tm.getD 75 undef = x75 at hF8
          generalize tm.getD 76 undef = x76 at hF8
          generalize tm.getD 77 undef = x77 at hF8
          generalize tm.getD 78 undef = x78 at hF8
          generalize tm.getD 79 undef = x79 at hF8
          generalize tm.getD 80 undef = x80 at hF8
          simp only [List.setIfInBounds_toArray, List.set_cons_zero, List.set_cons_succ] at hF8
          subst hF8
          have HG3 : Hid (Below w2.heap.size w2 wE) := HG.out.trans (hbE.mono HG.out.size)
          clear hbE HU HC HG HG1 c0 c1 HHK
          cases hb9
          · have HE : Hid _ := HN.out rfl
            clear HN HY HB9
            go_wp2_with fail
            go_roundw
            case rel => exact ⟨k + 1, hlt, by go_num, HE.out, HG3.out⟩
            case measure => simp [intOf]; omega
          · have HE : Hid _ := HY.out rfl
            clear HN HY HB9
            go_wp2_with fail
            go_ret
            exact ⟨by rw [HE.out]; rfl, HT.out _ (HG2.out.trans (HG3.out.mono HG2.out.size))⟩
        have hdd : decide (k < wq.length) = false := decide_eq_false hlt
        have HAP : Hid (∀ u, u ∈ ups wq → Dg.hasU (ups hq) u.id = false) := take_all (p := fun u => Dg.hasU (ups hq) u.id = false) hlt HP.out
        have HW5 : Hid (Below w2.heap.size w2 wr) := HG.out
        go_wp2_with fail
        clear HP HC HG HG1 c0 c1 HHK
        generalize wr = w5 at *
        go_loopw [8] (fun iv wr => ∃ k : Nat, k ≤ hq.length ∧ iv = .int .i64 k ∧ Hid (∀ u, u ∈ ups (hq.take k) → Dg.carry (ups hq) u = true) ∧ Hid (Below w2.heap.size w2 wr)) (fun iv _ => hq.length - (intOf iv).toNat)
        case atStart => exact ⟨0, Nat.zero_le _, rfl, (fun u hu => by simp [ups] at hu), HW5.out⟩
        case round =>
         clear HW5
         obtain ⟨k, hk, rfl, HP, HG⟩ := hrel
         have HG1 : Hid (Below w1.heap.size w1 wr) := HG2.out.trans (HG.out.mono HG2.out.size)
         have HC : Hid (∀ z, Below wr.heap.size wr z → z.cell? ⟨w.heap.size, 0, none⟩ = some (.slice ah hq.length ch) ∧ z.cell? ⟨w.heap.size, 1, none⟩ = some (.slice aw wq.length cw)) := fun z hz => HF.out z (HG1.out.trans (hz.mono HG1.out.size))
         obtain ⟨c0, c1⟩ := HF.out wr HG1.out
         have HHK : Hid (∀ z, Below wr.heap.size wr z → UpsV z (.slice ah hq.length ch) hq) := fun z hz => HHK0.out z (HG1.out.trans (hz.mono HG1.out.size))
         by_cases hlt : k < hq.length
         · obtain ⟨b, off, rfl, p0, p1, p2, p3, p4⟩ := ups_at (HAA.out wr HG1.out).1 k hlt
           have hmem : uvD hq k ∈ q := by rw [HQE.out]; exact List.mem_append_left _ (uvD_mem hq k hlt)
           have hx := HAPP.out wr HG1.out _ hmem
           have hxi := HEA.out _ hmem
           have HN : Hid (Dg.carry (ups hq) (uvD hq k).u = true → ∀ u, u ∈ ups (hq.take (k + 1)) → Dg.carry (ups hq) u = true) := fun h => take_mem (p := fun u => Dg.carry (ups hq) u = true) hlt HP.out h
           have HY : Hid (Dg.carry (ups hq) (uvD hq k).u = false → Dg.check (ups hq) (ups wq) = 5) := fun h => HTG2.out.trans (Dg.tog_none HRS.out HAP.out ⟨_, List.mem_map.mpr ⟨_, uvD_mem hq k hlt, rfl⟩, h⟩)
           clear HP hmem
           obtain ⟨hb9, HB9⟩ : ∃ b, Hid (b = Dg.carry (ups hq) (uvD hq k).u) := ⟨_, rfl⟩
           rw [← HB9.out] at HN HY
           have HRD : Hid (∀ z, Below wr.heap.size wr z → Calls Tryz.prog 41 #[.slice (some ⟨b, off, none⟩) hq.length ch, uvVal (uvD hq k)] z fun e w' => e = .returned (.bool (Dg.carry (ups hq) (uvD hq k).u)) ∧ Below z.heap.size z w') := fun z hz => IsReady_any hq _ _ z (HHK.out z hz) (by omega) (hx.below hz) ⟨hxi.lp, hxi.lt⟩
           have HU : Hid (∀ z, Below wr.heap.size wr z → UpIn z b (off + k * 5) (uvD hq k)) := fun z hz => ⟨cell_below hz p0, cell_below hz p1, cell_below hz p2, cell_below hz p3, cell_below hz p4⟩
           obtain ⟨a1, n1, d1, a2, n2, d2, a3, n3, d3, e1, e2, e3⟩ := hx.forms
           clear hx hxi p0 p1 p2 p3 p4
           generalize uvD hq k = x at *
           obtain ⟨⟨⟨ua, un⟩, ps, says, ts⟩, vp, vs, vt⟩ := x
           dsimp only at *
           subst e1 e2 e3
           go_upto_region 23 with fail
           refine wp_region_tabA (ckT23 w.heap.size (some ⟨b, off, none⟩) hq.length ch k b (off + k * 5) ua un a1 n1 d1 a2 n2 d2 a3 n3 d3 hb9) (by kernel_rfl) (by kernel_rfl) (ckT23_mono _ _ _ _ _ _ _ _ _ _ _ _ _ _ _ _ _ _ _) ?hop23 ?hend23
           case hop23 =>
             refine AllOps.cons (fun a y h => ?_) ?_
             · have e1 : a.eval (.tmp 1) = (.pointer (some ⟨w.heap.size, 0, none⟩) : Value) := h.old 1 (by kernel_rfl)
               refine opOk_val (v := .pointer (some ⟨w.heap.size, 0, none⟩)) (w' := y) (wanted_none rfl) ?_ (fun t ht => by cases ht; exact rfl) (Below.refl _ _)
               have ec : ∀ v, a.eval (.const v) = v := fun _ => rfl
               generalize a.eval = ev at *
               clear h
               go_simp
             refine AllOps.cons (fun a y h => ?_) ?_
             · have e89 : a.eval (.tmp 89) = (.pointer (some ⟨w.heap.size, 0, none⟩) : Value) := h.of 89 (by kernel_rfl)
               obtain ⟨c0, c1⟩ := HC.out y h.below
               refine opOk_val (v := .slice (some ⟨b, off, none⟩) hq.length ch) (w' := y) (wanted_none rfl) ?_ (fun t ht => by cases ht; exact rfl) (Below.refl _ _)
               have ec : ∀ v, a.eval (.const v) = v := fun _ => rfl
               generalize a.eval = ev at *
               clear h
               go_simp
             refine AllOps.cons (fun a y h => ?_) ?_
             · have e1 : a.eval (.tmp 1) = (.pointer (some ⟨w.heap.size, 0, none⟩) : Value) := h.old 1 (by kernel_rfl)
               refine opOk_val (v := .pointer (some ⟨w.heap.size, 0, none⟩)) (w' := y) (wanted_none rfl) ?_ (fun t ht => by cases ht; exact rfl) (Below.refl _ _)
               have ec : ∀ v, a.eval (.const v) = v := fun _ => rfl
               generalize a.eval = ev at *
               clear h
               go_simp
             refine AllOps.cons (fun a y h => ?_) ?_
             · have e91 : a.eval (.tmp 91) = (.pointer (some ⟨w.heap.size, 0, none⟩) : Value) := h.of 91 (by kernel_rfl)
               obtain ⟨c0, c1⟩ := HC.out y h.below
               refine opOk_val (v := .slice (some ⟨b, off, none⟩) hq.length ch) (w' := y) (wanted_none rfl) ?_ (fun t ht => by cases ht; exact rfl) (Below.refl _ _)
               have ec : ∀ v, a.eval (.const v) = v := fun _ => rfl
               generalize a.eval = ev at *
               clear h
               go_simp
             refine AllOps.cons (fun a y h => ?_) ?_
             · have e8 : a.eval (.tmp 8) = (.int .i64 k : Value) := h.old 8 (by kernel_rfl)
               refine opOk_val (v := .int .i64 k) (w' := y) (wanted_none rfl) ?_ (fun t ht => by cases ht; exact rfl) (Below.refl _ _)
               have ec : ∀ v, a.eval (.const v) = v := fun _ => rfl
               generalize a.eval = ev at *
               clear h
               go_simp
             refine AllOps.cons (fun a y h => ?_) ?_
             · have e92 : a.eval (.tmp 92) = (.slice (some ⟨b, off, none⟩) hq.length ch : Value) := h.of 92 (by kernel_rfl)
               have e93 : a.eval (.tmp 93) = (.int .i64 k : Value) := h.of 93 (by kernel_rfl)
               refine opOk_val (v := .pointer (some ⟨b, off + k * 5, none⟩)) (w' := y) (wanted_none rfl) ?_ (fun t ht => by cases ht; exact rfl) (Below.refl _ _)
               have ec : ∀ v, a.eval (.const v) = v := fun _ => rfl
               generalize a.eval = ev at *
               clear h
               go_simp
             refine AllOps.cons (fun a y h => ?_) ?_
             · have e94 : a.eval (.tmp 94) = (.pointer (some ⟨b, off + k * 5, none⟩) : Value) := h.of 94 (by kernel_rfl)
               obtain ⟨u0, u1, u2, u3, u4⟩ := HU.out y h.below
               refine opOk_val (v := .agg #[.int .i64 ua, .int .i64 un, .slice a1 n1 d1, .slice a2 n2 d2, .slice a3 n3 d3]) (w' := y) (wanted_none rfl) ?_ (fun t ht => by cases ht; exact rfl) (Below.refl _ _)
               have ec : ∀ v, a.eval (.const v) = v := fun _ => rfl
               generalize a.eval = ev at *
               clear h
               go_simp
             refine AllOps.cons (fun a y h => ?_) ?_
             · have e90 : a.eval (.tmp 90) = (.slice (some ⟨b, off, none⟩) hq.length ch : Value) := h.of 90 (by kernel_rfl)
               have e95 : a.eval (.tmp 95) = (.agg #[.int .i64 ua, .int .i64 un, .slice a1 n1 d1, .slice a2 n2 d2, .slice a3 n3 d3] : Value) := h.of 95 (by kernel_rfl)
               refine opOk_call (f := 41) (args := #[.slice (some ⟨b, off, none⟩) hq.length ch, .agg #[.int .i64 ua, .int .i64 un, .slice a1 n1 d1, .slice a2 n2 d2, .slice a3 n3 d3]]) (wanted_none rfl) ?_ ?_
               · have ec : ∀ v, a.eval (.const v) = v := fun _ => rfl
                 have ef : ∀ f, a.eval (.func f) = .func (.func f) #[] #[] := fun _ => rfl
                 generalize a.eval = ev at *
                 clear h
                 go_simp
               · refine (HRD.out y h.below).mono ?_
                 rintro e w' ⟨rfl, hb⟩
                 exact ⟨_, rfl, fun t ht => by cases ht; show Value.bool _ = Value.bool hb9; rw [HB9.out], hb⟩
             refine AllOps.cons (fun a y h => ?_) ?_
             · have e96 : a.eval (.tmp 96) = (.bool hb9 : Value) := h.of 96 (by kernel_rfl)
               refine opOk_val (v := .bool (!hb9)) (w' := y) (wanted_none rfl) ?_ (fun t ht => by cases ht; exact rfl) (Below.refl _ _)
               have ec : ∀ v, a.eval (.const v) = v := fun _ => rfl
               generalize a.eval = ev at *
               clear h
               go_simp
             exact AllOps.nil
           rintro ⟨tm, df⟩ wE hbE hdE hszE hstE hTE
           have k97 : tm.getD 97 undef = .bool (!hb9) := ends_at (T := ckT23 w.heap.size (some ⟨b, off, none⟩) hq.length ch k b (off + k * 5) ua un a1 n1 d1 a2 n2 d2 a3 n3 d3 hb9) (w := wE) (a := ⟨tm, df⟩) (t := 97) hTE (by kernel_rfl)
           obtain rfl : df = [] := hdE
           clear hTE
           have hF8 := tmps_fold [89, 90, 91, 92, 93, 94, 95, 96, 97] tm _ hszE hstE
           clear hszE hstE
           simp only [List.foldl_cons, List.foldl_nil, k97] at hF8
           clear k97
           generalize tm.getD 89 undef = x89 at hF8
           generalize tm.getD 90 undef = x90 at hF8
           generalize tm.getD 91 undef = x91 at hF8
           generalize tm.getD 92 undef = x92 at hF8
           generalize tm.getD 93 undef = x93 at hF8
           generalize tm.getD 94 undef = x94 at hF8
           generalize tm.getD 95 undef = x95 at hF8
           generalize tm.getD 96 undef = x96 at hF8
           simp only [List.setIfInBounds_toArray, List.set_cons_zero, List.set_cons_succ] at hF8
           subst hF8
           have HG3 : Hid (Below w2.heap.size w2 wE) := HG.out.trans (hbE.mono HG.out.size)
           clear hbE HU HC HG HG1 c0 c1 HHK HRD
           cases hb9
           · have HE : Hid _ := HY.out rfl
             clear HN HY HB9
             go_wp2_with fail
             go_ret
             exact ⟨by rw [HE.out]; rfl, HT.out _ (HG2.out.trans (HG3.out.mono HG2.out.size))⟩
           · have HE : Hid _ := HN.out rfl
             clear HN HY HB9
             go_wp2_with fail
             go_roundw
             case rel => exact ⟨k + 1, hlt, by go_num, HE.out, HG3.out⟩
             case measure => simp [intOf]; omega
         have hdd : decide (k < hq.length) = false := decide_eq_false hlt
         have HAL : Hid (∀ u, u ∈ ups hq → Dg.carry (ups hq) u = true) := take_all (p := fun u => Dg.carry (ups hq) u = true) hlt HP.out
         have HTG3 : Hid (Dg.check (ups hq) (ups wq) = if ((Dg.settle Dg.snoc [] (ups hq)).2.length != 0 || (ups wq).any (Dg.carry (ups hq))) = true then 4 else 0) := HTG2.out.trans (Dg.tog_then HRS.out HAP.out HAL.out)
         have HRD : Hid (Calls Tryz.prog 42 #[.slice ah hq.length ch] wr fun e w' => e = .returned (.bool ((Dg.settle Dg.snoc [] (ups hq)).2.length != 0)) ∧ Below wr.heap.size wr w') :=
           IsRound_any hq _ wr (HHK.out wr (Below.refl _ _)) (by omega) (fun x hx => HAPP.out wr HG1.out x (by rw [HQE.out]; exact List.mem_append_left _ hx)) (fun x hx => by have h := HEA.out x (by rw [HQE.out]; exact List.mem_append_left _ hx); exact ⟨h.lp, h.lt⟩) (Dg.rise_nodup HRS.out.1)
         clear HP HAL HTG2 HAP HRS
         generalize ((Dg.settle Dg.snoc [] (ups hq)).2.length != 0) = rnd at *
         have HG0 : Hid (Below w2.heap.size w2 wr) := HG.out
         clear HC
         cases rnd
         rotate_left
         · have HE : Hid (Dg.check (ups hq) (ups wq) = 4) := HTG3.out
           go_wp2_with (go_at_call 42; refine Calls.mono HRD.out ?_; rintro e z1 ⟨rfl, hg1⟩)
           have HW6 : Hid (Below w2.heap.size w2 z1) := HG0.out.trans (hg1.mono HG0.out.size)
           go_ret
           exact ⟨by rw [HE.out]; rfl, HT.out _ (HG2.out.trans (HW6.out.mono HG2.out.size))⟩
         have HTG4 : Hid (Dg.check (ups hq) (ups wq) = if (ups wq).any (Dg.carry (ups hq)) = true then 4 else 0) := HTG3.out
         clear HTG3 HHK
         go_wp2_with (go_at_call 42; refine Calls.mono HRD.out ?_; rintro e z1 ⟨rfl, hg1⟩)
         have HW6 : Hid (Below w2.heap.size w2 z1) := HG0.out.trans (hg1.mono HG0.out.size)
         clear HRD HG HG0 HG1 hg1 c0 c1
         generalize z1 = w6 at *
         go_loopw [9] (fun iv wr => ∃ k : Nat, k ≤ wq.length ∧ iv = .int .i64 k ∧ Hid (∀ u, u ∈ ups (wq.take k) → Dg.carry (ups hq) u = false) ∧ Hid (Below w2.heap.size w2 wr)) (fun iv _ => wq.length - (intOf iv).toNat)
         case atStart => exact ⟨0, Nat.zero_le _, rfl, (fun u hu => by simp [ups] at hu), HW6.out⟩
         case round =>
          clear HW6
          obtain ⟨k, hk, rfl, HP, HG⟩ := hrel
          have HG1 : Hid (Below w1.heap.size w1 wr) := HG2.out.trans (HG.out.mono HG2.out.size)
          have HC : Hid (∀ z, Below wr.heap.size wr z → z.cell? ⟨w.heap.size, 0, none⟩ = some (.slice ah hq.length ch) ∧ z.cell? ⟨w.heap.size, 1, none⟩ = some (.slice aw wq.length cw)) := fun z hz => HF.out z (HG1.out.trans (hz.mono HG1.out.size))
          obtain ⟨c0, c1⟩ := HF.out wr HG1.out
          have HHK : Hid (∀ z, Below wr.heap.size wr z → UpsV z (.slice ah hq.length ch) hq) := fun z hz => HHK0.out z (HG1.out.trans (hz.mono HG1.out.size))
          by_cases hlt : k < wq.length
          · obtain ⟨b, off, rfl, p0, p1, p2, p3, p4⟩ := ups_at (HAA.out wr HG1.out).2 k hlt
            have hmem : uvD wq k ∈ q := by rw [HQE.out]; exact List.mem_append_right _ (uvD_mem wq k hlt)
            have hx := HAPP.out wr HG1.out _ hmem
            have hxi := HEA.out _ hmem
            have HN : Hid (Dg.carry (ups hq) (uvD wq k).u = false → ∀ u, u ∈ ups (wq.take (k + 1)) → Dg.carry (ups hq) u = false) := fun h => take_mem (p := fun u => Dg.carry (ups hq) u = false) hlt HP.out h
            have HY : Hid (Dg.carry (ups hq) (uvD wq k).u = true → Dg.check (ups hq) (ups wq) = 4) := fun h => HTG4.out.trans (if_pos (Dg.any_yes ⟨_, List.mem_map.mpr ⟨_, uvD_mem wq k hlt, rfl⟩, h⟩))
            clear HP hmem
            obtain ⟨hb9, HB9⟩ : ∃ b, Hid (b = Dg.carry (ups hq) (uvD wq k).u) := ⟨_, rfl⟩
            rw [← HB9.out] at HN HY
            have HRD : Hid (∀ z, Below wr.heap.size wr z → Calls Tryz.prog 41 #[.slice ah hq.length ch, uvVal (uvD wq k)] z fun e w' => e = .returned (.bool (Dg.carry (ups hq) (uvD wq k).u)) ∧ Below z.heap.size z w') := fun z hz => IsReady_any hq _ _ z (HHK.out z hz) (by omega) (hx.below hz) ⟨hxi.lp, hxi.lt⟩
            have HU : Hid (∀ z, Below wr.heap.size wr z → UpIn z b (off + k * 5) (uvD wq k)) := fun z hz => ⟨cell_below hz p0, cell_below hz p1, cell_below hz p2, cell_below hz p3, cell_below hz p4⟩
            obtain ⟨a1, n1, d1, a2, n2, d2, a3, n3, d3, e1, e2, e3⟩ := hx.forms
            clear hx hxi p0 p1 p2 p3 p4
            generalize uvD wq k = x at *
            obtain ⟨⟨⟨ua, un⟩, ps, says, ts⟩, vp, vs, vt⟩ := x
            dsimp only at *
            subst e1 e2 e3
            go_upto_region 30 with fail
            refine wp_region_tabA (ckT30 w.heap.size ah hq.length ch (some ⟨b, off, none⟩) wq.length cw k b (off + k * 5) ua un a1 n1 d1 a2 n2 d2 a3 n3 d3 hb9) (by kernel_rfl) (by kernel_rfl) (ckT30_mono _ _ _ _ _ _ _ _ _ _ _ _ _ _ _ _ _ _ _ _ _ _) ?hop30 ?hend30
            case hop30 =>
              refine AllOps.cons (fun a y h => ?_) ?_
              · have e1 : a.eval (.tmp 1) = (.pointer (some ⟨w.heap.size, 0, none⟩) : Value) := h.old 1 (by kernel_rfl)
                refine opOk_val (v := .pointer (some ⟨w.heap.size, 0, none⟩)) (w' := y) (wanted_none rfl) ?_ (fun t ht => by cases ht; exact rfl) (Below.refl _ _)
                have ec : ∀ v, a.eval (.const v) = v := fun _ => rfl
                generalize a.eval = ev at *
                clear h
                go_simp
              refine AllOps.cons (fun a y h => ?_) ?_
              · have e108 : a.eval (.tmp 108) = (.pointer (some ⟨w.heap.size, 0, none⟩) : Value) := h.of 108 (by kernel_rfl)
                obtain ⟨c0, c1⟩ := HC.out y h.below
                refine opOk_val (v := .slice ah hq.length ch) (w' := y) (wanted_none rfl) ?_ (fun t ht => by cases ht; exact rfl) (Below.refl _ _)
                have ec : ∀ v, a.eval (.const v) = v := fun _ => rfl
                generalize a.eval = ev at *
                clear h
                go_simp
              refine AllOps.cons (fun a y h => ?_) ?_
              · have e1 : a.eval (.tmp 1) = (.pointer (some ⟨w.heap.size, 0, none⟩) : Value) := h.old 1 (by kernel_rfl)
                refine opOk_val (v := .pointer (some ⟨w.heap.size, 1, none⟩)) (w' := y) (wanted_none rfl) ?_ (fun t ht => by cases ht; exact rfl) (Below.refl _ _)
                have ec : ∀ v, a.eval (.const v) = v := fun _ => rfl
                generalize a.eval = ev at *
                clear h
                go_simp
              refine AllOps.cons (fun a y h => ?_) ?_
              · have e110 : a.eval (.tmp 110) = (.pointer (some ⟨w.heap.size, 1, none⟩) : Value) := h.of 110 (by kernel_rfl)
                obtain ⟨c0, c1⟩ := HC.out y h.below
                refine opOk_val (v := .slice (some ⟨b, off, none⟩) wq.length cw) (w' := y) (wanted_none rfl) ?_ (fun t ht => by cases ht; exact rfl) (Below.refl _ _)
                have ec : ∀ v, a.eval (.const v) = v := fun _ => rfl
                generalize a.eval = ev at *
                clear h
                go_simp
              refine AllOps.cons (fun a y h => ?_) ?_
              · have e9 : a.eval (.tmp 9) = (.int .i64 k : Value) := h.old 9 (by kernel_rfl)
                refine opOk_val (v := .int .i64 k) (w' := y) (wanted_none rfl) ?_ (fun t ht => by cases ht; exact rfl) (Below.refl _ _)
                have ec : ∀ v, a.eval (.const v) = v := fun _ => rfl
                generalize a.eval = ev at *
                clear h
                go_simp
              refine AllOps.cons (fun a y h => ?_) ?_
              · have e111 : a.eval (.tmp 111) = (.slice (some ⟨b, off, none⟩) wq.length cw : Value) := h.of 111 (by kernel_rfl)
                have e112 : a.eval (.tmp 112) = (.int .i64 k : Value) := h.of 112 (by kernel_rfl)
                refine opOk_val (v := .pointer (some ⟨b, off + k * 5, none⟩)) (w' := y) (wanted_none rfl) ?_ (fun t ht => by cases ht; exact rfl) (Below.refl _ _)
                have ec : ∀ v, a.eval (.const v) = v := fun _ => rfl
                generalize a.eval = ev at *
                clear h
                go_simp
              refine AllOps.cons (fun a y h => ?_) ?_
              · have e113 : a.eval (.tmp 113) = (.pointer (some ⟨b, off + k * 5, none⟩) : Value) := h.of 113 (by kernel_rfl)
                obtain ⟨u0, u1, u2, u3, u4⟩ := HU.out y h.below
                refine opOk_val (v := .agg #[.int .i64 ua, .int .i64 un, .slice a1 n1 d1, .slice a2 n2 d2, .slice a3 n3 d3]) (w' := y) (wanted_none rfl) ?_ (fun t ht => by cases ht; exact rfl) (Below.refl _ _)
                have ec : ∀ v, a.eval (.const v) = v := fun _ => rfl
                generalize a.eval = ev at *
                clear h
                go_simp
              refine AllOps.cons (fun a y h => ?_) ?_
              · have e109 : a.eval (.tmp 109) = (.slice ah hq.length ch : Value) := h.of 109 (by kernel_rfl)
                have e114 : a.eval (.tmp 114) = (.agg #[.int .i64 ua, .int .i64 un, .slice a1 n1 d1, .slice a2 n2 d2, .slice a3 n3 d3] : Value) := h.of 114 (by kernel_rfl)
                refine opOk_call (f := 41) (args := #[.slice ah hq.length ch, .agg #[.int .i64 ua, .int .i64 un, .slice a1 n1 d1, .slice a2 n2 d2, .slice a3 n3 d3]]) (wanted_none rfl) ?_ ?_
                · have ec : ∀ v, a.eval (.const v) = v := fun _ => rfl
                  have ef : ∀ f, a.eval (.func f) = .func (.func f) #[] #[] := fun _ => rfl
                  generalize a.eval = ev at *
                  clear h
                  go_simp
                · refine (HRD.out y h.below).mono ?_
                  rintro e w' ⟨rfl, hb⟩
                  exact ⟨_, rfl, fun t ht => by cases ht; show Value.bool _ = Value.bool hb9; rw [HB9.out], hb⟩
              exact AllOps.nil
            rintro ⟨tm, df⟩ wE hbE hdE hszE hstE hTE
            have k115 : tm.getD 115 undef = .bool hb9 := ends_at (T := ckT30 w.heap.size ah hq.length ch (some ⟨b, off, none⟩) wq.length cw k b (off + k * 5) ua un a1 n1 d1 a2 n2 d2 a3 n3 d3 hb9) (w := wE) (a := ⟨tm, df⟩) (t := 115) hTE (by kernel_rfl)
            obtain rfl : df = [] := hdE
            clear hTE
            have hF8 := tmps_fold [108, 109, 110, 111, 112, 113, 114, 115] tm _ hszE hstE
            clear hszE hstE
            simp only [List.foldl_cons, List.foldl_nil, k115] at hF8
            clear k115
            generalize tm.getD 108 undef = x108 at hF8
            generalize tm.getD 109 undef = x109 at hF8
            generalize tm.getD 110 undef = x110 at hF8
            generalize tm.getD 111 undef = x111 at hF8
            generalize tm.getD 112 undef = x112 at hF8
            generalize tm.getD 113 undef = x113 at hF8
            generalize tm.getD 114 undef = x114 at hF8
            simp only [List.setIfInBounds_toArray, List.set_cons_zero, List.set_cons_succ] at hF8
            subst hF8
            have HG3 : Hid (Below w2.heap.size w2 wE) := HG.out.trans (hbE.mono HG.out.size)
            clear hbE HU HC HG HG1 c0 c1 HHK HRD
            cases hb9
            · have HE : Hid _ := HN.out rfl
              clear HN HY HB9
              go_wp2_with fail
              go_roundw
              case rel => exact ⟨k + 1, hlt, by go_num, HE.out, HG3.out⟩
              case measure => simp [intOf]; omega
            · have HE : Hid _ := HY.out rfl
              clear HN HY HB9
              go_wp2_with fail
              go_ret
              exact ⟨by rw [HE.out]; rfl, HT.out _ (HG2.out.trans (HG3.out.mono HG2.out.size))⟩
          have hdd : decide (k < wq.length) = false := decide_eq_false hlt
          have HE : Hid (Dg.check (ups hq) (ups wq) = 0) := HTG4.out.trans (by rw [Dg.any_not (take_all (p := fun u => Dg.carry (ups hq) u = false) hlt HP.out)]; rfl)
          clear HP
          go_wp2_with fail
          go_ret
          exact ⟨by rw [HE.out]; rfl, HT.out _ HG1.out⟩

end Go.Proofs.YtmfaodapofamfaaGreat

/- The document's AddOf. -/
namespace Go.Proofs.YtmfaodapofamfaaGreat
open Go.RowKit

def aofT (Z B : Nat) (ah : Option Addr) (nh ch : Nat) (aw : Option Addr) (nw cw : Nat) (UV : Value) (q0 : List Uv) (tQ : Nat) (vQ : Value) (WQ : World) : Prop :=
  match tQ with
  | 35 => vQ = .pointer (some ⟨Z, 0, none⟩)
  | 36 => vQ = .slice ah nh ch
  | 37 => vQ = .pointer (some ⟨Z, 1, none⟩)
  | 38 => vQ = .slice aw nw cw
  | 39 => vQ = UV
  | 40 => URow WQ B vQ q0
  | 41 => ∃ v2, vQ = .agg #[.slice ah nh ch, v2] ∧ URow WQ B v2 q0
  | 6 => ∃ g, vQ = .pointer (some ⟨g, 0, none⟩) ∧ B ≤ g ∧ WQ.heap[g]? = some (.cells #[.slice none 0 0, .slice none 0 0] 24)
  | _ => True
theorem aofT_mono (Z B : Nat) (ah : Option Addr) (nh ch : Nat) (aw : Option Addr) (nw cw : Nat) (UV : Value) (q0 : List Uv) (tQ : Nat) (vQ : Value) (W W' : World) (hb : Below W.heap.size W W') (h : aofT Z B ah nh ch aw nw cw UV q0 tQ vQ W) : aofT Z B ah nh ch aw nw cw UV q0 tQ vQ W' := by
  revert h
  unfold aofT
  split <;> (intro h; first | exact h | exact (ownsRow_below h hb) | exact (h.elim fun v2 h => ⟨v2, h.1, ownsRow_below h.2 hb⟩) | exact (h.elim fun g h => ⟨g, h.1, h.2.1, (hb.block _ (Array.getElem?_eq_some_iff.1 h.2.2).1).trans h.2.2⟩))

theorem hasU_app (a b : List Wr.Up) (x : Wr.Id) : Dg.hasU (a ++ b) x = (Dg.hasU a x || Dg.hasU b x) := by
  unfold Dg.hasU
  rw [List.any_append]
set_option maxRecDepth 100000 in
set_option maxHeartbeats 4000000 in
theorem AddOf_any (hq wq : List Uv) (hv wv : Value) (x : Uv) (w : World) (hV : UpsV w hv hq) (wV : UpsV w wv wq) (hl : hq.length + wq.length ≤ 200) (hok : ∀ y, y ∈ hq ++ wq → UvOk w y ∧ y.u.ps.length ≤ 6 ∧ y.u.ts.length ≤ 6) (hx : UvOk w x ∧ x.u.ps.length ≤ 6 ∧ x.u.ts.length ≤ 6) (hnd : ((ups (hq ++ wq)).map Wr.Up.id).Nodup) :
    Calls Tryz.prog 11 #[repVal hv wv, uvVal x] w fun e w' => ∃ (v1 v2 : Value) (c l : List Uv) (b : Bool), e = .returned (.tuple #[repVal v1 v2, .bool b]) ∧ UpsV w' v1 c ∧ UpsV w' v2 l ∧ (∀ y, y ∈ c ++ l → UvOk w' y) ∧ AddR hq wq x c l b ∧ Below w.heap.size w w' := by
  have HO : Hid (∀ y, y ∈ hq ++ wq → UvOk w y ∧ y.u.ps.length ≤ 6 ∧ y.u.ts.length ≤ 6) := hok
  have HX : Hid (UvOk w x ∧ x.u.ps.length ≤ 6 ∧ x.u.ts.length ≤ 6) := hx
  have HND0 : Hid (((ups (hq ++ wq)).map Wr.Up.id).Nodup) := hnd
  have HHV : Hid (UpsV w hv hq) := hV
  have HWV : Hid (UpsV w wv wq) := wV
  obtain ⟨ah, ch, rfl, _, _⟩ := hV
  obtain ⟨aw, cw, rfl, _, _⟩ := wV
  obtain ⟨a1, n1, d1, a2, n2, d2, a3, n3, d3, e1, e2, e3⟩ := hx.1.forms
  clear hok hx hnd
  obtain ⟨⟨⟨ua, un⟩, ps, says, ts⟩, vp, vs, vt⟩ := x
  dsimp only at *
  subst e1 e2 e3
  have hb0 : Below w.heap.size w (w.alloc (.cells #[.slice ah hq.length ch, .slice aw wq.length cw] 24)) := (Below.refl _ _).alloc (Nat.le_refl _) _
  have hh0 := rl_new w (.cells #[.slice ah hq.length ch, .slice aw wq.length cw] 24)
  have hb1 : Below (w.alloc (.cells #[.slice ah hq.length ch, .slice aw wq.length cw] 24)).heap.size (w.alloc (.cells #[.slice ah hq.length ch, .slice aw wq.length cw] 24)) ((w.alloc (.cells #[.slice ah hq.length ch, .slice aw wq.length cw] 24)).alloc (.cells #[.int .i64 ua, .int .i64 un, .slice a1 n1 d1, .slice a2 n2 d2, .slice a3 n3 d3] 30)) := (Below.refl _ _).alloc (Nat.le_refl _) _
  have hh1 := rl_new (w.alloc (.cells #[.slice ah hq.length ch, .slice aw wq.length cw] 24)) (.cells #[.int .i64 ua, .int .i64 un, .slice a1 n1 d1, .slice a2 n2 d2, .slice a3 n3 d3] 30)
  have hb2 : Below ((w.alloc (.cells #[.slice ah hq.length ch, .slice aw wq.length cw] 24)).alloc (.cells #[.int .i64 ua, .int .i64 un, .slice a1 n1 d1, .slice a2 n2 d2, .slice a3 n3 d3] 30)).heap.size ((w.alloc (.cells #[.slice ah hq.length ch, .slice aw wq.length cw] 24)).alloc (.cells #[.int .i64 ua, .int .i64 un, .slice a1 n1 d1, .slice a2 n2 d2, .slice a3 n3 d3] 30)) (((w.alloc (.cells #[.slice ah hq.length ch, .slice aw wq.length cw] 24)).alloc (.cells #[.int .i64 ua, .int .i64 un, .slice a1 n1 d1, .slice a2 n2 d2, .slice a3 n3 d3] 30)).alloc (.cells #[.slice none 0 0, .slice none 0 0] 24)) := (Below.refl _ _).alloc (Nat.le_refl _) _
  have hh2 := rl_new ((w.alloc (.cells #[.slice ah hq.length ch, .slice aw wq.length cw] 24)).alloc (.cells #[.int .i64 ua, .int .i64 un, .slice a1 n1 d1, .slice a2 n2 d2, .slice a3 n3 d3] 30)) (.cells #[.slice none 0 0, .slice none 0 0] 24)
  have HB1 : Hid (Below w.heap.size w (((w.alloc (.cells #[.slice ah hq.length ch, .slice aw wq.length cw] 24)).alloc (.cells #[.int .i64 ua, .int .i64 un, .slice a1 n1 d1, .slice a2 n2 d2, .slice a3 n3 d3] 30)).alloc (.cells #[.slice none 0 0, .slice none 0 0] 24))) := (hb0.trans (hb1.mono hb0.size)).trans (hb2.mono (hb0.trans (hb1.mono hb0.size)).size)
  have k0 : (((w.alloc (.cells #[.slice ah hq.length ch, .slice aw wq.length cw] 24)).alloc (.cells #[.int .i64 ua, .int .i64 un, .slice a1 n1 d1, .slice a2 n2 d2, .slice a3 n3 d3] 30)).alloc (.cells #[.slice none 0 0, .slice none 0 0] 24)).heap[w.heap.size]? = some (.cells #[.slice ah hq.length ch, .slice aw wq.length cw] 24) := by
    have h3 := (hb1.block _ (Array.getElem?_eq_some_iff.1 hh0).1).trans hh0
    exact (hb2.block _ (Array.getElem?_eq_some_iff.1 h3).1).trans h3
  have k1 : (((w.alloc (.cells #[.slice ah hq.length ch, .slice aw wq.length cw] 24)).alloc (.cells #[.int .i64 ua, .int .i64 un, .slice a1 n1 d1, .slice a2 n2 d2, .slice a3 n3 d3] 30)).alloc (.cells #[.slice none 0 0, .slice none 0 0] 24)).heap[w.heap.size + 1]? = some (.cells #[.int .i64 ua, .int .i64 un, .slice a1 n1 d1, .slice a2 n2 d2, .slice a3 n3 d3] 30) := by
    rw [World.size_alloc] at hh1
    exact (hb2.block _ (Array.getElem?_eq_some_iff.1 hh1).1).trans hh1
  have k2 : (((w.alloc (.cells #[.slice ah hq.length ch, .slice aw wq.length cw] 24)).alloc (.cells #[.int .i64 ua, .int .i64 un, .slice a1 n1 d1, .slice a2 n2 d2, .slice a3 n3 d3] 30)).alloc (.cells #[.slice none 0 0, .slice none 0 0] 24)).heap[w.heap.size + 2]? = some (.cells #[.slice none 0 0, .slice none 0 0] 24) := by
    rw [World.size_alloc, World.size_alloc] at hh2
    exact hh2
  have hs1 : (((w.alloc (.cells #[.slice ah hq.length ch, .slice aw wq.length cw] 24)).alloc (.cells #[.int .i64 ua, .int .i64 un, .slice a1 n1 d1, .slice a2 n2 d2, .slice a3 n3 d3] 30)).alloc (.cells #[.slice none 0 0, .slice none 0 0] 24)).heap.size = w.heap.size + 3 := by simp
  clear hb0 hb1 hb2 hh0 hh1 hh2
  obtain ⟨b1, HBQ⟩ : ∃ b, Hid (b = Dg.hasU (ups hq) ⟨ua, un⟩) := ⟨_, rfl⟩
  obtain ⟨b2, HBW⟩ : ∃ b, Hid (b = Dg.hasU (ups wq) ⟨ua, un⟩) := ⟨_, rfl⟩
  have HHAS : Hid (Dg.hasU (ups hq ++ ups wq) ⟨ua, un⟩ = (b1 || b2)) := by show _ = _; rw [hasU_app, HBQ.out, HBW.out]
  go_enter Tryz.func11, Tryz.ntmps11
  go_upto_region 1 with fail
  generalize (((w.alloc (.cells #[.slice ah hq.length ch, .slice aw wq.length cw] 24)).alloc (.cells #[.int .i64 ua, .int .i64 un, .slice a1 n1 d1, .slice a2 n2 d2, .slice a3 n3 d3] 30)).alloc (.cells #[.slice none 0 0, .slice none 0 0] 24)) = w1 at *
  have HF : Hid (∀ z, Below w1.heap.size w1 z → (z.cell? ⟨w.heap.size, 0, none⟩ = some (.slice ah hq.length ch) ∧ z.cell? ⟨w.heap.size, 1, none⟩ = some (.slice aw wq.length cw)) ∧ z.cell? ⟨w.heap.size + 1, 0, none⟩ = some (.int .i64 ua) ∧ z.cell? ⟨w.heap.size + 1, 1, none⟩ = some (.int .i64 un) ∧ z.cell? ⟨w.heap.size + 1, 2, none⟩ = some (.slice a1 n1 d1) ∧ z.cell? ⟨w.heap.size + 1, 3, none⟩ = some (.slice a2 n2 d2) ∧ z.cell? ⟨w.heap.size + 1, 4, none⟩ = some (.slice a3 n3 d3)) := fun z hz => by
    have j0 := (hz.block _ (Array.getElem?_eq_some_iff.1 k0).1).trans k0
    have j1 := (hz.block _ (Array.getElem?_eq_some_iff.1 k1).1).trans k1
    exact ⟨⟨by rw [Lib.cell_of_heap j0]; rfl, by rw [Lib.cell_of_heap j0]; rfl⟩, by rw [Lib.cell_of_heap j1]; rfl, by rw [Lib.cell_of_heap j1]; rfl, by rw [Lib.cell_of_heap j1]; rfl, by rw [Lib.cell_of_heap j1]; rfl, by rw [Lib.cell_of_heap j1]; rfl⟩
  have HR2 : Hid (∀ z, Below w1.heap.size w1 z → z.heap[w.heap.size + 2]? = some (.cells #[.slice none 0 0, .slice none 0 0] 24)) := fun z hz => (hz.block _ (Array.getElem?_eq_some_iff.1 k2).1).trans k2
  have HT : Hid (∀ z, Below w1.heap.size w1 z → Below w.heap.size w z) := fun z hz => HB1.out.trans (hz.mono HB1.out.size)
  have HP1 : Hid (∀ z, Below w1.heap.size w1 z → Calls Tryz.prog 19 #[.slice ah hq.length ch, .agg #[.int .i64 ua, .int .i64 un]] z fun e w' => ∃ r : Int, e = .returned (.int .i64 r) ∧ decide (0 ≤ r) = b1 ∧ Below z.heap.size z w') := fun z hz => (PlaceOf_any hq ⟨ua, un⟩ _ z (HHV.out.kc (Kc.below (HT.out z hz))) (by omega)).mono fun e w' h => by
    obtain ⟨r, h1, h2, h3⟩ := h
    exact ⟨r, h1, by rw [h2.pos, HBQ.out], h3⟩
  have HP2 : Hid (∀ z, Below w1.heap.size w1 z → Calls Tryz.prog 19 #[.slice aw wq.length cw, .agg #[.int .i64 ua, .int .i64 un]] z fun e w' => ∃ r : Int, e = .returned (.int .i64 r) ∧ decide (0 ≤ r) = b2 ∧ Below z.heap.size z w') := fun z hz => (PlaceOf_any wq ⟨ua, un⟩ _ z (HWV.out.kc (Kc.below (HT.out z hz))) (by omega)).mono fun e w' h => by
    obtain ⟨r, h1, h2, h3⟩ := h
    exact ⟨r, h1, by rw [h2.pos, HBW.out], h3⟩
  clear k0 k1 k2
  have HSAME : Hid (∀ z, Below w1.heap.size w1 z → ∀ z2, Below w.heap.size w z2 → UpsV z2 (.slice ah hq.length ch) hq ∧ UpsV z2 (.slice aw wq.length cw) wq ∧ ∀ y, y ∈ hq ++ wq → UvOk z2 y) := fun z _ z2 h2 => ⟨HHV.out.kc (Kc.below h2), HWV.out.kc (Kc.below h2), fun y hy => (HO.out y hy).1.below h2⟩
  obtain ⟨⟨c0, c1⟩, u0, u1, u2, u3, u4⟩ := HF.out w1 (Below.refl _ _)
  cases b1
  rotate_left
  · have HY : Hid (AddR hq wq ⟨⟨⟨ua, un⟩, ps, says, ts⟩, .slice a1 n1 d1, .slice a2 n2 d2, .slice a3 n3 d3⟩ hq wq true) := .inl ⟨HHAS.out, rfl, rfl, rfl⟩
    go_upto_region 2 with ((with_reducible refine Calls.mono (HP1.out w1 (Below.refl _ _)) ?_); rintro e w3 ⟨r1, rfl, q1, hb3⟩; have hbw3 := hb3; obtain ⟨⟨c0, c1⟩, u0, u1, u2, u3, u4⟩ := HF.out w3 hb3)
    have hbw := HT.out w3 hb3
    have tk0 := HR2.out w3 hb3
    have tz0 : (w3).cell? ⟨w.heap.size + 2, 0, none⟩ = some (.slice none 0 0) := by rw [Lib.cell_of_heap tk0]; rfl
    have ty0 := Lib.frozen_of_heap tk0 0
    have tk1 : ((w3).setCell ⟨w.heap.size + 2, 0, none⟩ (.slice ah hq.length ch)).heap[w.heap.size + 2]? = some (.cells #[.slice ah hq.length ch, .slice none 0 0] 24) := by rw [Lib.heap_setCell_same tk0]; rfl
    have tz1 : ((w3).setCell ⟨w.heap.size + 2, 0, none⟩ (.slice ah hq.length ch)).cell? ⟨w.heap.size + 2, 1, none⟩ = some (.slice none 0 0) := by rw [Lib.cell_of_heap tk1]; rfl
    have ty1 := Lib.frozen_of_heap tk1 1
    have tk2 : (((w3).setCell ⟨w.heap.size + 2, 0, none⟩ (.slice ah hq.length ch)).setCell ⟨w.heap.size + 2, 1, none⟩ (.slice aw wq.length cw)).heap[w.heap.size + 2]? = some (.cells #[.slice ah hq.length ch, .slice aw wq.length cw] 24) := by rw [Lib.heap_setCell_same tk1]; rfl
    have td0 : (((w3).setCell ⟨w.heap.size + 2, 0, none⟩ (.slice ah hq.length ch)).setCell ⟨w.heap.size + 2, 1, none⟩ (.slice aw wq.length cw)).cell? ⟨w.heap.size + 2, 0, none⟩ = some (.slice ah hq.length ch) := by rw [Lib.cell_of_heap tk2]; rfl
    have td1 : (((w3).setCell ⟨w.heap.size + 2, 0, none⟩ (.slice ah hq.length ch)).setCell ⟨w.heap.size + 2, 1, none⟩ (.slice aw wq.length cw)).cell? ⟨w.heap.size + 2, 1, none⟩ = some (.slice aw wq.length cw) := by rw [Lib.cell_of_heap tk2]; rfl
    have tg : (w3).grownBy (((w3).setCell ⟨w.heap.size + 2, 0, none⟩ (.slice ah hq.length ch)).setCell ⟨w.heap.size + 2, 1, none⟩ (.slice aw wq.length cw)) (some (w.heap.size + 2)) := (grown_set _ _ _ _).trans_row (grown_set _ _ _ _)
    have tB : Hid (Below w.heap.size w (((w3).setCell ⟨w.heap.size + 2, 0, none⟩ (.slice ah hq.length ch)).setCell ⟨w.heap.size + 2, 1, none⟩ (.slice aw wq.length cw))) := hbw.grown tg hbw.size (fun j e => by cases e; omega)
    go_wp2_with fail
    refine bodyPost_ret (v := .tuple #[.agg #[.slice ah hq.length ch, .slice aw wq.length cw], .bool true]) (by simp [results, Tryz.results11, go_sem, td0, td1]) rfl ?_
    obtain ⟨j1, j2, j3⟩ := HSAME.out w3 hb3 _ tB.out
    exact ⟨_, _, hq, wq, true, rfl, j1, j2, j3, HY.out, tB.out⟩
  cases b2
  rotate_left
  · have HY : Hid (AddR hq wq ⟨⟨⟨ua, un⟩, ps, says, ts⟩, .slice a1 n1 d1, .slice a2 n2 d2, .slice a3 n3 d3⟩ hq wq true) := .inl ⟨HHAS.out, rfl, rfl, rfl⟩
    go_upto_region 2 with (first | ((with_reducible refine Calls.mono (HP1.out w1 (Below.refl _ _)) ?_); rintro e w3 ⟨r1, rfl, q1, hb3⟩; have hbw3 := hb3; obtain ⟨⟨c0, c1⟩, u0, u1, u2, u3, u4⟩ := HF.out w3 hb3) | ((with_reducible refine Calls.mono (HP2.out w3 hbw3) ?_); rintro e w4 ⟨r2, rfl, q2, hb4⟩; obtain ⟨⟨c0, c1⟩, u0, u1, u2, u3, u4⟩ := HF.out w4 (hbw3.trans (hb4.mono hbw3.size))))
    have hb14 := hbw3.trans (hb4.mono hbw3.size)
    have hbw := HT.out w4 hb14
    have tk0 := HR2.out w4 hb14
    have tz0 : (w4).cell? ⟨w.heap.size + 2, 0, none⟩ = some (.slice none 0 0) := by rw [Lib.cell_of_heap tk0]; rfl
    have ty0 := Lib.frozen_of_heap tk0 0
    have tk1 : ((w4).setCell ⟨w.heap.size + 2, 0, none⟩ (.slice ah hq.length ch)).heap[w.heap.size + 2]? = some (.cells #[.slice ah hq.length ch, .slice none 0 0] 24) := by rw [Lib.heap_setCell_same tk0]; rfl
    have tz1 : ((w4).setCell ⟨w.heap.size + 2, 0, none⟩ (.slice ah hq.length ch)).cell? ⟨w.heap.size + 2, 1, none⟩ = some (.slice none 0 0) := by rw [Lib.cell_of_heap tk1]; rfl
    have ty1 := Lib.frozen_of_heap tk1 1
    have tk2 : (((w4).setCell ⟨w.heap.size + 2, 0, none⟩ (.slice ah hq.length ch)).setCell ⟨w.heap.size + 2, 1, none⟩ (.slice aw wq.length cw)).heap[w.heap.size + 2]? = some (.cells #[.slice ah hq.length ch, .slice aw wq.length cw] 24) := by rw [Lib.heap_setCell_same tk1]; rfl
    have td0 : (((w4).setCell ⟨w.heap.size + 2, 0, none⟩ (.slice ah hq.length ch)).setCell ⟨w.heap.size + 2, 1, none⟩ (.slice aw wq.length cw)).cell? ⟨w.heap.size + 2, 0, none⟩ = some (.slice ah hq.length ch) := by rw [Lib.cell_of_heap tk2]; rfl
    have td1 : (((w4).setCell ⟨w.heap.size + 2, 0, none⟩ (.slice ah hq.length ch)).setCell ⟨w.heap.size + 2, 1, none⟩ (.slice aw wq.length cw)).cell? ⟨w.heap.size + 2, 1, none⟩ = some (.slice aw wq.length cw) := by rw [Lib.cell_of_heap tk2]; rfl
    have tg : (w4).grownBy (((w4).setCell ⟨w.heap.size + 2, 0, none⟩ (.slice ah hq.length ch)).setCell ⟨w.heap.size + 2, 1, none⟩ (.slice aw wq.length cw)) (some (w.heap.size + 2)) := (grown_set _ _ _ _).trans_row (grown_set _ _ _ _)
    have tB : Hid (Below w.heap.size w (((w4).setCell ⟨w.heap.size + 2, 0, none⟩ (.slice ah hq.length ch)).setCell ⟨w.heap.size + 2, 1, none⟩ (.slice aw wq.length cw))) := hbw.grown tg hbw.size (fun j e => by cases e; omega)
    go_wp2_with fail
    refine bodyPost_ret (v := .tuple #[.agg #[.slice ah hq.length ch, .slice aw wq.length cw], .bool true]) (by simp [results, Tryz.results11, go_sem, td0, td1]) rfl ?_
    obtain ⟨j1, j2, j3⟩ := HSAME.out w4 hb14 _ tB.out
    exact ⟨_, _, hq, wq, true, rfl, j1, j2, j3, HY.out, tB.out⟩
  go_upto_region 3 with (first | ((with_reducible refine Calls.mono (HP1.out w1 (Below.refl _ _)) ?_); rintro e w3 ⟨r1, rfl, q1, hb3⟩; have hbw3 := hb3; obtain ⟨⟨c0, c1⟩, u0, u1, u2, u3, u4⟩ := HF.out w3 hb3) | ((with_reducible refine Calls.mono (HP2.out w3 hbw3) ?_); rintro e w4 ⟨r2, rfl, q2, hb4⟩; obtain ⟨⟨c0, c1⟩, u0, u1, u2, u3, u4⟩ := HF.out w4 (hbw3.trans (hb4.mono hbw3.size))))
  have HB14 : Hid (Below w1.heap.size w1 w4) := hbw3.trans (hb4.mono hbw3.size)
  have HBW4 : Hid (Below w.heap.size w w4) := HT.out w4 HB14.out
  have hs4 : w.heap.size + 3 ≤ w4.heap.size := by have := HB14.out.size; omega
  clear hb3 hbw3 hb4 q1 q2 HP1 HP2
  have hwr : IntKind.i64.wrap ((hq.length : Int) + (wq.length : Int)) = ((hq.length + wq.length : Nat) : Int) := by
    rw [← Int.natCast_add]
    simp [IntKind.wrap, IntKind.bits, IntKind.signed]
    omega
  by_cases hmany : 200 ≤ hq.length + wq.length
  · have g0 : decide ((200 : Int) ≤ ((hq.length + wq.length : Nat) : Int)) = true := decide_eq_true (by omega)
    have g1 : decide (200 ≤ hq.length + wq.length) = true := decide_eq_true hmany
    have HY : Hid (AddR hq wq ⟨⟨⟨ua, un⟩, ps, says, ts⟩, .slice a1 n1 d1, .slice a2 n2 d2, .slice a3 n3 d3⟩ [] [] false) := .inr (.inl ⟨HHAS.out, hmany, rfl, rfl, rfl⟩)
    go_upto_region 4 with fail
    have hbw := HBW4.out
    have tk0 := HR2.out w4 HB14.out
    have tz0 : (w4).cell? ⟨w.heap.size + 2, 0, none⟩ = some (.slice none 0 0) := by rw [Lib.cell_of_heap tk0]; rfl
    have ty0 := Lib.frozen_of_heap tk0 0
    have tk1 : ((w4).setCell ⟨w.heap.size + 2, 0, none⟩ (.slice none 0 0)).heap[w.heap.size + 2]? = some (.cells #[.slice none 0 0, .slice none 0 0] 24) := by rw [Lib.heap_setCell_same tk0]; rfl
    have tz1 : ((w4).setCell ⟨w.heap.size + 2, 0, none⟩ (.slice none 0 0)).cell? ⟨w.heap.size + 2, 1, none⟩ = some (.slice none 0 0) := by rw [Lib.cell_of_heap tk1]; rfl
    have ty1 := Lib.frozen_of_heap tk1 1
    have tk2 : (((w4).setCell ⟨w.heap.size + 2, 0, none⟩ (.slice none 0 0)).setCell ⟨w.heap.size + 2, 1, none⟩ (.slice none 0 0)).heap[w.heap.size + 2]? = some (.cells #[.slice none 0 0, .slice none 0 0] 24) := by rw [Lib.heap_setCell_same tk1]; rfl
    have td0 : (((w4).setCell ⟨w.heap.size + 2, 0, none⟩ (.slice none 0 0)).setCell ⟨w.heap.size + 2, 1, none⟩ (.slice none 0 0)).cell? ⟨w.heap.size + 2, 0, none⟩ = some (.slice none 0 0) := by rw [Lib.cell_of_heap tk2]; rfl
    have td1 : (((w4).setCell ⟨w.heap.size + 2, 0, none⟩ (.slice none 0 0)).setCell ⟨w.heap.size + 2, 1, none⟩ (.slice none 0 0)).cell? ⟨w.heap.size + 2, 1, none⟩ = some (.slice none 0 0) := by rw [Lib.cell_of_heap tk2]; rfl
    have tg : (w4).grownBy (((w4).setCell ⟨w.heap.size + 2, 0, none⟩ (.slice none 0 0)).setCell ⟨w.heap.size + 2, 1, none⟩ (.slice none 0 0)) (some (w.heap.size + 2)) := (grown_set _ _ _ _).trans_row (grown_set _ _ _ _)
    have tB : Hid (Below w.heap.size w (((w4).setCell ⟨w.heap.size + 2, 0, none⟩ (.slice none 0 0)).setCell ⟨w.heap.size + 2, 1, none⟩ (.slice none 0 0))) := hbw.grown tg hbw.size (fun j e => by cases e; omega)
    go_wp2_with fail
    refine bodyPost_ret (v := .tuple #[.agg #[.slice none 0 0, .slice none 0 0], .bool false]) (by simp [results, Tryz.results11, go_sem, td0, td1]) rfl ?_
    exact ⟨_, _, [], [], false, rfl, ups_nil _, ups_nil _, fun y hy => absurd hy (by simp), HY.out, tB.out⟩
  have g0 : decide ((200 : Int) ≤ ((hq.length + wq.length : Nat) : Int)) = false := decide_eq_false (by omega)
  have g1 : decide (200 ≤ hq.length + wq.length) = false := decide_eq_false hmany
  obtain ⟨q0, HQ0⟩ : ∃ q, Hid (q = insV ⟨⟨⟨ua, un⟩, ps, says, ts⟩, .slice a1 n1 d1, .slice a2 n2 d2, .slice a3 n3 d3⟩ wq) := ⟨_, rfl⟩
  have hlq0 : q0.length = wq.length + 1 := by rw [HQ0.out, (insV_perm _ wq).length_eq]; rfl
  have HY : Hid (∀ c l, Dg.settle Dg.put (ups hq) (ups q0) = (ups c, ups l) → AddR hq wq ⟨⟨⟨ua, un⟩, ps, says, ts⟩, .slice a1 n1 d1, .slice a2 n2 d2, .slice a3 n3 d3⟩ c l true) := fun c l h => .inr (.inr ⟨HHAS.out, by omega, rfl, by
    rw [HQ0.out, ups_insV] at h
    exact h⟩)
  have HIO : Hid (∀ z, Below w4.heap.size w4 z → Calls Tryz.prog 50 #[.slice aw wq.length cw, .agg #[.int .i64 ua, .int .i64 un, .slice a1 n1 d1, .slice a2 n2 d2, .slice a3 n3 d3]] z fun e w' => ∃ v', e = .returned v' ∧ URow w' z.heap.size v' q0 ∧ Below z.heap.size z w') := fun z hz => by
    have hbz := HBW4.out.trans (hz.mono HBW4.out.size)
    have h1 := inOrder_any wq (.slice aw wq.length cw) ⟨⟨⟨ua, un⟩, ps, says, ts⟩, .slice a1 n1 d1, .slice a2 n2 d2, .slice a3 n3 d3⟩ z (HWV.out.kc (Kc.below hbz)) (by omega) (fun y hy => (HO.out y (List.mem_append_right _ hy)).1.below hbz) (HX.out.1.below hbz)
    rw [← HQ0.out] at h1
    exact h1
  have HF4 : Hid (∀ z, Below w4.heap.size w4 z → (z.cell? ⟨w.heap.size, 0, none⟩ = some (.slice ah hq.length ch) ∧ z.cell? ⟨w.heap.size, 1, none⟩ = some (.slice aw wq.length cw)) ∧ z.cell? ⟨w.heap.size + 1, 0, none⟩ = some (.int .i64 ua) ∧ z.cell? ⟨w.heap.size + 1, 1, none⟩ = some (.int .i64 un) ∧ z.cell? ⟨w.heap.size + 1, 2, none⟩ = some (.slice a1 n1 d1) ∧ z.cell? ⟨w.heap.size + 1, 3, none⟩ = some (.slice a2 n2 d2) ∧ z.cell? ⟨w.heap.size + 1, 4, none⟩ = some (.slice a3 n3 d3)) := fun z hz => HF.out z (HB14.out.trans (hz.mono HB14.out.size))
  have HALL : Hid (∀ y, y ∈ hq ++ q0 → UvOk w y ∧ y.u.ps.length ≤ 6 ∧ y.u.ts.length ≤ 6) := fun y hy => by
    rcases List.mem_append.mp hy with h | h
    · exact HO.out y (List.mem_append_left _ h)
    · rw [HQ0.out] at h
      rcases List.mem_cons.mp ((insV_perm _ wq).mem_iff.mp h) with rfl | h
      · exact HX.out
      · exact HO.out y (List.mem_append_right _ h)
  have HND : Hid (∀ a : List Uv, a.Perm (hq ++ q0) → ((ups a).map Wr.Up.id).Nodup) := fun a ha => by
    refine nodup_perm ha ?_
    have hp : (hq ++ q0).Perm (⟨⟨⟨ua, un⟩, ps, says, ts⟩, .slice a1 n1 d1, .slice a2 n2 d2, .slice a3 n3 d3⟩ :: (hq ++ wq)) := by
      rw [HQ0.out]
      exact (List.Perm.append_left hq (insV_perm _ wq)).trans List.perm_middle
    refine nodup_perm hp ?_
    show (_ :: (ups (hq ++ wq)).map Wr.Up.id).Nodup
    rw [List.nodup_cons]
    refine ⟨fun hm => ?_, HND0.out⟩
    obtain ⟨u, hu, e⟩ := List.mem_map.mp hm
    have h9 : Dg.hasU (ups hq ++ ups wq) ⟨ua, un⟩ = true := Dg.hasU_iff.mpr ⟨u, by rw [← ups_append]; exact hu, e⟩
    rw [HHAS.out] at h9
    cases h9
  go_upto_region 5 with fail
  clear hwr g0 g1 c0 c1 u0 u1 u2 u3 u4 HSAME HHAS HBQ HBW HF HX HO HQ0
  refine wp_region_tabL (aofT w.heap.size w4.heap.size ah hq.length ch aw wq.length cw (.agg #[.int .i64 ua, .int .i64 un, .slice a1 n1 d1, .slice a2 n2 d2, .slice a3 n3 d3]) q0) _ rfl (by kernel_rfl) (by kernel_rfl) (by kernel_rfl) (aofT_mono _ _ _ _ _ _ _ _ _ _) ?hop5 ?hlast5
  case hop5 =>
    refine AllOps.cons (fun a y h => ?_) ?_
    · have e2 : a.eval (.tmp 2) = (.pointer (some ⟨w.heap.size, 0, none⟩) : Value) := h.old 2 (by kernel_rfl)
      refine opOk_val (v := .pointer (some ⟨w.heap.size, 0, none⟩)) (w' := y) (wanted_none rfl) ?_ (fun t ht => by cases ht; exact rfl) (Below.refl _ _)
      have ec : ∀ v, a.eval (.const v) = v := fun _ => rfl
      generalize a.eval = ev at *
      clear h
      go_simp
    refine AllOps.cons (fun a y h => ?_) ?_
    · have e35 : a.eval (.tmp 35) = (.pointer (some ⟨w.heap.size, 0, none⟩) : Value) := h.of 35 (by kernel_rfl)
      obtain ⟨⟨c0, c1⟩, _⟩ := HF4.out y h.below
      refine opOk_val (v := .slice ah hq.length ch) (w' := y) (wanted_none rfl) ?_ (fun t ht => by cases ht; exact rfl) (Below.refl _ _)
      have ec : ∀ v, a.eval (.const v) = v := fun _ => rfl
      generalize a.eval = ev at *
      clear h
      go_simp
    refine AllOps.cons (fun a y h => ?_) ?_
    · have e2 : a.eval (.tmp 2) = (.pointer (some ⟨w.heap.size, 0, none⟩) : Value) := h.old 2 (by kernel_rfl)
      refine opOk_val (v := .pointer (some ⟨w.heap.size, 1, none⟩)) (w' := y) (wanted_none rfl) ?_ (fun t ht => by cases ht; exact rfl) (Below.refl _ _)
      have ec : ∀ v, a.eval (.const v) = v := fun _ => rfl
      generalize a.eval = ev at *
      clear h
      go_simp
    refine AllOps.cons (fun a y h => ?_) ?_
    · have e37 : a.eval (.tmp 37) = (.pointer (some ⟨w.heap.size, 1, none⟩) : Value) := h.of 37 (by kernel_rfl)
      obtain ⟨⟨c0, c1⟩, _⟩ := HF4.out y h.below
      refine opOk_val (v := .slice aw wq.length cw) (w' := y) (wanted_none rfl) ?_ (fun t ht => by cases ht; exact rfl) (Below.refl _ _)
      have ec : ∀ v, a.eval (.const v) = v := fun _ => rfl
      generalize a.eval = ev at *
      clear h
      go_simp
    refine AllOps.cons (fun a y h => ?_) ?_
    · have e3 : a.eval (.tmp 3) = (.pointer (some ⟨w.heap.size + 1, 0, none⟩) : Value) := h.old 3 (by kernel_rfl)
      obtain ⟨_, u0, u1, u2, u3, u4⟩ := HF4.out y h.below
      refine opOk_val (v := .agg #[.int .i64 ua, .int .i64 un, .slice a1 n1 d1, .slice a2 n2 d2, .slice a3 n3 d3]) (w' := y) (wanted_none rfl) ?_ (fun t ht => by cases ht; exact rfl) (Below.refl _ _)
      have ec : ∀ v, a.eval (.const v) = v := fun _ => rfl
      generalize a.eval = ev at *
      clear h
      go_simp
    refine AllOps.cons (fun a y h => ?_) ?_
    · have e38 : a.eval (.tmp 38) = (.slice aw wq.length cw : Value) := h.of 38 (by kernel_rfl)
      have e39 : a.eval (.tmp 39) = (.agg #[.int .i64 ua, .int .i64 un, .slice a1 n1 d1, .slice a2 n2 d2, .slice a3 n3 d3] : Value) := h.of 39 (by kernel_rfl)
      refine opOk_call (f := 50) (args := #[.slice aw wq.length cw, .agg #[.int .i64 ua, .int .i64 un, .slice a1 n1 d1, .slice a2 n2 d2, .slice a3 n3 d3]]) (wanted_none rfl) ?_ ?_
      · have ec : ∀ v, a.eval (.const v) = v := fun _ => rfl
        have ef : ∀ f, a.eval (.func f) = .func (.func f) #[] #[] := fun _ => rfl
        generalize a.eval = ev at *
        clear h
        go_simp
      · refine (HIO.out y h.below).mono ?_
        rintro e w' ⟨v', rfl, ho, hb⟩
        exact ⟨v', rfl, fun t ht => by cases ht; exact rl_own_le ho h.below.size, hb⟩
    refine AllOps.cons (fun a y h => ?_) ?_
    · have e36 : a.eval (.tmp 36) = (.slice ah hq.length ch : Value) := h.of 36 (by kernel_rfl)
      have t40 : URow y w4.heap.size (a.eval (.tmp 40)) q0 := h.of 40 (by kernel_rfl)
      obtain ⟨p8, k8, q8⟩ := own_slice t40
      refine opOk_val (v := .agg #[.slice ah hq.length ch, .slice p8 q0.length k8]) (w' := y) (wanted_none rfl) ?_ (fun t ht => by cases ht; exact ⟨_, rfl, q8 ▸ t40⟩) (Below.refl _ _)
      have ec : ∀ v, a.eval (.const v) = v := fun _ => rfl
      generalize a.eval = ev at *
      clear h
      go_simp
    refine AllOps.cons (fun a y h => ?_) ?_
    · refine opOk_val (v := .pointer (some ⟨y.heap.size, 0, none⟩)) (w' := y.alloc (.cells #[.slice none 0 0, .slice none 0 0] 24)) (wanted_none rfl) ?_ (fun t ht => by cases ht; exact ⟨y.heap.size, rfl, h.below.size, rl_new y _⟩) ((Below.refl _ _).alloc (Nat.le_refl _) _)
      have ec : ∀ v, a.eval (.const v) = v := fun _ => rfl
      generalize a.eval = ev at *
      clear h
      go_simp
    exact AllOps.nil
  rintro ⟨tm, df⟩ y hI
  obtain ⟨v2, e41, o2⟩ : ∃ v2, (Act.eval ⟨tm, df⟩ (.tmp 41)) = .agg #[.slice ah hq.length ch, v2] ∧ URow y w4.heap.size v2 q0 := hI.all 6 _ 41 (by decide) rfl rfl
  obtain ⟨g, e6, hgB, sk0⟩ : ∃ g, (Act.eval ⟨tm, df⟩ (.tmp 6)) = .pointer (some ⟨g, 0, none⟩) ∧ w4.heap.size ≤ g ∧ y.heap[g]? = some (.cells #[.slice none 0 0, .slice none 0 0] 24) := hI.all 7 _ 6 (by decide) rfl rfl
  obtain ⟨p2, k2, rfl⟩ := own_slice o2
  have sz0 : (y).cell? ⟨g, 0, none⟩ = some (.slice none 0 0) := by rw [Lib.cell_of_heap sk0]; rfl
  have sy0 := Lib.frozen_of_heap sk0 0
  have sk1 : ((y).setCell ⟨g, 0, none⟩ (.slice ah hq.length ch)).heap[g]? = some (.cells #[.slice ah hq.length ch, .slice none 0 0] 24) := by rw [Lib.heap_setCell_same sk0]; rfl
  have sz1 : ((y).setCell ⟨g, 0, none⟩ (.slice ah hq.length ch)).cell? ⟨g, 1, none⟩ = some (.slice none 0 0) := by rw [Lib.cell_of_heap sk1]; rfl
  have sy1 := Lib.frozen_of_heap sk1 1
  have sk2 : (((y).setCell ⟨g, 0, none⟩ (.slice ah hq.length ch)).setCell ⟨g, 1, none⟩ (.slice p2 q0.length k2)).heap[g]? = some (.cells #[.slice ah hq.length ch, .slice p2 q0.length k2] 24) := by rw [Lib.heap_setCell_same sk1]; rfl
  have sd0 : (((y).setCell ⟨g, 0, none⟩ (.slice ah hq.length ch)).setCell ⟨g, 1, none⟩ (.slice p2 q0.length k2)).cell? ⟨g, 0, none⟩ = some (.slice ah hq.length ch) := by rw [Lib.cell_of_heap sk2]; rfl
  have sd1 : (((y).setCell ⟨g, 0, none⟩ (.slice ah hq.length ch)).setCell ⟨g, 1, none⟩ (.slice p2 q0.length k2)).cell? ⟨g, 1, none⟩ = some (.slice p2 q0.length k2) := by rw [Lib.cell_of_heap sk2]; rfl
  have sg : (y).grownBy (((y).setCell ⟨g, 0, none⟩ (.slice ah hq.length ch)).setCell ⟨g, 1, none⟩ (.slice p2 q0.length k2)) (some (g)) := (grown_set _ _ _ _).trans_row (grown_set _ _ _ _)
  refine wpOp_skip (w' := ((y).setCell ⟨g, 0, none⟩ (.slice ah hq.length ch)).setCell ⟨g, 1, none⟩ (.slice p2 q0.length k2)) rfl (wanted_none rfl) rfl ?hr5 ?_
  case hr5 =>
    show Sem.run Tryz.prog (execOp (Act.eval ⟨tm, df⟩) _) y = _
    generalize Act.eval ⟨tm, df⟩ = ev at *
    clear hI
    go_simp
  have hwy : Below w.heap.size w y := HBW4.out.trans (hI.below.mono HBW4.out.size)
  have hw4 : w.heap.size + 3 ≤ w4.heap.size := hs4
  have HBF : Hid (Below w.heap.size w (((y).setCell ⟨g, 0, none⟩ (.slice ah hq.length ch)).setCell ⟨g, 1, none⟩ (.slice p2 q0.length k2))) := hwy.grown sg hwy.size (fun j e => by cases e; omega)
  have HRH : Hid (RowS g (w.heap.size + 2) (((y).setCell ⟨g, 0, none⟩ (.slice ah hq.length ch)).setCell ⟨g, 1, none⟩ (.slice p2 q0.length k2)) (.slice ah hq.length ch) hq) := rowS_old HHV.out HBF.out (by omega) (by omega)
  have HRW : Hid (RowS g (w.heap.size + 2) (((y).setCell ⟨g, 0, none⟩ (.slice ah hq.length ch)).setCell ⟨g, 1, none⟩ (.slice p2 q0.length k2)) (.slice p2 q0.length k2) q0) := (rowS_own o2 sk0 (HR2.out y (HB14.out.trans (hI.below.mono HB14.out.size)))).on (Kb.left sg)
  have HBX : Hid ((((y).setCell ⟨g, 0, none⟩ (.slice ah hq.length ch)).setCell ⟨g, 1, none⟩ (.slice p2 q0.length k2)).heap[g]? = some (.cells #[.slice ah hq.length ch, .slice p2 q0.length k2] 24)) := sk2
  have HRS : Hid ((((y).setCell ⟨g, 0, none⟩ (.slice ah hq.length ch)).setCell ⟨g, 1, none⟩ (.slice p2 q0.length k2)).heap[w.heap.size + 2]? = some (.cells #[.slice none 0 0, .slice none 0 0] 24)) := (sg.block _ (Array.getElem?_eq_some_iff.1 (HR2.out y (HB14.out.trans (hI.below.mono HB14.out.size)))).1 (fun e => by injection e; omega)).trans (HR2.out y (HB14.out.trans (hI.below.mono HB14.out.size)))
  have k6 : tm.getD 6 undef = .pointer (some ⟨g, 0, none⟩) := e6
  have hszE := hI.size
  have hstE := hI.still
  obtain rfl : df = [] := hI.defers
  clear hI o2 e41 e6 sk0 sk1 sk2 sz0 sz1 sy0 sy1 sd0 sd1 sg hwy
  generalize ((y).setCell ⟨g, 0, none⟩ (.slice ah hq.length ch)).setCell ⟨g, 1, none⟩ (.slice p2 q0.length k2) = w6 at *
  show Exit.then _ _ Exit.normal ⟨tm, []⟩ w6
  have hF8 := tmps_fold [35, 36, 37, 38, 39, 40, 41, 6] tm _ hszE hstE
  clear hszE hstE
  simp only [List.foldl_cons, List.foldl_nil, k6] at hF8
  clear k6
  generalize tm.getD 35 undef = x35 at hF8
  generalize tm.getD 36 undef = x36 at hF8
  generalize tm.getD 37 undef = x37 at hF8
  generalize tm.getD 38 undef = x38 at hF8
  generalize tm.getD 39 undef = x39 at hF8
  generalize tm.getD 40 undef = x40 at hF8
  generalize tm.getD 41 undef = x41 at hF8
  simp only [List.setIfInBounds_toArray, List.set_cons_zero, List.set_cons_succ] at hF8
  subst hF8
  clear HIO HF4 HHV HWV HR2 HB14 HBW4
  have hgs : w.heap.size + 3 ≤ g := by omega

  go_wp2_with fail
  go_loopw [7] (fun mvv wr => ∃ (mv : Bool) (c q : List Uv) (ac : Option Addr) (kc : Nat) (aq : Option Addr) (kq : Nat), mvv = .bool mv ∧ Hid (AddJ hq q0 c q mv) ∧ Hid (wr.heap[g]? = some (.cells #[.slice ac c.length kc, .slice aq q.length kq] 24)) ∧ Hid (RowS g (w.heap.size + 2) wr (.slice ac c.length kc) c) ∧ Hid (RowS g (w.heap.size + 2) wr (.slice aq q.length kq) q) ∧ Hid (Below w.heap.size w wr) ∧ Hid (wr.heap[w.heap.size + 2]? = some (.cells #[.slice none 0 0, .slice none 0 0] 24))) (fun mvv wr => 2 * lenAt (wr.cell? ⟨g, 1, none⟩) + bit mvv)
  case atStart => exact ⟨true, hq, q0, _, _, _, _, rfl, ⟨rfl, .refl _⟩, HBX.out, HRH.out, HRW.out, HBF.out, HRS.out⟩
  case round =>
    clear HBX HRH HRW HBF HRS
    obtain ⟨mv, c, q, ac, kc, aq, kq, rfl, HJ, HBX, HRH, HRW, HBF, HRS⟩ := hrel
    generalize wr = wO at *
    have hlen : c.length + q.length ≤ 200 := by
      have := HJ.out.perm.length_eq
      rw [List.length_append, List.length_append] at this
      omega
    have hgO : g < wO.heap.size := (Array.getElem?_eq_some_iff.1 HBX.out).1
    have c0 : wO.cell? ⟨g, 0, none⟩ = some (.slice ac c.length kc) := by rw [Lib.cell_of_heap HBX.out]; rfl
    have c1 : wO.cell? ⟨g, 1, none⟩ = some (.slice aq q.length kq) := by rw [Lib.cell_of_heap HBX.out]; rfl
    have HME : Hid (lenAt (wO.cell? ⟨g, 1, none⟩) = q.length) := by show _ = _; rw [c1]; rfl
    cases mv
    · have HS : Hid (AddR hq wq ⟨⟨⟨ua, un⟩, ps, says, ts⟩, .slice a1 n1 d1, .slice a2 n2 d2, .slice a3 n3 d3⟩ c q true) := HY.out c q HJ.out.set
      have HMM : Hid (∀ y, y ∈ c ++ q → UvOk w y) := fun y hy => (HALL.out y (HJ.out.perm.mem_iff.mp hy)).1
      go_upto_region 19 with fail
      have hbw := HBF.out
      have tk0 := HRS.out
      have tz0 : (wO).cell? ⟨w.heap.size + 2, 0, none⟩ = some (.slice none 0 0) := by rw [Lib.cell_of_heap tk0]; rfl
      have ty0 := Lib.frozen_of_heap tk0 0
      have tk1 : ((wO).setCell ⟨w.heap.size + 2, 0, none⟩ (.slice ac c.length kc)).heap[w.heap.size + 2]? = some (.cells #[.slice ac c.length kc, .slice none 0 0] 24) := by rw [Lib.heap_setCell_same tk0]; rfl
      have tz1 : ((wO).setCell ⟨w.heap.size + 2, 0, none⟩ (.slice ac c.length kc)).cell? ⟨w.heap.size + 2, 1, none⟩ = some (.slice none 0 0) := by rw [Lib.cell_of_heap tk1]; rfl
      have ty1 := Lib.frozen_of_heap tk1 1
      have tk2 : (((wO).setCell ⟨w.heap.size + 2, 0, none⟩ (.slice ac c.length kc)).setCell ⟨w.heap.size + 2, 1, none⟩ (.slice aq q.length kq)).heap[w.heap.size + 2]? = some (.cells #[.slice ac c.length kc, .slice aq q.length kq] 24) := by rw [Lib.heap_setCell_same tk1]; rfl
      have td0 : (((wO).setCell ⟨w.heap.size + 2, 0, none⟩ (.slice ac c.length kc)).setCell ⟨w.heap.size + 2, 1, none⟩ (.slice aq q.length kq)).cell? ⟨w.heap.size + 2, 0, none⟩ = some (.slice ac c.length kc) := by rw [Lib.cell_of_heap tk2]; rfl
      have td1 : (((wO).setCell ⟨w.heap.size + 2, 0, none⟩ (.slice ac c.length kc)).setCell ⟨w.heap.size + 2, 1, none⟩ (.slice aq q.length kq)).cell? ⟨w.heap.size + 2, 1, none⟩ = some (.slice aq q.length kq) := by rw [Lib.cell_of_heap tk2]; rfl
      have tg : (wO).grownBy (((wO).setCell ⟨w.heap.size + 2, 0, none⟩ (.slice ac c.length kc)).setCell ⟨w.heap.size + 2, 1, none⟩ (.slice aq q.length kq)) (some (w.heap.size + 2)) := (grown_set _ _ _ _).trans_row (grown_set _ _ _ _)
      have tB : Hid (Below w.heap.size w (((wO).setCell ⟨w.heap.size + 2, 0, none⟩ (.slice ac c.length kc)).setCell ⟨w.heap.size + 2, 1, none⟩ (.slice aq q.length kq))) := hbw.grown tg hbw.size (fun j e => by cases e; omega)
      go_wp2_with fail
      refine bodyPost_ret (v := .tuple #[.agg #[.slice ac c.length kc, .slice aq q.length kq], .bool true]) (by simp [results, Tryz.results11, go_sem, td0, td1]) rfl ?_
      exact ⟨_, _, c, q, true, rfl, (HRH.out.on (Kb.right tg)).here, (HRW.out.on (Kb.right tg)).here, fun y hy => (HMM.out y hy).below tB.out, HS.out, tB.out⟩
    · have HJ1 : Hid (AddJ hq q0 c q true) := HJ.out
      go_wp2_with fail
      clear c0 c1 HJ
      go_loopw [7, 8, 9] (fun mvv lv iv wr => ∃ (mv : Bool) (k : Nat) (c' l' : List Uv) (ac : Option Addr) (kc : Nat), k ≤ q.length ∧ mvv = .bool mv ∧ iv = .int .i64 k ∧ Hid (PassJ c q k c' l' mv) ∧ Hid (wr.heap[g]? = some (.cells #[.slice ac c'.length kc, .slice aq q.length kq] 24)) ∧ Hid (HasS g (w.heap.size + 2) wO wr (.slice ac c'.length kc) c') ∧ Hid (Kb g (w.heap.size + 2) wO wr) ∧ Hid (l' = [] → lv = .slice none 0 0) ∧ URow wr wO.heap.size lv l' ∧ Hid (Below w.heap.size w wr) ∧ Hid (wr.heap[w.heap.size + 2]? = some (.cells #[.slice none 0 0, .slice none 0 0] 24)) ∧ wO.heap.size ≤ wr.heap.size) (fun _ _ iv _ => q.length - (intOf iv).toNat)
      case atStart => exact ⟨false, 0, c, [], _, _, Nat.zero_le _, rfl, rfl, PassJ.start c q, HBX.out, .inl HRH.out, Kb.refl _ _ _, (fun _ => rfl), World.ownsRow_nil _ _ _ _, HBF.out, HRS.out, Nat.le_refl _⟩
      case round =>
        clear HBX HRH HBF HRS
        obtain ⟨mv, k, c', l', ac, kc, hk, rfl, rfl, HP, HBX, HRH, HKB, HNL, hrow, HBF, HRS, hsz⟩ := hrel
        obtain ⟨al, kl, rfl⟩ := own_slice hrow
        have hle : l'.length ≤ k := HP.out.le
        have hcl : c'.length ≤ 400 := by
          have := HP.out.perm.length_eq
          simp only [List.length_append] at this
          omega
        have c0 : wr.cell? ⟨g, 0, none⟩ = some (.slice ac c'.length kc) := by rw [Lib.cell_of_heap HBX.out]; rfl
        have c1 : wr.cell? ⟨g, 1, none⟩ = some (.slice aq q.length kq) := by rw [Lib.cell_of_heap HBX.out]; rfl
        by_cases hlt : k < q.length
        · have g1 : decide (k < q.length) = true := decide_eq_true hlt
          obtain ⟨_, _, e9, _, hA⟩ := (HRW.out.on HKB.out).here
          cases e9
          obtain ⟨b, off, rfl, p0, p1, p2', p3, p4⟩ := ups_at hA k hlt
          have hxx := HALL.out _ (HJ1.out.perm.mem_iff.mp (List.mem_append_right _ (uvD_mem q k hlt)))
          have HXO : Hid (UvOk w (uvD q k) ∧ (uvD q k).u.ps.length ≤ 6 ∧ (uvD q k).u.ts.length ≤ 6) := hxx
          have HMV : Hid (Dg.carry (ups c') (uvD q k).u = true → PassJ c q (k + 1) (insV (uvD q k) c') l' true) := fun h => HP.out.move hlt h
          have HST : Hid (Dg.carry (ups c') (uvD q k).u = false → PassJ c q (k + 1) c' (l' ++ [uvD q k]) mv) := fun h => HP.out.stay hlt h
          have HCO : Hid (∀ y, y ∈ c' → UvOk w y) := fun y hy => (HALL.out y (HJ1.out.perm.mem_iff.mp (HP.out.perm.mem_iff.mp (List.mem_append_left _ (List.mem_append_left _ hy))))).1
          obtain ⟨b1, m1, f1, b2, m2, f2, b3, m3, f3, e1, e2, e3⟩ := hxx.1.forms
          have HND2 : Hid (((ups (c' ++ l')).map Wr.Up.id).Nodup) := by
            have h1 := HND.out _ (HP.out.perm.trans HJ1.out.perm)
            rw [ups_append, List.map_append] at h1
            exact (List.nodup_append.mp h1).1
          clear hxx HP hA
          generalize uvD q k = y at *
          obtain ⟨⟨⟨va, vn⟩, ps2, says2, ts2⟩, vp, vs, vt⟩ := y
          dsimp only at *
          subst e1 e2 e3
          have hb5 : Below wr.heap.size wr (wr.alloc (.cells #[.int .i64 va, .int .i64 vn, .slice b1 m1 f1, .slice b2 m2 f2, .slice b3 m3 f3] 30)) := (Below.refl _ _).alloc (Nat.le_refl _) _
          have hh5 := rl_new wr (.cells #[.int .i64 va, .int .i64 vn, .slice b1 m1 f1, .slice b2 m2 f2, .slice b3 m3 f3] 30)
          have HC : Hid (Calls Tryz.prog 41 #[.slice ac c'.length kc, uvVal ⟨⟨⟨va, vn⟩, ps2, says2, ts2⟩, .slice b1 m1 f1, .slice b2 m2 f2, .slice b3 m3 f3⟩] (wr.alloc (.cells #[.int .i64 va, .int .i64 vn, .slice b1 m1 f1, .slice b2 m2 f2, .slice b3 m3 f3] 30)) fun e w' => e = .returned (.bool (Dg.carry (ups c') ⟨⟨va, vn⟩, ps2, says2, ts2⟩)) ∧ Below (wr.alloc (.cells #[.int .i64 va, .int .i64 vn, .slice b1 m1 f1, .slice b2 m2 f2, .slice b3 m3 f3] 30)).heap.size (wr.alloc (.cells #[.int .i64 va, .int .i64 vn, .slice b1 m1 f1, .slice b2 m2 f2, .slice b3 m3 f3] 30)) w') := IsReady_any c' _ ⟨⟨⟨va, vn⟩, ps2, says2, ts2⟩, .slice b1 m1 f1, .slice b2 m2 f2, .slice b3 m3 f3⟩ _ ((HRH.out.row HKB.out HBX.out HRS.out).on (Kb.below hb5)).here (by omega) (HXO.out.1.below (HBF.out.trans (hb5.mono HBF.out.size))) HXO.out.2
          go_upto_region 14 with fail
          generalize wr.alloc (.cells #[.int .i64 va, .int .i64 vn, .slice b1 m1 f1, .slice b2 m2 f2, .slice b3 m3 f3] 30) = w5 at *
          have HB5 : Hid (Below wr.heap.size wr w5) := hb5
          have HFX : Hid (∀ z, Below w5.heap.size w5 z → (z.cell? ⟨wr.heap.size, 0, none⟩ = some (.int .i64 va) ∧ z.cell? ⟨wr.heap.size, 1, none⟩ = some (.int .i64 vn) ∧ z.cell? ⟨wr.heap.size, 2, none⟩ = some (.slice b1 m1 f1) ∧ z.cell? ⟨wr.heap.size, 3, none⟩ = some (.slice b2 m2 f2) ∧ z.cell? ⟨wr.heap.size, 4, none⟩ = some (.slice b3 m3 f3)) ∧ z.cell? ⟨g, 0, none⟩ = some (.slice ac c'.length kc)) := fun z hz => by
            have j0 := (hz.block _ (Array.getElem?_eq_some_iff.1 hh5).1).trans hh5
            exact ⟨⟨by rw [Lib.cell_of_heap j0]; rfl, by rw [Lib.cell_of_heap j0]; rfl, by rw [Lib.cell_of_heap j0]; rfl, by rw [Lib.cell_of_heap j0]; rfl, by rw [Lib.cell_of_heap j0]; rfl⟩, cell_below (hb5.trans (hz.mono hb5.size)) c0⟩
          clear hb5 hh5 p0 p1 p2' p3 p4
          have c0w := c0
          clear c0 c1
          obtain ⟨⟨x0, x1, x2, x3, x4⟩, c0⟩ := HFX.out w5 (Below.refl _ _)
          cases hca : Dg.carry (ups c') ⟨⟨va, vn⟩, ps2, says2, ts2⟩
          · have HPN : Hid _ := HST.out hca
            rw [hca] at HC
            clear HMV HST hca
            go_upto_region 17 with (go_at_call 41; refine Calls.mono HC.out ?_; rintro e w6 ⟨rfl, hb6⟩; obtain ⟨⟨x0, x1, x2, x3, x4⟩, c0⟩ := HFX.out w6 hb6)
            have HB6 : Hid (Below wr.heap.size wr w6) := HB5.out.trans (hb6.mono HB5.out.size)
            have R6 := ownsRow_below hrow HB6.out
            have hs6 := HB6.out.size
            clear hrow HC hb6 HFX
            go_wp2_with (at_builtin; refine wp_append_ups (W := w) rfl _ _ rfl wO.heap.size (by rw [World.size_alloc]; omega) _ l' rfl (R6.alloc _) (some ⟨w6.heap.size, 0, none⟩) 1 [(⟨⟨⟨va, vn⟩, ps2, says2, ts2⟩, .slice b1 m1 f1, .slice b2 m2 f2, .slice b3 m3 f3⟩ : Uv)] rfl (fun h => by cases h) (ups_one _ _) (one_ok HXO.out.1) (by rw [List.length_singleton]; omega) ?_; intro v8 w8 hown8 hgrow8)
            have hk8 : wr.grownBy w8 (Value.slice al l'.length kl).ownBlock := grown_trans (grownBy_of_below (HB6.out.alloc hs6 _) _) hgrow8
            have hne8 : ∀ j, (Value.slice al l'.length kl).ownBlock = some j → wO.heap.size ≤ j := fun j e => (R6.lt j e).1
            have HBX8 : Hid (w8.heap[g]? = some (.cells #[.slice ac c'.length kc, .slice (some ⟨b, off, none⟩) q.length kq] 24)) := (hk8.block _ (Array.getElem?_eq_some_iff.1 HBX.out).1 (fun e => by have := hne8 g e.symm; omega)).trans HBX.out
            have hr2 : w.heap.size + 2 < wO.heap.size := by omega
            have HRS8 : Hid (w8.heap[w.heap.size + 2]? = some (.cells #[.slice none 0 0, .slice none 0 0] 24)) := (hk8.block _ (Array.getElem?_eq_some_iff.1 HRS.out).1 (fun e => by have := hne8 _ e.symm; omega)).trans HRS.out
            have HB8 : Hid (Below w.heap.size w w8) := HBF.out.grown hk8 HBF.out.size (fun j e => by have := hne8 j e; omega)
            have hbA : Below wr.heap.size wr (w6.alloc (.cells #[.int .i64 va, .int .i64 vn, .slice b1 m1 f1, .slice b2 m2 f2, .slice b3 m3 f3] 30)) := HB6.out.alloc hs6 _
            have HH8 : Hid (HasS g (w.heap.size + 2) wO w8 (.slice ac c'.length kc) c') := (HRH.out.on hbA).app (R6.alloc _) HNL.out hgrow8 HND2.out
            have HKB8 : Hid (Kb g (w.heap.size + 2) wO w8) := (HKB.out.trans (Kb.below hbA)).app hgrow8 hne8
            obtain ⟨a8, k8, rfl⟩ := own_slice hown8
            have HO8 : Hid (URow w8 wO.heap.size (.slice a8 (l' ++ [(⟨⟨⟨va, vn⟩, ps2, says2, ts2⟩, .slice b1 m1 f1, .slice b2 m2 f2, .slice b3 m3 f3⟩ : Uv)]).length k8) (l' ++ [(⟨⟨⟨va, vn⟩, ps2, says2, ts2⟩, .slice b1 m1 f1, .slice b2 m2 f2, .slice b3 m3 f3⟩ : Uv)])) := hown8
            have HN8 : Hid (l' ++ [(⟨⟨⟨va, vn⟩, ps2, says2, ts2⟩, .slice b1 m1 f1, .slice b2 m2 f2, .slice b3 m3 f3⟩ : Uv)] = [] → Value.slice a8 (l' ++ [(⟨⟨⟨va, vn⟩, ps2, says2, ts2⟩, .slice b1 m1 f1, .slice b2 m2 f2, .slice b3 m3 f3⟩ : Uv)]).length k8 = .slice none 0 0) := fun h => absurd h (by simp)
            have hs8 : wO.heap.size ≤ w8.heap.size := Nat.le_trans hsz hk8.size
            clear hown8 hgrow8 hk8 hne8 R6 hbA x0 x1 x2 x3 x4 c0 c0w
            go_wp2_with fail
            go_roundw
            case rel => exact ⟨mv, k + 1, c', _, ac, kc, hlt, rfl, by go_num, HPN.out, HBX8.out, HH8.out, HKB8.out, HN8.out, HO8.out, HB8.out, HRS8.out, hs8⟩
            case measure => simp [intOf]; omega
          · have HPM : Hid _ := HMV.out hca
            rw [hca] at HC
            clear HMV HST hca
            go_upto_region 15 with (go_at_call 41; refine Calls.mono HC.out ?_; rintro e w6 ⟨rfl, hb6⟩; obtain ⟨⟨x0, x1, x2, x3, x4⟩, c0⟩ := HFX.out w6 hb6)
            have HB6 : Hid (Below wr.heap.size wr w6) := HB5.out.trans (hb6.mono HB5.out.size)
            have hs6 := HB6.out.size
            have HC2 : Hid (Calls Tryz.prog 50 #[.slice ac c'.length kc, uvVal ⟨⟨⟨va, vn⟩, ps2, says2, ts2⟩, .slice b1 m1 f1, .slice b2 m2 f2, .slice b3 m3 f3⟩] w6 fun e w' => ∃ v', e = .returned v' ∧ URow w' w6.heap.size v' (insV ⟨⟨⟨va, vn⟩, ps2, says2, ts2⟩, .slice b1 m1 f1, .slice b2 m2 f2, .slice b3 m3 f3⟩ c') ∧ Below w6.heap.size w6 w') := inOrder_any c' _ ⟨⟨⟨va, vn⟩, ps2, says2, ts2⟩, .slice b1 m1 f1, .slice b2 m2 f2, .slice b3 m3 f3⟩ w6 ((HRH.out.row HKB.out HBX.out HRS.out).on (Kb.below HB6.out)).here (by omega) (fun y hy => (HCO.out y hy).below (HBF.out.trans (HB6.out.mono HBF.out.size))) (HXO.out.1.below (HBF.out.trans (HB6.out.mono HBF.out.size)))
            have HBX6 : Hid (∀ z, Below w6.heap.size w6 z → z.heap[g]? = some (.cells #[.slice ac c'.length kc, .slice (some ⟨b, off, none⟩) q.length kq] 24)) := fun z hz => ((HB6.out.trans (hz.mono HB6.out.size)).block _ (Array.getElem?_eq_some_iff.1 HBX.out).1).trans HBX.out
            clear HC hb6 HFX
            go_wp2_with (go_at_call 50; refine Calls.mono HC2.out ?_; rintro e w7 ⟨v7, rfl, hr7, hb7⟩; obtain ⟨a7, k7, rfl⟩ := own_slice hr7; have hx7 := HBX6.out w7 hb7; have z7 : w7.cell? ⟨g, 0, none⟩ = some (.slice ac c'.length kc) := (by rw [Lib.cell_of_heap hx7]; rfl); have y7 := Lib.frozen_of_heap hx7 0)
            have gs : w7.grownBy (w7.setCell ⟨g, 0, none⟩ (.slice a7 (insV ⟨⟨⟨va, vn⟩, ps2, says2, ts2⟩, .slice b1 m1 f1, .slice b2 m2 f2, .slice b3 m3 f3⟩ c').length k7)) (some g) := grown_set _ _ _ _
            have HB17 : Hid (Below wr.heap.size wr w7) := HB6.out.trans (hb7.mono HB6.out.size)
            have HBX9 : Hid ((w7.setCell ⟨g, 0, none⟩ (.slice a7 (insV ⟨⟨⟨va, vn⟩, ps2, says2, ts2⟩, .slice b1 m1 f1, .slice b2 m2 f2, .slice b3 m3 f3⟩ c').length k7)).heap[g]? = some (.cells #[.slice a7 (insV ⟨⟨⟨va, vn⟩, ps2, says2, ts2⟩, .slice b1 m1 f1, .slice b2 m2 f2, .slice b3 m3 f3⟩ c').length k7, .slice (some ⟨b, off, none⟩) q.length kq] 24)) := by
              show _ = _
              rw [Lib.heap_setCell_same hx7]
              rfl
            have HH9 : Hid (HasS g (w.heap.size + 2) wO (w7.setCell ⟨g, 0, none⟩ (.slice a7 (insV ⟨⟨⟨va, vn⟩, ps2, says2, ts2⟩, .slice b1 m1 f1, .slice b2 m2 f2, .slice b3 m3 f3⟩ c').length k7)) (.slice a7 (insV ⟨⟨⟨va, vn⟩, ps2, says2, ts2⟩, .slice b1 m1 f1, .slice b2 m2 f2, .slice b3 m3 f3⟩ c').length k7) (insV ⟨⟨⟨va, vn⟩, ps2, says2, ts2⟩, .slice b1 m1 f1, .slice b2 m2 f2, .slice b3 m3 f3⟩ c')) := .inr ⟨fun e => by have := (insV_perm ⟨⟨⟨va, vn⟩, ps2, says2, ts2⟩, .slice b1 m1 f1, .slice b2 m2 f2, .slice b3 m3 f3⟩ c').length_eq; rw [e] at this; simp at this, rl_own_le (hr7.kept gs (.inr (fun e => by have := (hr7.lt _ e).1; omega))) (by omega)⟩
            have HO9 : Hid (URow (w7.setCell ⟨g, 0, none⟩ (.slice a7 (insV ⟨⟨⟨va, vn⟩, ps2, says2, ts2⟩, .slice b1 m1 f1, .slice b2 m2 f2, .slice b3 m3 f3⟩ c').length k7)) wO.heap.size (.slice al l'.length kl) l') := (ownsRow_below hrow HB17.out).kept gs (.inr (fun e => by have := (hrow.lt _ e).1; omega))
            have HKB9 : Hid (Kb g (w.heap.size + 2) wO (w7.setCell ⟨g, 0, none⟩ (.slice a7 (insV ⟨⟨⟨va, vn⟩, ps2, says2, ts2⟩, .slice b1 m1 f1, .slice b2 m2 f2, .slice b3 m3 f3⟩ c').length k7))) := (HKB.out.trans (Kb.below HB17.out)).trans (Kb.left gs)
            have HRS9 : Hid ((w7.setCell ⟨g, 0, none⟩ (.slice a7 (insV ⟨⟨⟨va, vn⟩, ps2, says2, ts2⟩, .slice b1 m1 f1, .slice b2 m2 f2, .slice b3 m3 f3⟩ c').length k7)).heap[w.heap.size + 2]? = some (.cells #[.slice none 0 0, .slice none 0 0] 24)) := by
              have h1 := (HB17.out.block _ (Array.getElem?_eq_some_iff.1 HRS.out).1).trans HRS.out
              exact (gs.block _ (Array.getElem?_eq_some_iff.1 h1).1 (fun e => by injection e; omega)).trans h1
            have HB9 : Hid (Below w.heap.size w (w7.setCell ⟨g, 0, none⟩ (.slice a7 (insV ⟨⟨⟨va, vn⟩, ps2, says2, ts2⟩, .slice b1 m1 f1, .slice b2 m2 f2, .slice b3 m3 f3⟩ c').length k7))) := by
              have h1 := HBF.out.trans (HB17.out.mono HBF.out.size)
              exact h1.grown gs h1.size (fun j e => by cases e; omega)
            have hs9 : wO.heap.size ≤ (w7.setCell ⟨g, 0, none⟩ (.slice a7 (insV ⟨⟨⟨va, vn⟩, ps2, says2, ts2⟩, .slice b1 m1 f1, .slice b2 m2 f2, .slice b3 m3 f3⟩ c').length k7)).heap.size := Nat.le_trans (Nat.le_trans hsz HB17.out.size) gs.size
            clear hr7 hb7 hx7 z7 y7 gs hrow x0 x1 x2 x3 x4 c0 c0w HC2 HBX6
            go_roundw
            case rel => exact ⟨true, k + 1, _, l', a7, k7, hlt, rfl, by go_num, HPM.out, HBX9.out, HH9.out, HKB9.out, HNL.out, HO9.out, HB9.out, HRS9.out, hs9⟩
            case measure => simp [intOf]; omega
        · have g1 : decide (k < q.length) = false := decide_eq_false hlt
          obtain ⟨hf1, hf2, hf3⟩ := HP.out.fin HJ1.out hlt hk
          have HJ9 : Hid (AddJ hq q0 c' l' mv) := hf1
          have y1 := Lib.frozen_of_heap HBX.out 1
          have gs : wr.grownBy (wr.setCell ⟨g, 1, none⟩ (.slice al l'.length kl)) (some g) := grown_set _ _ _ _
          have HBX9 : Hid ((wr.setCell ⟨g, 1, none⟩ (.slice al l'.length kl)).heap[g]? = some (.cells #[.slice ac c'.length kc, .slice al l'.length kl] 24)) := by
            show _ = _
            rw [Lib.heap_setCell_same HBX.out]
            rfl
          have HM9 : Hid (lenAt ((wr.setCell ⟨g, 1, none⟩ (.slice al l'.length kl)).cell? ⟨g, 1, none⟩) = l'.length) := by
            show _ = _
            rw [Lib.cell_of_heap HBX9.out]
            rfl
          have HRH9 : Hid (RowS g (w.heap.size + 2) (wr.setCell ⟨g, 1, none⟩ (.slice al l'.length kl)) (.slice ac c'.length kc) c') := (HRH.out.row HKB.out HBX.out HRS.out).on (Kb.left gs)
          have HRW9 : Hid (RowS g (w.heap.size + 2) (wr.setCell ⟨g, 1, none⟩ (.slice al l'.length kl)) (.slice al l'.length kl) l') := (rowS_own hrow HBX.out HRS.out).on (Kb.left gs)
          have HB9 : Hid (Below w.heap.size w (wr.setCell ⟨g, 1, none⟩ (.slice al l'.length kl))) := HBF.out.grown gs HBF.out.size (fun j e => by cases e; omega)
          have HRS9 : Hid ((wr.setCell ⟨g, 1, none⟩ (.slice al l'.length kl)).heap[w.heap.size + 2]? = some (.cells #[.slice none 0 0, .slice none 0 0] 24)) := (gs.block _ (Array.getElem?_eq_some_iff.1 HRS.out).1 (fun e => by injection e; omega)).trans HRS.out
          clear gs hf1 hrow HP
          go_wp2_with fail
          go_roundw
          case rel => exact ⟨mv, c', l', _, _, _, _, rfl, HJ9.out, HBX9.out, HRH9.out, HRW9.out, HB9.out, HRS9.out⟩
          case measure =>
            rw [HM9.out, HME.out]
            cases mv
            · simp [bit]; omega
            · have := hf2 rfl
              simp [bit]; omega

end Go.Proofs.YtmfaodapofamfaaGreat

