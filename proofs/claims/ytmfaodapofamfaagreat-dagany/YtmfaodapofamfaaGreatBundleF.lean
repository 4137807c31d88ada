/- Own texts, one behind the other (part 6). -/
import Derived.Test.YtmfaodapofamfaaGreatBundleE
import Derived.Test.YtmfaodapofamfaaGreatRows
import Derived.Deep.RegionHeld3
import Derived.Lib.BufferMore
import Derived.Deep.RegionWith
import Derived.Deep.Cut
import Derived.Laws.IdiomStrings
import Derived.Laws.BitsAllLaws
import Derived.Laws.Strings2
import Derived.Laws.EntriesVeiled
import Derived.WideKeyEntry
/- The document's Under: what an update hangs on. -/
namespace Go.Proofs.YtmfaodapofamfaaGreat
open Go.RowKit

theorem appIds_run (y : World) (B : Nat) (hB : B ≤ y.heap.size) (v : Value) (l0 : List Wr.Id) (hown : y.ownsRow B 26 2 v l0.length (l0.map idCells).flatten) (ao : Option Addr) (cap : Nat) (l : List Wr.Id) (hA : IdsAt y ao l) (hcap : ao = none → cap = 0) (hl : l0.length + l.length ≤ 1000000) (ty : TypeId) :
    ∃ v' y', (Builtin.append_ #[27, 27] ty #[v, .slice ao l.length cap]).run Tryz.prog y = .ok v' y' ∧ y'.ownsRow B 26 2 v' (l0 ++ l).length ((l0 ++ l).map idCells).flatten ∧ y.grownBy y' v.ownBlock := by
  obtain ⟨i0, hi, hz0, hz1, hz2⟩ := info_parts id_info
  cases ao with
  | none =>
    have hl0 : l = [] := by
      rcases hA with h | ⟨b, off, h, _⟩
      · exact h
      · cases h
    subst hl0
    have hr := run_append_owned_none (P := Tryz.prog) (w := y) B 27 ty 26 i0 2 Tryz.underlying27 hi v l0.length _ hown
    rw [hcap rfl]
    exact ⟨v, y, hr, by rw [List.append_nil]; exact hown, grown_refl _ _⟩
  | some ad =>
    obtain ⟨v', y', r1, r2, r3, _⟩ := run_append_own (P := Tryz.prog) y B 27 ty 26 i0 _ 2 16 Tryz.underlying27 hi hz0 hz1 hz2 rfl (by decide) v l0.length _ hown ad l.length cap (l.map idCells).flatten (ids_flat l) (by
      intro j u hj
      rcases ids_cells hA with h | ⟨b, off, h, hc⟩
      · rw [h] at hj; simp at hj
      · rw [Option.some.inj h, Addr.add_lit]
        exact hc j u hj) (fun u hu => by
      obtain ⟨c, hc, hu⟩ := List.mem_flatten.mp hu
      obtain ⟨p, hp, rfl⟩ := List.mem_map.mp hc
      simp only [idCells, List.mem_cons, List.not_mem_nil, or_false] at hu
      rcases hu with rfl | rfl <;> rfl) (by unfold maxLen; omega) (by omega) hB
    exact ⟨v', y', r1, by rw [List.length_append, List.map_append, List.flatten_append]; exact r2, r3⟩
theorem wp_app {P : Program} {w w' : World} {o : Oper} {a : Act} {K : Act → World → Prop} {Q : Exit → Act → World → Prop} (s x : Operand) (t : TypeId) (hop : o.op = Op.call { callee := Callee.builtin Builtin.append, args := #[s, x], argTypes := #[t, t] }) {v u v' : Value} (hs : a.eval s = v) (hx : a.eval x = u) (hrun : (Builtin.append_ #[t, t] o.type #[v, u]).run P w = .ok v' w') (h : K (a.put o.dst v') w') : o.wp P a w K Q := by
  unfold Oper.wp execOp
  simp only [hop, resolve, invoke, builtin, Sem.run_bind, Sem.run_pure, Result.andThen_ok, List.map_toArray, List.map_cons, List.map_nil, hs, hx, hrun]
  exact h
set_option maxRecDepth 100000 in
set_option maxHeartbeats 4000000 in
theorem Under_any (x : Uv) (w : World) (hx : UvOk w x) (hl : x.u.ps.length ≤ 6 ∧ x.u.ts.length ≤ 6) : Calls Tryz.prog 84 #[uvVal x] w fun e w' => ∃ v, e = .returned v ∧ IdsV w' v (Dg.under x.u) ∧ Below w.heap.size w w' := by
  have HP : Hid (IdsV w x.p x.u.ps) := hx.p
  have HT : Hid (IdsV w x.t x.u.ts) := hx.t
  obtain ⟨a1, d1, e1, hc1, _⟩ := hx.p
  obtain ⟨a2, d2, e2, _⟩ := hx.s
  obtain ⟨a3, d3, e3, hc3, _⟩ := hx.t
  have HC1 : Hid (a1 = none → d1 = 0) := hc1.2
  have HC3 : Hid (a3 = none → d3 = 0) := hc3.2
  clear hx hc1 hc3
  generalize x.u.says.length = n2 at *
  obtain ⟨⟨⟨ua, un⟩, ps, says, ts⟩, vp, vs, vt⟩ := x
  dsimp only at *
  subst e1 e2 e3
  have HB1 : Hid (Below w.heap.size w (w.alloc (.cells #[.int .i64 ua, .int .i64 un, .slice a1 ps.length d1, .slice a2 n2 d2, .slice a3 ts.length d3] 30))) := (Below.refl _ _).alloc (Nat.le_refl _) _
  have HH1 : Hid ((w.alloc (.cells #[.int .i64 ua, .int .i64 un, .slice a1 ps.length d1, .slice a2 n2 d2, .slice a3 ts.length d3] 30)).heap[w.heap.size]? = some (.cells #[.int .i64 ua, .int .i64 un, .slice a1 ps.length d1, .slice a2 n2 d2, .slice a3 ts.length d3] 30)) := rl_new w _
  go_enter Tryz.func84, Tryz.ntmps84
  go_upto_region 1 with fail
  generalize w.alloc (.cells #[.int .i64 ua, .int .i64 un, .slice a1 ps.length d1, .slice a2 n2 d2, .slice a3 ts.length d3] 30) = w1 at *
  have d2 : w1.cell? ⟨w.heap.size, 2, none⟩ = some (.slice a1 ps.length d1) := by rw [Lib.cell_of_heap HH1.out]; rfl
  have d4 : w1.cell? ⟨w.heap.size, 4, none⟩ = some (.slice a3 ts.length d3) := by rw [Lib.cell_of_heap HH1.out]; rfl
  refine wp_region_held_drew (S := (fun y => y.cell? ⟨w.heap.size, 2, none⟩ = some (.slice a1 ps.length d1) ∧ y.cell? ⟨w.heap.size, 4, none⟩ = some (.slice a3 ts.length d3)  )) (by kernel_rfl) (by go_keep) (fun hHeld => ?_)
  refine wpAnyH_take (i := 1) (v := ?v1x0) rfl (by kernel_rfl) (by kernel_rfl) (by kernel_rfl) (fun _ _ _ h => h) (Or.inl ⟨by rfl, ?hy1x0⟩) (by assumption) ?_
  case hy1x0 =>
    intro w hSw
    (try dsimp only at hSw)
    go_simp
    try with_reducible rfl
  try simp only [Act.put, List.setIfInBounds_toArray]
  refine wpAnyH_take (i := 2) (v := ?v2x1) rfl (by kernel_rfl) (by kernel_rfl) (by kernel_rfl) (fun _ _ _ h => h) (Or.inl ⟨by rfl, ?hy2x1⟩) (by assumption) ?_
  case hy2x1 =>
    intro w hSw
    (try dsimp only at hSw)
    go_simp
    try with_reducible rfl
  try simp only [Act.put]
  refine wpAnyH_take (i := 4) (v := ?v4x2) rfl (by kernel_rfl) (by kernel_rfl) (by kernel_rfl) (fun _ _ _ h => h) (Or.inl ⟨by rfl, ?hy4x2⟩) (by assumption) ?_
  case hy4x2 =>
    intro w hSw
    (try dsimp only at hSw)
    go_simp
    try with_reducible rfl
  try simp only [Act.put]
  refine wpAnyH_take (i := 5) (v := ?v5x3) rfl (by kernel_rfl) (by kernel_rfl) (by kernel_rfl) (fun _ _ _ h => h) (Or.inl ⟨by rfl, ?hy5x3⟩) (by assumption) ?_
  case hy5x3 =>
    intro w hSw
    (try dsimp only at hSw)
    go_simp
    try with_reducible rfl
  try simp only [Act.put]
  refine wpAnyH_ready (rs := [0]) (by kernel_rfl) (by simp) ?_
  refine AllReadyH.cons rfl (fun K hK => ?_) AllReadyH.nil
  go_simp
  have hS0 : ∀ y : World, Below w1.heap.size w1 y → y.cell? ⟨w.heap.size, 2, none⟩ = some (.slice a1 ps.length d1) ∧ y.cell? ⟨w.heap.size, 4, none⟩ = some (.slice a3 ts.length d3) := fun y hy => ⟨cell_below hy d2, cell_below hy d4⟩
  have hby0 : Below w1.heap.size w1 (w1.alloc (.cells #[] 26)).drew := by
    have h2 : Below w1.heap.size w1 (w1.alloc (.cells #[] 26)) := (Below.refl _ _).alloc (Nat.le_refl _) _
    exact ⟨h2.os, h2.tape, h2.output, h2.size, h2.block⟩
  have ho0 : (w1.alloc (.cells #[] 26)).drew.ownsRow w1.heap.size 26 2 (.slice (some ⟨w1.heap.size, 0, none⟩) 0 0) ([] : List Wr.Id).length (([] : List Wr.Id).map idCells).flatten := World.ownsRow_made w1 #[] 0 (Nat.le_refl _) (Nat.zero_le _) (by simp)
  have hIA : ∀ y : World, Below w1.heap.size w1 y → IdsAt y a1 ps ∧ IdsAt y a3 ts := fun y hy => by
    have hwy := HB1.out.trans (hy.mono HB1.out.size)
    obtain ⟨_, _, e1, _, k1⟩ := idsV_below HP.out hwy
    obtain ⟨_, _, e2, _, k2⟩ := idsV_below HT.out hwy
    cases e1
    cases e2
    exact ⟨k1, k2⟩
  refine hK.out _ _ (hS0 _ hby0) (fun hHeld => ?_)
  clear hK K
  generalize (w1.alloc (.cells #[] 26)).drew = y0 at *
  try simp only [Act.put, List.setIfInBounds_toArray, List.set_cons_zero, List.set_cons_succ]
  obtain ⟨v1, y1, r1, o1, g1⟩ := appIds_run y0 w1.heap.size hby0.size _ [] ho0 a1 d1 ps (hIA y0 hby0).1 HC1.out (by simp; omega) 27
  have hby1 : Below w1.heap.size w1 y1 := hby0.grown g1 hby0.size (fun k hk => (ho0.lt k hk).1)
  obtain ⟨p1, q1, rfl⟩ := own_slice o1
  simp only [List.nil_append] at o1 r1
  obtain ⟨v2, y2, r2, o2, g2⟩ := appIds_run y1 w1.heap.size hby1.size _ ps o1 a3 d3 ts (hIA y1 hby1).2 HC3.out (by omega) 27
  have hby2 : Below w1.heap.size w1 y2 := hby1.grown g2 hby1.size (fun k hk => (o1.lt k hk).1)
  obtain ⟨p2, q2, rfl⟩ := own_slice o2
  refine wpAnyH_ready (rs := [3]) (by kernel_rfl) (by simp) ?_
  refine AllReadyH.cons rfl (fun K hK => ?_) AllReadyH.nil
  rw [if_pos (wanted_none rfl)]
  refine wp_app (.tmp 3) (.tmp 5) 27 rfl rfl rfl r1 ?_
  refine hK.out _ _ (hS0 _ hby1) (fun hHeld => ?_)
  clear hK K
  simp only [Act.put, List.getElem_toArray, List.getElem_cons_succ, List.getElem_cons_zero, List.setIfInBounds_toArray, List.set_cons_succ, List.set_cons_zero]
  refine wpAnyH_ready (rs := [6]) (by kernel_rfl) (by simp) ?_
  refine AllReadyH.cons rfl (fun K hK => ?_) AllReadyH.nil
  rw [if_pos (wanted_none rfl)]
  refine wp_app (.tmp 6) (.tmp 8) 27 rfl rfl rfl r2 ?_
  refine hK.out _ _ (hS0 _ hby2) (fun hHeld => ?_)
  clear hK K
  simp only [Act.put, List.getElem_toArray, List.getElem_cons_succ, List.getElem_cons_zero, List.setIfInBounds_toArray, List.set_cons_succ, List.set_cons_zero]
  refine wpAnyH_take (i := 7) (v := ?v7z0) rfl (by kernel_rfl) (by kernel_rfl) (by kernel_rfl) (fun _ _ _ h => h) (Or.inl ⟨by rfl, ?hy7z0⟩) (by assumption) ?_
  case hy7z0 =>
    intro w hSw
    (try dsimp only at hSw)
    go_simp
    try with_reducible rfl
  simp only [Act.put, List.getElem_toArray, List.getElem_cons_succ, List.getElem_cons_zero, List.setIfInBounds_toArray, List.set_cons_succ, List.set_cons_zero]
  refine wpAnyH_done (by kernel_rfl) ?_ _
  have HF : Hid (IdsV y2 (.slice p2 (ps ++ ts).length q2) (ps ++ ts)) := own_ids o2
  have HBF : Hid (Below w.heap.size w y2) := HB1.out.trans (hby2.mono HB1.out.size)
  clear o1 o2 g1 g2 hby0 hby1 hby2 ho0 hIA hS0 r1 r2 hHeld d2 d4
  go_wp2_with fail
  go_ret
  exact ⟨.slice p2 (ps ++ ts).length q2, by rw [List.length_append]; rfl, HF.out, HBF.out⟩
end Go.Proofs.YtmfaodapofamfaaGreat

/- The document's IsReady. -/
namespace Go.Proofs.YtmfaodapofamfaaGreat
open Go.RowKit

theorem all_take (l : List Wr.Id) (p : Wr.Id → Bool) (k : Nat) (hk : k < l.length) : (l.take (k + 1)).all p = ((l.take k).all p && p (idD l k)) := by
  have e : l.take (k + 1) = l.take k ++ [idD l k] := by
    rw [List.take_add_one]
    congr 1
    simp [idD, hk]
  rw [e, List.all_append]
  simp
theorem all_no {l : List Wr.Id} {p : Wr.Id → Bool} {k : Nat} (hk : k < l.length) (h : p (idD l k) = false) : l.all p = false := by
  rw [List.all_eq_false]
  refine ⟨idD l k, ?_, by simp [h]⟩
  simp [idD, hk]
set_option maxRecDepth 100000 in
set_option maxHeartbeats 2000000 in
theorem IsReady_any (q : List Uv) (vq : Value) (x : Uv) (w : World) (hV : UpsV w vq q) (hq : q.length ≤ 1000) (hx : UvOk w x) (hl : x.u.ps.length ≤ 6 ∧ x.u.ts.length ≤ 6) :
    Calls Tryz.prog 41 #[vq, uvVal x] w fun e w' => e = .returned (.bool (Dg.carry (ups q) x.u)) ∧ Below w.heap.size w w' := by
  have HV : Hid (UpsV w vq q) := hV
  obtain ⟨ao, cap, rfl, _⟩ := hV
  have HX : Hid (UvOk w x) := hx
  have HL : Hid (x.u.ps.length ≤ 6 ∧ x.u.ts.length ≤ 6) := hl
  have hun : (Dg.under x.u).length ≤ 12 := by unfold Dg.under; rw [List.length_append]; omega
  obtain ⟨a1, n1, d1, a2, n2, d2, a3, n3, d3, e1, e2, e3⟩ := hx.forms
  have HF : Hid (Dg.carry (ups q) x.u = (Dg.under x.u).all (Dg.hasU (ups q))) := rfl
  clear hx hl
  obtain ⟨⟨⟨ua, un⟩, ps, says, ts⟩, vp, vs, vt⟩ := x
  dsimp only at *
  subst e1 e2 e3
  have HB1 : Hid (Below w.heap.size w (w.alloc (.cells #[.int .i64 ua, .int .i64 un, .slice a1 n1 d1, .slice a2 n2 d2, .slice a3 n3 d3] 30))) := (Below.refl _ _).alloc (Nat.le_refl _) _
  have HH1 : Hid ((w.alloc (.cells #[.int .i64 ua, .int .i64 un, .slice a1 n1 d1, .slice a2 n2 d2, .slice a3 n3 d3] 30)).heap[w.heap.size]? = some (.cells #[.int .i64 ua, .int .i64 un, .slice a1 n1 d1, .slice a2 n2 d2, .slice a3 n3 d3] 30)) := rl_new w _
  have HC : Hid (Calls Tryz.prog 84 #[uvVal ⟨⟨⟨ua, un⟩, ps, says, ts⟩, .slice a1 n1 d1, .slice a2 n2 d2, .slice a3 n3 d3⟩] (w.alloc (.cells #[.int .i64 ua, .int .i64 un, .slice a1 n1 d1, .slice a2 n2 d2, .slice a3 n3 d3] 30)) fun e w' => ∃ v, e = .returned v ∧ IdsV w' v (Dg.under ⟨⟨ua, un⟩, ps, says, ts⟩) ∧ Below (w.alloc (.cells #[.int .i64 ua, .int .i64 un, .slice a1 n1 d1, .slice a2 n2 d2, .slice a3 n3 d3] 30)).heap.size (w.alloc (.cells #[.int .i64 ua, .int .i64 un, .slice a1 n1 d1, .slice a2 n2 d2, .slice a3 n3 d3] 30)) w') :=
    Under_any ⟨⟨⟨ua, un⟩, ps, says, ts⟩, .slice a1 n1 d1, .slice a2 n2 d2, .slice a3 n3 d3⟩ _ (HX.out.below HB1.out) HL.out
  clear HX HL
  go_enter Tryz.func41, Tryz.ntmps41
  go_upto_region 1 with fail
  generalize w.alloc (.cells #[.int .i64 ua, .int .i64 un, .slice a1 n1 d1, .slice a2 n2 d2, .slice a3 n3 d3] 30) = w2 at *
  have q0 : w2.cell? ⟨w.heap.size, 0, none⟩ = some (.int .i64 ua) := by rw [Lib.cell_of_heap HH1.out]; rfl
  have q1 : w2.cell? ⟨w.heap.size, 1, none⟩ = some (.int .i64 un) := by rw [Lib.cell_of_heap HH1.out]; rfl
  have q2 : w2.cell? ⟨w.heap.size, 2, none⟩ = some (.slice a1 n1 d1) := by rw [Lib.cell_of_heap HH1.out]; rfl
  have q3 : w2.cell? ⟨w.heap.size, 3, none⟩ = some (.slice a2 n2 d2) := by rw [Lib.cell_of_heap HH1.out]; rfl
  have q4 : w2.cell? ⟨w.heap.size, 4, none⟩ = some (.slice a3 n3 d3) := by rw [Lib.cell_of_heap HH1.out]; rfl
  go_wp2_with fail
  refine Calls.mono HC.out ?_
  rintro e w3 ⟨v3, rfl, hi3, hb3⟩
  have HB3 : Hid (Below w.heap.size w w3) := HB1.out.trans (hb3.mono HB1.out.size)
  obtain ⟨ai, ci, rfl, _, hai⟩ := hi3
  have HAI : Hid (IdsAt w3 ai (Dg.under ⟨⟨ua, un⟩, ps, says, ts⟩)) := hai
  have HV3 : Hid (UpsV w3 (.slice ao q.length cap) q) := HV.out.kc (Kc.below HB3.out)
  clear HC q0 q1 q2 q3 q4 hai hb3 HB1 HH1 HV
  generalize Dg.under ⟨⟨ua, un⟩, ps, says, ts⟩ = l at *
  go_wp2_with fail
  go_loopw [6] (fun iv wr => ∃ k : Nat, k ≤ l.length ∧ iv = .int .i64 k ∧ Hid ((l.take k).all (Dg.hasU (ups q)) = true) ∧ Hid (Below w3.heap.size w3 wr)) (fun iv _ => l.length - (intOf iv).toNat)
  case atStart => exact ⟨0, Nat.zero_le _, rfl, rfl, Below.refl _ _⟩
  case round =>
    obtain ⟨k, hk, rfl, HR, HW⟩ := hrel
    have HVr : Hid (UpsV wr (.slice ao q.length cap) q) := HV3.out.kc (Kc.below HW.out)
    by_cases hlt : k < l.length
    · obtain ⟨b, off, rfl, p0, p1⟩ := ids_at HAI.out k hlt
      have a0 := cell_below HW.out p0
      have a1 := cell_below HW.out p1
      clear p0 p1
      have HS : Hid (Dg.hasU (ups q) (idD l k) = true → (l.take (k + 1)).all (Dg.hasU (ups q)) = true) := fun h => by rw [all_take l _ k hlt, HR.out, h]; rfl
      have HN : Hid (Dg.hasU (ups q) (idD l k) = false → Dg.carry (ups q) ⟨⟨ua, un⟩, ps, says, ts⟩ = false) := fun h => by rw [HF.out]; exact all_no hlt h
      clear HR
      generalize idD l k = z at *
      obtain ⟨za, zn⟩ := z
      dsimp only at a0 a1
      go_wp2_with fail
      refine Calls.mono (PlaceOf_any q ⟨za, zn⟩ _ wr HVr.out (by omega)) ?_
      rintro e w4 ⟨r, rfl, hr, hb4⟩
      have g := hr.neg
      have HW4 : Hid (Below w3.heap.size w3 w4) := HW.out.trans (hb4.mono HW.out.size)
      clear hr hb4 HW HVr a0 a1
      cases hh : Dg.hasU (ups q) ⟨za, zn⟩
      · have HE : Hid _ := HN.out hh
        rw [hh] at g
        have g2 : decide (r < 0) = true := g
        clear HN HS hh g
        go_wp2_with fail
        go_ret
        exact ⟨by rw [HE.out]; rfl, HB3.out.trans (HW4.out.mono HB3.out.size)⟩
      · have HE : Hid _ := HS.out hh
        rw [hh] at g
        have g2 : decide (r < 0) = false := g
        clear HN HS hh g
        go_wp2_with fail
        go_roundw
        case rel => exact ⟨k + 1, hlt, by go_num, HE.out, HW4.out⟩
        case measure => simp [intOf]; omega
    · have hdd : decide (k < l.length) = false := decide_eq_false hlt
      have HE : Hid (Dg.carry (ups q) ⟨⟨ua, un⟩, ps, says, ts⟩ = true) := by
        have h0 := HR.out
        rw [List.take_of_length_le (by omega)] at h0
        exact HF.out.trans h0
      go_wp2_with fail
      go_ret
      exact ⟨by rw [HE.out]; rfl, HB3.out.trans (HW.out.mono HB3.out.size)⟩
end Go.Proofs.YtmfaodapofamfaaGreat

/- Is one behind itself? What the document does, plain; and rows of truths. -/
namespace Go.Proofs.YtmfaodapofamfaaGreat
open Go.RowKit

def boolRow (l : List Bool) : Array Value := (l.map Value.bool).toArray
theorem boolRow_cell {w : World} {b : Nat} {l : List Bool} (h : w.heap[b]? = some (.cells (boolRow l) 4)) {i : Nat} (hi : i < l.length) : w.cell? ⟨b, i, none⟩ = some (.bool (l.getD i false)) := by
  rw [Lib.cell_of_heap h]
  unfold boolRow
  simp [hi]
theorem boolRow_set {w : World} {b : Nat} {l : List Bool} (h : w.heap[b]? = some (.cells (boolRow l) 4)) (i : Nat) (v : Bool) : (w.setCell ⟨b, i, none⟩ (.bool v)).heap[b]? = some (.cells (boolRow (l.set i v)) 4) := by
  rw [Lib.heap_setCell_same h]
  unfold boolRow
  simp [List.map_set]
theorem made_boolRow (n : Nat) : madeCells #[Value.bool false] n = boolRow (List.replicate n false) := by
  unfold boolRow
  apply Array.ext
  · simp [size_madeCells]
  · intro i h1 h2
    simp [madeCells, Nat.mod_one]
theorem heap_set_other {w : World} {b c i : Nat} {v : Value} (h : ¬ c = b) : (w.setCell ⟨b, i, none⟩ v).heap[c]? = w.heap[c]? := Below.heap_setCell _ _ _ _ h
theorem below_row {w wr w5 : World} {LB : Nat} (hb : Below w.heap.size w wr) (hg : wr.grownBy w5 (some LB)) (h : w.heap.size ≤ LB) : Below w.heap.size w w5 :=
  ⟨hg.os.trans hb.os, hg.tape.trans hb.tape, hg.output.trans hb.output, Nat.le_trans hb.size hg.size, fun j hj => (hg.block j (Nat.lt_of_lt_of_le hj hb.size) (fun e => by injection e with e; omega)).trans (hb.block j hj)⟩
/-- The row of truths, and all else as it was. -/
structure BRow (w : World) (LB : Nat) (W : World) (cur : List Bool) : Prop where
  row : W.heap[LB]? = some (.cells (boolRow cur) 4)
  gr : w.grownBy W (some LB)
theorem BRow.below {w W W' : World} {LB : Nat} {cur : List Bool} (h : BRow w LB W cur) (hb : Below W.heap.size W W') : BRow w LB W' cur :=
  ⟨(hb.block _ (Array.getElem?_eq_some_iff.mp h.row).1).trans h.row, ⟨hb.os.trans h.gr.os, hb.tape.trans h.gr.tape, hb.output.trans h.gr.output, Nat.le_trans h.gr.size hb.size, fun j hj hn => (hb.block j (Nat.lt_of_lt_of_le hj h.gr.size)).trans (h.gr.block j hj hn)⟩⟩
theorem BRow.set {w W : World} {LB : Nat} {cur : List Bool} (h : BRow w LB W cur) (i : Nat) (v : Bool) : BRow w LB (W.setCell ⟨LB, i, none⟩ (.bool v)) (cur.set i v) := by
  refine ⟨boolRow_set h.row i v, ⟨h.gr.os, h.gr.tape, h.gr.output, by have := h.gr.size; simpa using this, fun j hj hn => ?_⟩⟩
  have hjl : ¬ j = LB := fun e => hn (by rw [e])
  exact (heap_set_other hjl).trans (h.gr.block j hj hn)

namespace Dg
/-- Is there one of that id that is free? -/
def frees (q : List Uv) (f : List Bool) (x : Wr.Id) : Bool := (List.range q.length).any fun k => decide ((uvD q k).u.id = x) && f.getD k false
def okAt (q : List Uv) (f : List Bool) (i : Nat) : Bool := !(f.getD i false) && (under (uvD q i).u).all (frees q f)
def Inj (q : List Uv) : Prop := ∀ j k, j < q.length → k < q.length → (uvD q j).u.id = (uvD q k).u.id → j = k
theorem inj_of_nodup {q : List Uv} (h : ((ups q).map Wr.Up.id).Nodup) : Inj q := by
  intro j k hj hk e
  have h1 : ∀ i, i < q.length → ((ups q).map Wr.Up.id)[i]? = some (uvD q i).u.id := fun i hi => by simp [ups, uvD, hi]
  have h2 := h1 j hj
  rw [e, ← h1 k hk] at h2
  have hl : j < ((ups q).map Wr.Up.id).length := by simpa [ups] using hj
  exact (List.getElem?_inj hl h).mp h2
theorem frees_none {q : List Uv} {f : List Bool} {x : Wr.Id} (h : hasU (ups q) x = false) : frees q f x = false := by
  unfold frees
  rw [List.any_eq_false]
  intro k hk
  have hk := List.mem_range.mp hk
  have : (uvD q k).u.id ≠ x := fun e => by
    have h2 : hasU (ups q) x = true := hasU_iff.mpr ⟨(uvD q k).u, List.mem_map.mpr ⟨_, uvD_mem q k hk, rfl⟩, e⟩
    rw [h2] at h
    cases h
  simp [this]
theorem frees_at {q : List Uv} (hi : Inj q) {f : List Bool} {x : Wr.Id} {k : Nat} (hk : k < q.length) (h : (uvD q k).u.id = x) : frees q f x = f.getD k false := by
  unfold frees
  cases hf : f.getD k false with
  | true =>
    rw [List.any_eq_true]
    refine ⟨k, List.mem_range.mpr hk, ?_⟩
    rw [hf, decide_eq_true h]
    rfl
  | false =>
    rw [List.any_eq_false]
    intro j hj
    have hj := List.mem_range.mp hj
    by_cases e : (uvD q j).u.id = x
    · have := hi j k hj hk (e.trans h.symm)
      subst this
      rw [hf]
      simp
    · simp [e]
theorem frees_yes {q : List Uv} {f : List Bool} {x : Wr.Id} (h : frees q f x = true) : ∃ k, k < q.length ∧ (uvD q k).u.id = x ∧ f.getD k false = true := by
  unfold frees at h
  obtain ⟨k, hk, h⟩ := List.any_eq_true.mp h
  rw [Bool.and_eq_true] at h
  exact ⟨k, List.mem_range.mp hk, of_decide_eq_true h.1, h.2⟩
structure RndI (q : List Uv) (f : List Bool) (left : Nat) : Prop where
  len : f.length = q.length
  cm : ∀ i, i < q.length → f.getD i false = true → Cm (ups q) (uvD q i).u.id
  left : left = f.count false
theorem RndI.start (q : List Uv) : RndI q (List.replicate q.length false) q.length := by
  refine ⟨by simp, fun i hi h => ?_, by simp⟩
  simp [hi] at h
structure RndP (q : List Uv) (f : List Bool) (left i : Nat) (f' : List Bool) (left' : Nat) (ch : Bool) : Prop where
  st : RndI q f' left'
  no : ch = false → f' = f ∧ left' = left ∧ ∀ j, j < i → okAt q f j = false
  yes : ch = true → left' < left
theorem RndP.start {q : List Uv} {f : List Bool} {left : Nat} (h : RndI q f left) : RndP q f left 0 f left false := ⟨h, fun _ => ⟨rfl, rfl, fun j hj => by omega⟩, fun h => by cases h⟩
theorem RndP.le {q : List Uv} {f f' : List Bool} {left i left' : Nat} {ch : Bool} (h : RndP q f left i f' left' ch) : left' ≤ left := by
  cases ch with
  | false => exact Nat.le_of_eq (h.no rfl).2.1
  | true => exact Nat.le_of_lt (h.yes rfl)
theorem RndP.on {q : List Uv} {f f' : List Bool} {left i left' : Nat} {ch : Bool} (h : RndP q f left i f' left' ch) (hb : okAt q f' i = false) : RndP q f left (i + 1) f' left' ch := by
  refine ⟨h.st, fun e => ?_, h.yes⟩
  obtain ⟨h1, h2, h3⟩ := h.no e
  refine ⟨h1, h2, fun j hj => ?_⟩
  rcases Nat.lt_succ_iff_lt_or_eq.mp hj with hj | rfl
  · exact h3 j hj
  · rw [← h1]; exact hb
theorem RndP.go {q : List Uv} {f f' : List Bool} {left i left' : Nat} {ch : Bool} (h : RndP q f left i f' left' ch) (hi : i < q.length) (hb : okAt q f' i = true) : 1 ≤ left' ∧ RndP q f left (i + 1) (f'.set i true) (left' - 1) true := by
  unfold okAt at hb
  rw [Bool.and_eq_true, Bool.not_eq_true'] at hb
  have hl : i < f'.length := by rw [h.st.len]; exact hi
  have hf : f'[i] = false := by
    have := hb.1
    simpa [List.getD, hl] using this
  have hpos : 1 ≤ f'.count false := by
    refine List.count_pos_iff.mpr ?_
    rw [← hf]
    exact List.getElem_mem hl
  have hle := h.le
  have hlf := h.st.left
  refine ⟨by omega, ⟨by rw [List.length_set]; exact h.st.len, fun j hj hfj => ?_, ?_⟩, fun e => (by cases e), fun _ => by omega⟩
  · by_cases e : j = i
    · subst e
      refine .mk (uvD q j).u (List.mem_map.mpr ⟨_, uvD_mem q j hj, rfl⟩) (fun x hx => ?_)
      obtain ⟨k, hk, rfl, hfk⟩ := frees_yes (List.all_eq_true.mp hb.2 x hx)
      exact h.st.cm k hk hfk
    · refine h.st.cm j hj ?_
      have hj2 : j < f'.length := by rw [h.st.len]; exact hj
      have hij : ¬ i = j := fun e2 => e e2.symm
      simpa [List.getD, List.getElem?_set, hij] using hfj
  · rw [List.count_set hl, hf]
    simp
    omega
theorem RndP.fin {q : List Uv} (hi : Inj q) (hA : Apart (ups q)) {f f' : List Bool} {left left' : Nat} (h : RndP q f left q.length f' left' false) : decide (0 < left') = ((settle snoc [] (ups q)).2.length != 0) := by
  obtain ⟨h1, h2, h3⟩ := h.no rfl
  subst h1 h2
  have key : ∀ x, Cm (ups q) x → ∀ i, i < q.length → (uvD q i).u.id = x → f'.getD i false = true := by
    intro x hx
    induction hx with
    | mk u hu hx ih =>
      intro i hil e
      cases hf : f'.getD i false with
      | true => rfl
      | false =>
        have h4 := h3 i hil
        unfold okAt at h4
        rw [hf] at h4
        have he : (uvD q i).u = u := hA _ _ (List.mem_map.mpr ⟨_, uvD_mem q i hil, rfl⟩) hu e
        rw [he] at h4
        have h5 : (under u).all (frees q f') = true := by
          rw [List.all_eq_true]
          intro y hy
          obtain ⟨v, hv, e2⟩ := hasU_iff.mp (hx y hy).has
          obtain ⟨z, hz, rfl⟩ := List.mem_map.mp hv
          obtain ⟨k, hk, hzk⟩ := List.getElem_of_mem hz
          have hk2 : uvD q k = z := by rw [← hzk]; simp [uvD, hk]
          rw [frees_at hi hk (by rw [hk2]; exact e2)]
          exact ih y hy k hk (by rw [hk2]; exact e2)
        rw [h5] at h4
        cases h4
  have hz : left' = 0 ↔ (settle snoc [] (ups q)).2 = [] := by
    rw [round_iff hA, h.st.left, List.count_eq_zero]
    constructor
    · intro hn u hu
      obtain ⟨z, hz, rfl⟩ := List.mem_map.mp hu
      obtain ⟨k, hk, hzk⟩ := List.getElem_of_mem hz
      have hk2 : uvD q k = z := by rw [← hzk]; simp [uvD, hk]
      rw [← hk2]
      refine h.st.cm k hk ?_
      have hl : k < f'.length := by rw [h.st.len]; exact hk
      cases hf : f'[k] with
      | true => simp [List.getD, hl, hf]
      | false => exact absurd (hf ▸ List.getElem_mem hl) hn
    · intro hc hm
      obtain ⟨k, hk, hfk⟩ := List.getElem_of_mem hm
      have hkq : k < q.length := by rw [← h.st.len]; exact hk
      have := key _ (hc (uvD q k).u (List.mem_map.mpr ⟨_, uvD_mem q k hkq, rfl⟩)) k hkq rfl
      simp [List.getD, hk, hfk] at this
  cases hs : (settle snoc [] (ups q)).2 with
  | nil => rw [hz.mpr hs]; rfl
  | cons a r =>
    have : left' ≠ 0 := fun e => by have := hz.mp e; rw [hs] at this; cases this
    rw [decide_eq_true (by omega)]
    simp
end Dg
def bit : Value → Nat
  | .bool true => 1
  | _ => 0
end Go.Proofs.YtmfaodapofamfaaGreat

/- The document's IsRound. -/
namespace Go.Proofs.YtmfaodapofamfaaGreat
open Go.RowKit

theorem all_short {l : List Wr.Id} {p : Wr.Id → Bool} {k : Nat} (h : (l.take k).all p = false) : l.all p = false := by
  rw [List.all_eq_false] at h ⊢
  obtain ⟨x, hx, h⟩ := h
  exact ⟨x, List.mem_of_mem_take hx, h⟩
set_option maxRecDepth 100000 in
set_option maxHeartbeats 4000000 in
theorem IsRound_any (q : List Uv) (vq : Value) (w : World) (hV : UpsV w vq q) (hq : q.length ≤ 1000) (hok : ∀ x, x ∈ q → UvOk w x) (hl : ∀ x, x ∈ q → x.u.ps.length ≤ 6 ∧ x.u.ts.length ≤ 6) (hnd : ((ups q).map Wr.Up.id).Nodup) :
    Calls Tryz.prog 42 #[vq] w fun e w' => e = .returned (.bool ((Dg.settle Dg.snoc [] (ups q)).2.length != 0)) ∧ Below w.heap.size w w' := by
  have HV : Hid (UpsV w vq q) := hV
  have HOK : Hid (∀ x, x ∈ q → UvOk w x ∧ x.u.ps.length ≤ 6 ∧ x.u.ts.length ≤ 6) := fun x hx => ⟨hok x hx, hl x hx⟩
  have HJ : Hid (Dg.Inj q) := Dg.inj_of_nodup hnd
  have HAP : Hid (Dg.Apart (ups q)) := Dg.apart_of_nodup hnd
  obtain ⟨ao, cap, rfl, _, hA⟩ := hV
  have HA : Hid (UpsAt w ao q) := hA
  have hmk := run_make_row' (P := Tryz.prog) 92 4 (.bool false) 1 Tryz.underlying92 (by kernel_rfl) rfl .i64 .i64 q.length (by omega) (by omega)
  simp only [made_boolRow] at hmk
  have HBF : Hid (∀ b : Bool, b = ((Dg.settle Dg.snoc [] (ups q)).2.length != 0) → Ending.returned (.bool b) = Ending.returned (.bool ((Dg.settle Dg.snoc [] (ups q)).2.length != 0))) := fun b h => by rw [h]
  have HB1 : Hid (Below w.heap.size w (w.alloc (.cells (boolRow (List.replicate q.length false)) 4))) := (Below.refl _ _).alloc (Nat.le_refl _) _
  have HW1 : Hid ((w.alloc (.cells (boolRow (List.replicate q.length false)) 4)).heap[w.heap.size]? = some (.cells (boolRow (List.replicate q.length false)) 4)) := rl_new w _
  clear hok hl hnd hA
  go_enter Tryz.func42, Tryz.ntmps42
  go_wp2_with fail
  generalize w.alloc (.cells (boolRow (List.replicate q.length false)) 4) = w1 at *
  clear hmk
  have HST : Hid (BRow w1 w.heap.size w1 (List.replicate q.length false)) := ⟨HW1.out, grown_refl _ _⟩
  clear HW1
  go_loopw [4, 5] (fun lv cv wr => ∃ (f : List Bool) (left : Nat) (ch : Bool), left ≤ q.length ∧ lv = .int .i64 left ∧ cv = .bool ch ∧ Hid (Dg.RndI q f left) ∧ Hid (ch = false → Dg.RndP q f left q.length f left false) ∧ Hid (BRow w1 w.heap.size wr f)) (fun lv cv _ => 2 * (intOf lv).toNat + bit cv)
  case atStart => exact ⟨_, q.length, true, Nat.le_refl _, rfl, rfl, Dg.RndI.start q, (fun h => by cases h), HST.out⟩
  case round =>
    obtain ⟨f, left, ch, hle, rfl, rfl, HI, HE, HR⟩ := hrel
    clear HST
    generalize wr = wO at *
    cases ch
    · have HF : Hid _ := Dg.RndP.fin HJ.out HAP.out (HE.out rfl)
      have HBW : Hid (Below w.heap.size w wO) := below_row HB1.out HR.out.gr (Nat.le_refl _)
      clear HE HI HR
      go_wp2_with fail
      go_ret
      exact ⟨HBF.out _ (by rw [← HF.out]), HBW.out⟩
    · clear HE
      go_wp2_with fail
      go_loopw [4, 5, 6] (fun lv cv iv wr => ∃ (f' : List Bool) (left' : Nat) (ch : Bool) (i : Nat), i ≤ q.length ∧ left' ≤ left ∧ lv = .int .i64 left' ∧ cv = .bool ch ∧ iv = .int .i64 i ∧ Hid (Dg.RndP q f left i f' left' ch) ∧ Hid (BRow w1 w.heap.size wr f')) (fun _ _ iv _ => q.length - (intOf iv).toNat)
      case atStart => exact ⟨f, left, false, 0, Nat.zero_le _, Nat.le_refl _, rfl, rfl, rfl, Dg.RndP.start HI.out, HR.out⟩
      case round =>
        obtain ⟨f', left', ch, i, hi, hle', rfl, rfl, rfl, HP, HR2⟩ := hrel
        clear HI HR
        generalize wr = wM at *
        have HBM : Hid (Below w.heap.size w wM) := below_row HB1.out HR2.out.gr (Nat.le_refl _)
        by_cases hlt : i < q.length
        · have g1 : decide (i < q.length) = true := decide_eq_true hlt
          obtain ⟨b, off, rfl, p0, p1, p2, p3, p4⟩ := ups_at HA.out i hlt
          have c0 := cell_below HBM.out p0
          have c1 := cell_below HBM.out p1
          have c2 := cell_below HBM.out p2
          have c3 := cell_below HBM.out p3
          have c4 := cell_below HBM.out p4
          clear p0 p1 p2 p3 p4
          have hx := HOK.out _ (uvD_mem q i hlt)
          have hfl : i < f'.length := by rw [HP.out.st.len]; exact hlt
          have HOKI : Hid (Dg.okAt q f' i = (!(f'.getD i false) && (Dg.under (uvD q i).u).all (Dg.frees q f'))) := rfl
          have hun : (Dg.under (uvD q i).u).length ≤ 12 := by unfold Dg.under; rw [List.length_append]; omega
          have HUC : Hid (Calls Tryz.prog 84 #[uvVal (uvD q i)] wM fun e w' => ∃ v, e = .returned v ∧ IdsV w' v (Dg.under (uvD q i).u) ∧ Below wM.heap.size wM w') := Under_any _ _ (hx.1.below HBM.out) hx.2
          obtain ⟨a1, n1, d1, a2, n2, d2, a3, n3, d3, e1, e2, e3⟩ := hx.1.forms
          clear hx
          generalize uvD q i = x at *
          generalize hud : Dg.under x.u = l at *
          obtain ⟨⟨⟨ua, un⟩, ps, says, ts⟩, vp, vs, vt⟩ := x
          dsimp only at *
          subst e1 e2 e3
          clear hud
          go_wp2_with (fail)
          refine Calls.mono HUC.out ?_
          rintro e w3 ⟨v3, rfl, hi3, hb3⟩
          obtain ⟨ai, ci, rfl, _, hai⟩ := hi3
          have HAI : Hid (IdsAt w3 ai l) := hai
          have HB3 : Hid (Below wM.heap.size wM w3) := hb3
          have HR3 : Hid (BRow w1 w.heap.size w3 f') := HR2.out.below hb3
          have f3 := boolRow_cell HR3.out.row hfl
          clear HUC c0 c1 c2 c3 c4 hai hb3
          obtain ⟨fi, hfi⟩ : ∃ fi, fi = f'.getD i false := ⟨_, rfl⟩
          rw [← hfi] at f3
          have HFI : Hid (fi = f'.getD i false) := hfi
          clear hfi
          go_wp2_with fail
          clear f3
          go_loopw [8, 9] (fun kv iv wr => ∃ (ok : Bool) (k : Nat), k ≤ l.length ∧ kv = .bool ok ∧ iv = .int .i64 k ∧ Hid (ok = (!fi && (l.take k).all (Dg.frees q f'))) ∧ Hid (Below w3.heap.size w3 wr)) (fun _ iv _ => l.length - (intOf iv).toNat)
          case atStart => exact ⟨!fi, 0, Nat.zero_le _, rfl, rfl, by show _ = _; simp, Below.refl _ _⟩
          case round =>
            obtain ⟨ok, k, hk, rfl, rfl, HO, HW⟩ := hrel
            have HR4 : Hid (BRow w1 w.heap.size wr f') := HR3.out.below HW.out
            have HB4 : Hid (Below w.heap.size w wr) := below_row HB1.out HR4.out.gr (Nat.le_refl _)
            have HEND : Hid (∀ b, b = Dg.okAt q f' i → b = false → Dg.RndP q f left (i + 1) f' left' ch) := fun b e h => HP.out.on (e ▸ h)
            have HENY : Hid (∀ b, b = Dg.okAt q f' i → b = true → 1 ≤ left' ∧ Dg.RndP q f left (i + 1) (f'.set i true) (left' - 1) true) := fun b e h => HP.out.go hlt (e ▸ h)
            cases ok
            · have HN : Hid (Dg.RndP q f left (i + 1) f' left' ch) := by
                refine HEND.out _ rfl ?_
                have h0 : (!fi && (l.take k).all (Dg.frees q f')) = false := HO.out.symm
                rw [HOKI.out, ← HFI.out]
                cases fi with
                | true => rfl
                | false => exact all_short h0
              clear HEND HENY HP HOKI
              by_cases hkl : k < l.length
              · have g2 : decide (k < l.length) = true := decide_eq_true hkl
                go_wp2_with fail
                go_roundw
                case rel => exact ⟨f', left', ch, i + 1, hlt, hle', rfl, rfl, by go_num, HN.out, HR4.out⟩
                case measure => simp [intOf]; omega
              · have g2 : decide (k < l.length) = false := decide_eq_false hkl
                go_wp2_with fail
                go_roundw
                case rel => exact ⟨f', left', ch, i + 1, hlt, hle', rfl, rfl, by go_num, HN.out, HR4.out⟩
                case measure => simp [intOf]; omega
            · by_cases hkl : k < l.length
              · have g2 : decide (k < l.length) = true := decide_eq_true hkl
                obtain ⟨b', off', rfl, p0, p1⟩ := ids_at HAI.out k hkl
                have a0 := cell_below HW.out p0
                have a1 := cell_below HW.out p1
                clear p0 p1 HEND HENY
                have HS : Hid (∀ b, b = Dg.frees q f' (idD l k) → b = (!fi && (l.take (k + 1)).all (Dg.frees q f'))) := fun b h => by
                  have h0 : true = (!fi && (l.take k).all (Dg.frees q f')) := HO.out
                  rw [all_take l _ k hkl, ← Bool.and_assoc, ← h0, h]
                  simp
                have HVr : Hid (UpsV wr (.slice (some ⟨b, off, none⟩) q.length cap) q) := HV.out.kc (Kc.below HB4.out)
                clear HO
                generalize idD l k = z at *
                obtain ⟨za, zn⟩ := z
                dsimp only at a0 a1
                go_wp2_with fail
                refine Calls.mono (PlaceOf_any q ⟨za, zn⟩ _ wr HVr.out (by omega)) ?_
                rintro e w5 ⟨r, rfl, hr, hb5⟩
                have HW5 : Hid (Below w3.heap.size w3 w5) := HW.out.trans (hb5.mono HW.out.size)
                have HR5 : Hid (BRow w1 w.heap.size w5 f') := HR4.out.below hb5
                clear a0 a1 hb5 HVr HW HR4 HB4
                rcases hr with ⟨rfl, hh⟩ | ⟨n, rfl, hn, he⟩
                · have HX : Hid _ := HS.out false (by rw [Dg.frees_none hh])
                  clear hh HS
                  go_wp2_with fail
                  go_roundw
                  case rel => exact ⟨false, k + 1, hkl, rfl, by go_num, HX.out, HW5.out⟩
                  case measure => simp [intOf]; omega
                · have HX : Hid _ := HS.out (f'.getD n false) (by rw [Dg.frees_at HJ.out hn he])
                  have f5 := boolRow_cell HR5.out.row (i := n) (by rw [HP.out.st.len]; exact hn)
                  clear he HS
                  generalize f'.getD n false = fn at *
                  have g3 : decide (0 ≤ (n : Int)) = true := decide_eq_true (by omega)
                  go_wp2_with fail
                  go_roundw
                  case rel => exact ⟨fn, k + 1, hkl, rfl, by go_num, HX.out, HW5.out⟩
                  case measure => simp [intOf]; omega
              · have g2 : decide (k < l.length) = false := decide_eq_false hkl
                obtain ⟨hl1, hN⟩ : 1 ≤ left' ∧ Dg.RndP q f left (i + 1) (f'.set i true) (left' - 1) true := by
                  refine HENY.out _ rfl ?_
                  have h0 : true = (!fi && (l.take k).all (Dg.frees q f')) := HO.out
                  rw [List.take_of_length_le (by omega)] at h0
                  rw [HOKI.out, ← HFI.out]
                  exact h0.symm
                have HN : Hid (Dg.RndP q f left (i + 1) (f'.set i true) (left' - 1) true) := hN
                have HR6 : Hid (BRow w1 w.heap.size (wr.setCell ⟨w.heap.size, i, none⟩ (.bool true)) (f'.set i true)) := HR4.out.set i true
                have f5 := boolRow_cell HR4.out.row hfl
                have f6 := Lib.frozen_of_heap HR4.out.row i
                obtain ⟨m, rfl⟩ : ∃ m, left' = m + 1 := ⟨left' - 1, by omega⟩
                clear HEND HENY HP HOKI hN
                go_wp2_with fail
                go_roundw
                case rel => exact ⟨f'.set i true, m, true, i + 1, hlt, by omega, by go_num, rfl, by go_num, HN.out, HR6.out⟩
                case measure => simp [intOf]; omega
        · have g1 : decide (i < q.length) = false := decide_eq_false hlt
          have e : i = q.length := by omega
          subst e
          have HN : Hid (ch = false → Dg.RndP q f' left' q.length f' left' false) := fun h => by
            subst h
            obtain ⟨h1, h2, h3⟩ := HP.out.no rfl
            subst h1 h2
            exact HP.out
          have HI2 : Hid (Dg.RndI q f' left') := HP.out.st
          have hms : ch = true → left' < left := HP.out.yes
          clear HP
          go_wp2_with fail
          go_roundw
          case rel => exact ⟨f', left', ch, by omega, rfl, rfl, HI2.out, HN.out, HR2.out⟩
          case measure => cases ch <;> simp [intOf, bit] at hms ⊢ <;> omega
end Go.Proofs.YtmfaodapofamfaaGreat

/- What the document's CheckReplica answers, plain. -/
namespace Go.Proofs.YtmfaodapofamfaaGreat
open Go.RowKit

theorem uvD_left (h w : List Uv) {j : Nat} (hj : j < h.length) : uvD (h ++ w) j = uvD h j := by simp [uvD, List.getD, List.getElem?_append_left hj]
theorem uvD_right (h w : List Uv) (j : Nat) : uvD (h ++ w) (h.length + j) = uvD w j := by
  simp [uvD, List.getD, List.getElem?_append_right (Nat.le_add_right h.length j)]
namespace Dg
open Wr
theorem rise_at : ∀ (q : List Uv), Wr.rise uOrd (ups q) = true ↔ ∀ j, j + 1 < q.length → uOrd (uvD q j).u (uvD q (j + 1)).u < 0
  | [] => ⟨fun _ j h => by simp at h, fun _ => rfl⟩
  | [a] => ⟨fun _ j h => by simp at h, fun _ => rfl⟩
  | a :: b :: r => by
    show (decide (uOrd a.u b.u < 0) && Wr.rise uOrd (ups (b :: r))) = true ↔ _
    rw [Bool.and_eq_true, decide_eq_true_eq, rise_at (b :: r)]
    constructor
    · rintro ⟨h1, h2⟩ j hj
      cases j with
      | zero => exact h1
      | succ j => exact h2 j (by simpa using hj)
    · intro h
      exact ⟨h 0 (by simp), fun j hj => h (j + 1) (by simpa using hj)⟩
/-- In order so far. -/
def Ord (q : List Uv) (n i : Nat) : Prop := ∀ j, j + 1 < i → j + 1 ≠ n → uOrd (uvD q j).u (uvD q (j + 1)).u < 0
theorem Ord.one (q : List Uv) (n : Nat) : Ord q n 1 := fun j h => by omega
theorem Ord.skip {q : List Uv} {n i : Nat} (h : Ord q n i) (hi : i = n) : Ord q n (i + 1) := fun j h1 h2 => h j (by omega) h2
theorem Ord.step {q : List Uv} {n i j : Nat} (h : Ord q n i) (hj : i = j + 1) (hu : uOrd (uvD q j).u (uvD q i).u < 0) : Ord q n (i + 1) := fun k h1 h2 => by
  by_cases e : k + 1 < i
  · exact h k e h2
  · have : k = j := by omega
    subst this
    subst hj
    exact hu
theorem Ord.fin {h w : List Uv} {i : Nat} (ho : Ord (h ++ w) h.length i) (hi : ¬ i < (h ++ w).length) : Wr.rise uOrd (ups h) = true ∧ Wr.rise uOrd (ups w) = true := by
  rw [List.length_append] at hi
  refine ⟨(rise_at h).mpr fun j hj => ?_, (rise_at w).mpr fun j hj => ?_⟩
  · have := ho j (by omega) (by omega)
    rwa [uvD_left h w (by omega), uvD_left h w hj] at this
  · have := ho (h.length + j) (by omega) (by omega)
    rwa [uvD_right, Nat.add_assoc, uvD_right] at this
theorem ord_no {h w : List Uv} {i j : Nat} (hj : i = j + 1) (hi : i < (h ++ w).length) (hn : i ≠ h.length) (hu : ¬ uOrd (uvD (h ++ w) j).u (uvD (h ++ w) i).u < 0) : together (ups h) (ups w) = 4 := by
  rw [List.length_append] at hi
  unfold together
  rw [if_pos]
  have : (Wr.rise uOrd (ups h) && Wr.rise uOrd (ups w)) = false := by
    subst hj
    by_cases hlt : j + 1 < h.length
    · cases hr : Wr.rise uOrd (ups h) with
      | false => rfl
      | true =>
        have := (rise_at h).mp hr j hlt
        rw [uvD_left h w (by omega), uvD_left h w hlt] at hu
        exact absurd this hu
    · cases hr : Wr.rise uOrd (ups w) with
      | false => rw [Bool.and_false]
      | true =>
        obtain ⟨m, rfl⟩ : ∃ m, j = h.length + m := ⟨j - h.length, by omega⟩
        have := (rise_at w).mp hr m (by omega)
        rw [uvD_right, Nat.add_assoc, uvD_right] at hu
        exact absurd this hu
  rw [this]
  rfl
theorem tog_both {h w : List Up} (hb : ∃ u, u ∈ w ∧ hasU h u.id = true) : together h w = 4 := by
  obtain ⟨u, hu, e⟩ := hb
  unfold together
  rw [if_pos]
  have : (w.any fun u => hasU h u.id) = true := List.any_eq_true.mpr ⟨u, hu, e⟩
  rw [this]
  simp
theorem tog_in {h w : List Up} (r : Wr.rise uOrd h = true ∧ Wr.rise uOrd w = true) (hb : ∀ u, u ∈ w → hasU h u.id = false) : together h w = if (h.any fun u => !carry h u) = true then 5
  else if ((settle snoc [] h).2.length != 0 || w.any (carry h)) = true then 4 else 0 := by
  have h1 : (w.any fun u => hasU h u.id) = false := by
    rw [List.any_eq_false]
    intro u hu
    rw [hb u hu]
    simp
  unfold together
  rw [if_neg]
  rw [r.1, r.2, h1]
  simp
theorem tog_none {h w : List Up} (r : Wr.rise uOrd h = true ∧ Wr.rise uOrd w = true) (hb : ∀ u, u ∈ w → hasU h u.id = false) (hn : ∃ u, u ∈ h ∧ carry h u = false) : together h w = 5 := by
  obtain ⟨u, hu, e⟩ := hn
  rw [tog_in r hb, if_pos]
  exact List.any_eq_true.mpr ⟨u, hu, by rw [e]; rfl⟩
theorem tog_then {h w : List Up} (r : Wr.rise uOrd h = true ∧ Wr.rise uOrd w = true) (hb : ∀ u, u ∈ w → hasU h u.id = false) (hn : ∀ u, u ∈ h → carry h u = true) : together h w = if ((settle snoc [] h).2.length != 0 || w.any (carry h)) = true then 4 else 0 := by
  rw [tog_in r hb, if_neg]
  intro e
  obtain ⟨u, hu, e⟩ := List.any_eq_true.mp e
  rw [hn u hu] at e
  cases e
theorem any_yes {w : List Up} {p : Up → Bool} (h : ∃ u, u ∈ w ∧ p u = true) : w.any p = true := List.any_eq_true.mpr h
theorem any_not {w : List Up} {p : Up → Bool} (h : ∀ u, u ∈ w → p u = false) : w.any p = false := by
  rw [List.any_eq_false]
  intro u hu
  rw [h u hu]
  simp
end Dg
theorem take_mem {q : List Uv} {k : Nat} {p : Wr.Up → Prop} (hk : k < q.length) (h : ∀ u, u ∈ ups (q.take k) → p u) (hx : p (uvD q k).u) : ∀ u, u ∈ ups (q.take (k + 1)) → p u := by
  intro u hu
  rw [uvD_take q k hk, ups_append] at hu
  rcases List.mem_append.mp hu with hu | hu
  · exact h u hu
  · simp only [ups, List.map_cons, List.map_nil, List.mem_singleton] at hu
    rw [hu]; exact hx
theorem take_all {q : List Uv} {k : Nat} {p : Wr.Up → Prop} (hk : ¬ k < q.length) (h : ∀ u, u ∈ ups (q.take k) → p u) : ∀ u, u ∈ ups q → p u := by
  rwa [List.take_of_length_le (by omega)] at h
theorem appUps_run {W : World} (y : World) (B : Nat) (hB : B ≤ y.heap.size) (v : Value) (q : List Uv) (hown : URow y B v q) (ao : Option Addr) (cap : Nat) (q2 : List Uv) (hA : UpsAt y ao q2) (hcap : ao = none → cap = 0) (hok : ∀ x, x ∈ q2 → UvOk W x) (hb : q.length + q2.length ≤ 4194304) (ty : TypeId) :
    ∃ v' y', (Builtin.append_ #[22, 22] ty #[v, .slice ao q2.length cap]).run Tryz.prog y = .ok v' y' ∧ URow y' B v' (q ++ q2) ∧ y.grownBy y' v.ownBlock := by
  obtain ⟨i0, hi, hz0, hz1, hz2⟩ := info_parts up_info
  cases ao with
  | none =>
    have hl0 : q2 = [] := by
      rcases hA with h | ⟨b, off, h, _⟩
      · exact h
      · cases h
    subst hl0
    have hr := run_append_owned_none (P := Tryz.prog) (w := y) B 22 ty 30 i0 5 Tryz.underlying22 hi v q.length _ hown
    rw [hcap rfl]
    exact ⟨v, y, hr, by rw [List.append_nil]; exact hown, grown_refl _ _⟩
  | some ad =>
    obtain ⟨v', y', r1, r2, r3, _⟩ := run_append_own (P := Tryz.prog) y B 22 ty 30 i0 _ 5 88 Tryz.underlying22 hi hz0 hz1 hz2 rfl (by decide) v q.length _ hown ad q2.length cap (q2.map uvCells).flatten (ups_flat q2) (by
      intro j u hj
      rcases hA with h | ⟨b, off, h, hc⟩
      · rw [h] at hj; simp at hj
      · rw [Option.some.inj h, Addr.add_lit]
        exact ups_cells hc j u hj) (uv_one hok) (by unfold maxLen; omega) (by omega) hB
    exact ⟨v', y', r1, by show World.ownsRow _ _ _ _ _ _ _; rw [List.length_append, List.map_append, List.flatten_append]; exact r2, r3⟩
end Go.Proofs.YtmfaodapofamfaaGreat

/- The document's SameUpdates, SameReplica, SameIds; replicaIs, factsAre: of what is the same. -/
namespace Go.Proofs.YtmfaodapofamfaaGreat
open Go.RowKit

def sameT (b f n c b9 f9 n9 c9 k o o9 : Nat) (X Y : Value) (tQ : Nat) (vQ : Value) (_ : World) : Prop :=
  match tQ with
  | 17 => vQ = .slice (some ⟨b, f, none⟩) n c
  | 18 => vQ = .int .i64 k
  | 19 => vQ = .pointer (some ⟨b, o, none⟩)
  | 20 => vQ = X
  | 21 => vQ = .slice (some ⟨b9, f9, none⟩) n9 c9
  | 22 => vQ = .int .i64 k
  | 23 => vQ = .pointer (some ⟨b9, o9, none⟩)
  | 24 => vQ = Y
  | 25 => vQ = .bool true
  | 26 => vQ = .bool false
  | _ => True
theorem sameT_mono (b f n c b9 f9 n9 c9 k o o9 : Nat) (X Y : Value) (tQ : Nat) (vQ : Value) (W W' : World) (_ : Below W.heap.size W W') (h : sameT b f n c b9 f9 n9 c9 k o o9 X Y tQ vQ W) : sameT b f n c b9 f9 n9 c9 k o o9 X Y tQ vQ W' := by
  revert h
  unfold sameT
  split <;> (intro h; first | exact h)

set_option maxRecDepth 100000 in
set_option maxHeartbeats 2000000 in
theorem SameUpdates_same (q r : List Uv) (vq vr : Value) (w : World) (hV : UpsV w vq q) (hR : UpsV w vr r) (he : ups q = ups r) (hq : q.length ≤ 1000) (hok : ∀ x, x ∈ q → UvOk w x) (hok2 : ∀ x, x ∈ r → UvOk w x) :
    Calls Tryz.prog 26 #[vq, vr] w fun e w' => e = .returned (.bool true) ∧ Below w.heap.size w w' := by
  have HO : Hid (∀ x, x ∈ q → UvOk w x) := hok
  have HO2 : Hid (∀ x, x ∈ r → UvOk w x) := hok2
  have HE : Hid (∀ k, k < q.length → (uvD q k).u = (uvD r k).u) := fun k hk => by
    have h1 := congrArg (fun l => l[k]?) he
    have hk2 : k < r.length := by have := congrArg List.length he; rw [ups_length, ups_length] at this; omega
    simpa [ups, uvD, hk, hk2] using h1
  have hl : q.length = r.length := by have := congrArg List.length he; rwa [ups_length, ups_length] at this
  obtain ⟨ao, cap, rfl, _, hA⟩ := hV
  obtain ⟨ao9, cap9, rfl, _, hA9⟩ := hR
  have HA : Hid (UpsAt w ao q) := hA
  have HA9 : Hid (UpsAt w ao9 r) := hA9
  clear hok hok2 hA hA9 he
  have g0 : ((q.length : Int) == (r.length : Int)) = true := by rw [hl]; simp
  have g1 : (q.length == r.length) = true := by rw [hl]; simp
  have g3 : (q.length : Int) = (r.length : Int) := by rw [hl]
  go_enter Tryz.func26, Tryz.ntmps26
  go_wp2_with fail
  go_loopw [5] (fun iv wr => ∃ k : Nat, k ≤ q.length ∧ iv = .int .i64 k ∧ Hid (Below w.heap.size w wr)) (fun iv _ => q.length - (intOf iv).toNat)
  case atStart => exact ⟨0, Nat.zero_le _, rfl, Below.refl _ _⟩
  case round =>
    obtain ⟨k, hk, rfl, HG⟩ := hrel
    by_cases hlt : k < q.length
    · have g2 : decide (k < q.length) = true := decide_eq_true hlt
      have hlt2 : k < r.length := by omega
      obtain ⟨b, off, rfl, p0, p1, p2, p3, p4⟩ := ups_at (HA.out.kc (Kc.below HG.out)) k hlt
      obtain ⟨b9, off9, rfl, s0, s1, s2, s3, s4⟩ := ups_at (HA9.out.kc (Kc.below HG.out)) k hlt2
      have hx := (HO.out _ (uvD_mem q k hlt)).below HG.out
      have hy := (HO2.out _ (uvD_mem r k hlt2)).below HG.out
      have hxy := HE.out k hlt
      have HCL : Hid (∀ z, Below wr.heap.size wr z → Calls Tryz.prog 62 #[uvVal (uvD q k), uvVal (uvD r k)] z fun e w' => e = .returned (.bool true) ∧ Below z.heap.size z w') := fun z hz => by
        have h1 := hx.below hz
        have h2 := hy.below hz
        refine (SameUpdate_any (uvD q k).u (uvD r k).u _ _ _ _ _ _ z h1.p h1.s h1.t h2.p h2.s h2.t h1.f h2.f h1.l).mono ?_
        rintro e w' ⟨t, rfl, ht, hb⟩
        exact ⟨by rw [ht.mpr hxy], hb⟩
      have HU : Hid (∀ z, Below wr.heap.size wr z → UpIn z b (off + k * 5) (uvD q k) ∧ UpIn z b9 (off9 + k * 5) (uvD r k)) := fun z hz => ⟨⟨cell_below hz p0, cell_below hz p1, cell_below hz p2, cell_below hz p3, cell_below hz p4⟩, ⟨cell_below hz s0, cell_below hz s1, cell_below hz s2, cell_below hz s3, cell_below hz s4⟩⟩
      obtain ⟨a1, n1, d1, a2, n2, d2, a3, n3, d3, e1, e2, e3⟩ := hx.forms
      obtain ⟨b1, m1, f1, b2, m2, f2, b3, m3, f3, e4, e5, e6⟩ := hy.forms
      clear p0 p1 p2 p3 p4 s0 s1 s2 s3 s4 hx hy hxy
      generalize uvD q k = x at *
      generalize uvD r k = y at *
      obtain ⟨⟨⟨ua, un⟩, ps, says, ts⟩, vp, vs, vt⟩ := x
      obtain ⟨⟨⟨va, vn⟩, ps2, says2, ts2⟩, vp2, vs2, vt2⟩ := y
      dsimp only at *
      subst e1 e2 e3 e4 e5 e6
      go_upto_region 6 with fail
      refine wp_region_tabA (sameT b off q.length cap b9 off9 r.length cap9 k (off + k * 5) (off9 + k * 5) (.agg #[.int .i64 ua, .int .i64 un, .slice a1 n1 d1, .slice a2 n2 d2, .slice a3 n3 d3]) (.agg #[.int .i64 va, .int .i64 vn, .slice b1 m1 f1, .slice b2 m2 f2, .slice b3 m3 f3])) (by kernel_rfl) (by kernel_rfl) (sameT_mono _ _ _ _ _ _ _ _ _ _ _ _ _) ?hop6 ?hend6
      case hop6 =>
        refine AllOps.cons (fun a y h => ?_) ?_
        · have e0 : a.eval (.tmp 0) = (.slice (some ⟨b, off, none⟩) q.length cap : Value) := h.old 0 (by kernel_rfl)
          refine opOk_val (v := .slice (some ⟨b, off, none⟩) q.length cap) (w' := y) (wanted_none rfl) ?_ (fun t ht => by cases ht; exact rfl) (Below.refl _ _)
          have ec : ∀ v, a.eval (.const v) = v := fun _ => rfl
          generalize a.eval = ev at *
          clear h
          go_simp
        refine AllOps.cons (fun a y h => ?_) ?_
        · have e5 : a.eval (.tmp 5) = (.int .i64 k : Value) := h.old 5 (by kernel_rfl)
          refine opOk_val (v := .int .i64 k) (w' := y) (wanted_none rfl) ?_ (fun t ht => by cases ht; exact rfl) (Below.refl _ _)
          have ec : ∀ v, a.eval (.const v) = v := fun _ => rfl
          generalize a.eval = ev at *
          clear h
          go_simp
        refine AllOps.cons (fun a y h => ?_) ?_
        · have e17 : a.eval (.tmp 17) = (.slice (some ⟨b, off, none⟩) q.length cap : Value) := h.of 17 (by kernel_rfl)
          have e18 : a.eval (.tmp 18) = (.int .i64 k : Value) := h.of 18 (by kernel_rfl)
          refine opOk_val (v := .pointer (some ⟨b, off + k * 5, none⟩)) (w' := y) (wanted_none rfl) ?_ (fun t ht => by cases ht; exact rfl) (Below.refl _ _)
          have ec : ∀ v, a.eval (.const v) = v := fun _ => rfl
          generalize a.eval = ev at *
          clear h
          go_simp
        refine AllOps.cons (fun a y h => ?_) ?_
        · have e19 : a.eval (.tmp 19) = (.pointer (some ⟨b, off + k * 5, none⟩) : Value) := h.of 19 (by kernel_rfl)
          obtain ⟨⟨u0, u1, u2, u3, u4⟩, _⟩ := HU.out y h.below
          refine opOk_val (v := .agg #[.int .i64 ua, .int .i64 un, .slice a1 n1 d1, .slice a2 n2 d2, .slice a3 n3 d3]) (w' := y) (wanted_none rfl) ?_ (fun t ht => by cases ht; exact rfl) (Below.refl _ _)
          have ec : ∀ v, a.eval (.const v) = v := fun _ => rfl
          generalize a.eval = ev at *
          clear h
          go_simp
        refine AllOps.cons (fun a y h => ?_) ?_
        · have e1 : a.eval (.tmp 1) = (.slice (some ⟨b9, off9, none⟩) r.length cap9 : Value) := h.old 1 (by kernel_rfl)
          refine opOk_val (v := .slice (some ⟨b9, off9, none⟩) r.length cap9) (w' := y) (wanted_none rfl) ?_ (fun t ht => by cases ht; exact rfl) (Below.refl _ _)
          have ec : ∀ v, a.eval (.const v) = v := fun _ => rfl
          generalize a.eval = ev at *
          clear h
          go_simp
        refine AllOps.cons (fun a y h => ?_) ?_
        · have e5 : a.eval (.tmp 5) = (.int .i64 k : Value) := h.old 5 (by kernel_rfl)
          refine opOk_val (v := .int .i64 k) (w' := y) (wanted_none rfl) ?_ (fun t ht => by cases ht; exact rfl) (Below.refl _ _)
          have ec : ∀ v, a.eval (.const v) = v := fun _ => rfl
          generalize a.eval = ev at *
          clear h
          go_simp
        refine AllOps.cons (fun a y h => ?_) ?_
        · have e21 : a.eval (.tmp 21) = (.slice (some ⟨b9, off9, none⟩) r.length cap9 : Value) := h.of 21 (by kernel_rfl)
          have e22 : a.eval (.tmp 22) = (.int .i64 k : Value) := h.of 22 (by kernel_rfl)
          refine opOk_val (v := .pointer (some ⟨b9, off9 + k * 5, none⟩)) (w' := y) (wanted_none rfl) ?_ (fun t ht => by cases ht; exact rfl) (Below.refl _ _)
          have ec : ∀ v, a.eval (.const v) = v := fun _ => rfl
          generalize a.eval = ev at *
          clear h
          go_simp
        refine AllOps.cons (fun a y h => ?_) ?_
        · have e23 : a.eval (.tmp 23) = (.pointer (some ⟨b9, off9 + k * 5, none⟩) : Value) := h.of 23 (by kernel_rfl)
          obtain ⟨_, ⟨u0, u1, u2, u3, u4⟩⟩ := HU.out y h.below
          refine opOk_val (v := .agg #[.int .i64 va, .int .i64 vn, .slice b1 m1 f1, .slice b2 m2 f2, .slice b3 m3 f3]) (w' := y) (wanted_none rfl) ?_ (fun t ht => by cases ht; exact rfl) (Below.refl _ _)
          have ec : ∀ v, a.eval (.const v) = v := fun _ => rfl
          generalize a.eval = ev at *
          clear h
          go_simp
        refine AllOps.cons (fun a y h => ?_) ?_
        · have e20 : a.eval (.tmp 20) = (.agg #[.int .i64 ua, .int .i64 un, .slice a1 n1 d1, .slice a2 n2 d2, .slice a3 n3 d3] : Value) := h.of 20 (by kernel_rfl)
          have e24 : a.eval (.tmp 24) = (.agg #[.int .i64 va, .int .i64 vn, .slice b1 m1 f1, .slice b2 m2 f2, .slice b3 m3 f3] : Value) := h.of 24 (by kernel_rfl)
          refine opOk_call (f := 62) (args := #[.agg #[.int .i64 ua, .int .i64 un, .slice a1 n1 d1, .slice a2 n2 d2, .slice a3 n3 d3], .agg #[.int .i64 va, .int .i64 vn, .slice b1 m1 f1, .slice b2 m2 f2, .slice b3 m3 f3]]) (wanted_none rfl) ?_ ?_
          · have ec : ∀ v, a.eval (.const v) = v := fun _ => rfl
            have ef : ∀ f, a.eval (.func f) = .func (.func f) #[] #[] := fun _ => rfl
            generalize a.eval = ev at *
            clear h
            go_simp
          · refine (HCL.out y h.below).mono ?_
            rintro e w' ⟨rfl, hb⟩
            exact ⟨_, rfl, fun t ht => by cases ht; exact rfl, hb⟩
        refine AllOps.cons (fun a y h => ?_) ?_
        · have e25 : a.eval (.tmp 25) = (.bool true : Value) := h.of 25 (by kernel_rfl)
          refine opOk_val (v := .bool false) (w' := y) (wanted_none rfl) ?_ (fun t ht => by cases ht; exact rfl) (Below.refl _ _)
          have ec : ∀ v, a.eval (.const v) = v := fun _ => rfl
          generalize a.eval = ev at *
          clear h
          go_simp
        exact AllOps.nil
      rintro ⟨tm, df⟩ wE hbE hdE hszE hstE hTE
      have k26 : tm.getD 26 undef = .bool false := ends_at (T := sameT b off q.length cap b9 off9 r.length cap9 k (off + k * 5) (off9 + k * 5) (.agg #[.int .i64 ua, .int .i64 un, .slice a1 n1 d1, .slice a2 n2 d2, .slice a3 n3 d3]) (.agg #[.int .i64 va, .int .i64 vn, .slice b1 m1 f1, .slice b2 m2 f2, .slice b3 m3 f3])) (w := wE) (a := ⟨tm, df⟩) (t := 26) hTE (by kernel_rfl)
      obtain rfl : df = [] := hdE
      clear hTE
      have hF8 := tmps_fold [17, 18, 19, 20, 21, 22, 23, 24, 25, 26] tm _ hszE hstE
      clear hszE hstE
      simp only [List.foldl_cons, List.foldl_nil, k26] at hF8
      clear k26
      generalize tm.getD 17 undef = x17 at hF8
      generalize tm.getD 18 undef = x18 at hF8
      generalize tm.getD 19 undef = x19 at hF8
      generalize tm.getD 20 undef = x20 at hF8
      generalize tm.getD 21 undef = x21 at hF8
      generalize tm.getD 22 undef = x22 at hF8
      generalize tm.getD 23 undef = x23 at hF8
      generalize tm.getD 24 undef = x24 at hF8
      generalize tm.getD 25 undef = x25 at hF8
      simp only [List.setIfInBounds_toArray, List.set_cons_zero, List.set_cons_succ] at hF8
      subst hF8
      have HG2 : Hid (Below w.heap.size w wE) := HG.out.trans (hbE.mono HG.out.size)
      clear hbE HU HG HCL
      go_wp2_with fail
      go_roundw
      case rel => exact ⟨k + 1, hlt, by go_num, HG2.out⟩
      case measure => simp [intOf]; omega
    · have g2 : decide (k < q.length) = false := decide_eq_false hlt
      go_wp2_with fail
      go_ret
      exact ⟨rfl, HG.out⟩
set_option maxRecDepth 100000 in
set_option maxHeartbeats 1000000 in
theorem SameIds_same (l : List Wr.Id) (v u : Value) (w : World) (hV : IdsV w v l) (hU : IdsV w u l) (hl : l.length ≤ 9223372036854775807) : Calls Tryz.prog 17 #[v, u] w fun e w' => e = .returned (.bool true) ∧ Below w.heap.size w w' := by
  have HC : Hid (Calls Tryz.prog 57 #[v, u] w fun e w' => e = .returned (.bool true) ∧ Below w.heap.size w w') := (sameIds_any l l v u w hV hU hl).mono fun e w' h => ⟨by rw [h.1, decide_eq_true rfl], h.2⟩
  obtain ⟨a1, c1, rfl, _⟩ := hV
  obtain ⟨a2, c2, rfl, _⟩ := hU
  go_enter Tryz.func17, Tryz.ntmps17
  go_wp2_with (go_at_call 57; refine Calls.mono HC.out ?_; rintro e z1 ⟨rfl, hg1⟩)
  go_ret
  exact ⟨rfl, hg1⟩
set_option maxRecDepth 100000 in
set_option maxHeartbeats 2000000 in
theorem SameReplica_same (hq wq hq2 wq2 : List Uv) (hv wv hv2 wv2 : Value) (w : World) (h1 : UpsV w hv hq) (h2 : UpsV w wv wq) (h3 : UpsV w hv2 hq2) (h4 : UpsV w wv2 wq2) (e1 : ups hq = ups hq2) (e2 : ups wq = ups wq2) (hl : hq.length ≤ 1000 ∧ wq.length ≤ 1000)
    (o1 : ∀ x, x ∈ hq ++ wq → UvOk w x) (o2 : ∀ x, x ∈ hq2 ++ wq2 → UvOk w x) :
    Calls Tryz.prog 20 #[repVal hv wv, repVal hv2 wv2] w fun e w' => e = .returned (.bool true) ∧ Below w.heap.size w w' := by
  have HC1 : Hid (∀ z, Below w.heap.size w z → Calls Tryz.prog 26 #[hv, hv2] z fun e w' => e = .returned (.bool true) ∧ Below z.heap.size z w') := fun z hz => SameUpdates_same hq hq2 _ _ z (h1.kc (Kc.below hz)) (h3.kc (Kc.below hz)) e1 hl.1 (fun x hx => (o1 x (List.mem_append_left _ hx)).below hz) (fun x hx => (o2 x (List.mem_append_left _ hx)).below hz)
  have HC2 : Hid (∀ z, Below w.heap.size w z → Calls Tryz.prog 26 #[wv, wv2] z fun e w' => e = .returned (.bool true) ∧ Below z.heap.size z w') := fun z hz => SameUpdates_same wq wq2 _ _ z (h2.kc (Kc.below hz)) (h4.kc (Kc.below hz)) e2 hl.2 (fun x hx => (o1 x (List.mem_append_right _ hx)).below hz) (fun x hx => (o2 x (List.mem_append_right _ hx)).below hz)
  obtain ⟨ah, ch, rfl, _⟩ := h1
  obtain ⟨aw, cw, rfl, _⟩ := h2
  obtain ⟨ah2, ch2, rfl, _⟩ := h3
  obtain ⟨aw2, cw2, rfl, _⟩ := h4
  clear o1 o2 e1 e2
  have hb1 : Below w.heap.size w (w.alloc (.cells #[.slice ah hq.length ch, .slice aw wq.length cw] 24)) := (Below.refl _ _).alloc (Nat.le_refl _) _
  have hh1 := rl_new w (.cells #[.slice ah hq.length ch, .slice aw wq.length cw] 24)
  have hb2 : Below (w.alloc (.cells #[.slice ah hq.length ch, .slice aw wq.length cw] 24)).heap.size (w.alloc (.cells #[.slice ah hq.length ch, .slice aw wq.length cw] 24)) ((w.alloc (.cells #[.slice ah hq.length ch, .slice aw wq.length cw] 24)).alloc (.cells #[.slice ah2 hq2.length ch2, .slice aw2 wq2.length cw2] 24)) := (Below.refl _ _).alloc (Nat.le_refl _) _
  have hh2 := rl_new (w.alloc (.cells #[.slice ah hq.length ch, .slice aw wq.length cw] 24)) (.cells #[.slice ah2 hq2.length ch2, .slice aw2 wq2.length cw2] 24)
  rw [World.size_alloc] at hh2
  have HB : Hid (Below w.heap.size w ((w.alloc (.cells #[.slice ah hq.length ch, .slice aw wq.length cw] 24)).alloc (.cells #[.slice ah2 hq2.length ch2, .slice aw2 wq2.length cw2] 24))) := hb1.trans (hb2.mono hb1.size)
  have hh3 := (hb2.block _ (Array.getElem?_eq_some_iff.1 hh1).1).trans hh1
  clear hb1 hb2 hh1
  go_enter Tryz.func20, Tryz.ntmps20
  go_upto_region 1 with fail
  generalize (w.alloc (.cells #[.slice ah hq.length ch, .slice aw wq.length cw] 24)).alloc (.cells #[.slice ah2 hq2.length ch2, .slice aw2 wq2.length cw2] 24) = w2 at *
  have HF : Hid (∀ z, Below w2.heap.size w2 z → (z.cell? ⟨w.heap.size, 0, none⟩ = some (.slice ah hq.length ch) ∧ z.cell? ⟨w.heap.size, 1, none⟩ = some (.slice aw wq.length cw)) ∧ z.cell? ⟨w.heap.size + 1, 0, none⟩ = some (.slice ah2 hq2.length ch2) ∧ z.cell? ⟨w.heap.size + 1, 1, none⟩ = some (.slice aw2 wq2.length cw2)) := fun z hz => by
    have k3 := (hz.block _ (Array.getElem?_eq_some_iff.1 hh3).1).trans hh3
    have k2 := (hz.block _ (Array.getElem?_eq_some_iff.1 hh2).1).trans hh2
    exact ⟨⟨by rw [Lib.cell_of_heap k3]; rfl, by rw [Lib.cell_of_heap k3]; rfl⟩, by rw [Lib.cell_of_heap k2]; rfl, by rw [Lib.cell_of_heap k2]; rfl⟩
  clear hh2 hh3
  obtain ⟨⟨c0, c1⟩, c2, c3⟩ := HF.out w2 (Below.refl _ _)
  go_wp2_with (first | ((with_reducible refine Calls.mono (HC1.out _ HB.out) ?_); rintro e w3 ⟨rfl, hb3⟩; obtain ⟨⟨t0, t1⟩, t2, t3⟩ := HF.out w3 hb3; have HB3 : Hid (Below w.heap.size w w3) := HB.out.trans (hb3.mono HB.out.size)) | ((with_reducible refine Calls.mono (HC2.out _ HB3.out) ?_); rintro e w4 ⟨rfl, hb4⟩))
  go_ret
  exact ⟨rfl, HB3.out.trans (hb4.mono HB3.out.size)⟩
end Go.Proofs.YtmfaodapofamfaaGreat

/- replicaIs and factsAre, of what is the same. -/
namespace Go.Proofs.YtmfaodapofamfaaGreat
open Go.RowKit

set_option maxRecDepth 100000 in
set_option maxHeartbeats 2000000 in
theorem factsAre_same (l m : List Rl.Fc) (v u : Value) (e : Int) (w : World) (hV : FactsV w v l) (hU : FactsV w u m) (h0 : e = 0 → l = m) (h1 : e ≠ 0 → l = []) (hl : l.length ≤ 9223372036854775807) (hf : ∀ f, f ∈ l → FFit f) :
    Calls Tryz.prog 18 #[v, .int .i64 e, .int .i64 e, u] w fun e w' => e = .returned (.bool true) ∧ Below w.heap.size w w' := by
  by_cases he : e = 0
  · obtain rfl := h0 he
    subst he
    have HC : Hid (Calls Tryz.prog 54 #[v, u] w fun e w' => e = .returned (.bool true) ∧ Below w.heap.size w w') := (SameFacts_refl l v u w hV hU hl hf).mono fun e w' h => by exact ⟨h.1, h.2⟩
    obtain ⟨a1, c1, rfl, _⟩ := hV
    obtain ⟨a2, c2, rfl, _⟩ := hU
    clear h0 h1 hf
    go_enter Tryz.func18, Tryz.ntmps18
    go_wp2_with (go_at_call 54; refine Calls.mono HC.out ?_; rintro e z1 ⟨rfl, hg1⟩)
    go_ret
    exact ⟨rfl, hg1⟩
  · obtain rfl := h1 he
    have HC : Hid (Calls Tryz.prog 54 #[v, .slice none 0 0] w fun e w' => e = .returned (.bool true) ∧ Below w.heap.size w w') := (SameFacts_refl [] v (.slice none 0 0) w hV ⟨none, 0, rfl, ⟨Nat.le_refl _, fun _ => rfl⟩, .inl rfl⟩ hl hf).mono fun e w' h => by exact ⟨h.1, h.2⟩
    obtain ⟨a1, c1, rfl, _⟩ := hV
    obtain ⟨a2, c2, rfl, _⟩ := hU
    clear h0 h1 hf
    have hne : (e != 0) = true := by simpa using he
    go_enter Tryz.func18, Tryz.ntmps18
    go_wp2_with (go_at_call 54; refine Calls.mono HC.out ?_; rintro e z1 ⟨rfl, hg1⟩)
    go_ret
    exact ⟨rfl, hg1⟩
set_option maxRecDepth 100000 in
set_option maxHeartbeats 2000000 in
theorem replicaIs_same (hq wq hq2 wq2 : List Uv) (hv wv hv2 wv2 : Value) (e : Int) (w : World) (h1 : UpsV w hv hq) (h2 : UpsV w wv wq) (h3 : UpsV w hv2 hq2) (h4 : UpsV w wv2 wq2) (hy : e = 0 → ups hq = ups hq2 ∧ ups wq = ups wq2) (hn : e ≠ 0 → hq = [] ∧ wq = []) (hl : hq.length ≤ 1000 ∧ wq.length ≤ 1000)
    (o1 : ∀ x, x ∈ hq ++ wq → UvOk w x) (o2 : ∀ x, x ∈ hq2 ++ wq2 → UvOk w x) :
    Calls Tryz.prog 16 #[repVal hv wv, .int .i64 e, .int .i64 e, repVal hv2 wv2] w fun e w' => e = .returned (.bool true) ∧ Below w.heap.size w w' := by
  have HC : Hid (e = 0 → ∀ z, Below w.heap.size w z → Calls Tryz.prog 20 #[repVal hv wv, repVal hv2 wv2] z fun e w' => e = .returned (.bool true) ∧ Below z.heap.size z w') := fun he z hz => SameReplica_same hq wq hq2 wq2 _ _ _ _ z (h1.kc (Kc.below hz)) (h2.kc (Kc.below hz)) (h3.kc (Kc.below hz)) (h4.kc (Kc.below hz)) (hy he).1 (hy he).2 hl (fun x hx => (o1 x hx).below hz) (fun x hx => (o2 x hx).below hz)
  have HCN : Hid (e ≠ 0 → ∀ z, Below w.heap.size w z → Calls Tryz.prog 20 #[repVal hv wv, repVal (.slice none 0 0) (.slice none 0 0)] z fun e w' => e = .returned (.bool true) ∧ Below z.heap.size z w') := fun he z hz => by
    obtain ⟨e1, e2⟩ := hn he
    exact SameReplica_same hq wq [] [] _ _ _ _ z (h1.kc (Kc.below hz)) (h2.kc (Kc.below hz)) (ups_nil _) (ups_nil _) (by rw [e1]) (by rw [e2]) hl (fun x hx => (o1 x hx).below hz) (fun x hx => absurd hx (by simp))
  obtain ⟨ah, ch, rfl, _⟩ := h1
  obtain ⟨aw, cw, rfl, _⟩ := h2
  obtain ⟨ah2, ch2, rfl, _⟩ := h3
  obtain ⟨aw2, cw2, rfl, _⟩ := h4
  clear o1 o2 hy hn
  have hb1 : Below w.heap.size w (w.alloc (.cells #[.slice ah hq.length ch, .slice aw wq.length cw] 24)) := (Below.refl _ _).alloc (Nat.le_refl _) _
  have hh1 := rl_new w (.cells #[.slice ah hq.length ch, .slice aw wq.length cw] 24)
  have hb2 : Below (w.alloc (.cells #[.slice ah hq.length ch, .slice aw wq.length cw] 24)).heap.size (w.alloc (.cells #[.slice ah hq.length ch, .slice aw wq.length cw] 24)) ((w.alloc (.cells #[.slice ah hq.length ch, .slice aw wq.length cw] 24)).alloc (.cells #[.slice ah2 hq2.length ch2, .slice aw2 wq2.length cw2] 24)) := (Below.refl _ _).alloc (Nat.le_refl _) _
  have hh2 := rl_new (w.alloc (.cells #[.slice ah hq.length ch, .slice aw wq.length cw] 24)) (.cells #[.slice ah2 hq2.length ch2, .slice aw2 wq2.length cw2] 24)
  rw [World.size_alloc] at hh2
  have HB : Hid (Below w.heap.size w ((w.alloc (.cells #[.slice ah hq.length ch, .slice aw wq.length cw] 24)).alloc (.cells #[.slice ah2 hq2.length ch2, .slice aw2 wq2.length cw2] 24))) := hb1.trans (hb2.mono hb1.size)
  have hh3 := (hb2.block _ (Array.getElem?_eq_some_iff.1 hh1).1).trans hh1
  clear hb1 hb2 hh1
  go_enter Tryz.func16, Tryz.ntmps16
  go_upto_region 1 with fail
  generalize (w.alloc (.cells #[.slice ah hq.length ch, .slice aw wq.length cw] 24)).alloc (.cells #[.slice ah2 hq2.length ch2, .slice aw2 wq2.length cw2] 24) = w2 at *
  by_cases he : e = 0
  · have HC2 : Hid _ := HC.out he w2 HB.out
    subst he
    have c0 : w2.cell? ⟨w.heap.size, 0, none⟩ = some (.slice ah hq.length ch) := by rw [Lib.cell_of_heap hh3]; rfl
    have c1 : w2.cell? ⟨w.heap.size, 1, none⟩ = some (.slice aw wq.length cw) := by rw [Lib.cell_of_heap hh3]; rfl
    have c2 : w2.cell? ⟨w.heap.size + 1, 0, none⟩ = some (.slice ah2 hq2.length ch2) := by rw [Lib.cell_of_heap hh2]; rfl
    have c3 : w2.cell? ⟨w.heap.size + 1, 1, none⟩ = some (.slice aw2 wq2.length cw2) := by rw [Lib.cell_of_heap hh2]; rfl
    clear hh2 hh3 HC HCN
    go_wp2_with (go_at_call 20; refine Calls.mono HC2.out ?_; rintro e z1 ⟨rfl, hg1⟩)
    go_ret
    exact ⟨rfl, HB.out.trans (hg1.mono HB.out.size)⟩
  · have hne : (e != 0) = true := by simpa using he
    have sz0 : w2.cell? ⟨w.heap.size + 1, 0, none⟩ = some (.slice ah2 hq2.length ch2) := by rw [Lib.cell_of_heap hh2]; rfl
    have sy0 := Lib.frozen_of_heap hh2 0
    have sk1 : (w2.setCell ⟨w.heap.size + 1, 0, none⟩ (.slice none 0 0)).heap[w.heap.size + 1]? = some (.cells #[.slice none 0 0, .slice aw2 wq2.length cw2] 24) := by rw [Lib.heap_setCell_same hh2]; rfl
    have sz1 : (w2.setCell ⟨w.heap.size + 1, 0, none⟩ (.slice none 0 0)).cell? ⟨w.heap.size + 1, 1, none⟩ = some (.slice aw2 wq2.length cw2) := by rw [Lib.cell_of_heap sk1]; rfl
    have sy1 := Lib.frozen_of_heap sk1 1
    have sk2 : ((w2.setCell ⟨w.heap.size + 1, 0, none⟩ (.slice none 0 0)).setCell ⟨w.heap.size + 1, 1, none⟩ (.slice none 0 0)).heap[w.heap.size + 1]? = some (.cells #[.slice none 0 0, .slice none 0 0] 24) := by rw [Lib.heap_setCell_same sk1]; rfl
    have sg : w2.grownBy ((w2.setCell ⟨w.heap.size + 1, 0, none⟩ (.slice none 0 0)).setCell ⟨w.heap.size + 1, 1, none⟩ (.slice none 0 0)) (some (w.heap.size + 1)) := (grown_set _ _ _ _).trans_row (grown_set _ _ _ _)
    have HB4 : Hid (Below w.heap.size w ((w2.setCell ⟨w.heap.size + 1, 0, none⟩ (.slice none 0 0)).setCell ⟨w.heap.size + 1, 1, none⟩ (.slice none 0 0))) := HB.out.grown sg HB.out.size (fun j e => by cases e; omega)
    have hh4 : ((w2.setCell ⟨w.heap.size + 1, 0, none⟩ (.slice none 0 0)).setCell ⟨w.heap.size + 1, 1, none⟩ (.slice none 0 0)).heap[w.heap.size]? = some (.cells #[.slice ah hq.length ch, .slice aw wq.length cw] 24) := (sg.block _ (Array.getElem?_eq_some_iff.1 hh3).1 (fun e => by injection e; omega)).trans hh3
    have HC2 : Hid _ := HCN.out he _ HB4.out
    clear HC HCN sg hh2 hh3
    go_upto_region 3 with fail
    generalize (w2.setCell ⟨w.heap.size + 1, 0, none⟩ (.slice none 0 0)).setCell ⟨w.heap.size + 1, 1, none⟩ (.slice none 0 0) = w4 at *
    have c0 : w4.cell? ⟨w.heap.size, 0, none⟩ = some (.slice ah hq.length ch) := by rw [Lib.cell_of_heap hh4]; rfl
    have c1 : w4.cell? ⟨w.heap.size, 1, none⟩ = some (.slice aw wq.length cw) := by rw [Lib.cell_of_heap hh4]; rfl
    have c2 : w4.cell? ⟨w.heap.size + 1, 0, none⟩ = some (.slice none 0 0) := by rw [Lib.cell_of_heap sk2]; rfl
    have c3 : w4.cell? ⟨w.heap.size + 1, 1, none⟩ = some (.slice none 0 0) := by rw [Lib.cell_of_heap sk2]; rfl
    clear sz0 sy0 sk1 sz1 sy1 sk2 hh4
    go_wp2_with (go_at_call 20; refine Calls.mono HC2.out ?_; rintro e z1 ⟨rfl, hg1⟩)
    go_ret
    exact ⟨rfl, HB4.out.trans (hg1.mono HB4.out.size)⟩
end Go.Proofs.YtmfaodapofamfaaGreat

/- What rows, facts and their order lean on. -/
/- of WrPut -/
namespace Go.Proofs.YtmfaodapofamfaaGreat
open Go.RowKit
end Go.Proofs.YtmfaodapofamfaaGreat
/- of WrEnc -/
namespace Go.Proofs.YtmfaodapofamfaaGreat
open Go.RowKit
end Go.Proofs.YtmfaodapofamfaaGreat
/- of WrNum -/
namespace Go.Proofs.YtmfaodapofamfaaGreat
open Go.RowKit
end Go.Proofs.YtmfaodapofamfaaGreat
/- of WrRead -/
namespace Go.Proofs.YtmfaodapofamfaaGreat
open Go.RowKit
theorem old_set {z : World} {b k o : Nat} {x : Obj} {a : Array Value} {t : TypeId} {fz : Nat × Nat} (hb : z.heap[b]? = some x) (hk : z.heap[k]? = some (.cells a t fz)) (ht : ∀ c f, x ≠ .cells c t f) (u : Value) : (z.setCell ⟨k, o, none⟩ u).heap[b]? = some x := by
  rw [heap_setCell_other z ⟨k, o, none⟩ b u (fun e => ?_)]
  · exact hb
  · subst e
    rw [hk] at hb
    exact ht a fz (Option.some.inj hb).symm
end Go.Proofs.YtmfaodapofamfaaGreat
/- of WrFact -/
namespace Go.Proofs.YtmfaodapofamfaaGreat
open Go.RowKit
end Go.Proofs.YtmfaodapofamfaaGreat
/- of WrFacts -/
namespace Go.Proofs.YtmfaodapofamfaaGreat
open Go.RowKit
/-- Each fact's numbers lie in a row of their own. -/
def ArgsP (B : Nat) (w : World) (q : List Fv) : Prop := ∀ p, p ∈ q → w.ownsRow B 3 1 p.2 p.1.args.length (p.1.args.map (Value.int .i64)) ∧ p.1.args.length ≤ 255
theorem ArgsP.type {B : Nat} {w w' : World} {q : List Fv} (h : ArgsP B w q) (hk : ∀ (k : Nat) (a : Array Value), w.heap[k]? = some (.cells a 3) → w'.heap[k]? = some (.cells a 3)) : ArgsP B w' q := fun p hp => ⟨own_type (h p hp).1 hk, (h p hp).2⟩
end Go.Proofs.YtmfaodapofamfaaGreat
/- of WrUpd -/
namespace Go.Proofs.YtmfaodapofamfaaGreat
open Go.RowKit
/-- What stands but the reader and boxes of updates. -/
def KD (z z' : World) : Prop := ∀ (k : Nat) (a : Array Value) (t : TypeId), t ≠ 30 → t ≠ 30 → z.heap[k]? = some (.cells a t) → z'.heap[k]? = some (.cells a t)
theorem KD.trans {a b c : World} (h : KD a b) (k : KD b c) : KD a c := fun i x t h1 h2 h3 => k i x t h1 h2 (h i x t h1 h2 h3)
theorem KD.own {z z' : World} (h : KD z z') {B e c n : Nat} {v : Value} {xs : List Value} (ho : z.ownsRow B e c v n xs) (h1 : e ≠ 30) (h2 : e ≠ 30) : z'.ownsRow B e c v n xs := own_type ho (fun k a hk => h k a e h1 h2 hk)
theorem KD.args {z z' : World} (h : KD z z') {B : Nat} {q : List Fv} (ho : ArgsP B z q) : ArgsP B z' q := ho.type (fun k a hk => h k a 3 (by decide) (by decide) hk)
theorem KD.set {z : World} {U o : Nat} {a : Array Value} {fz : Nat × Nat} (hU : z.heap[U]? = some (.cells a 30 fz)) (u : Value) : KD z (z.setCell ⟨U, o, none⟩ u) := fun _ _ t _ h2 hk => old_set hk hU (fun _ _ h => by injection h with _ h _; exact h2 h) u
abbrev zeroUp : Array Value := #[.int .i64 0, .int .i64 0, .slice none 0 0, .slice none 0 0, .slice none 0 0]
/-- A box of an update that is written whole. -/
abbrev five (z : World) (T : Nat) (v0 v1 v2 v3 v4 : Value) : World := ((((z.setCell ⟨T, 0, none⟩ v0).setCell ⟨T, 1, none⟩ v1).setCell ⟨T, 2, none⟩ v2).setCell ⟨T, 3, none⟩ v3).setCell ⟨T, 4, none⟩ v4
theorem five_set {z : World} {T : Nat} {x0 x1 x2 x3 x4 : Value} (hT : z.heap[T]? = some (.cells #[x0, x1, x2, x3, x4] 30)) (v0 v1 v2 v3 v4 : Value) :
    (five z T v0 v1 v2 v3 v4).heap[T]? = some (.cells #[v0, v1, v2, v3, v4] 30) ∧ KD z (five z T v0 v1 v2 v3 v4) := by
  have h1 := Lib.heap_setCell_same (i := 0) hT v0
  have h2 := Lib.heap_setCell_same (i := 1) h1 v1
  have h3 := Lib.heap_setCell_same (i := 2) h2 v2
  have h4 := Lib.heap_setCell_same (i := 3) h3 v3
  have h5 := Lib.heap_setCell_same (i := 4) h4 v4
  refine ⟨h5, (((((KD.set hT v0).trans (KD.set h1 v1)).trans (KD.set h2 v2)).trans (KD.set h3 v3)).trans (KD.set h4 v4))⟩
end Go.Proofs.YtmfaodapofamfaaGreat
/- of WrDec -/
namespace Go.Proofs.YtmfaodapofamfaaGreat
open Go.RowKit
theorem flat2 {α : Type} (f : α → List Value) (hf : ∀ x, (f x).length = 2) : ∀ (l : List α) (i : Nat) (h : i < l.length) (j : Nat), j < 2 → ((l.map f).flatten)[i * 2 + j]? = (f l[i])[j]?
  | x :: l, 0, h, j, hj => by
    rw [List.map_cons, List.flatten_cons, Nat.zero_mul, Nat.zero_add, List.getElem?_append_left (by rw [hf]; exact hj)]
    rfl
  | x :: l, i + 1, h, j, hj => by
    rw [List.map_cons, List.flatten_cons, List.getElem?_append_right (by rw [hf]; omega), hf]
    have e : (i + 1) * 2 + j - 2 = i * 2 + j := by omega
    rw [e, flat2 f hf l i (by simpa using h) j hj]
    rfl
theorem own_fcs {w : World} {B : Nat} {v : Value} {q : List Fv} (h : w.ownsRow B 84 2 v q.length (q.map fcCells).flatten) (ha : ArgsP B w q) : FactsV w v (q.map (·.1)) := by
  rcases ownsRow_forms9 h with ⟨rfl, h0⟩ | ⟨g, cap, rfl⟩
  · have : q = [] := List.eq_nil_of_length_eq_zero h0
    subst this
    exact ⟨none, 0, rfl, ⟨Nat.le_refl _, fun _ => rfl⟩, .inl rfl⟩
  · obtain ⟨ao, cap', hv, hc, hcs⟩ := own_cells h
    injection hv with h1 h2 h3
    subst h1 h3
    refine ⟨_, cap, by rw [List.length_map], ⟨by rw [List.length_map]; exact hc, fun h => by cases h⟩, ?_⟩
    rcases hcs with h0 | ⟨g', hg, hcs⟩
    · exact .inl (by rw [List.eq_nil_of_length_eq_zero h0]; rfl)
    · cases hg
      refine .inr ⟨g, 0, rfl, fun i hi => ?_⟩
      rw [List.length_map] at hi
      have hd : Rl.factD (q.map (·.1)) i = q[i].1 := by simp [Rl.factD, hi]
      have a := flat2 fcCells (fun _ => rfl) q i hi
      rw [Nat.zero_add, hd]
      exact ⟨(hcs (i * 2) (by omega)).trans (a 0 (by decide)), q[i].2, (hcs (i * 2 + 1) (by omega)).trans (a 1 (by decide)), own_ints (ha _ (List.getElem_mem hi)).1⟩
/-- An update as it lies in memory. -/
def UpV (w : World) (u : Wr.Up) (vp vs vt : Value) : Prop := IdsV w vp u.ps ∧ FactsV w vs u.says ∧ IdsV w vt u.ts ∧ (∀ f, f ∈ u.says → FFit f) ∧ (u.ps.length ≤ 255 ∧ u.says.length ≤ 255 ∧ u.ts.length ≤ 255)
theorem five_below {w z : World} (h : Below w.heap.size w z) {v0 v1 v2 v3 v4 : Value} : Below w.heap.size w (five z w.heap.size v0 v1 v2 v3 v4) := by
  have s : ∀ {y : World} (i : Nat) (v : Value), Below w.heap.size w y → Below w.heap.size w (y.setCell ⟨w.heap.size, i, none⟩ v) := fun i v hy => hy.setCell (Nat.le_refl _) v
  exact s 4 _ (s 3 _ (s 2 _ (s 1 _ (s 0 _ h))))
end Go.Proofs.YtmfaodapofamfaaGreat
/- of WrTwo -/
namespace Go.Proofs.YtmfaodapofamfaaGreat
open Go.RowKit
def Wr.firstU : Wr.Up := ⟨⟨0, 1⟩, [], [⟨0, [1, 2]⟩, ⟨0, [2, 3]⟩], []⟩
def Wr.secondU : Wr.Up := ⟨⟨1, 1⟩, [⟨0, 1⟩], [⟨0, [4, 5]⟩], [⟨0, 1⟩]⟩
theorem own_new (w : World) (cur : Array Value) (e c n B : Nat) (hB : B ≤ w.heap.size) (hs : cur.size = n * c) (hn : n ≤ maxLen) : (w.alloc (.cells cur e)).ownsRow B e c (.slice (some ⟨w.heap.size, 0, none⟩) n n) n cur.toList :=
  ⟨by rw [Array.length_toList, hs], .inr ⟨w.heap.size, n, cur, rfl, hB, heap_alloc_new w _, Nat.le_refl _, hn, hs, by rw [← hs, ← Array.length_toList, List.take_length]⟩⟩
set_option maxRecDepth 100000 in
set_option maxHeartbeats 1000000 in
theorem pairsW_any (w : World) : Calls Tryz.prog 86 #[] w fun e w' => ∃ (q : List Fv) (v : Value), e = .returned v ∧ q.map (·.1) = Wr.firstU.says ∧ w'.ownsRow w.heap.size 84 2 v q.length (q.map fcCells).flatten ∧ ArgsP w.heap.size w' q ∧ Below w.heap.size w w' := by
  have HFC : Hid (∀ (p : Int) (a : Option Addr) (n c : Nat) (w : World), Calls Tryz.prog 55 #[.int .i64 p, .slice a n c] w fun e w' => e = .returned (fcVal p (.slice a n c)) ∧ Below w.heap.size w w') := fact_any
  go_enter Tryz.func86, Tryz.ntmps86
  go_wp2_with fail
  have H1 : Hid _ := own_new w #[.int .i64 1, .int .i64 2] 3 1 2 w.heap.size (Nat.le_refl _) rfl (by unfold maxLen; omega)
  have B1 : Hid _ := new_below w (.cells #[.int .i64 1, .int .i64 2] 3)
  generalize hX1 : w.heap.size = X1 at *
  generalize w.alloc (.cells #[.int .i64 1, .int .i64 2] 3) = w1 at *
  refine Calls.mono (HFC.out _ _ _ _ _) ?_
  rintro _ y1 ⟨rfl, hb1⟩
  have J1 : Hid _ := ownsRow_below H1.out hb1
  have D1 : Hid (Below X1 w y1) := B1.out.trans (hb1.mono (by rw [← hX1]; rw [← hX1] at B1; exact B1.out.size))
  clear hb1 H1 B1
  go_wp2_with fail
  have H2 : Hid _ := own_new y1 #[.int .i64 2, .int .i64 3] 3 1 2 X1 (by have := D1.out.size; omega) rfl (by unfold maxLen; omega)
  have K1 : Hid _ := ownsRow_below J1.out (new_below y1 (.cells #[.int .i64 2, .int .i64 3] 3))
  have D2 : Hid (Below X1 w (y1.alloc (.cells #[.int .i64 2, .int .i64 3] 3))) := D1.out.trans ((new_below y1 _).mono (by have := D1.out.size; omega))
  clear J1 D1
  generalize hX2 : y1.heap.size = X2 at *
  generalize y1.alloc (.cells #[.int .i64 2, .int .i64 3] 3) = w2 at *
  refine Calls.mono (HFC.out _ _ _ _ _) ?_
  rintro _ y5 ⟨rfl, hb5⟩
  have D9 : Hid (Below X1 w y5) := D2.out.trans (hb5.mono (by have := D2.out.size; omega))
  have HR : Hid _ := own_new y5 #[.int .i64 0, .slice (some ⟨X1, 0, none⟩) 2 2, .int .i64 0, .slice (some ⟨X2, 0, none⟩) 2 2] 84 2 2 X1 (by have := D9.out.size; omega) rfl (by unfold maxLen; omega)
  have nb := new_below y5 (.cells #[.int .i64 0, .slice (some ⟨X1, 0, none⟩) 2 2, .int .i64 0, .slice (some ⟨X2, 0, none⟩) 2 2] 84)
  have HR1 : Hid _ := ownsRow_below (ownsRow_below K1.out hb5) nb
  have HR2 : Hid _ := ownsRow_below (ownsRow_below H2.out hb5) nb
  have D10 : Hid _ := D9.out.trans (nb.mono (by have := D9.out.size; omega))
  clear hb5 H2 K1 D2 nb D9
  go_wp2_with fail
  go_ret
  exact ⟨[(⟨0, [1, 2]⟩, .slice (some ⟨X1, 0, none⟩) 2 2), (⟨0, [2, 3]⟩, .slice (some ⟨X2, 0, none⟩) 2 2)], _, rfl, rfl, by rw [hX1]; exact HR.out, by
    rw [hX1]
    intro p hp
    rcases List.mem_cons.mp hp with rfl | hp
    · exact ⟨HR1.out, (by decide : 2 ≤ 255)⟩
    · obtain rfl : p = (⟨0, [2, 3]⟩, .slice (some ⟨X2, 0, none⟩) 2 2) := by simpa using hp
      exact ⟨HR2.out, (by decide : 2 ≤ 255)⟩, by rw [hX1]; exact D10.out⟩
theorem UpV.own {w : World} {B : Nat} {x : Wr.Id} {ps ts : List Wr.Id} {q : List Fv} {vp vs vt : Value} (hp : w.ownsRow B 26 2 vp ps.length (ps.map idCells).flatten) (hs : w.ownsRow B 84 2 vs q.length (q.map fcCells).flatten) (ha : ArgsP B w q) (ht : w.ownsRow B 26 2 vt ts.length (ts.map idCells).flatten) (hl : ps.length ≤ 255 ∧ q.length ≤ 255 ∧ ts.length ≤ 255) : UpV w ⟨x, ps, q.map (·.1), ts⟩ vp vs vt := by
  refine ⟨own_ids hp, own_fcs hs ha, own_ids ht, fun f hf => ?_, ?_⟩
  · obtain ⟨p, hp, rfl⟩ := List.mem_map.mp hf
    exact Nat.le_trans (ha p hp).2 (by decide)
  · dsimp only
    rw [List.length_map]
    exact hl
set_option maxRecDepth 100000 in
set_option maxHeartbeats 1000000 in
theorem first_any (w : World) : Calls Tryz.prog 53 #[] w fun e w' => ∃ vp vs vt, e = .returned (upVal Wr.firstU vp vs vt) ∧ UpV w' Wr.firstU vp vs vt ∧ Below w.heap.size w w' := by
  have hT := heap_alloc_new w (.cells zeroUp 30)
  have hG := new_below w (.cells zeroUp 30)
  go_enter Tryz.func53, Tryz.ntmps53
  go_upto_region 1 with fail
  generalize w.alloc (.cells zeroUp 30) = w1 at *
  have HT : Hid (w1.heap[w.heap.size]? = some (.cells zeroUp 30)) := hT
  have HG : Hid (Below w.heap.size w w1) := hG
  have HP : Hid _ := pairsW_any w1
  clear hT hG
  go_wp2_with fail
  refine Calls.mono HP.out ?_
  rintro e y ⟨q, v, rfl, hq, ho, ha, hb⟩
  obtain ⟨ao, cap, rfl⟩ := own_slice ho
  have HT4 : Hid (y.heap[w.heap.size]? = some (.cells zeroUp 30)) := (hb.block _ (Array.getElem?_eq_some_iff.1 HT.out).1).trans HT.out
  have HB4 : Hid (Below w.heap.size w y) := HG.out.trans (hb.mono HG.out.size)
  have HQ : Hid _ := hq
  have HO : Hid _ := ho
  have HA : Hid (ArgsP w1.heap.size y q) := ha
  clear hq ho ha hb HT HG HP
  have t0 : y.cell? ⟨w.heap.size, 0, none⟩ = some (.int .i64 0) := by rw [Lib.cell_of_heap HT4.out]; rfl
  have t1 : y.cell? ⟨w.heap.size, 1, none⟩ = some (.int .i64 0) := by rw [Lib.cell_of_heap HT4.out]; rfl
  have t2 : y.cell? ⟨w.heap.size, 2, none⟩ = some (.slice none 0 0) := by rw [Lib.cell_of_heap HT4.out]; rfl
  have t3 : y.cell? ⟨w.heap.size, 3, none⟩ = some (.slice none 0 0) := by rw [Lib.cell_of_heap HT4.out]; rfl
  have t4 : y.cell? ⟨w.heap.size, 4, none⟩ = some (.slice none 0 0) := by rw [Lib.cell_of_heap HT4.out]; rfl
  have f0 : y.frozen? ⟨w.heap.size, 0, none⟩ = false := Lib.frozen_of_heap HT4.out 0
  have f1 : y.frozen? ⟨w.heap.size, 1, none⟩ = false := Lib.frozen_of_heap HT4.out 1
  have f2 : y.frozen? ⟨w.heap.size, 2, none⟩ = false := Lib.frozen_of_heap HT4.out 2
  have f3 : y.frozen? ⟨w.heap.size, 3, none⟩ = false := Lib.frozen_of_heap HT4.out 3
  have f4 : y.frozen? ⟨w.heap.size, 4, none⟩ = false := Lib.frozen_of_heap HT4.out 4
  have HE : Hid _ := five_set HT4.out (.int .i64 0) (.int .i64 1) (.slice none 0 0) (.slice ao q.length cap) (.slice none 0 0)
  have HBF : Hid (Below w.heap.size w (five y w.heap.size (.int .i64 0) (.int .i64 1) (.slice none 0 0) (.slice ao q.length cap) (.slice none 0 0))) := five_below HB4.out
  go_wp2_with fail
  clear t0 t1 t2 t3 t4 f0 f1 f2 f3 f4
  obtain ⟨k1, k2⟩ := HE.out
  have hq2 : q.length ≤ 255 := by
    have := congrArg List.length HQ.out
    rw [List.length_map] at this
    rw [this]
    decide
  have hU := UpV.own (x := ⟨0, 1⟩) (ps := []) (ts := []) (World.ownsRow_nil _ _ _ _) (k2.own HO.out (by decide) (by decide)) (k2.args HA.out) (World.ownsRow_nil _ _ _ _) ⟨by decide, hq2, by decide⟩
  have e0 : (⟨⟨0, 1⟩, [], q.map (·.1), []⟩ : Wr.Up) = Wr.firstU := by rw [HQ.out]; rfl
  rw [e0] at hU
  change bodyPost _ _ _ _ _ (five _ _ _ _ _ _ _)
  clear HE k2
  generalize five y w.heap.size (.int .i64 0) (.int .i64 1) (.slice none 0 0) (.slice ao q.length cap) (.slice none 0 0) = w11 at *
  have t0 : w11.cell? ⟨w.heap.size, 0, none⟩ = some (.int .i64 0) := by rw [Lib.cell_of_heap k1]; rfl
  have t1 : w11.cell? ⟨w.heap.size, 1, none⟩ = some (.int .i64 1) := by rw [Lib.cell_of_heap k1]; rfl
  have t2 : w11.cell? ⟨w.heap.size, 2, none⟩ = some (.slice none 0 0) := by rw [Lib.cell_of_heap k1]; rfl
  have t3 : w11.cell? ⟨w.heap.size, 3, none⟩ = some (.slice ao q.length cap) := by rw [Lib.cell_of_heap k1]; rfl
  have t4 : w11.cell? ⟨w.heap.size, 4, none⟩ = some (.slice none 0 0) := by rw [Lib.cell_of_heap k1]; rfl
  exact bodyPost_ret (v := .agg #[.int .i64 0, .int .i64 1, .slice none 0 0, .slice ao q.length cap, .slice none 0 0]) (by simp [results, Tryz.results53, go_sem, t0, t1, t2, t3, t4]) rfl ⟨_, _, _, rfl, hU, HBF.out⟩
theorem second_up {w : World} {B : Nat} {vp vs va vt : Value} (hp : w.ownsRow B 26 2 vp 1 [.int .i64 0, .int .i64 1]) (hs : w.ownsRow B 84 2 vs 1 [.int .i64 0, va]) (ha : w.ownsRow B 3 1 va 2 [.int .i64 4, .int .i64 5]) (ht : w.ownsRow B 26 2 vt 1 [.int .i64 0, .int .i64 1]) : UpV w Wr.secondU vp vs vt := by
  have ha2 : ArgsP B w [(⟨0, [4, 5]⟩, va)] := by
    intro p hp
    obtain rfl : p = (⟨0, [4, 5]⟩, va) := by simpa using hp
    exact ⟨ha, (by decide : 2 ≤ 255)⟩
  exact UpV.own (x := ⟨1, 1⟩) (ps := [⟨0, 1⟩]) (ts := [⟨0, 1⟩]) (q := [(⟨0, [4, 5]⟩, va)]) hp hs ha2 ht ⟨by decide, (by decide : 1 ≤ 255), by decide⟩
set_option maxRecDepth 100000 in
set_option maxHeartbeats 1000000 in
theorem second_any (w : World) : Calls Tryz.prog 52 #[] w fun e w' => ∃ vp vs vt, e = .returned (upVal Wr.secondU vp vs vt) ∧ UpV w' Wr.secondU vp vs vt ∧ Below w.heap.size w w' := by
  have HFC : Hid (∀ (p : Int) (a : Option Addr) (n c : Nat) (w : World), Calls Tryz.prog 55 #[.int .i64 p, .slice a n c] w fun e w' => e = .returned (fcVal p (.slice a n c)) ∧ Below w.heap.size w w') := fact_any
  have hT := heap_alloc_new w (.cells zeroUp 30)
  have hG := new_below w (.cells zeroUp 30)
  go_enter Tryz.func52, Tryz.ntmps52
  go_upto_region 1 with fail
  generalize w.alloc (.cells zeroUp 30) = w1 at *
  have HT : Hid (w1.heap[w.heap.size]? = some (.cells zeroUp 30)) := hT
  have HG : Hid (Below w.heap.size w w1) := hG
  have HP1 : Hid _ := own_new w1 #[.int .i64 0, .int .i64 1] 26 2 1 w1.heap.size (Nat.le_refl _) rfl (by unfold maxLen; omega)
  have nb1 := new_below w1 (.cells #[.int .i64 0, .int .i64 1] 26)
  have HA1 : Hid _ := own_new (w1.alloc (.cells #[.int .i64 0, .int .i64 1] 26)) #[.int .i64 4, .int .i64 5] 3 1 2 w1.heap.size nb1.size rfl (by unfold maxLen; omega)
  have nb2 := new_below (w1.alloc (.cells #[.int .i64 0, .int .i64 1] 26)) (.cells #[.int .i64 4, .int .i64 5] 3)
  have HP2 : Hid _ := ownsRow_below HP1.out nb2
  have HB2 : Hid _ := nb1.trans (nb2.mono nb1.size)
  have hsz : (w1.alloc (.cells #[.int .i64 0, .int .i64 1] 26)).heap.size = w1.heap.size + 1 := by simp
  rw [hsz] at HA1
  clear hT hG nb1 nb2 HP1 hsz
  go_wp2_with fail
  generalize (w1.alloc (.cells #[.int .i64 0, .int .i64 1] 26)).alloc (.cells #[.int .i64 4, .int .i64 5] 3) = w3 at *
  refine Calls.mono (HFC.out _ _ _ _ _) ?_
  rintro _ y ⟨rfl, hb⟩
  have HB3 : Hid _ := HB2.out.trans (hb.mono HB2.out.size)
  have hyz := HB3.out.size
  have HP3 : Hid _ := ownsRow_below HP2.out hb
  have HA3 : Hid _ := ownsRow_below HA1.out hb
  have HTY : Hid (y.heap[w.heap.size]? = some (.cells zeroUp 30)) := (HB3.out.block _ (Array.getElem?_eq_some_iff.1 HT.out).1).trans HT.out
  have HBY : Hid (Below w.heap.size w y) := HG.out.trans (HB3.out.mono HG.out.size)
  have HSZ : Hid (w1.heap.size ≤ y.heap.size) := hyz
  have HE : Hid _ := five_set HTY.out (.int .i64 1) (.int .i64 1) (.slice (some ⟨w1.heap.size, 0, none⟩) 1 1) (.slice (some ⟨y.heap.size, 0, none⟩) 1 1) (.slice (some ⟨y.heap.size + 1, 0, none⟩) 1 1)
  have HBF : Hid (Below w.heap.size w (five y w.heap.size (.int .i64 1) (.int .i64 1) (.slice (some ⟨w1.heap.size, 0, none⟩) 1 1) (.slice (some ⟨y.heap.size, 0, none⟩) 1 1) (.slice (some ⟨y.heap.size + 1, 0, none⟩) 1 1))) := five_below HBY.out
  have HZ : Hid ((five y w.heap.size (.int .i64 1) (.int .i64 1) (.slice (some ⟨w1.heap.size, 0, none⟩) 1 1) (.slice (some ⟨y.heap.size, 0, none⟩) 1 1) (.slice (some ⟨y.heap.size + 1, 0, none⟩) 1 1)).heap.size = y.heap.size) := by show _ = _; simp [five, World.setCell]
  clear hb HB3 HB2 HP2 HA1 hyz HT HG HBY
  have t0 : y.cell? ⟨w.heap.size, 0, none⟩ = some (.int .i64 0) := by rw [Lib.cell_of_heap HTY.out]; rfl
  have f0 : y.frozen? ⟨w.heap.size, 0, none⟩ = false := Lib.frozen_of_heap HTY.out 0
  have t1 : y.cell? ⟨w.heap.size, 1, none⟩ = some (.int .i64 0) := by rw [Lib.cell_of_heap HTY.out]; rfl
  have f1 : y.frozen? ⟨w.heap.size, 1, none⟩ = false := Lib.frozen_of_heap HTY.out 1
  have t2 : y.cell? ⟨w.heap.size, 2, none⟩ = some (.slice none 0 0) := by rw [Lib.cell_of_heap HTY.out]; rfl
  have f2 : y.frozen? ⟨w.heap.size, 2, none⟩ = false := Lib.frozen_of_heap HTY.out 2
  have t3 : y.cell? ⟨w.heap.size, 3, none⟩ = some (.slice none 0 0) := by rw [Lib.cell_of_heap HTY.out]; rfl
  have f3 : y.frozen? ⟨w.heap.size, 3, none⟩ = false := Lib.frozen_of_heap HTY.out 3
  have t4 : y.cell? ⟨w.heap.size, 4, none⟩ = some (.slice none 0 0) := by rw [Lib.cell_of_heap HTY.out]; rfl
  have f4 : y.frozen? ⟨w.heap.size, 4, none⟩ = false := Lib.frozen_of_heap HTY.out 4
  have hlt : w.heap.size < y.heap.size := (Array.getElem?_eq_some_iff.1 HTY.out).1
  go_wp2_with fail
  clear t0 t1 t2 t3 t4 f0 f1 f2 f3 f4
  obtain ⟨k1, k2⟩ := HE.out
  have hp6 := k2.own HP3.out (by decide) (by decide)
  have ha6 := k2.own HA3.out (by decide) (by decide)
  have hZ := HZ.out
  have hBF := HBF.out
  change bodyPost _ _ _ _ _ ((World.alloc (five y w.heap.size (.int .i64 1) (.int .i64 1) (.slice (some ⟨w1.heap.size, 0, none⟩) 1 1) (.slice (some ⟨y.heap.size, 0, none⟩) 1 1) (.slice (some ⟨y.heap.size + 1, 0, none⟩) 1 1)) (.cells #[.int .i64 0, .slice (some ⟨w1.heap.size + 1, 0, none⟩) 2 2] 84)).alloc (.cells #[.int .i64 0, .int .i64 1] 26))
  clear HE k2 HZ HBF
  generalize (five y w.heap.size (.int .i64 1) (.int .i64 1) (.slice (some ⟨w1.heap.size, 0, none⟩) 1 1) (.slice (some ⟨y.heap.size, 0, none⟩) 1 1) (.slice (some ⟨y.heap.size + 1, 0, none⟩) 1 1)) = y' at *
  have hs7 := own_new y' #[.int .i64 0, .slice (some ⟨w1.heap.size + 1, 0, none⟩) 2 2] 84 2 1 w1.heap.size (by rw [hZ]; exact HSZ.out) rfl (by unfold maxLen; omega)
  have nb1 := new_below y' (.cells #[.int .i64 0, .slice (some ⟨w1.heap.size + 1, 0, none⟩) 2 2] 84)
  have hq8 := own_new (y'.alloc (.cells #[.int .i64 0, .slice (some ⟨w1.heap.size + 1, 0, none⟩) 2 2] 84)) #[.int .i64 0, .int .i64 1] 26 2 1 w1.heap.size (Nat.le_trans (by rw [hZ]; exact HSZ.out) nb1.size) rfl (by unfold maxLen; omega)
  have nb2 := new_below (y'.alloc (.cells #[.int .i64 0, .slice (some ⟨w1.heap.size + 1, 0, none⟩) 2 2] 84)) (.cells #[.int .i64 0, .int .i64 1] 26)
  have e1 : (y'.alloc (.cells #[.int .i64 0, .slice (some ⟨w1.heap.size + 1, 0, none⟩) 2 2] 84)).heap.size = y.heap.size + 1 := by rw [← hZ]; simp
  rw [e1] at hq8
  rw [hZ] at hs7
  have hU := second_up (ownsRow_below (ownsRow_below hp6 nb1) nb2) (ownsRow_below hs7 nb2) (ownsRow_below (ownsRow_below ha6 nb1) nb2) hq8
  have hB := (hBF.trans (nb1.mono hBF.size)).trans (nb2.mono (Nat.le_trans hBF.size nb1.size))
  have hT9 := ((nb2.block _ (by rw [e1]; omega)).trans (nb1.block w.heap.size (by rw [hZ]; omega))).trans k1
  clear nb1 nb2 hs7 hq8 hp6 ha6 e1 hZ hBF k1
  generalize (y'.alloc (.cells #[.int .i64 0, .slice (some ⟨w1.heap.size + 1, 0, none⟩) 2 2] 84)).alloc (.cells #[.int .i64 0, .int .i64 1] 26) = w11 at *
  have t0 : w11.cell? ⟨w.heap.size, 0, none⟩ = some (.int .i64 1) := by rw [Lib.cell_of_heap hT9]; rfl
  have t1 : w11.cell? ⟨w.heap.size, 1, none⟩ = some (.int .i64 1) := by rw [Lib.cell_of_heap hT9]; rfl
  have t2 : w11.cell? ⟨w.heap.size, 2, none⟩ = some (.slice (some ⟨w1.heap.size, 0, none⟩) 1 1) := by rw [Lib.cell_of_heap hT9]; rfl
  have t3 : w11.cell? ⟨w.heap.size, 3, none⟩ = some (.slice (some ⟨y.heap.size, 0, none⟩) 1 1) := by rw [Lib.cell_of_heap hT9]; rfl
  have t4 : w11.cell? ⟨w.heap.size, 4, none⟩ = some (.slice (some ⟨y.heap.size + 1, 0, none⟩) 1 1) := by rw [Lib.cell_of_heap hT9]; rfl
  exact bodyPost_ret (v := .agg #[(.int .i64 1), (.int .i64 1), (.slice (some ⟨w1.heap.size, 0, none⟩) 1 1), (.slice (some ⟨y.heap.size, 0, none⟩) 1 1), (.slice (some ⟨y.heap.size + 1, 0, none⟩) 1 1)]) (by simp [results, Tryz.results52, go_sem, t0, t1, t2, t3, t4]) rfl ⟨_, _, _, rfl, hU, hB⟩
end Go.Proofs.YtmfaodapofamfaaGreat

/- Maps that count ids. -/
namespace Go.Proofs.YtmfaodapofamfaaGreat
open Go.RowKit Go.Maps

set_option maxRecDepth 100000
theorem idKey : WideMaps.KeyLaw Tryz.prog 26 := deep_law_laid idLaid (m := 5) (by decide) (by decide) (by kernel_rfl) (by rw [Tryz.underlying26])
theorem intZero (w : World) : (zeroValue 3).run Tryz.prog w = .ok (.int .i64 0) w := by kernel_rfl
/-- A map's datum that tells how often each of these ids was named. -/
def NmD (L : List Wr.Id) (D : DataW Unit) : Prop := ∀ x, Wr.isId x = true → D.atKey (keyLit x) (.lit (.int .i64 0)) = .lit (.int .i64 (L.count x))
def NmAt (w : World) (B : Nat) (L : List Wr.Id) : Prop := ∃ D : DataW Unit, w.ownsMap Tryz.prog 26 (plainElem Tryz.prog 3) B L.length D ∧ NmD L D
theorem NmAt.below {w w' : World} {B : Nat} {L : List Wr.Id} (h : NmAt w B L) (hb : Below w.heap.size w w') : NmAt w' B L := by
  obtain ⟨D, ⟨es, clock, h1, h2, h3, h4⟩, hN⟩ := h
  exact ⟨D, ⟨es, clock, (hb.block _ (Array.getElem?_eq_some_iff.mp h1).1).trans h1, h2, h3, h4⟩, hN⟩
theorem nmAt_made (w : World) : NmAt (w.alloc (.map #[] 0)) w.heap.size [] := ⟨_, World.ownsMap_made _ _ _ _, fun _ _ => rfl⟩
/-- 'named[x]' read. -/
theorem NmAt.look {w : World} {B : Nat} {L : List Wr.Id} (h : NmAt w B L) {x : Wr.Id} (hx : Wr.isId x = true) : (Instr.lookup 111 (.map (some B)) (idVal x) false).run Tryz.prog w = .ok (.int .i64 (L.count x)) w := by
  obtain ⟨D, h1, h2⟩ := h
  obtain ⟨c, r1, r2, _⟩ := h1.lookup_int idLaw Tryz.underlying111 Tryz.underlying3 (intZero w) (keyOf_id hx)
  rw [h2 x hx] at r2
  have : c = (L.count x : Int) := by simpa using r2.symm
  rw [← this]
  exact r1
theorem setBlock_twice (w : World) (b : Nat) (o o' : Obj) : ChangeMaps.setBlock (ChangeMaps.setBlock w b o) b o' = ChangeMaps.setBlock w b o' := by
  unfold ChangeMaps.setBlock
  simp
theorem setBlock_self {w : World} {b : Nat} {o : Obj} (h : w.heap[b]? = some o) : ChangeMaps.setBlock w b o = w := by
  obtain ⟨hb, rfl⟩ := Array.getElem?_eq_some_iff.mp h
  have e : w.heap.setIfInBounds b w.heap[b] = w.heap := by
    apply Array.ext (by simp)
    intro i h1 h2
    rw [Array.getElem_setIfInBounds]
    split
    · rename_i hbi
      subst hbi
      rfl
    · rfl
  show { w with heap := w.heap.setIfInBounds b w.heap[b] } = w
  rw [e]
/-- 'named[x]++': what the three operations do. -/
theorem NmAt.inc {w : World} {B : Nat} {L : List Wr.Id} (h : NmAt w B L) (hl : L.length ≤ 1000000) {x : Wr.Id} (hx : Wr.isId x = true) :
    ∃ (v0 : Value) (st : Nat) (w1 w2 : World), (Instr.mapEntry 111 (.map (some B)) (idVal x)).run Tryz.prog w = .ok (.tuple #[v0, .int .i64 st]) w1 ∧ (Instr.lookup 111 (.map (some B)) (idVal x) false).run Tryz.prog w1 = .ok (.int .i64 (L.count x)) w1 ∧
      (Instr.entryStore 111 (.map (some B)) (.int .i64 st) (.int .i64 ((L.count x : Int) + 1))).run Tryz.prog w1 = .ok () w2 ∧ NmAt w2 B (L ++ [x]) ∧ w.grownBy w2 (some B) := by
  have hlook := h.look hx
  obtain ⟨D, hown, hD⟩ := h
  have hT := hown.tidy idLaw
  have hcnt : L.count x ≤ L.length := List.count_le_length
  obtain ⟨es, clock, hb, F, hs, rfl⟩ := id hown
  obtain ⟨v0, st, es1, clock1, r1, hv0, hstore⟩ := WideElems.entry_then_store idKey Tryz.underlying111 (z := .int .i64 0) intZero hb F (keyOf_id hx)
  have hb1 : (ChangeMaps.setBlock w B (.map es1 clock1)).heap[B]? = some (.map es1 clock1) := ChangeMaps.heap_setBlock_same hb _
  obtain ⟨es', clock', r3, r4⟩ := hstore (ChangeMaps.setBlock w B (.map es1 clock1)) (.int .i64 ((L.count x : Int) + 1)) hb1
  -- what a plain store would leave
  obtain ⟨w', q1, q2, q3⟩ := hown.update idLaw Tryz.underlying111 (by unfold maxLen; omega) (keyOf_id hx) (plainElem_int (a := (L.count x : Int) + 1) Tryz.underlying3 (WalkArith.wf_i64 (by omega)))
  rw [r4] at q1
  have hw' : w' = ChangeMaps.setBlock w B (.map es' clock') := by injection q1 with _ e; exact e.symm
  have hss : ChangeMaps.setBlock (ChangeMaps.setBlock w B (.map es1 clock1)) B (.map es' clock') = w' := by
    rw [hw', setBlock_twice]
  have hlk : (Instr.lookup 111 (.map (some B)) (idVal x) false).run Tryz.prog (ChangeMaps.setBlock w B (.map es1 clock1)) = .ok (.int .i64 (L.count x)) (ChangeMaps.setBlock w B (.map es1 clock1)) := by
    rcases idKey.find w (keyOf_id hx) es.toList F.keys with ⟨f1, f2⟩ | ⟨j, e0, f1, f2, f3⟩
    · -- it was not there: nought is there now
      have m1 : (Instr.mapEntry 111 (.map (some B)) (idVal x)).run Tryz.prog w = .ok (.tuple #[.int .i64 0, goInt clock]) (ChangeMaps.setBlock w B (.map (es.push ⟨idVal x, .int .i64 0, clock⟩) (clock + 1))) := by
        simp [Instr.mapEntry, run_underlying Tryz.underlying111, MapKept.run_getObj_map hb, idKey.check w false (keyOf_id hx), f1, MapKept.run_setObj_map _ hb, Result.andThen, ChangeMaps.setBlock]
      have m2 : (Instr.mapUpdate 111 (.map (some B)) (idVal x) (.int .i64 0)).run Tryz.prog w = .ok () (ChangeMaps.setBlock w B (.map (es.push ⟨idVal x, .int .i64 0, clock⟩) (clock + 1))) := by
        simp [Instr.mapUpdate, run_underlying Tryz.underlying111, MapKept.run_getObj_map hb, idKey.check w false (keyOf_id hx), f1, MapKept.run_setObj_map _ hb, ChangeMaps.setBlock]
      rw [m1] at r1
      have e1 : ChangeMaps.setBlock w B (.map es1 clock1) = ChangeMaps.setBlock w B (.map (es.push ⟨idVal x, .int .i64 0, clock⟩) (clock + 1)) := by injection r1 with _ e; exact e.symm
      obtain ⟨w9, p1, p2, _⟩ := hown.update idLaw Tryz.underlying111 (by unfold maxLen; omega) (keyOf_id hx) (plainElem_int (a := 0) Tryz.underlying3 (by decide))
      rw [m2] at p1
      have e2 : w9 = ChangeMaps.setBlock w B (.map es1 clock1) := by rw [e1]; injection p1 with _ e; exact e.symm
      rw [← e2]
      obtain ⟨c, g1, g2, _⟩ := p2.lookup_int idLaw Tryz.underlying111 Tryz.underlying3 (intZero w9) (keyOf_id hx)
      rw [atKey_put_same hT.isMap (keyLit_is _)] at g2
      have hc0 : c = 0 := by simpa using g2.symm
      have hcn : (L.count x : Int) = 0 := by
        have l1 := hlook
        have l2 : (Instr.lookup 111 (.map (some B)) (idVal x) false).run Tryz.prog w = .ok (.int .i64 0) w := by
          simp [Instr.lookup, run_underlying Tryz.underlying111, MapKept.run_getObj_map hb, idKey.check w es.isEmpty (keyOf_id hx), f1]
        rw [l2] at l1
        injection l1 with l1 _
        injection l1 with _ l1
        exact l1.symm
      rw [hcn, ← hc0]
      exact g1
    · -- it was there: nothing has turned
      have hj : es[j]? = some e0 := by simpa using f2
      have hsame : es.modify j (fun e => { e with key := idVal x }) = es := by
        apply Array.ext'
        rw [Array.toList_modify]
        apply List.ext_getElem?
        intro i
        rw [List.getElem?_modify]
        by_cases hij : j = i
        · subst hij
          rw [f2]
          simp [← f3]
        · simp [hij]
      have m1 : (Instr.mapEntry 111 (.map (some B)) (idVal x)).run Tryz.prog w = .ok (.tuple #[e0.val, goInt e0.born]) (ChangeMaps.setBlock w B (.map es clock)) := by
        simp [Instr.mapEntry, run_underlying Tryz.underlying111, MapKept.run_getObj_map hb, idKey.check w false (keyOf_id hx), f1, hj, f3, idKey.stays w (keyOf_id hx), hsame, MapKept.run_setObj_map _ hb, Result.andThen, ChangeMaps.setBlock]
      rw [m1] at r1
      have e1 : ChangeMaps.setBlock w B (.map es1 clock1) = w := by
        have e : ChangeMaps.setBlock w B (.map es1 clock1) = ChangeMaps.setBlock w B (.map es clock) := by injection r1 with _ e; exact e.symm
        rw [e, setBlock_self hb]
      rw [e1]
      exact hlook
  refine ⟨v0, st, ChangeMaps.setBlock w B (.map es1 clock1), w', r1, hlk, ?_, ?_, q3⟩
  · rw [← hss]; exact r3
  · refine ⟨_, by rw [List.length_append]; exact q2, fun y hy => ?_⟩
    rw [List.count_append]
    by_cases e : y = x
    · subst e
      rw [atKey_put_same hT.isMap (keyLit_is _)]
      simp
    · rw [atKey_put_other (fun e2 => e (keyLit_inj hy hx e2)), hD y hy]
      have : List.count y [x] = 0 := by rw [List.count_eq_zero]; simp; exact e
      rw [this]
      rfl
end Go.Proofs.YtmfaodapofamfaaGreat

/- Package slices: DeleteFunc of updates, by what is named. -/
namespace Go.Proofs.YtmfaodapofamfaaGreat
open Go.RowKit Go.Maps

theorem row_cutU {w : World} {B g cap n : Nat} {xs : List Value} {q : List Uv} (h : w.ownsRow B 30 5 (.slice (some ⟨g, 0, none⟩) n cap) n xs) (hn : q.length ≤ n) (hq : ∀ j, j < q.length * 5 → xs[j]? = ((q.map uvCells).flatten)[j]?) : UGRow w B g cap q := by
  obtain ⟨h1, h2⟩ := h
  rcases h2 with ⟨h2, _⟩ | ⟨g', cap', cur, hv, hb, hh, hc1, hc2, hc3, hc4⟩
  · cases h2
  · injection hv with e1 _ e3
    injection e1 with e1
    injection e1 with e1
    subst e1 e3
    refine ⟨ups_flat _, .inr ⟨g, cap, cur, rfl, hb, hh, by omega, hc2, hc3, ?_⟩⟩
    apply List.ext_getElem?
    intro t
    rw [List.getElem?_take]
    by_cases ht : t < q.length * 5
    · rw [if_pos ht, ← hq t ht, ← hc4, List.getElem?_take, if_pos (by omega)]
    · rw [if_neg ht, List.getElem?_eq_none]
      rw [ups_flat]
      omega
/-- What is behind the first ones is cleared. -/
theorem clear_rowU (w : World) (B g cap : Nat) (q : List Uv) (k : Nat) (h : UGRow w B g cap q) (hk : k < q.length) :
    ∃ w', (∀ ty, (Builtin.clear_ #[22] ty #[.slice (some ⟨g, k * 5, none⟩) (q.length - k) (cap - k)]).run Tryz.prog w = .ok (.tuple #[]) w') ∧ UGRow w' B g cap (q.take k) ∧ w.grownBy w' (some g) := by
  obtain ⟨m, hm⟩ : ∃ m, q.length - k = m + 1 := ⟨q.length - k - 1, by omega⟩
  obtain ⟨vs, hvs⟩ : ∃ vs, vs = (Builtin.zeroCells (Value.agg #[.int .i64 0, .int .i64 0, .slice none 0 0, .slice none 0 0, .slice none 0 0]).cells (m + 1)).toList := ⟨_, rfl⟩
  have hlen : vs.length = (m + 1) * 5 := by rw [hvs]; simp [Builtin.zeroCells, Value.cells]
  have hone : ∀ v ∈ vs, v.oneCell' = true := by
    intro v hv
    rw [hvs] at hv
    simp [Builtin.zeroCells, Value.cells] at hv
    obtain ⟨a, ha, rfl⟩ := hv
    have h5 : a % 5 = 0 ∨ a % 5 = 1 ∨ a % 5 = 2 ∨ a % 5 = 3 ∨ a % 5 = 4 := by omega
    rcases h5 with h2 | h2 | h2 | h2 | h2
    · simp [h2]; rfl
    · simp [h2]; rfl
    · simp [h2]; rfl
    · simp [h2]; rfl
    · simp [h2]; rfl
  have hst := run_storeCells_cells (P := Tryz.prog) g (k * 5) vs 0 w (by
    intro j hj
    rw [hlen] at hj
    have hc := World.ownsRow.cellAt h (k * 5 + j) (by omega)
    obtain ⟨x, hx, hx2⟩ := uc_at q (k * 5 + j) (by omega)
    rw [Nat.add_zero, hc, hx2, List.getElem?_eq_getElem (show (k * 5 + j) % 5 < (uvCells x).length by show _ < 5; omega)]
    rfl) (by intro j _; exact World.ownsRow.frozenAt h _) hone
  simp only [Nat.add_zero] at hst
  obtain ⟨ys, a1, a2, a3, a4⟩ := own_sets vs (k * 5) w _ h
  refine ⟨w.setCells g (k * 5) vs, ?_, row_cutU (q := q.take k) a3 (by rw [List.length_take]; omega) (fun j hj => ?_), a4⟩
  · intro ty
    have hz : ∀ w, (zeroValue 30).run Tryz.prog w = .ok (.agg #[.int .i64 0, .int .i64 0, .slice none 0 0, .slice none 0 0, .slice none 0 0]) w := fun w => by kernel_rfl
    rw [hm]
    simp [Builtin.clear_, run_underlying Tryz.underlying22, hz, ← hvs, hst]
  · rw [List.length_take] at hj
    rw [a2 j (by omega)]
    obtain ⟨x, hx, hx2⟩ := uc_at q j (by omega)
    obtain ⟨z, hz, hz2⟩ := uc_at (q.take k) j (by rw [List.length_take]; omega)
    rw [List.getElem?_take, if_pos (by omega), hx] at hz
    obtain rfl : x = z := by simpa using hz
    rw [hx2, hz2]

set_option maxRecDepth 100000 in
set_option maxHeartbeats 1000000 in
theorem named1_any (B NB : Nat) (L : List Wr.Id) (x : Uv) (w w0 : World) (hM : NmAt w B L) (hbx : w.cell? ⟨NB, 0, none⟩ = some (.map (some B))) (hx : UvOk w0 x) (hi : Wr.isId x.u.id = true) :
    Calls Tryz.prog 81 #[uvVal x, .pointer (some ⟨NB, 0, none⟩)] w fun e w' => e = .returned (.bool (decide (0 < L.count x.u.id))) ∧ Below w.heap.size w w' := by
  obtain ⟨a1, n1, d1, a2, n2, d2, a3, n3, d3, e1, e2, e3⟩ := hx.forms
  obtain ⟨⟨⟨ua, un⟩, ps, says, ts⟩, vp, vs, vt⟩ := x
  dsimp only at *
  subst e1 e2 e3
  have HB1 : Hid (Below w.heap.size w (w.alloc (.cells #[.int .i64 ua, .int .i64 un, .slice a1 n1 d1, .slice a2 n2 d2, .slice a3 n3 d3] 30))) := (Below.refl _ _).alloc (Nat.le_refl _) _
  have c9 : (w.alloc (.cells #[.int .i64 ua, .int .i64 un, .slice a1 n1 d1, .slice a2 n2 d2, .slice a3 n3 d3] 30)).cell? ⟨NB, 0, none⟩ = some (.map (some B)) := cell_below HB1.out hbx
  have hlk := (hM.below HB1.out).look hi
  clear hM hx hi
  go_enter Tryz.func81, Tryz.ntmps81
  go_wp2_with fail
  go_ret
  refine ⟨?_, HB1.out⟩
  simp
set_option maxRecDepth 100000 in
set_option maxHeartbeats 1000000 in
theorem indexD_any (NB : Nat) (P : Wr.Up → Bool) (q : List Uv) (v : Value) (w : World) (hV : UpsV w v q) (hl : q.length ≤ 1000) (hok : ∀ x, x ∈ q → UvOk w x) (hC : ∀ z x, Below w.heap.size w z → x ∈ q → Calls Tryz.prog 81 #[uvVal x, .pointer (some ⟨NB, 0, none⟩)] z fun e w' => e = .returned (.bool (P x.u)) ∧ Below z.heap.size z w') :
    Calls Tryz.prog 108 #[v, .func (.func 81) #[] #[.pointer (some ⟨NB, 0, none⟩)]] w fun e w' => ((e = .returned (.int .i64 (-1)) ∧ (∀ x, x ∈ q → P x.u = false)) ∨ ∃ k : Nat, e = .returned (.int .i64 k) ∧ k < q.length ∧ P (uvD q k).u = true ∧ ∀ x, x ∈ q.take k → P x.u = false) ∧ Below w.heap.size w w' := by
  obtain ⟨ao, cap, rfl, _, hA⟩ := hV
  have HA : Hid (UpsAt w ao q) := hA
  have HF : Hid (∀ x, x ∈ q → UvOk w x) := hok
  have HC : Hid (∀ z x, Below w.heap.size w z → x ∈ q → Calls Tryz.prog 81 #[uvVal x, .pointer (some ⟨NB, 0, none⟩)] z fun e w' => e = .returned (.bool (P x.u)) ∧ Below z.heap.size z w') := hC
  clear hok hC hA
  go_enter Tryz.func108, Tryz.ntmps108
  go_wp2_with fail
  go_loopw [8] (fun iv wr => ∃ k : Nat, k ≤ q.length ∧ iv = .int .i64 k ∧ Hid (∀ x, x ∈ q.take k → P x.u = false) ∧ Below w.heap.size w wr) (fun iv _ => q.length - (intOf iv).toNat)
  case atStart => exact ⟨0, Nat.zero_le _, rfl, fun x hx => absurd hx (by simp), Below.refl _ _⟩
  case round =>
    obtain ⟨k, hk, rfl, HR, hbw⟩ := hrel
    by_cases hlt : k < q.length
    · obtain ⟨b, off, rfl, c0, c1, c2, c3, c4⟩ := ups_at (HA.out.kc (Kc.below hbw)) k hlt
      have hm := uvD_mem q k hlt
      have HX : Hid (Calls Tryz.prog 81 #[uvVal (uvD q k), .pointer (some ⟨NB, 0, none⟩)] wr fun e w' => e = .returned (.bool (P (uvD q k).u)) ∧ Below wr.heap.size wr w') := HC.out wr _ hbw hm
      have HT : Hid (P (uvD q k).u = false → ∀ x, x ∈ q.take (k + 1) → P x.u = false) := fun h x hx => by
        rw [uvD_take q k hlt] at hx
        rcases List.mem_append.mp hx with hx | hx
        · exact HR.out x hx
        · rw [List.mem_singleton.mp hx]; exact h
      have HPK : Hid (∀ b, P (uvD q k).u = b → P (uvD q k).u = b) := fun _ h => h
      obtain ⟨a1, n1, d1, a2, n2, d2, a3, n3, d3, e1, e2, e3⟩ := (HF.out _ hm).forms
      have HUV : Hid (uvD q k = uvD q k) := rfl
      cases hbx : P (uvD q k).u
      · rw [hbx] at HX
        have HT2 : Hid _ := HT.out hbx
        clear HT HPK hbx HUV hm
        generalize uvD q k = x at *
        obtain ⟨⟨⟨ua, un⟩, ps, says, ts⟩, vp, vs, vt⟩ := x
        dsimp only at *
        subst e1 e2 e3
        go_wp2_with (go_at_call 81; refine Calls.mono HX.out ?_; rintro e z1 ⟨rfl, hg1⟩)
        have hb1 := hbw.trans (hg1.mono hbw.size)
        go_roundw
        case rel => exact ⟨k + 1, hlt, by go_num, HT2.out, hb1⟩
        case measure => simp [intOf]; omega
      · rw [hbx] at HX
        have HPT : Hid (P (uvD q k).u = true) := hbx
        clear HT HPK hbx HUV hm
        generalize hxe : uvD q k = x at *
        have HXE : Hid (uvD q k = x) := hxe
        clear hxe
        obtain ⟨⟨⟨ua, un⟩, ps, says, ts⟩, vp, vs, vt⟩ := x
        dsimp only at *
        subst e1 e2 e3
        go_wp2_with (go_at_call 81; refine Calls.mono HX.out ?_; rintro e z1 ⟨rfl, hg1⟩)
        go_ret
        exact ⟨.inr ⟨k, rfl, hlt, by rw [HXE.out]; exact HPT.out, HR.out⟩, hbw.trans (hg1.mono hbw.size)⟩
    · have hdd : decide (k < q.length) = false := decide_eq_false hlt
      have HE : Hid (∀ x, x ∈ q → P x.u = false) := fun x hx => HR.out x (by rw [List.take_of_length_le (by omega)]; exact hx)
      go_wp2_with fail
      go_ret
      exact ⟨.inl ⟨rfl, HE.out⟩, hbw⟩
/-- What is left of updates. -/
def keepU (P : Wr.Up → Bool) (q : List Uv) : List Uv := q.filter (fun x => !P x.u)
theorem keepU_all {P : Wr.Up → Bool} {q : List Uv} (h : ∀ x, x ∈ q → P x.u = false) : keepU P q = q := List.filter_eq_self.mpr fun x hx => by rw [h x hx]; rfl
theorem keepU_snoc (P : Wr.Up → Bool) (q : List Uv) (x : Uv) : keepU P (q ++ [x]) = if P x.u = true then keepU P q else keepU P q ++ [x] := by
  unfold keepU
  rw [List.filter_append]
  cases h : P x.u <;> simp [h]
theorem keepU_len (P : Wr.Up → Bool) (q : List Uv) : (keepU P q).length ≤ q.length := List.length_filter_le _ _
end Go.Proofs.YtmfaodapofamfaaGreat

/- Package slices: DeleteFunc of updates. -/
namespace Go.Proofs.YtmfaodapofamfaaGreat
open Go.RowKit Go.Maps

set_option maxRecDepth 100000 in
set_option maxHeartbeats 4000000 in
theorem delete_any (NB : Nat) (P : Wr.Up → Bool) (q : List Uv) (v : Value) (w0 w : World) (hb0 : Below w0.heap.size w0 w) (hrow : URow w w0.heap.size v q) (hl : q.length ≤ 1000) (hok : ∀ x, x ∈ q → UvOk w0 x) (hC : ∀ z x, Below w0.heap.size w0 z → x ∈ q → Calls Tryz.prog 81 #[uvVal x, .pointer (some ⟨NB, 0, none⟩)] z fun e w' => e = .returned (.bool (P x.u)) ∧ Below z.heap.size z w') :
    Calls Tryz.prog 79 #[v, .func (.func 81) #[] #[.pointer (some ⟨NB, 0, none⟩)]] w fun e w' => ∃ v', e = .returned v' ∧ URow w' w0.heap.size v' (keepU P q) ∧ Below w0.heap.size w0 w' := by
  have HI : Hid (Calls Tryz.prog 108 #[v, .func (.func 81) #[] #[.pointer (some ⟨NB, 0, none⟩)]] w fun e w' => ((e = .returned (.int .i64 (-1)) ∧ (∀ x, x ∈ q → P x.u = false)) ∨ ∃ k : Nat, e = .returned (.int .i64 k) ∧ k < q.length ∧ P (uvD q k).u = true ∧ ∀ x, x ∈ q.take k → P x.u = false) ∧ Below w.heap.size w w') := indexD_any NB P q v w (own_ups hrow) hl (fun x hx => (hok x hx).below hb0) (fun z x hz hx => hC z x (hb0.trans (hz.mono hb0.size)) hx)
  have HO : Hid (∀ x, x ∈ q → UvOk w0 x) := hok
  have HC : Hid (∀ z x, Below w0.heap.size w0 z → x ∈ q → Calls Tryz.prog 81 #[uvVal x, .pointer (some ⟨NB, 0, none⟩)] z fun e w' => e = .returned (.bool (P x.u)) ∧ Below z.heap.size z w') := hC
  obtain ⟨av, cap, rfl⟩ := own_slice hrow
  clear hok hC
  go_enter Tryz.func79, Tryz.ntmps79
  go_wp2_with fail
  refine Calls.mono HI.out ?_
  rintro e w1 ⟨⟨rfl, hall⟩ | ⟨k, rfl, hk, hpk, htk⟩, hb1⟩
  · have HK : Hid (keepU P q = q) := keepU_all hall
    have HR1 : Hid (URow w1 w0.heap.size (.slice av q.length cap) q) := ownsRow_below hrow hb1
    have HB1 : Hid (Below w0.heap.size w0 w1) := hb0.trans (hb1.mono hb0.size)
    clear hall hrow HI hb1 hb0
    go_wp2_with fail
    go_ret
    exact ⟨_, rfl, by rw [HK.out]; exact HR1.out, HB1.out⟩
  · obtain ⟨g, rfl⟩ : ∃ g, av = some ⟨g, 0, none⟩ := by
      rcases ownsRow_forms9 hrow with ⟨_, h0⟩ | ⟨g, c, hv⟩
      · omega
      · injection hv with hv
        exact ⟨g, hv⟩
    have hcap : q.length ≤ cap := by
      obtain ⟨_, _, e9, h9, _⟩ := own_cells hrow
      injection e9 with _ _ e9
      omega
    have hrow1 := ownsRow_below hrow hb1
    have hbw1 := hb0.trans (hb1.mono hb0.size)
    have HST : Hid (q.take k = keepU P (q.take (k + 1))) := by
      show _ = _
      rw [uvD_take q k hk, keepU_snoc, if_pos hpk, keepU_all htk]
    have gne : ((k : Int) == -1) = false := by
      have : ¬ (k : Int) = -1 := by omega
      exact beq_false_of_ne this
    have hkl := hk
    clear hpk htk HI hrow hb1 hb0
    go_wp2_with fail
    go_loopw [5, 6] (fun iv jv wr => ∃ (i j : Nat) (R : List Uv), i < j ∧ j ≤ q.length ∧ iv = .int .i64 i ∧ jv = .int .i64 j ∧ R.length = q.length ∧ wr.ownsRow w0.heap.size 30 5 (.slice (some ⟨g, 0, none⟩) q.length cap) q.length (R.map uvCells).flatten ∧ Hid (R.take i = keepU P (q.take j)) ∧ Hid (R.drop j = q.drop j) ∧ Hid (∀ x, x ∈ R → x ∈ q) ∧ Below w0.heap.size w0 wr) (fun _ jv _ => q.length - (intOf jv).toNat)
    case atStart => exact ⟨k, k + 1, q, by omega, by omega, rfl, by go_num, rfl, hrow1, HST.out, rfl, fun _ h => h, hbw1⟩
    case round =>
      clear hrow1 hbw1 HST gne
      obtain ⟨i, j, R, hij, hj, rfl, rfl, hRl, hrow, HTK, HDR, HMQ, hb⟩ := hrel
      have HRL : Hid (R.length = q.length) := hRl
      have hglt : w0.heap.size ≤ g := (hrow.lt g rfl).1
      clear hRl
      have hrow : UGRow wr w0.heap.size g cap R := by
        unfold UGRow
        rw [HRL.out]
        exact hrow
      by_cases hlt : j < q.length
      · have hin := row_in hrow (m := j) (by rw [HRL.out]; exact hlt)
        have hRj : uvD R j = uvD q j := by
          have h1 : R[j]? = q[j]? := by
            have := congrArg (fun l => l[0]?) HDR.out
            simpa using this
          unfold uvD
          rw [List.getD_eq_getElem?_getD, List.getD_eq_getElem?_getD, h1]
        rw [hRj] at hin
        have hmem := uvD_mem q j hlt
        have hxo := HO.out _ hmem
        have HTJ : Hid (q.take (j + 1) = q.take j ++ [uvD q j]) := uvD_take q j hlt
        have HCX : Hid (∀ z, Below w0.heap.size w0 z → Calls Tryz.prog 81 #[uvVal (uvD q j), .pointer (some ⟨NB, 0, none⟩)] z fun e w' => e = .returned (.bool (P (uvD q j).u)) ∧ Below z.heap.size z w') := fun z hz => HC.out z _ hz hmem
        have HDR2 : Hid (R.drop (j + 1) = q.drop (j + 1)) := by
          show _ = _
          have := congrArg (List.drop 1) HDR.out
          rw [List.drop_drop, List.drop_drop] at this
          exact this
        have HKS : Hid (keepU P (q.take (j + 1)) = if P (uvD q j).u = true then keepU P (q.take j) else keepU P (q.take j) ++ [uvD q j]) := by
          show _ = _
          rw [HTJ.out, keepU_snoc]
        clear hRj HTJ HDR
        have HMX : Hid (uvD q j ∈ q) := hmem
        clear hmem
        generalize uvD q j = x at *
        obtain ⟨b1, m1, f1, b2, m2, f2, b3, m3, f3, o1, o2, o3⟩ := hxo.forms
        obtain ⟨⟨⟨xa, xn⟩, ps, says, ts⟩, vp, vs, vt⟩ := x
        dsimp only at *
        subst o1 o2 o3
        obtain ⟨c0, c1, c2, c3, c4⟩ := id hin
        dsimp only at c0 c1 c2 c3 c4
        have hsz := hb.size
        have HBN : Hid (Below w0.heap.size w0 (wr.alloc (.cells #[.int .i64 xa, .int .i64 xn, .slice b1 m1 f1, .slice b2 m2 f2, .slice b3 m3 f3] 30))) := hb.alloc hsz _
        have HBW : Hid (Below wr.heap.size wr (wr.alloc (.cells #[.int .i64 xa, .int .i64 xn, .slice b1 m1 f1, .slice b2 m2 f2, .slice b3 m3 f3] 30))) := (Below.refl _ _).alloc (Nat.le_refl _) _
        have HNW : Hid ((wr.alloc (.cells #[.int .i64 xa, .int .i64 xn, .slice b1 m1 f1, .slice b2 m2 f2, .slice b3 m3 f3] 30)).heap[wr.heap.size]? = some (.cells #[.int .i64 xa, .int .i64 xn, .slice b1 m1 f1, .slice b2 m2 f2, .slice b3 m3 f3] 30)) := rl_new wr _
        cases hpx : P ⟨⟨xa, xn⟩, ps, says, ts⟩
        · -- it stays
          rw [hpx] at HCX
          have hKS := HKS.out
          rw [hpx] at hKS
          go_upto_region 9 with (go_at_call 81; refine Calls.mono (HCX.out _ HBN.out) ?_; rintro e z1 ⟨rfl, hg1⟩)
          have hb1 := HBW.out.trans (hg1.mono HBW.out.size)
          have hB1 := HBN.out.trans (hg1.mono HBN.out.size)
          have hnw := (hg1.block _ (by simp)).trans HNW.out
          have k0 : z1.cell? ⟨wr.heap.size, 0, none⟩ = some (.int .i64 xa) := by rw [Lib.cell_of_heap hnw]; rfl
          have k1' : z1.cell? ⟨wr.heap.size, 1, none⟩ = some (.int .i64 xn) := by rw [Lib.cell_of_heap hnw]; rfl
          have k2' : z1.cell? ⟨wr.heap.size, 2, none⟩ = some (.slice b1 m1 f1) := by rw [Lib.cell_of_heap hnw]; rfl
          have k3' : z1.cell? ⟨wr.heap.size, 3, none⟩ = some (.slice b2 m2 f2) := by rw [Lib.cell_of_heap hnw]; rfl
          have k4' : z1.cell? ⟨wr.heap.size, 4, none⟩ = some (.slice b3 m3 f3) := by rw [Lib.cell_of_heap hnw]; rfl
          have hrow7 := ownsRow_below hrow hb1
          have hiR : i < R.length := by rw [HRL.out]; omega
          have hr7 := row_in hrow7 (m := i) hiR
          have hyq := HO.out _ (HMQ.out _ (uvD_mem R i hiR))
          obtain ⟨e1, l1, k1, e2, l2, k2, e3, l3, k3, y1, y2, y3⟩ := hyq.forms
          generalize uvD R i = y at *
          obtain ⟨⟨⟨ya, yn⟩, ps9, says9, ts9⟩, vp9, vs9, vt9⟩ := y
          dsimp only at *
          subst y1 y2 y3
          dsimp only [UpIn] at hr7
          have rz0 : (z1).cell? ⟨g, i * 5, none⟩ = some (.int .i64 ya) := by exact hr7.1
          have ry0 : (z1).frozen? ⟨g, i * 5, none⟩ = false := by exact World.ownsRow.frozenAt hrow7 _
          have rz1 : ((z1).setCell ⟨g, i * 5, none⟩ (.int .i64 xa)).cell? ⟨g, i * 5 + 1, none⟩ = some (.int .i64 yn) := by rw [cell_set_ne _ (by omega)]; exact hr7.2.1
          have ry1 : ((z1).setCell ⟨g, i * 5, none⟩ (.int .i64 xa)).frozen? ⟨g, i * 5 + 1, none⟩ = false := by rw [World.frozen?_setCell]; exact World.ownsRow.frozenAt hrow7 _
          have rz2 : (((z1).setCell ⟨g, i * 5, none⟩ (.int .i64 xa)).setCell ⟨g, i * 5 + 1, none⟩ (.int .i64 xn)).cell? ⟨g, i * 5 + 2, none⟩ = some (.slice e1 l1 k1) := by rw [cell_set_ne _ (by omega)]; rw [cell_set_ne _ (by omega)]; exact hr7.2.2.1
          have ry2 : (((z1).setCell ⟨g, i * 5, none⟩ (.int .i64 xa)).setCell ⟨g, i * 5 + 1, none⟩ (.int .i64 xn)).frozen? ⟨g, i * 5 + 2, none⟩ = false := by rw [World.frozen?_setCell]; rw [World.frozen?_setCell]; exact World.ownsRow.frozenAt hrow7 _
          have rz3 : ((((z1).setCell ⟨g, i * 5, none⟩ (.int .i64 xa)).setCell ⟨g, i * 5 + 1, none⟩ (.int .i64 xn)).setCell ⟨g, i * 5 + 2, none⟩ (.slice b1 m1 f1)).cell? ⟨g, i * 5 + 3, none⟩ = some (.slice e2 l2 k2) := by rw [cell_set_ne _ (by omega)]; rw [cell_set_ne _ (by omega)]; rw [cell_set_ne _ (by omega)]; exact hr7.2.2.2.1
          have ry3 : ((((z1).setCell ⟨g, i * 5, none⟩ (.int .i64 xa)).setCell ⟨g, i * 5 + 1, none⟩ (.int .i64 xn)).setCell ⟨g, i * 5 + 2, none⟩ (.slice b1 m1 f1)).frozen? ⟨g, i * 5 + 3, none⟩ = false := by rw [World.frozen?_setCell]; rw [World.frozen?_setCell]; rw [World.frozen?_setCell]; exact World.ownsRow.frozenAt hrow7 _
          have rz4 : (((((z1).setCell ⟨g, i * 5, none⟩ (.int .i64 xa)).setCell ⟨g, i * 5 + 1, none⟩ (.int .i64 xn)).setCell ⟨g, i * 5 + 2, none⟩ (.slice b1 m1 f1)).setCell ⟨g, i * 5 + 3, none⟩ (.slice b2 m2 f2)).cell? ⟨g, i * 5 + 4, none⟩ = some (.slice e3 l3 k3) := by rw [cell_set_ne _ (by omega)]; rw [cell_set_ne _ (by omega)]; rw [cell_set_ne _ (by omega)]; rw [cell_set_ne _ (by omega)]; exact hr7.2.2.2.2
          have ry4 : (((((z1).setCell ⟨g, i * 5, none⟩ (.int .i64 xa)).setCell ⟨g, i * 5 + 1, none⟩ (.int .i64 xn)).setCell ⟨g, i * 5 + 2, none⟩ (.slice b1 m1 f1)).setCell ⟨g, i * 5 + 3, none⟩ (.slice b2 m2 f2)).frozen? ⟨g, i * 5 + 4, none⟩ = false := by rw [World.frozen?_setCell]; rw [World.frozen?_setCell]; rw [World.frozen?_setCell]; rw [World.frozen?_setCell]; exact World.ownsRow.frozenAt hrow7 _
          have hput : UGRow ((((((z1).setCell ⟨g, i * 5, none⟩ (.int .i64 xa)).setCell ⟨g, i * 5 + 1, none⟩ (.int .i64 xn)).setCell ⟨g, i * 5 + 2, none⟩ (.slice b1 m1 f1)).setCell ⟨g, i * 5 + 3, none⟩ (.slice b2 m2 f2)).setCell ⟨g, i * 5 + 4, none⟩ (.slice b3 m3 f3)) w0.heap.size g cap (R.set i ⟨⟨⟨xa, xn⟩, ps, says, ts⟩, .slice b1 m1 f1, .slice b2 m2 f2, .slice b3 m3 f3⟩) := by
            unfold UGRow
            rw [List.length_set, flat5_set R i _ hiR]
            exact (World.ownsRow.stored (World.ownsRow.stored (World.ownsRow.stored (World.ownsRow.stored (World.ownsRow.stored hrow7 (i * 5) _).1 (i * 5 + 1) _).1 (i * 5 + 2) _).1 (i * 5 + 3) _).1 (i * 5 + 4) _).1
          have HGR : Hid (z1.grownBy ((((((z1).setCell ⟨g, i * 5, none⟩ (.int .i64 xa)).setCell ⟨g, i * 5 + 1, none⟩ (.int .i64 xn)).setCell ⟨g, i * 5 + 2, none⟩ (.slice b1 m1 f1)).setCell ⟨g, i * 5 + 3, none⟩ (.slice b2 m2 f2)).setCell ⟨g, i * 5 + 4, none⟩ (.slice b3 m3 f3)) (some g)) := ((((grown_set z1 _ _ _).trans_row (grown_set _ _ _ _)).trans_row (grown_set _ _ _ _)).trans_row (grown_set _ _ _ _)).trans_row (grown_set _ _ _ _)
          have HB8 : Hid (Below w0.heap.size w0 ((((((z1).setCell ⟨g, i * 5, none⟩ (.int .i64 xa)).setCell ⟨g, i * 5 + 1, none⟩ (.int .i64 xn)).setCell ⟨g, i * 5 + 2, none⟩ (.slice b1 m1 f1)).setCell ⟨g, i * 5 + 3, none⟩ (.slice b2 m2 f2)).setCell ⟨g, i * 5 + 4, none⟩ (.slice b3 m3 f3))) := hB1.grown HGR.out hB1.size (fun k e => by cases e; exact hglt)
          have HPUT : Hid (((((((z1).setCell ⟨g, i * 5, none⟩ (.int .i64 xa)).setCell ⟨g, i * 5 + 1, none⟩ (.int .i64 xn)).setCell ⟨g, i * 5 + 2, none⟩ (.slice b1 m1 f1)).setCell ⟨g, i * 5 + 3, none⟩ (.slice b2 m2 f2)).setCell ⟨g, i * 5 + 4, none⟩ (.slice b3 m3 f3)).ownsRow w0.heap.size 30 5 (.slice (some ⟨g, 0, none⟩) q.length cap) q.length ((R.set i ⟨⟨⟨xa, xn⟩, ps, says, ts⟩, .slice b1 m1 f1, .slice b2 m2 f2, .slice b3 m3 f3⟩).map uvCells).flatten) := by
            have h9 := hput
            unfold UGRow at h9
            rw [List.length_set, HRL.out] at h9
            exact h9
          have HT2 : Hid ((R.set i ⟨⟨⟨xa, xn⟩, ps, says, ts⟩, .slice b1 m1 f1, .slice b2 m2 f2, .slice b3 m3 f3⟩).take (i + 1) = keepU P (q.take (j + 1))) := by
            show _ = _
            rw [hKS]
            simp only [Bool.false_eq_true, if_false]
            rw [← HTK.out, List.take_add_one, List.take_set_of_le (Nat.le_refl _), List.getElem?_set, if_pos rfl, if_pos hiR]
            rfl
          have HD3 : Hid ((R.set i ⟨⟨⟨xa, xn⟩, ps, says, ts⟩, .slice b1 m1 f1, .slice b2 m2 f2, .slice b3 m3 f3⟩).drop (j + 1) = q.drop (j + 1)) := by
            show _ = _
            rw [List.drop_set, if_pos (by omega)]
            exact HDR2.out
          have HM3 : Hid (∀ x, x ∈ R.set i ⟨⟨⟨xa, xn⟩, ps, says, ts⟩, .slice b1 m1 f1, .slice b2 m2 f2, .slice b3 m3 f3⟩ → x ∈ q) := fun x hx => by
            rcases List.mem_or_eq_of_mem_set hx with h | h
            · exact HMQ.out x h
            · rw [h]; exact HMX.out
          clear hrow hb hrow7 hput hin hr7 HTK HKS hKS HCX hnw hyq hg1 hb1 hB1 c0 c1 c2 c3 c4
          go_wp2_with fail
          go_roundw
          case rel => exact ⟨i + 1, j + 1, R.set i ⟨⟨⟨xa, xn⟩, ps, says, ts⟩, .slice b1 m1 f1, .slice b2 m2 f2, .slice b3 m3 f3⟩, by omega, by omega, by go_num, by go_num, by rw [List.length_set]; exact HRL.out, HPUT.out, HT2.out, HD3.out, HM3.out, HB8.out⟩
          case measure => simp [intOf]; omega
        · rw [hpx] at HCX
          have hKS := HKS.out
          rw [hpx] at hKS
          have HT2 : Hid (R.take i = keepU P (q.take (j + 1))) := by
            show _ = _
            rw [hKS, HTK.out]
            rfl
          have HROW : Hid (∀ z, Below wr.heap.size wr z → z.ownsRow w0.heap.size 30 5 (.slice (some ⟨g, 0, none⟩) q.length cap) q.length (R.map uvCells).flatten) := fun z hz => by
            have h9 := ownsRow_below hrow hz
            rw [HRL.out] at h9
            exact h9
          clear HKS hKS HTK hin hrow
          go_wp2_with (go_at_call 81; refine Calls.mono (HCX.out _ HBN.out) ?_; rintro e z1 ⟨rfl, hg1⟩)
          have HR1 : Hid _ := HROW.out z1 (HBW.out.trans (hg1.mono HBW.out.size))
          have HB8 : Hid (Below w0.heap.size w0 z1) := HBN.out.trans (hg1.mono HBN.out.size)
          clear HROW hg1 HCX
          go_roundw
          case rel => exact ⟨i, j + 1, R, by omega, by omega, rfl, by go_num, HRL.out, HR1.out, HT2.out, HDR2.out, HMQ.out, HB8.out⟩
          case measure => simp [intOf]; omega
      · obtain rfl : j = q.length := by omega
        obtain ⟨w9, hcl, hrow9, hgr⟩ := clear_rowU wr w0.heap.size g cap R i hrow (by rw [HRL.out]; omega)
        rw [HRL.out] at hcl
        have HKQ : Hid (R.take i = keepU P q) := by
          show _ = _
          rw [HTK.out, List.take_length]
        have HLN : Hid ((keepU P q).length = i) := by
          show _ = _
          rw [← HKQ.out, List.length_take, HRL.out]
          omega
        have HFN : Hid (URow w9 w0.heap.size (.slice (some ⟨g, 0, none⟩) i cap) (keepU P q) ∧ Below w0.heap.size w0 w9) := by
          refine ⟨?_, hb.grown hgr hb.size (fun k e => by cases e; exact hglt)⟩
          have h9 := hrow9
          unfold UGRow at h9
          rw [HKQ.out, HLN.out] at h9
          show World.ownsRow _ _ _ _ _ _ _
          rw [HLN.out]
          exact h9
        clear hrow hrow9 hgr HTK HKQ hb
        have hiq : i ≤ q.length := by omega
        have hic : i ≤ cap := by omega
        have hjj : decide (q.length < q.length) = false := by simp
        go_wp2_with fail
        go_ret
        exact ⟨_, rfl, HFN.out.1, HFN.out.2⟩
end Go.Proofs.YtmfaodapofamfaaGreat

