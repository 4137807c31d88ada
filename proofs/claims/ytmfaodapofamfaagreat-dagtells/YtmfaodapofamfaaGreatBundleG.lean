/- Own texts, one behind the other (part 7). -/
import Derived.Test.YtmfaodapofamfaaGreatBundleF
import Derived.Test.YtmfaodapofamfaaGreatRows
import Derived.Lib.BufferMore
/- Package dag: unnamed. -/
namespace Go.Proofs.YtmfaodapofamfaaGreat
open Go.RowKit Go.Maps

theorem flatMap_take {α β : Type} (f : α → List β) (q : List α) (k : Nat) (x : α) (h : q.take (k + 1) = q.take k ++ [x]) : (q.take (k + 1)).flatMap f = (q.take k).flatMap f ++ f x := by
  rw [h, List.flatMap_append]
  simp
theorem ids_take {l : List Wr.Id} {k : Nat} (hk : k < l.length) : l.take (k + 1) = l.take k ++ [idD l k] := by
  rw [List.take_succ_eq_append_getElem hk]
  simp [idD, List.getD_eq_getElem?_getD, hk]
theorem flat_len {q : List Uv} {f : Uv → List Wr.Id} (h : ∀ x, x ∈ q → (f x).length ≤ 6) : ∀ k, ((q.take k).flatMap f).length ≤ k * 6 := by
  intro k
  induction k with
  | zero => simp
  | succ k ih =>
    by_cases hk : k < q.length
    · rw [flatMap_take f q k _ (uvD_take q k hk), List.length_append]
      have := h _ (uvD_mem q k hk)
      omega
    · have e : q.take (k + 1) = q.take k := by rw [List.take_of_length_le (by omega), List.take_of_length_le (by omega)]
      rw [e]
      omega

set_option maxRecDepth 100000 in
set_option maxHeartbeats 1000000 in
theorem namesP_any (x : Uv) (w w0 : World) (hx : UvOk w0 x) : Calls Tryz.prog 37 #[uvVal x] w fun e w' => e = .returned x.p ∧ Below w.heap.size w w' := by
  obtain ⟨a1, n1, d1, a2, n2, d2, a3, n3, d3, e1, e2, e3⟩ := hx.forms
  obtain ⟨⟨⟨ua, un⟩, ps, says, ts⟩, vp, vs, vt⟩ := x
  dsimp only at *
  subst e1 e2 e3
  have HB1 : Hid (Below w.heap.size w (w.alloc (.cells #[.int .i64 ua, .int .i64 un, .slice a1 n1 d1, .slice a2 n2 d2, .slice a3 n3 d3] 30))) := (Below.refl _ _).alloc (Nat.le_refl _) _
  clear hx
  go_enter Tryz.func37, Tryz.ntmps37
  go_wp2_with fail
  go_ret
  exact ⟨rfl, HB1.out⟩
set_option maxRecDepth 100000 in
set_option maxHeartbeats 4000000 in
theorem unnamedP_any (q : List Uv) (v : Value) (w : World) (hV : UpsV w v q) (hl : q.length ≤ 1000) (hok : ∀ x, x ∈ q → UvOk w x) (hid : ∀ x, x ∈ q → IdsOk x.u) :
    Calls Tryz.prog 36 #[v, .func (.func 37) #[] #[]] w fun e w' => ∃ v', e = .returned v' ∧ URow w' w.heap.size v' (keepU (fun u => decide (0 < (q.flatMap (fun x => x.u.ps)).count u.id)) q) ∧ Below w.heap.size w w' := by
  have HO : Hid (∀ x, x ∈ q → UvOk w x ∧ IdsOk x.u) := fun x hx => ⟨hok x hx, hid x hx⟩
  have HV : Hid (UpsV w v q) := hV
  have HLF : Hid (∀ k, ((q.take k).flatMap (fun x => x.u.ps)).length ≤ k * 6) := flat_len (fun x hx => (hid x hx).lp)
  obtain ⟨ao, cap, rfl, _, hA⟩ := hV
  have HA : Hid (UpsAt w ao q) := hA
  clear hok hid hA
  have hmm := @run_makeMap Tryz.prog
  have hbm : Below w.heap.size w ((w.alloc (.map #[] 0)).alloc (.cells #[.map (some w.heap.size)] 111)) := ((Below.refl _ _).alloc (Nat.le_refl _) _).alloc (by simp) _
  have hs2 : ((w.alloc (.map #[] 0)).alloc (.cells #[.map (some w.heap.size)] 111)).heap.size = w.heap.size + 2 := by simp
  have hx2 : ((w.alloc (.map #[] 0)).alloc (.cells #[.map (some w.heap.size)] 111)).heap[w.heap.size + 1]? = some (.cells #[.map (some w.heap.size)] 111) := by
    have := rl_new (w.alloc (.map #[] 0)) (.cells #[.map (some w.heap.size)] 111)
    rw [World.size_alloc] at this
    exact this
  have hn2 : NmAt ((w.alloc (.map #[] 0)).alloc (.cells #[.map (some w.heap.size)] 111)) w.heap.size [] := (nmAt_made w).below ((Below.refl _ _).alloc (Nat.le_refl _) _)
  go_enter Tryz.func36, Tryz.ntmps36
  go_upto_region 2 with fail
  generalize (w.alloc (.map #[] 0)).alloc (.cells #[.map (some w.heap.size)] 111) = w2 at *
  go_wp2_with fail
  clear hmm
  go_loopw [13] (fun iv wr => ∃ k : Nat, k ≤ q.length ∧ iv = .int .i64 k ∧ Hid (NmAt wr w.heap.size ((q.take k).flatMap (fun x => x.u.ps))) ∧ Hid (wr.heap[w.heap.size + 1]? = some (.cells #[.map (some w.heap.size)] 111)) ∧ Below w.heap.size w wr) (fun iv _ => q.length - (intOf iv).toNat)
  case atStart => exact ⟨0, Nat.zero_le _, rfl, hn2, hx2, hbm⟩
  case round =>
    clear hn2 hx2 hbm hs2
    obtain ⟨k, hk, rfl, HN, HX, hbw⟩ := hrel
    by_cases hlt : k < q.length
    · obtain ⟨b, off, rfl, c0, c1, c2, c3, c4⟩ := ups_at (HA.out.kc (Kc.below hbw)) k hlt
      have hmem := uvD_mem q k hlt
      have hxo := HO.out _ hmem
      have HFT : Hid ((q.take (k + 1)).flatMap (fun x => x.u.ps) = (q.take k).flatMap (fun x => x.u.ps) ++ (uvD q k).u.ps) := flatMap_take (fun x : Uv => x.u.ps) q k _ (uvD_take q k hlt)
      have hlen := HLF.out k
      generalize (q.take k).flatMap (fun x => x.u.ps) = L0 at *
      have HNM : Hid (∀ z, Calls Tryz.prog 37 #[uvVal (uvD q k)] z fun e w' => e = .returned (uvD q k).p ∧ Below z.heap.size z w') := fun z => namesP_any _ z w hxo.1
      have HIV : Hid (IdsV w (uvD q k).p (uvD q k).u.ps) := hxo.1.p
      have HII : Hid (∀ y, y ∈ (uvD q k).u.ps → Wr.isId y = true) := hxo.2.ps
      have hl6 : (uvD q k).u.ps.length ≤ 6 := hxo.2.lp
      obtain ⟨a1, n1, d1, a2, n2, d2, a3, n3, d3, e1, e2, e3⟩ := hxo.1.forms
      obtain ⟨ia, ic, hie, _, _⟩ := hxo.1.p
      clear hxo hmem
      generalize uvD q k = x at *
      obtain ⟨⟨⟨ua, un⟩, ps, says, ts⟩, vp, vs, vt⟩ := x
      dsimp only at *
      subst e1 e2 e3
      injection hie with hie1 hie2 hie3
      subst hie1 hie2 hie3
      have HB1 : Hid (Below wr.heap.size wr (wr.alloc (.cells #[.int .i64 ua, .int .i64 un, .slice a1 ps.length d1, .slice a2 n2 d2, .slice a3 n3 d3] 30))) := (Below.refl _ _).alloc (Nat.le_refl _) _
      go_upto_region 6 with (go_at_call 37; refine Calls.mono (HNM.out _) ?_; rintro e w3 ⟨rfl, hb3⟩)
      have hb13 := HB1.out.trans (hb3.mono HB1.out.size)
      have hbw3 := hbw.trans (hb13.mono hbw.size)
      have HN3 : Hid (NmAt w3 w.heap.size L0) := HN.out.below hb13
      have HX3 : Hid (w3.heap[w.heap.size + 1]? = some (.cells #[.map (some w.heap.size)] 111)) := (hb13.block _ (Array.getElem?_eq_some_iff.1 HX.out).1).trans HX.out
      clear HN HX c0 c1 c2 c3 c4 HB1 hb3 hb13 hbw HNM
      go_loopw [21] (fun iv wr => ∃ m : Nat, m ≤ ps.length ∧ iv = .int .i64 m ∧ Hid (NmAt wr w.heap.size (L0 ++ ps.take m)) ∧ Hid (wr.heap[w.heap.size + 1]? = some (.cells #[.map (some w.heap.size)] 111)) ∧ Below w.heap.size w wr) (fun iv _ => ps.length - (intOf iv).toNat)
      case atStart => exact ⟨0, Nat.zero_le _, rfl, by rw [List.take_zero, List.append_nil]; exact HN3.out, HX3.out, hbw3⟩
      case round =>
        clear HN3 HX3 hbw3
        obtain ⟨m, hm, rfl, HN, HX, hbw⟩ := hrel
        by_cases hmt : m < ps.length
        · obtain ⟨_, _, e9, _, hA9⟩ := idsV_below HIV.out hbw
          cases e9
          obtain ⟨b9, off9, rfl, c0, c1⟩ := ids_at hA9 m hmt
          have hyi := HII.out (idD ps m) (by simp [idD, hmt])
          have HTM : Hid (L0 ++ ps.take (m + 1) = (L0 ++ ps.take m) ++ [idD ps m]) := by
            show _ = _
            rw [ids_take hmt, List.append_assoc]
          have hlm : (L0 ++ ps.take m).length ≤ 1000000 := by rw [List.length_append, List.length_take]; omega
          generalize L0 ++ ps.take m = L1 at *
          generalize idD ps m = y at *
          obtain ⟨ya, yn⟩ := y
          dsimp only at c0 c1
          have hbA : Below wr.heap.size wr (wr.alloc (.cells #[.int .i64 ya, .int .i64 yn] 26)) := (Below.refl _ _).alloc (Nat.le_refl _) _
          have hsw := hbw.size
          have HBA : Hid (Below w.heap.size w (wr.alloc (.cells #[.int .i64 ya, .int .i64 yn] 26))) := hbw.alloc hsw _
          have HNA : Hid (NmAt (wr.alloc (.cells #[.int .i64 ya, .int .i64 yn] 26)) w.heap.size L1) := HN.out.below hbA
          have HXA : Hid ((wr.alloc (.cells #[.int .i64 ya, .int .i64 yn] 26)).heap[w.heap.size + 1]? = some (.cells #[.map (some w.heap.size)] 111)) := (hbA.block _ (Array.getElem?_eq_some_iff.1 HX.out).1).trans HX.out
          have HYA : Hid ((wr.alloc (.cells #[.int .i64 ya, .int .i64 yn] 26)).heap[wr.heap.size]? = some (.cells #[.int .i64 ya, .int .i64 yn] 26)) := rl_new wr _
          go_upto_region 8 with fail
          generalize wr.heap.size = yb at *
          generalize wr.alloc (.cells #[.int .i64 ya, .int .i64 yn] 26) = w4 at *
          clear c0 c1 HN HX hbw hbA hsw
          have hnd : NmAt w4.drew w.heap.size L1 := HNA.out.below ⟨rfl, rfl, rfl, Nat.le_refl _, fun _ _ => rfl⟩
          have hlk := hnd.look hyi
          obtain ⟨v0, st, w5, w6, hen, hlk2, hst, hn6, hg6⟩ := hnd.inc hlm hyi
          have d0 : w4.drew.cell? ⟨w.heap.size + 1, 0, none⟩ = some (.map (some w.heap.size)) := by show w4.cell? _ = _; rw [Lib.cell_of_heap HXA.out]; rfl
          have d1' : w4.drew.cell? ⟨yb, 0, none⟩ = some (.int .i64 ya) := by show w4.cell? _ = _; rw [Lib.cell_of_heap HYA.out]; rfl
          have d2' : w4.drew.cell? ⟨yb, 1, none⟩ = some (.int .i64 yn) := by show w4.cell? _ = _; rw [Lib.cell_of_heap HYA.out]; rfl
          have HN6 : Hid (NmAt w6 w.heap.size (L1 ++ [⟨ya, yn⟩])) := hn6
          have HG6 : Hid (Below w.heap.size w w6) := HBA.out.grown ⟨hg6.os, hg6.tape, hg6.output, hg6.size, hg6.block⟩ HBA.out.size (fun j e => by cases e; exact Nat.le_refl _)
          have HX6 : Hid (w6.heap[w.heap.size + 1]? = some (.cells #[.map (some w.heap.size)] 111)) := (hg6.block _ (Array.getElem?_eq_some_iff.1 HXA.out).1 (fun e => by injection e; omega)).trans HXA.out
          have hcw : IntKind.i64.wrap ((L1.count ⟨ya, yn⟩ : Int) + 1) = (L1.count ⟨ya, yn⟩ : Int) + 1 := by
            have : L1.count ⟨ya, yn⟩ ≤ L1.length := List.count_le_length
            simp [IntKind.wrap, IntKind.bits, IntKind.signed]
            omega
          clear hnd hn6 hg6 HNA HBA HXA HYA
          generalize (L1.count ⟨ya, yn⟩ : Int) = cc at *
          go_region
          all_goals (
            go_wp2_with fail
            go_roundw
            case rel => exact ⟨m + 1, hmt, by go_num, by rw [HTM.out]; exact HN6.out, HX6.out, HG6.out⟩
            case measure => simp [intOf]; omega)
        · have hdd : decide (m < ps.length) = false := decide_eq_false hmt
          obtain rfl : m = ps.length := by omega
          have HNE : Hid (NmAt wr w.heap.size ((q.take (k + 1)).flatMap (fun x => x.u.ps))) := by
            have h9 := HN.out
            rw [List.take_length, ← HFT.out] at h9
            exact h9
          clear HN
          go_wp2_with fail
          go_roundw
          case rel => exact ⟨k + 1, hlt, by go_num, HNE.out, HX.out, hbw⟩
          case measure => simp [intOf]; omega
    · have hdd : decide (k < q.length) = false := decide_eq_false hlt
      obtain rfl : k = q.length := by omega
      have hne := HN.out
      rw [List.take_length] at hne
      have HNE : Hid (NmAt wr w.heap.size (q.flatMap (fun x => x.u.ps))) := hne
      have HCL : Hid (Calls Tryz.prog 80 #[.slice ao q.length cap] wr fun e w' => ∃ v', e = .returned v' ∧ URow w' wr.heap.size v' q ∧ Below wr.heap.size wr w') := cloneUps_any q _ wr (HV.out.kc (Kc.below hbw)) (fun x hx => (HO.out x hx).1.below hbw) hl
      have HBW : Hid (Below w.heap.size w wr) := hbw
      clear hne HN hbw
      go_wp2_with fail
      refine Calls.mono HCL.out ?_
      rintro e w7 ⟨v7, rfl, hr7, hb7⟩
      have HDD : Hid (Calls Tryz.prog 79 #[v7, .func (.func 81) #[] #[.pointer (some ⟨w.heap.size + 1, 0, none⟩)]] w7 fun e w' => ∃ v', e = .returned v' ∧ URow w' wr.heap.size v' (keepU (fun u => decide (0 < (q.flatMap (fun x => x.u.ps)).count u.id)) q) ∧ Below wr.heap.size wr w') :=
        delete_any (w.heap.size + 1) _ q v7 wr w7 hb7 hr7 hl (fun x hx => (HO.out x hx).1.below HBW.out) (fun z x hz hx => named1_any w.heap.size (w.heap.size + 1) _ x z w (HNE.out.below hz) (by rw [Lib.cell_of_heap ((hz.block _ (Array.getElem?_eq_some_iff.1 HX.out).1).trans HX.out)]; rfl) (HO.out x hx).1 (HO.out x hx).2.id)
      obtain ⟨a7, c7, rfl⟩ := own_slice hr7
      clear hr7 hb7 HCL
      go_wp2_with fail
      refine Calls.mono HDD.out ?_
      rintro e w8 ⟨v8, rfl, hr8, hb8⟩
      obtain ⟨qk, HKK⟩ : ∃ qk, Hid (keepU (fun u => decide (0 < (q.flatMap (fun x => x.u.ps)).count u.id)) q = qk) := ⟨_, rfl⟩
      rw [HKK.out] at hr8
      obtain ⟨a8, c8, rfl⟩ := own_slice hr8
      have HR8 : Hid (URow w8 w.heap.size (.slice a8 qk.length c8) qk) := rl_own_le (base' := w.heap.size) hr8 HBW.out.size
      have HB8 : Hid (Below w.heap.size w w8) := HBW.out.trans (hb8.mono HBW.out.size)
      clear hr8 hb8 HDD
      go_wp2_with fail
      go_ret
      exact ⟨_, rfl, by rw [HKK.out]; exact HR8.out, HB8.out⟩

set_option maxRecDepth 100000 in
set_option maxHeartbeats 1000000 in
theorem namesT_any (x : Uv) (w w0 : World) (hx : UvOk w0 x) : Calls Tryz.prog 38 #[uvVal x] w fun e w' => e = .returned x.t ∧ Below w.heap.size w w' := by
  obtain ⟨a1, n1, d1, a2, n2, d2, a3, n3, d3, e1, e2, e3⟩ := hx.forms
  obtain ⟨⟨⟨ua, un⟩, ps, says, ts⟩, vp, vs, vt⟩ := x
  dsimp only at *
  subst e1 e2 e3
  have HB1 : Hid (Below w.heap.size w (w.alloc (.cells #[.int .i64 ua, .int .i64 un, .slice a1 n1 d1, .slice a2 n2 d2, .slice a3 n3 d3] 30))) := (Below.refl _ _).alloc (Nat.le_refl _) _
  clear hx
  go_enter Tryz.func38, Tryz.ntmps38
  go_wp2_with fail
  go_ret
  exact ⟨rfl, HB1.out⟩
set_option maxRecDepth 100000 in
set_option maxHeartbeats 4000000 in
theorem unnamedT_any (q : List Uv) (v : Value) (w : World) (hV : UpsV w v q) (hl : q.length ≤ 1000) (hok : ∀ x, x ∈ q → UvOk w x) (hid : ∀ x, x ∈ q → IdsOk x.u) :
    Calls Tryz.prog 36 #[v, .func (.func 38) #[] #[]] w fun e w' => ∃ v', e = .returned v' ∧ URow w' w.heap.size v' (keepU (fun u => decide (0 < (q.flatMap (fun x => x.u.ts)).count u.id)) q) ∧ Below w.heap.size w w' := by
  have HO : Hid (∀ x, x ∈ q → UvOk w x ∧ IdsOk x.u) := fun x hx => ⟨hok x hx, hid x hx⟩
  have HV : Hid (UpsV w v q) := hV
  have HLF : Hid (∀ k, ((q.take k).flatMap (fun x => x.u.ts)).length ≤ k * 6) := flat_len (fun x hx => (hid x hx).lt)
  obtain ⟨ao, cap, rfl, _, hA⟩ := hV
  have HA : Hid (UpsAt w ao q) := hA
  clear hok hid hA
  have hmm := @run_makeMap Tryz.prog
  have hbm : Below w.heap.size w ((w.alloc (.map #[] 0)).alloc (.cells #[.map (some w.heap.size)] 111)) := ((Below.refl _ _).alloc (Nat.le_refl _) _).alloc (by simp) _
  have hs2 : ((w.alloc (.map #[] 0)).alloc (.cells #[.map (some w.heap.size)] 111)).heap.size = w.heap.size + 2 := by simp
  have hx2 : ((w.alloc (.map #[] 0)).alloc (.cells #[.map (some w.heap.size)] 111)).heap[w.heap.size + 1]? = some (.cells #[.map (some w.heap.size)] 111) := by
    have := rl_new (w.alloc (.map #[] 0)) (.cells #[.map (some w.heap.size)] 111)
    rw [World.size_alloc] at this
    exact this
  have hn2 : NmAt ((w.alloc (.map #[] 0)).alloc (.cells #[.map (some w.heap.size)] 111)) w.heap.size [] := (nmAt_made w).below ((Below.refl _ _).alloc (Nat.le_refl _) _)
  go_enter Tryz.func36, Tryz.ntmps36
  go_upto_region 2 with fail
  generalize (w.alloc (.map #[] 0)).alloc (.cells #[.map (some w.heap.size)] 111) = w2 at *
  go_wp2_with fail
  clear hmm
  go_loopw [13] (fun iv wr => ∃ k : Nat, k ≤ q.length ∧ iv = .int .i64 k ∧ Hid (NmAt wr w.heap.size ((q.take k).flatMap (fun x => x.u.ts))) ∧ Hid (wr.heap[w.heap.size + 1]? = some (.cells #[.map (some w.heap.size)] 111)) ∧ Below w.heap.size w wr) (fun iv _ => q.length - (intOf iv).toNat)
  case atStart => exact ⟨0, Nat.zero_le _, rfl, hn2, hx2, hbm⟩
  case round =>
    clear hn2 hx2 hbm hs2
    obtain ⟨k, hk, rfl, HN, HX, hbw⟩ := hrel
    by_cases hlt : k < q.length
    · obtain ⟨b, off, rfl, c0, c1, c2, c3, c4⟩ := ups_at (HA.out.kc (Kc.below hbw)) k hlt
      have hmem := uvD_mem q k hlt
      have hxo := HO.out _ hmem
      have HFT : Hid ((q.take (k + 1)).flatMap (fun x => x.u.ts) = (q.take k).flatMap (fun x => x.u.ts) ++ (uvD q k).u.ts) := flatMap_take (fun x : Uv => x.u.ts) q k _ (uvD_take q k hlt)
      have hlen := HLF.out k
      generalize (q.take k).flatMap (fun x => x.u.ts) = L0 at *
      have HNM : Hid (∀ z, Calls Tryz.prog 38 #[uvVal (uvD q k)] z fun e w' => e = .returned (uvD q k).t ∧ Below z.heap.size z w') := fun z => namesT_any _ z w hxo.1
      have HIV : Hid (IdsV w (uvD q k).t (uvD q k).u.ts) := hxo.1.t
      have HII : Hid (∀ y, y ∈ (uvD q k).u.ts → Wr.isId y = true) := hxo.2.ts
      have hl6 : (uvD q k).u.ts.length ≤ 6 := hxo.2.lt
      obtain ⟨a1, n1, d1, a2, n2, d2, a3, n3, d3, e1, e2, e3⟩ := hxo.1.forms
      obtain ⟨ia, ic, hie, _, _⟩ := hxo.1.t
      clear hxo hmem
      generalize uvD q k = x at *
      obtain ⟨⟨⟨ua, un⟩, ps, says, ts⟩, vp, vs, vt⟩ := x
      dsimp only at *
      subst e1 e2 e3
      injection hie with hie1 hie2 hie3
      subst hie1 hie2 hie3
      have HB1 : Hid (Below wr.heap.size wr (wr.alloc (.cells #[.int .i64 ua, .int .i64 un, .slice a1 n1 d1, .slice a2 n2 d2, .slice a3 ts.length d3] 30))) := (Below.refl _ _).alloc (Nat.le_refl _) _
      go_upto_region 6 with (go_at_call 38; refine Calls.mono (HNM.out _) ?_; rintro e w3 ⟨rfl, hb3⟩)
      have hb13 := HB1.out.trans (hb3.mono HB1.out.size)
      have hbw3 := hbw.trans (hb13.mono hbw.size)
      have HN3 : Hid (NmAt w3 w.heap.size L0) := HN.out.below hb13
      have HX3 : Hid (w3.heap[w.heap.size + 1]? = some (.cells #[.map (some w.heap.size)] 111)) := (hb13.block _ (Array.getElem?_eq_some_iff.1 HX.out).1).trans HX.out
      clear HN HX c0 c1 c2 c3 c4 HB1 hb3 hb13 hbw HNM
      go_loopw [21] (fun iv wr => ∃ m : Nat, m ≤ ts.length ∧ iv = .int .i64 m ∧ Hid (NmAt wr w.heap.size (L0 ++ ts.take m)) ∧ Hid (wr.heap[w.heap.size + 1]? = some (.cells #[.map (some w.heap.size)] 111)) ∧ Below w.heap.size w wr) (fun iv _ => ts.length - (intOf iv).toNat)
      case atStart => exact ⟨0, Nat.zero_le _, rfl, by rw [List.take_zero, List.append_nil]; exact HN3.out, HX3.out, hbw3⟩
      case round =>
        clear HN3 HX3 hbw3
        obtain ⟨m, hm, rfl, HN, HX, hbw⟩ := hrel
        by_cases hmt : m < ts.length
        · obtain ⟨_, _, e9, _, hA9⟩ := idsV_below HIV.out hbw
          cases e9
          obtain ⟨b9, off9, rfl, c0, c1⟩ := ids_at hA9 m hmt
          have hyi := HII.out (idD ts m) (by simp [idD, hmt])
          have HTM : Hid (L0 ++ ts.take (m + 1) = (L0 ++ ts.take m) ++ [idD ts m]) := by
            show _ = _
            rw [ids_take hmt, List.append_assoc]
          have hlm : (L0 ++ ts.take m).length ≤ 1000000 := by rw [List.length_append, List.length_take]; omega
          generalize L0 ++ ts.take m = L1 at *
          generalize idD ts m = y at *
          obtain ⟨ya, yn⟩ := y
          dsimp only at c0 c1
          have hbA : Below wr.heap.size wr (wr.alloc (.cells #[.int .i64 ya, .int .i64 yn] 26)) := (Below.refl _ _).alloc (Nat.le_refl _) _
          have hsw := hbw.size
          have HBA : Hid (Below w.heap.size w (wr.alloc (.cells #[.int .i64 ya, .int .i64 yn] 26))) := hbw.alloc hsw _
          have HNA : Hid (NmAt (wr.alloc (.cells #[.int .i64 ya, .int .i64 yn] 26)) w.heap.size L1) := HN.out.below hbA
          have HXA : Hid ((wr.alloc (.cells #[.int .i64 ya, .int .i64 yn] 26)).heap[w.heap.size + 1]? = some (.cells #[.map (some w.heap.size)] 111)) := (hbA.block _ (Array.getElem?_eq_some_iff.1 HX.out).1).trans HX.out
          have HYA : Hid ((wr.alloc (.cells #[.int .i64 ya, .int .i64 yn] 26)).heap[wr.heap.size]? = some (.cells #[.int .i64 ya, .int .i64 yn] 26)) := rl_new wr _
          go_upto_region 8 with fail
          generalize wr.heap.size = yb at *
          generalize wr.alloc (.cells #[.int .i64 ya, .int .i64 yn] 26) = w4 at *
          clear c0 c1 HN HX hbw hbA hsw
          have hnd : NmAt w4.drew w.heap.size L1 := HNA.out.below ⟨rfl, rfl, rfl, Nat.le_refl _, fun _ _ => rfl⟩
          have hlk := hnd.look hyi
          obtain ⟨v0, st, w5, w6, hen, hlk2, hst, hn6, hg6⟩ := hnd.inc hlm hyi
          have d0 : w4.drew.cell? ⟨w.heap.size + 1, 0, none⟩ = some (.map (some w.heap.size)) := by show w4.cell? _ = _; rw [Lib.cell_of_heap HXA.out]; rfl
          have d1' : w4.drew.cell? ⟨yb, 0, none⟩ = some (.int .i64 ya) := by show w4.cell? _ = _; rw [Lib.cell_of_heap HYA.out]; rfl
          have d2' : w4.drew.cell? ⟨yb, 1, none⟩ = some (.int .i64 yn) := by show w4.cell? _ = _; rw [Lib.cell_of_heap HYA.out]; rfl
          have HN6 : Hid (NmAt w6 w.heap.size (L1 ++ [⟨ya, yn⟩])) := hn6
          have HG6 : Hid (Below w.heap.size w w6) := HBA.out.grown ⟨hg6.os, hg6.tape, hg6.output, hg6.size, hg6.block⟩ HBA.out.size (fun j e => by cases e; exact Nat.le_refl _)
          have HX6 : Hid (w6.heap[w.heap.size + 1]? = some (.cells #[.map (some w.heap.size)] 111)) := (hg6.block _ (Array.getElem?_eq_some_iff.1 HXA.out).1 (fun e => by injection e; omega)).trans HXA.out
          have hcw : IntKind.i64.wrap ((L1.count ⟨ya, yn⟩ : Int) + 1) = (L1.count ⟨ya, yn⟩ : Int) + 1 := by
            have : L1.count ⟨ya, yn⟩ ≤ L1.length := List.count_le_length
            simp [IntKind.wrap, IntKind.bits, IntKind.signed]
            omega
          clear hnd hn6 hg6 HNA HBA HXA HYA
          generalize (L1.count ⟨ya, yn⟩ : Int) = cc at *
          go_region
          all_goals (
            go_wp2_with fail
            go_roundw
            case rel => exact ⟨m + 1, hmt, by go_num, by rw [HTM.out]; exact HN6.out, HX6.out, HG6.out⟩
            case measure => simp [intOf]; omega)
        · have hdd : decide (m < ts.length) = false := decide_eq_false hmt
          obtain rfl : m = ts.length := by omega
          have HNE : Hid (NmAt wr w.heap.size ((q.take (k + 1)).flatMap (fun x => x.u.ts))) := by
            have h9 := HN.out
            rw [List.take_length, ← HFT.out] at h9
            exact h9
          clear HN
          go_wp2_with fail
          go_roundw
          case rel => exact ⟨k + 1, hlt, by go_num, HNE.out, HX.out, hbw⟩
          case measure => simp [intOf]; omega
    · have hdd : decide (k < q.length) = false := decide_eq_false hlt
      obtain rfl : k = q.length := by omega
      have hne := HN.out
      rw [List.take_length] at hne
      have HNE : Hid (NmAt wr w.heap.size (q.flatMap (fun x => x.u.ts))) := hne
      have HCL : Hid (Calls Tryz.prog 80 #[.slice ao q.length cap] wr fun e w' => ∃ v', e = .returned v' ∧ URow w' wr.heap.size v' q ∧ Below wr.heap.size wr w') := cloneUps_any q _ wr (HV.out.kc (Kc.below hbw)) (fun x hx => (HO.out x hx).1.below hbw) hl
      have HBW : Hid (Below w.heap.size w wr) := hbw
      clear hne HN hbw
      go_wp2_with fail
      refine Calls.mono HCL.out ?_
      rintro e w7 ⟨v7, rfl, hr7, hb7⟩
      have HDD : Hid (Calls Tryz.prog 79 #[v7, .func (.func 81) #[] #[.pointer (some ⟨w.heap.size + 1, 0, none⟩)]] w7 fun e w' => ∃ v', e = .returned v' ∧ URow w' wr.heap.size v' (keepU (fun u => decide (0 < (q.flatMap (fun x => x.u.ts)).count u.id)) q) ∧ Below wr.heap.size wr w') :=
        delete_any (w.heap.size + 1) _ q v7 wr w7 hb7 hr7 hl (fun x hx => (HO.out x hx).1.below HBW.out) (fun z x hz hx => named1_any w.heap.size (w.heap.size + 1) _ x z w (HNE.out.below hz) (by rw [Lib.cell_of_heap ((hz.block _ (Array.getElem?_eq_some_iff.1 HX.out).1).trans HX.out)]; rfl) (HO.out x hx).1 (HO.out x hx).2.id)
      obtain ⟨a7, c7, rfl⟩ := own_slice hr7
      clear hr7 hb7 HCL
      go_wp2_with fail
      refine Calls.mono HDD.out ?_
      rintro e w8 ⟨v8, rfl, hr8, hb8⟩
      obtain ⟨qk, HKK⟩ : ∃ qk, Hid (keepU (fun u => decide (0 < (q.flatMap (fun x => x.u.ts)).count u.id)) q = qk) := ⟨_, rfl⟩
      rw [HKK.out] at hr8
      obtain ⟨a8, c8, rfl⟩ := own_slice hr8
      have HR8 : Hid (URow w8 w.heap.size (.slice a8 qk.length c8) qk) := rl_own_le (base' := w.heap.size) hr8 HBW.out.size
      have HB8 : Hid (Below w.heap.size w w8) := HBW.out.trans (hb8.mono HBW.out.size)
      clear hr8 hb8 HDD
      go_wp2_with fail
      go_ret
      exact ⟨_, rfl, by rw [HKK.out]; exact HR8.out, HB8.out⟩
end Go.Proofs.YtmfaodapofamfaaGreat

/- Package dag: Heads and Facts. -/
namespace Go.Proofs.YtmfaodapofamfaaGreat
open Go.RowKit Go.Maps

namespace Dg
/-- Is it named by one of them? -/
def named (f : Wr.Up → List Wr.Id) (h : List Wr.Up) (u : Wr.Up) : Bool := h.any fun v => Wr.has (f v) u.id
def free (f : Wr.Up → List Wr.Id) (h : List Wr.Up) : List Wr.Up := h.filter fun u => !named f h u
def heads (h : List Wr.Up) : List Wr.Id := (free Wr.Up.ps h).map Wr.Up.id
def said (h : List Wr.Up) : List Rl.Fc := (free Wr.Up.ts h).flatMap Wr.Up.says
/-- Something, if nothing is wrong. -/
def ifOk {α : Type} (e : Int) (l : List α) : List α := if e = 0 then l else []
theorem ifOk_ok {α : Type} {e : Int} (h : e = 0) (l : List α) : ifOk e l = l := if_pos h
theorem ifOk_no {α : Type} {e : Int} (h : ¬ e = 0) (l : List α) : ifOk e l = [] := if_neg h
def facts (h : List Wr.Up) : List Rl.Fc := Rl.set (said h)
end Dg
theorem named_count (f : Wr.Up → List Wr.Id) (q : List Uv) (u : Wr.Up) : decide (0 < (q.flatMap (fun x => f x.u)).count u.id) = Dg.named f (ups q) u := by
  have h : (0 < (q.flatMap (fun x => f x.u)).count u.id) ↔ Dg.named f (ups q) u = true := by
    rw [List.count_pos_iff]
    unfold Dg.named ups
    rw [List.mem_flatMap, List.any_map, List.any_eq_true]
    constructor
    · rintro ⟨x, hx, h⟩
      exact ⟨x, hx, by unfold Wr.has; simpa using h⟩
    · rintro ⟨x, hx, h⟩
      exact ⟨x, hx, by unfold Wr.has at h; simpa using h⟩
  cases hb : Dg.named f (ups q) u with
  | true => exact decide_eq_true (h.mpr hb)
  | false => exact decide_eq_false (fun e => by rw [h.mp e] at hb; cases hb)
theorem ups_keep (P : Wr.Up → Bool) (q : List Uv) : ups (keepU P q) = (ups q).filter (fun u => !P u) := by
  unfold ups keepU
  rw [List.filter_map]
  rfl
theorem ups_free (f : Wr.Up → List Wr.Id) (q : List Uv) : ups (keepU (fun u => decide (0 < (q.flatMap (fun x => f x.u)).count u.id)) q) = Dg.free f (ups q) := by
  rw [ups_keep]
  unfold Dg.free
  congr 1
  funext u
  rw [named_count f q u]
theorem keepU_mem {P : Wr.Up → Bool} {q : List Uv} {x : Uv} (h : x ∈ keepU P q) : x ∈ q := (List.mem_filter.mp h).1

set_option maxRecDepth 100000 in
set_option maxHeartbeats 4000000 in
theorem Heads_any (hq wq : List Uv) (hv wv : Value) (w : World) (hV : UpsV w hv hq) (wV : UpsV w wv wq) (hl : hq.length ≤ 4611686018427387903 ∧ wq.length ≤ 4611686018427387903) (hok : ∀ x, x ∈ hq ++ wq → UvOk w x) :
    Calls Tryz.prog 7 #[repVal hv wv] w fun e w' => ∃ v', e = .returned (.tuple #[v', .int .i64 (Dg.check (ups hq) (ups wq))]) ∧ IdsV w' v' (Dg.ifOk (Dg.check (ups hq) (ups wq)) (Dg.heads (ups hq))) ∧ Below w.heap.size w w' := by
  obtain ⟨i0, hi, hz0, hz1, hz2⟩ := info_parts id_info
  have HO : Hid (∀ x, x ∈ hq ++ wq → UvOk w x) := hok
  have HHV : Hid (UpsV w hv hq) := hV
  have HCK0 : Hid (∀ z, Below w.heap.size w z → Calls Tryz.prog 15 #[repVal hv wv] z fun e w' => e = .returned (.int .i64 (Dg.check (ups hq) (ups wq))) ∧ Below z.heap.size z w') := fun z hz => DCheck_any hq wq _ _ z (hV.kc (Kc.below hz)) (wV.kc (Kc.below hz)) hl (fun x hx => (hok x hx).below hz)
  obtain ⟨ah, ch, rfl, _, _⟩ := hV
  obtain ⟨aw, cw, rfl, _, _⟩ := wV
  clear hok
  have HB1 : Hid (Below w.heap.size w (w.alloc (.cells #[.slice ah hq.length ch, .slice aw wq.length cw] 24))) := (Below.refl _ _).alloc (Nat.le_refl _) _
  have HH1 : Hid ((w.alloc (.cells #[.slice ah hq.length ch, .slice aw wq.length cw] 24)).heap[w.heap.size]? = some (.cells #[.slice ah hq.length ch, .slice aw wq.length cw] 24)) := rl_new w _
  go_enter Tryz.func7, Tryz.ntmps7
  go_upto_region 1 with fail
  generalize w.alloc (.cells #[.slice ah hq.length ch, .slice aw wq.length cw] 24) = w1 at *
  have HF : Hid (∀ z, Below w1.heap.size w1 z → z.cell? ⟨w.heap.size, 0, none⟩ = some (.slice ah hq.length ch) ∧ z.cell? ⟨w.heap.size, 1, none⟩ = some (.slice aw wq.length cw)) := fun z hz => by
    have hh1 := (hz.block _ (Array.getElem?_eq_some_iff.1 HH1.out).1).trans HH1.out
    exact ⟨by rw [Lib.cell_of_heap hh1]; rfl, by rw [Lib.cell_of_heap hh1]; rfl⟩
  obtain ⟨c0, c1⟩ := HF.out w1 (Below.refl _ _)
  go_upto_region 2 with (go_at_call 15; refine Calls.mono (HCK0.out _ HB1.out) ?_; rintro e w2 ⟨rfl, hb2⟩)
  have HG2 : Hid (Below w.heap.size w w2) := HB1.out.trans (hb2.mono HB1.out.size)
  clear c0 c1 HCK0
  obtain ⟨c0, c1⟩ := HF.out w2 hb2
  clear hb2
  by_cases hck : Dg.check (ups hq) (ups wq) = 0
  rotate_left
  · have hne : (Dg.check (ups hq) (ups wq) != 0) = true := by simpa using hck
    go_wp2_with fail
    go_ret2
    exact ⟨_, rfl, by rw [Dg.ifOk_no hck]; exact ⟨none, 0, rfl, ⟨Nat.le_refl _, fun _ => rfl⟩, .inl rfl⟩, HG2.out⟩
  have HCK : Hid (Dg.check (ups hq) (ups wq) = 0) := hck
  have HOKR : Hid (Dg.Ok (ups hq) (ups wq)) := Dg.check_ok.mp hck
  rw [hck]
  clear hck
  have hfew : hq.length ≤ 200 := by have := HOKR.out.few; rw [ups_length, ups_length] at this; omega
  have HID : Hid (∀ x, x ∈ hq → UvOk w x ∧ Wr.check x.u = 0) := fun x hx => ⟨HO.out x (List.mem_append_left _ hx), HOKR.out.each x.u (List.mem_append_left _ (List.mem_map.mpr ⟨x, hx, rfl⟩))⟩
  have HUN : Hid (Calls Tryz.prog 36 #[.slice ah hq.length ch, .func (.func 37) #[] #[]] w2 fun e w' => ∃ v', e = .returned v' ∧ URow w' w2.heap.size v' (keepU (fun u => decide (0 < (hq.flatMap (fun x => x.u.ps)).count u.id)) hq) ∧ Below w2.heap.size w2 w') := unnamedP_any hq _ w2 (HHV.out.kc (Kc.below HG2.out)) (by omega) (fun x hx => (HID.out x hx).1.below HG2.out) (fun x hx => idsOk_of (HID.out x hx).2)
  have HUF : Hid (ups (keepU (fun u => decide (0 < (hq.flatMap (fun x => x.u.ps)).count u.id)) hq) = Dg.free Wr.Up.ps (ups hq)) := ups_free Wr.Up.ps hq
  have HKM : Hid (∀ x, x ∈ keepU (fun u => decide (0 < (hq.flatMap (fun x => x.u.ps)).count u.id)) hq → x ∈ hq) := fun x hx => keepU_mem hx
  have HKL : Hid ((keepU (fun u => decide (0 < (hq.flatMap (fun x => x.u.ps)).count u.id)) hq).length ≤ 200) := Nat.le_trans (keepU_len _ _) hfew
  generalize keepU (fun u => decide (0 < (hq.flatMap (fun x => x.u.ps)).count u.id)) hq = q at *
  go_upto_region 6 with (go_at_call 36; refine Calls.mono HUN.out ?_; rintro e w3 ⟨v3, rfl, hr3, hb3⟩; obtain ⟨a3, k3, rfl⟩ := own_slice hr3)
  have HR3 : Hid (UpsV w3 (.slice a3 q.length k3) q) := own_ups hr3
  have HG3 : Hid (Below w.heap.size w w3) := HG2.out.trans (hb3.mono HG2.out.size)
  have hql : q.length ≤ 200 := HKL.out
  clear hr3 hb3 HUN c0 c1
  go_loopw [5, 17] (fun vs iv wr => ∃ k : Nat, k ≤ q.length ∧ iv = .int .i64 k ∧ wr.ownsRow w3.heap.size 26 2 vs k (((ups (q.take k)).map Wr.Up.id).map idCells).flatten ∧ Below w3.heap.size w3 wr) (fun _ iv _ => q.length - (intOf iv).toNat)
  case atStart => exact ⟨0, Nat.zero_le _, rfl, World.ownsRow_nil _ _ _ _, Below.refl _ _⟩
  case round =>
    obtain ⟨k, hk, rfl, ho, hbw⟩ := hrel
    obtain ⟨av, cv, rfl⟩ := own_slice ho
    have hsz := hbw.size
    by_cases hlt : k < q.length
    · obtain ⟨_, _, e9, _, hA9⟩ := HR3.out.kc (Kc.below hbw)
      cases e9
      obtain ⟨b, off, rfl, c0, c1, c2, c3, c4⟩ := ups_at hA9 k hlt
      have hx := (HID.out _ (HKM.out _ (uvD_mem q k hlt))).1
      have HTK : Hid ((((ups (q.take (k + 1))).map Wr.Up.id).map idCells).flatten = (((ups (q.take k)).map Wr.Up.id).map idCells).flatten ++ idCells (uvD q k).u.id) := by
        show _ = _
        rw [uvD_take q k hlt, ups_append, List.map_append, List.map_append, List.flatten_append]
        simp [ups]
      obtain ⟨a1, n1, d1, a2, n2, d2, a4, n4, d4, e1, e2, e3⟩ := hx.forms
      generalize uvD q k = x at *
      obtain ⟨⟨⟨ua, un⟩, ps, says, ts⟩, vp, vs, vt⟩ := x
      dsimp only at *
      subst e1 e2 e3
      generalize (((ups (q.take k)).map Wr.Up.id).map idCells).flatten = X0 at *
      clear hA9 hx
      have HBN : Hid (Below w3.heap.size w3 (wr.alloc (.cells #[.int .i64 ua, .int .i64 un, .slice a1 n1 d1, .slice a2 n2 d2, .slice a4 n4 d4] 30))) := hbw.alloc hsz _
      have ho2 := ho.alloc (.cells #[.int .i64 ua, .int .i64 un, .slice a1 n1 d1, .slice a2 n2 d2, .slice a4 n4 d4] 30)
      clear ho
      go_upto_region 8 with fail
      have HCX : Hid ((wr.alloc (.cells #[.int .i64 ua, .int .i64 un, .slice a1 n1 d1, .slice a2 n2 d2, .slice a4 n4 d4] 30)).heap[wr.heap.size]? = some (.cells #[.int .i64 ua, .int .i64 un, .slice a1 n1 d1, .slice a2 n2 d2, .slice a4 n4 d4] 30)) := rl_new wr _
      generalize wr.alloc (.cells #[.int .i64 ua, .int .i64 un, .slice a1 n1 d1, .slice a2 n2 d2, .slice a4 n4 d4] 30) = w5 at *
      have x0 : w5.cell? ⟨wr.heap.size, 0, none⟩ = some (.int .i64 ua) := by rw [Lib.cell_of_heap HCX.out]; rfl
      have x1 : w5.cell? ⟨wr.heap.size, 1, none⟩ = some (.int .i64 un) := by rw [Lib.cell_of_heap HCX.out]; rfl
      have hs5 := HBN.out.size
      clear c0 c1 c2 c3 c4
      go_wp2_with (at_builtin; refine wpList_append_own _ rfl _ _ 27 rfl w3.heap.size 26 i0 _ 2 16 Tryz.underlying27 hi hz0 hz1 hz2 rfl (by decide) _ _ _ rfl (ho2.alloc _) ⟨w5.heap.size, 0, none⟩ 1 1 (idCells ⟨ua, un⟩) rfl rfl (news2 w5 _ _ 26) (by intro u hu; simp at hu; rcases hu with rfl | rfl <;> rfl) (by unfold maxLen; omega) (by omega) (by simp; omega) ?_; intro v6 w6 hown6 hgrow6 _; obtain ⟨a6, c6, rfl⟩ := own_slice hown6)
      have HO6 : Hid (w6.ownsRow w3.heap.size 26 2 (.slice a6 (k + 1) c6) (k + 1) (((ups (q.take (k + 1))).map Wr.Up.id).map idCells).flatten) := by
        show World.ownsRow _ _ _ _ _ _ _
        rw [HTK.out]
        exact hown6
      have HB6 : Hid (Below w3.heap.size w3 w6) := (HBN.out.alloc hs5 _).grown hgrow6 (by simp; omega) (fun j hj => (ho2.lt j hj).1)
      clear hown6 hgrow6 ho2 HTK
      go_roundw
      case rel => exact ⟨k + 1, hlt, by go_num, HO6.out, HB6.out⟩
      case measure => simp [intOf]; omega
    · have hdd : decide (k < q.length) = false := decide_eq_false hlt
      obtain rfl : k = q.length := by omega
      have HE : Hid (IdsV wr (.slice av q.length cv) (Dg.heads (ups hq))) := by
        have e : Dg.heads (ups hq) = (ups q).map Wr.Up.id := by unfold Dg.heads; rw [HUF.out]
        have el : ((ups q).map Wr.Up.id).length = q.length := by rw [List.length_map, ups_length]
        have h9 := ho
        rw [List.take_length, ← el] at h9
        show IdsV _ _ _
        rw [e, ← el]
        exact own_ids h9
      have HBE : Hid (Below w.heap.size w wr) := HG3.out.trans (hbw.mono HG3.out.size)
      clear ho hbw
      go_wp2_with fail
      go_ret2
      exact ⟨_, by rw [HCK.out]; rfl, by rw [Dg.ifOk_ok HCK.out]; exact HE.out, HBE.out⟩
end Go.Proofs.YtmfaodapofamfaaGreat

/- What dagBegun asks, plain. -/
namespace Go.Proofs.YtmfaodapofamfaaGreat
namespace Dg
open Wr
theorem beg_mem {u a b : Up} : u ∈ [a, b] ↔ u = a ∨ u = b := by simp
theorem beg1 {h w : List Up} (hi : Is (more ([] ++ []) secondU) h w) : h = [] ∧ w = [secondU] := by
  have he : more ([] ++ []) secondU = [secondU] := rfl
  rw [he] at hi
  have hno : ¬ Cm [secondU] ⟨0, 1⟩ := fun h => absurd h.has (by decide)
  have hns : ¬ Cm [secondU] secondU.id := fun h => hno (Cm.under (apart_of_nodup (by decide)) (by simp) h ⟨0, 1⟩ (by decide))
  refine hi.one ⟨⟨fun u => ?_, fun u => ?_⟩, rfl, rfl⟩
  · constructor
    · intro hu; cases hu
    · rintro ⟨hu, hc⟩
      rw [List.mem_singleton.mp hu] at hc
      exact absurd hc hns
  · constructor
    · intro hu
      refine ⟨hu, ?_⟩
      rw [List.mem_singleton.mp hu]
      exact hns
    · intro hu
      exact hu.1
theorem beg2 {h w : List Up} (hi : Is (more ([] ++ [secondU]) firstU) h w) : h = [firstU, secondU] ∧ w = [] := by
  have he : more ([] ++ [secondU]) firstU = [secondU, firstU] := rfl
  rw [he] at hi
  have h1 : Cm [secondU, firstU] firstU.id := .mk firstU (by simp) (fun x hx => by cases hx)
  have h2 : Cm [secondU, firstU] secondU.id := .mk secondU (by simp) (fun x hx => by
    have hx2 : x = ⟨0, 1⟩ := by simpa [under, secondU] using hx
    rw [hx2]
    exact h1)
  have hall : ∀ u, u ∈ [secondU, firstU] → Cm [secondU, firstU] u.id := fun u hu => by
    rcases beg_mem.mp hu with rfl | rfl
    · exact h2
    · exact h1
  refine hi.one ⟨⟨fun u => ?_, fun u => ?_⟩, by decide, rfl⟩
  · rw [beg_mem]
    constructor
    · intro hu
      have hm : u ∈ [secondU, firstU] := beg_mem.mpr hu.symm
      exact ⟨hm, hall u hm⟩
    · intro hu
      exact (beg_mem.mp hu.1).symm
  · constructor
    · intro hu; cases hu
    · intro hu
      exact absurd (hall u hu.1) hu.2
theorem beg_heads : heads [firstU, secondU] = [⟨1, 1⟩] := by decide
theorem beg_facts : facts [firstU, secondU] = [⟨0, [4, 5]⟩] := by
  have h : said [firstU, secondU] = [⟨0, [4, 5]⟩] := by rfl
  unfold facts
  rw [h]
  rfl
theorem beg_c1 : Wr.check firstU = 0 := by decide
theorem beg_c2 : Wr.check secondU = 0 := by decide
theorem beg_ok0 : Ok [] [] := ⟨by decide, (fun u hu => by cases hu), rfl, rfl, (fun u hu => by cases hu), ⟨fun u => ⟨(fun h => by cases h), (fun h => by cases h.1)⟩, fun u => ⟨(fun h => by cases h), (fun h => by cases h.1)⟩⟩⟩
end Dg
end Go.Proofs.YtmfaodapofamfaaGreat

/- Package dag: Facts. -/
namespace Go.Proofs.YtmfaodapofamfaaGreat
open Go.RowKit Go.Maps

set_option maxRecDepth 100000 in
set_option maxHeartbeats 4000000 in
theorem Facts_any (hq wq : List Uv) (hv wv : Value) (w : World) (hV : UpsV w hv hq) (wV : UpsV w wv wq) (hl : hq.length ≤ 4611686018427387903 ∧ wq.length ≤ 4611686018427387903) (hok : ∀ x, x ∈ hq ++ wq → UvOk w x) :
    Calls Tryz.prog 8 #[repVal hv wv] w fun e w' => ∃ v', e = .returned (.tuple #[v', .int .i64 (Dg.check (ups hq) (ups wq))]) ∧ FactsV w' v' (Dg.ifOk (Dg.check (ups hq) (ups wq)) (Dg.facts (ups hq))) ∧ Below w.heap.size w w' := by
  have HO : Hid (∀ x, x ∈ hq ++ wq → UvOk w x) := hok
  have HHV : Hid (UpsV w hv hq) := hV
  have HCK0 : Hid (∀ z, Below w.heap.size w z → Calls Tryz.prog 15 #[repVal hv wv] z fun e w' => e = .returned (.int .i64 (Dg.check (ups hq) (ups wq))) ∧ Below z.heap.size z w') := fun z hz => DCheck_any hq wq _ _ z (hV.kc (Kc.below hz)) (wV.kc (Kc.below hz)) hl (fun x hx => (hok x hx).below hz)
  obtain ⟨ah, ch, rfl, _, _⟩ := hV
  obtain ⟨aw, cw, rfl, _, _⟩ := wV
  clear hok
  have HB1 : Hid (Below w.heap.size w (w.alloc (.cells #[.slice ah hq.length ch, .slice aw wq.length cw] 24))) := (Below.refl _ _).alloc (Nat.le_refl _) _
  have HH1 : Hid ((w.alloc (.cells #[.slice ah hq.length ch, .slice aw wq.length cw] 24)).heap[w.heap.size]? = some (.cells #[.slice ah hq.length ch, .slice aw wq.length cw] 24)) := rl_new w _
  go_enter Tryz.func8, Tryz.ntmps8
  go_upto_region 1 with fail
  generalize w.alloc (.cells #[.slice ah hq.length ch, .slice aw wq.length cw] 24) = w1 at *
  have HF : Hid (∀ z, Below w1.heap.size w1 z → z.cell? ⟨w.heap.size, 0, none⟩ = some (.slice ah hq.length ch) ∧ z.cell? ⟨w.heap.size, 1, none⟩ = some (.slice aw wq.length cw)) := fun z hz => by
    have hh1 := (hz.block _ (Array.getElem?_eq_some_iff.1 HH1.out).1).trans HH1.out
    exact ⟨by rw [Lib.cell_of_heap hh1]; rfl, by rw [Lib.cell_of_heap hh1]; rfl⟩
  obtain ⟨c0, c1⟩ := HF.out w1 (Below.refl _ _)
  go_upto_region 2 with (go_at_call 15; refine Calls.mono (HCK0.out _ HB1.out) ?_; rintro e w2 ⟨rfl, hb2⟩)
  have HG2 : Hid (Below w.heap.size w w2) := HB1.out.trans (hb2.mono HB1.out.size)
  clear c0 c1 HCK0
  obtain ⟨c0, c1⟩ := HF.out w2 hb2
  clear hb2
  by_cases hck : Dg.check (ups hq) (ups wq) = 0
  rotate_left
  · have hne : (Dg.check (ups hq) (ups wq) != 0) = true := by simpa using hck
    go_wp2_with fail
    go_ret2
    exact ⟨_, rfl, by rw [Dg.ifOk_no hck]; exact ⟨none, 0, rfl, ⟨Nat.le_refl _, fun _ => rfl⟩, .inl rfl⟩, HG2.out⟩
  have HCK : Hid (Dg.check (ups hq) (ups wq) = 0) := hck
  have HOKR : Hid (Dg.Ok (ups hq) (ups wq)) := Dg.check_ok.mp hck
  rw [hck]
  clear hck
  have hfew : hq.length ≤ 200 := by have := HOKR.out.few; rw [ups_length, ups_length] at this; omega
  have HID : Hid (∀ x, x ∈ hq → UvOk w x ∧ Wr.check x.u = 0) := fun x hx => ⟨HO.out x (List.mem_append_left _ hx), HOKR.out.each x.u (List.mem_append_left _ (List.mem_map.mpr ⟨x, hx, rfl⟩))⟩
  have HUN : Hid (Calls Tryz.prog 36 #[.slice ah hq.length ch, .func (.func 38) #[] #[]] w2 fun e w' => ∃ v', e = .returned v' ∧ URow w' w2.heap.size v' (keepU (fun u => decide (0 < (hq.flatMap (fun x => x.u.ts)).count u.id)) hq) ∧ Below w2.heap.size w2 w') := unnamedT_any hq _ w2 (HHV.out.kc (Kc.below HG2.out)) (by omega) (fun x hx => (HID.out x hx).1.below HG2.out) (fun x hx => idsOk_of (HID.out x hx).2)
  have HUF : Hid (ups (keepU (fun u => decide (0 < (hq.flatMap (fun x => x.u.ts)).count u.id)) hq) = Dg.free Wr.Up.ts (ups hq)) := ups_free Wr.Up.ts hq
  have HKM : Hid (∀ x, x ∈ keepU (fun u => decide (0 < (hq.flatMap (fun x => x.u.ts)).count u.id)) hq → x ∈ hq) := fun x hx => keepU_mem hx
  have HKL : Hid ((keepU (fun u => decide (0 < (hq.flatMap (fun x => x.u.ts)).count u.id)) hq).length ≤ 200) := Nat.le_trans (keepU_len _ _) hfew
  generalize keepU (fun u => decide (0 < (hq.flatMap (fun x => x.u.ts)).count u.id)) hq = q at *
  go_upto_region 6 with (go_at_call 36; refine Calls.mono HUN.out ?_; rintro e w3 ⟨v3, rfl, hr3, hb3⟩; obtain ⟨a3, k3, rfl⟩ := own_slice hr3)
  have HR3 : Hid (UpsV w3 (.slice a3 q.length k3) q) := own_ups hr3
  have HG3 : Hid (Below w.heap.size w w3) := HG2.out.trans (hb3.mono HG2.out.size)
  have hql : q.length ≤ 200 := HKL.out
  clear hr3 hb3 HUN c0 c1
  have HSL : Hid (∀ k, ((ups (q.take k)).flatMap Wr.Up.says).length ≤ k * 6) := by
    intro k
    induction k with
    | zero => simp [ups]
    | succ k ih =>
      by_cases hk : k < q.length
      · rw [uvD_take q k hk, ups_append, List.flatMap_append, List.length_append]
        have := (few_of (HID.out _ (HKM.out _ (uvD_mem q k hk))).2).l.2.1
        simp only [ups, List.map_cons, List.map_nil, List.flatMap_cons, List.flatMap_nil, List.append_nil] at ih ⊢
        omega
      · have e : q.take (k + 1) = q.take k := by rw [List.take_of_length_le (by omega), List.take_of_length_le (by omega)]
        rw [e]
        omega
  go_loopw [5, 17] (fun vs iv wr => ∃ (k : Nat) (r : List Fv), k ≤ q.length ∧ iv = .int .i64 k ∧ wr.ownsRow w3.heap.size 84 2 vs r.length (r.map fcCells).flatten ∧ Hid (r.map (·.1) = (ups (q.take k)).flatMap Wr.Up.says) ∧ Hid (∀ p, p ∈ r → FvOk w3 p) ∧ Below w3.heap.size w3 wr) (fun _ iv _ => q.length - (intOf iv).toNat)
  case atStart => exact ⟨0, [], Nat.zero_le _, rfl, World.ownsRow_nil _ _ _ _, rfl, fun p hp => absurd hp (by simp), Below.refl _ _⟩
  case round =>
    obtain ⟨k, r, hk, rfl, ho, HRS, HRO, hbw⟩ := hrel
    obtain ⟨av, cv, rfl⟩ := own_slice ho
    have hsz := hbw.size
    have hrl : r.length ≤ 1200 := by
      have h1 := congrArg List.length HRS.out
      rw [List.length_map] at h1
      have h2 := HSL.out k
      omega
    by_cases hlt : k < q.length
    · obtain ⟨_, _, e9, _, hA9⟩ := HR3.out.kc (Kc.below hbw)
      cases e9
      obtain ⟨b, off, rfl, c0, c1, c2, c3, c4⟩ := ups_at hA9 k hlt
      have hxo := HID.out _ (HKM.out _ (uvD_mem q k hlt))
      have hx := hxo.1.below HG3.out
      have hfw := (few_of hxo.2).l.2.1
      have HTK : Hid ((ups (q.take (k + 1))).flatMap Wr.Up.says = (ups (q.take k)).flatMap Wr.Up.says ++ (uvD q k).u.says) := by
        show _ = _
        rw [uvD_take q k hlt, ups_append, List.flatMap_append]
        simp [ups]
      obtain ⟨a1, n1, d1, a2, n2, d2, a4, n4, d4, e1, e2, e3⟩ := hx.forms
      obtain ⟨sa, sc, hse, hsc, hsA⟩ := hx.s
      have HSA : Hid (FactsAt w3 sa (uvD q k).u.says ∧ (sa = none → sc = 0) ∧ ∀ f, f ∈ (uvD q k).u.says → FFit f) := ⟨hsA, hsc.2, hx.f⟩
      clear hsA hsc hx hxo hA9
      generalize uvD q k = x at *
      obtain ⟨⟨⟨ua, un⟩, ps, says, ts⟩, vp, vs, vt⟩ := x
      dsimp only at *
      subst e1 e2 e3
      injection hse with hse1 hse2 hse3
      subst hse1 hse2 hse3
      generalize (ups (q.take k)).flatMap Wr.Up.says = X0 at *
      have HBN : Hid (Below w3.heap.size w3 (wr.alloc (.cells #[.int .i64 ua, .int .i64 un, .slice a1 n1 d1, .slice a2 says.length d2, .slice a4 n4 d4] 30))) := hbw.alloc hsz _
      have ho2 := ho.alloc (.cells #[.int .i64 ua, .int .i64 un, .slice a1 n1 d1, .slice a2 says.length d2, .slice a4 n4 d4] 30)
      clear ho
      go_upto_region 8 with fail
      have HCX : Hid ((wr.alloc (.cells #[.int .i64 ua, .int .i64 un, .slice a1 n1 d1, .slice a2 says.length d2, .slice a4 n4 d4] 30)).heap[wr.heap.size]? = some (.cells #[.int .i64 ua, .int .i64 un, .slice a1 n1 d1, .slice a2 says.length d2, .slice a4 n4 d4] 30)) := rl_new wr _
      generalize wr.alloc (.cells #[.int .i64 ua, .int .i64 un, .slice a1 n1 d1, .slice a2 says.length d2, .slice a4 n4 d4] 30) = w5 at *
      have x3 : w5.cell? ⟨wr.heap.size, 3, none⟩ = some (.slice a2 says.length d2) := by rw [Lib.cell_of_heap HCX.out]; rfl
      have hs5 := HBN.out.size
      clear c0 c1 c2 c3 c4
      go_wp2_with (at_builtin; refine wp_append_facts rfl (.tmp 21) (.tmp 23) rfl HBN.out _ r.length r rfl rfl ho2 a2 d2 says rfl HSA.out.2.1 HSA.out.1 HSA.out.2.2 ?c1 ?_)
      case c1 => omega
      intro v6 w6 r2 H2
      obtain ⟨h1, h2, h3, h4⟩ := H2
      obtain ⟨a6, c6, rfl⟩ := own_slice h3
      have HO6 : Hid (w6.ownsRow w3.heap.size 84 2 (.slice a6 (r ++ r2).length c6) (r ++ r2).length ((r ++ r2).map fcCells).flatten) := h3
      have HB6 : Hid (Below w3.heap.size w3 w6) := h4
      have HM6 : Hid ((r ++ r2).map (·.1) = (ups (q.take (k + 1))).flatMap Wr.Up.says) := by
        show _ = _
        rw [List.map_append, HRS.out, h1, HTK.out]
      have HP6 : Hid (∀ p, p ∈ r ++ r2 → FvOk w3 p) := fun p hp => by
        rcases List.mem_append.mp hp with hp | hp
        · exact HRO.out p hp
        · exact h2 p hp
      clear h1 h2 h3 h4 ho2 HTK HRS HRO
      go_wp2_with fail
      go_roundw
      case rel => exact ⟨k + 1, r ++ r2, hlt, by go_num, HO6.out, HM6.out, HP6.out, HB6.out⟩
      case measure => simp [intOf]; omega
    · have hdd : decide (k < q.length) = false := decide_eq_false hlt
      obtain rfl : k = q.length := by omega
      have HSD : Hid (r.map (·.1) = Dg.said (ups hq)) := by
        show _ = _
        rw [HRS.out, List.take_length]
        unfold Dg.said
        rw [HUF.out]
      have hFV : FactsV wr (.slice av r.length cv) (Dg.said (ups hq)) := by
        have h9 := own_factsV ho HRO.out hbw
        rw [HSD.out] at h9
        exact h9
      have HLS : Hid ((Dg.said (ups hq)).length = r.length) := by show _ = _; rw [← HSD.out, List.length_map]
      have HAS : Hid (∀ f, f ∈ Dg.said (ups hq) → f.args.length ≤ 1048576) := fun f hf => by
        unfold Dg.said at hf
        rw [← HUF.out] at hf
        obtain ⟨u, hu, hfu⟩ := List.mem_flatMap.mp hf
        obtain ⟨x, hx, rfl⟩ := List.mem_map.mp hu
        exact Nat.le_trans ((few_of (HID.out _ (HKM.out x hx)).2).f f hfu) (by decide)
      have HST : Hid (Calls Tryz.prog 39 #[.slice av r.length cv] wr fun e w' => ∃ v', e = .returned v' ∧ FactsP wr.heap.size w' v' (Dg.facts (ups hq)) ∧ Below wr.heap.size wr w') := Set_any (Dg.said (ups hq)) _ wr hFV (by have := HLS.out; omega) HAS.out
      have HFF : Hid (∀ f, f ∈ Dg.facts (ups hq) → FFit f) := fun f hf => Nat.le_trans (HAS.out f (Rl.mem_set.mp hf)) (by decide)
      have HBE : Hid (Below w.heap.size w wr) := HG3.out.trans (hbw.mono HG3.out.size)
      clear ho hbw hFV HRS HRO HSD
      go_wp2_with fail
      refine Calls.mono HST.out ?_
      rintro e w9 ⟨v9, rfl, hfp, hb9⟩
      have HE : Hid (FactsV w9 v9 (Dg.facts (ups hq))) := factsP_V hfp HFF.out
      obtain ⟨q9, _, hown9, _⟩ := id hfp
      obtain ⟨a9, c9, rfl⟩ := own_slice hown9
      have HB9 : Hid (Below w.heap.size w w9) := HBE.out.trans (hb9.mono HBE.out.size)
      clear hfp hown9 hb9 HST
      go_wp2_with fail
      go_ret2
      exact ⟨_, by rw [HCK.out]; rfl, by rw [Dg.ifOk_ok HCK.out]; exact HE.out, HB9.out⟩
end Go.Proofs.YtmfaodapofamfaaGreat

/- A region by a table whose last operations come one behind the other, behind all others, and may change anything (append, then a store). -/
namespace Go.Proofs.YtmfaodapofamfaaGreat
open Go.RowKit

/-- Does operation i wait for j, by some steps? -/
def reach (ops : Array Oper) : Nat → Nat → Nat → Bool
  | 0, _, _ => false
  | f + 1, i, j => ((ops[i]?).map fun o => o.after.toList.any fun e => Region.binds .any e && (e.on == j || reach ops f e.on j)).getD false
def Closed (ops : Array Oper) (s : Array Bool) : Prop := ∀ (i : Nat) (o : Oper), s[i]? = some true → ops[i]? = some o → ∀ e, e ∈ o.after → Region.binds .any e = true → s[e.on]? = some true
theorem reach_done {ops : Array Oper} {s : Array Bool} (hC : Closed ops s) : ∀ (f i j : Nat) (o : Oper), ops[i]? = some o → (∀ e, e ∈ o.after → Region.binds .any e = true → s[e.on]? = some true) → reach ops f i j = true → s[j]? = some true
  | 0, _, _, _, _, _, h => by cases h
  | f + 1, i, j, o, ho, hd, h => by
    unfold reach at h
    rw [ho, Option.map_some, Option.getD_some] at h
    obtain ⟨e, he, h2⟩ := List.any_eq_true.mp h
    rw [Bool.and_eq_true, Bool.or_eq_true] at h2
    have hse := hd e (by simpa using he) h2.1
    rcases h2.2 with h3 | h3
    · have h3 : e.on = j := by simpa using h3
      rw [← h3]; exact hse
    · cases hoe : ops[e.on]? with
      | none =>
        cases f with
        | zero => cases h3
        | succ f => unfold reach at h3; rw [hoe] at h3; cases h3
      | some oe => exact reach_done hC f e.on j oe hoe (fun e' he' hb' => hC e.on oe hse hoe e' he' hb') h3
/-- The tail waits for all ahead of it, one by one. -/
def tailFine (ops : Array Oper) (L : Nat) : Bool := (List.range L).all (fun j => reach ops 12 L j) && (List.range ops.size).all fun i => !decide (L < i) || reach ops 12 i (i - 1)
structure OpInT (ops : Array Oper) (T : Nat → Value → World → Prop) (a0 : Act) (w0 : World) (L : Nat) (a : Act) (w : World) : Prop where
  below : Below w0.heap.size w0 w
  defers : a.defers = a0.defers
  size : a.tmps.size = a0.tmps.size
  still : ∀ t, t ∉ ops.toList.filterMap (·.dst) → a.tmps.getD t undef = a0.tmps.getD t undef
  all : ∀ (i : Nat) (o : Oper) (t : Nat), i < L → ops[i]? = some o → o.dst = some t → T t (a.tmps.getD t undef) w

section
variable {P : Program} {ops : Array Oper} {Q : Exit → Act → World → Prop}
end

end Go.Proofs.YtmfaodapofamfaaGreat

/- A region by a table with a tail, where the tail writes what the table reads. -/
namespace Go.Proofs.YtmfaodapofamfaaGreat
open Go.RowKit

section
variable {P : Program} {ops : Array Oper} {Q : Exit → Act → World → Prop}
theorem wp_region_tail2 (T : Nat → Value → World → Prop) (L : Nat) {id : Nat} {a0 : Act} {w0 : World} (hL : L < ops.size) (htf : tailFine ops L = true) (hm : P.follows .mixedOrders = true)
    (hf : tabFine ops a0.tmps.size = true)
    (hmono : ∀ t v w w', Below w.heap.size w w' → T t v w → T t v w')
    (hop : AllOps (fun o => ∀ a w, OpIn ops T a0 w0 o a w → (∀ t, t ∉ (ops.toList.take L).filterMap (·.dst) → a.tmps.getD t undef = a0.tmps.getD t undef) → OpOk P ops Q T o a w) (ops.toList.take L))
    (htail : ∀ a w, OpInT ops T a0 w0 L a w → (∀ t, t ∉ (ops.toList.take L).filterMap (·.dst) → a.tmps.getD t undef = a0.tmps.getD t undef) → wpOps P ops Q (List.range' L (ops.size - L)) a w) :
    (Code.region id ops true).wp P Q a0 w0 := by
  unfold tailFine at htf
  rw [Bool.and_eq_true] at htf
  have ht1 : ∀ j, j < L → reach ops 12 L j = true := fun j hj => List.all_eq_true.mp htf.1 j (List.mem_range.mpr hj)
  have ht2 : ∀ i, i < ops.size → L < i → reach ops 12 i (i - 1) = true := fun i hi hLi => by
    have h := List.all_eq_true.mp htf.2 i (List.mem_range.mpr hi)
    rw [decide_eq_true hLi] at h
    simpa using h
  unfold tabFine at hf
  rw [Bool.and_eq_true, Bool.and_eq_true] at hf
  obtain ⟨⟨hnd, hlt⟩, hah⟩ := hf
  have hnd := of_decide_eq_true hnd
  have hlt' : ∀ t, t ∈ ops.toList.filterMap (·.dst) → t < a0.tmps.size := fun t ht => of_decide_eq_true (List.all_eq_true.mp hlt t ht)
  have hah' : ∀ (i : Nat) (o : Oper), ops[i]? = some o → ∀ e, e ∈ o.after → e.on < i := fun i o ho e he => by
    have hi : i < ops.size := (Array.getElem?_eq_some_iff.mp ho).1
    have h := List.all_eq_true.mp hah i (List.mem_range.mpr hi)
    rw [ho, Option.map_some, Option.getD_some] at h
    exact of_decide_eq_true (List.all_eq_true.mp h e (by simpa using he))
  refine wp_region_inv (fun s a w => (s.size = ops.size ∧ Closed ops s) ∧ (((∀ i, L ≤ i → i < ops.size → s[i]? = some false) ∧ (∀ t, t ∉ (ops.toList.take L).filterMap (·.dst) → a.tmps.getD t undef = a0.tmps.getD t undef) ∧ Tabbed ops T a0 w0 s a w) ∨
    (∃ m, L ≤ m ∧ m ≤ ops.size ∧ (∀ i, i < m → s[i]? = some true) ∧ (∀ i, m ≤ i → i < ops.size → s[i]? = some false) ∧ wpOps P ops Q (List.range' m (ops.size - m)) a w))) hm ?_ ?_ ?_
  · rintro s a w hr ⟨⟨hs, hC⟩, hI⟩
    have hall : ∀ n : Nat, n ≤ ops.size → ∀ i : Nat, i < n → s[i]? = some true := by
      intro n
      induction n with
      | zero => intro _ i hi; exact absurd hi (Nat.not_lt_zero _)
      | succ n ih =>
        intro hn i hi
        have ih := ih (by omega)
        by_cases hin : i < n
        · exact ih i hin
        · have hin : i = n := by omega
          subst hin
          cases hsi : s[i]? with
          | none => rw [Array.getElem?_eq_none_iff] at hsi; omega
          | some b =>
            cases b with
            | true => rfl
            | false =>
              exfalso
              have hio : i < ops.size := by omega
              have : i ∈ Region.ready .any ops s := by
                unfold Region.ready
                refine List.mem_filter.mpr ⟨List.mem_range.mpr hio, ?_⟩
                rw [Bool.and_eq_true]
                refine ⟨by simp [Array.getD_eq_getD_getElem?, hsi], ?_⟩
                have ho : ops[i]? = some ops[i] := Array.getElem?_eq_getElem hio
                rw [ho, Option.map_some, Option.getD_some, Array.all_eq_true_iff_forall_mem]
                intro e he
                have h1 := ih e.on (hah' i _ ho e he)
                simp [Array.getD_eq_getD_getElem?, h1]
              rw [hr] at this
              exact absurd this (by simp)
    have hd := hall ops.size (Nat.le_refl _)
    rcases hI with ⟨hF, _, _⟩ | ⟨m, _, hm1, _, hF, hW⟩
    · have h1 := hF L (Nat.le_refl _) hL
      rw [hd L hL] at h1
      cases h1
    · by_cases hme : m = ops.size
      · subst hme
        rw [Nat.sub_self] at hW
        exact hW
      · have h1 := hF m (Nat.le_refl _) (by omega)
        rw [hd m (by omega)] at h1
        cases h1
  · rintro s a w i hi ⟨⟨hs, hC⟩, hI⟩
    obtain ⟨hsi, o, ho, haf⟩ := ready_mem hi
    have his : i < ops.size := (Array.getElem?_eq_some_iff.mp ho).1
    have hup : ∀ j, s[j]? = some true → (s.setIfInBounds i true)[j]? = some true := fun j hj => by
      rw [Array.getElem?_setIfInBounds]
      by_cases hij : i = j
      · rw [if_pos hij, if_pos (by omega)]
      · rw [if_neg hij]; exact hj
    have hss : (s.setIfInBounds i true).size = ops.size ∧ Closed ops (s.setIfInBounds i true) := by
      refine ⟨by simp [hs], fun i' o' hi' ho' e he hb => ?_⟩
      by_cases hii : i = i'
      · subst hii
        rw [ho] at ho'
        cases ho'
        exact hup _ (haf e he hb)
      · rw [Array.getElem?_setIfInBounds, if_neg hii] at hi'
        exact hup _ (hC i' o' hi' ho' e he hb)
    have go : ∀ m, L ≤ m → m < ops.size → i = m → (∀ j, j < m → s[j]? = some true) → (∀ j, m ≤ j → j < ops.size → s[j]? = some false) → wpOps P ops Q (List.range' m (ops.size - m)) a w →
        wpOp P ops Q i (fun a' w' => ((s.setIfInBounds i true).size = ops.size ∧ Closed ops (s.setIfInBounds i true)) ∧ (((∀ j, L ≤ j → j < ops.size → (s.setIfInBounds i true)[j]? = some false) ∧ (∀ t, t ∉ (ops.toList.take L).filterMap (·.dst) → a'.tmps.getD t undef = a0.tmps.getD t undef) ∧ Tabbed ops T a0 w0 (s.setIfInBounds i true) a' w') ∨
          (∃ m, L ≤ m ∧ m ≤ ops.size ∧ (∀ j, j < m → (s.setIfInBounds i true)[j]? = some true) ∧ (∀ j, m ≤ j → j < ops.size → (s.setIfInBounds i true)[j]? = some false) ∧ wpOps P ops Q (List.range' m (ops.size - m)) a' w'))) a w := by
      intro m hLm hms him hT hF hW
      subst him
      obtain ⟨d, hd⟩ : ∃ d, ops.size - i = d + 1 := ⟨ops.size - i - 1, by omega⟩
      rw [hd, List.range'_succ, wpOps_cons] at hW
      refine wpOp_mono (fun a' w' h' => ⟨hss, .inr ⟨i + 1, by omega, by omega, fun j hj => ?_, fun j hj hjs => ?_, ?_⟩⟩) hW
      · by_cases hji : j = i
        · subst hji
          rw [Array.getElem?_setIfInBounds, if_pos rfl, if_pos (by omega)]
        · exact hup j (hT j (by omega))
      · rw [Array.getElem?_setIfInBounds, if_neg (by omega)]
        exact hF j (by omega) hjs
      · rw [show ops.size - (i + 1) = d by omega]
        exact h'
    rcases hI with ⟨hF, hO, hI⟩ | ⟨m, hLm, hm1, hT, hF, hW⟩
    · by_cases hiL : L ≤ i
      · have hiL2 : i = L := by
          rcases Nat.lt_or_ge L i with h | h
          · have h1 := reach_done hC 12 i (i - 1) o ho haf (ht2 i his h)
            rw [hF (i - 1) (by omega) (by omega)] at h1
            cases h1
          · omega
        subst hiL2
        have hdn : ∀ j, j < i → s[j]? = some true := fun j hj => reach_done hC 12 i j o ho haf (ht1 j hj)
        exact go i (Nat.le_refl _) his rfl hdn (fun j hj hjs => hF j hj hjs) (htail a w ⟨hI.below, hI.defers, hI.size, hI.still, fun j oj t hj hoj hd => hI.done j oj t (hdn j hj) hoj hd⟩ hO)
      · have hmo : o ∈ ops.toList.take L := by
          rw [← Array.getElem?_toList] at ho
          refine List.mem_of_getElem? (i := i) ?_
          rw [List.getElem?_take, if_pos (by omega)]
          exact ho
        have hop' : OpOk P ops Q T o a w := AllOps.mem _ hop o hmo a w ⟨hI.below, hI.still, fun e he hb o' t ho' hd => hI.done e.on o' t (haf e he hb) ho' hd⟩ hO
        have hOset : ∀ (v : Value) t, t ∉ (ops.toList.take L).filterMap (·.dst) → (a.put o.dst v).tmps.getD t undef = a0.tmps.getD t undef := fun v t ht => by
          cases hd : o.dst with
          | none => exact hO t ht
          | some u =>
            have hne : t ≠ u := fun h => ht (h ▸ List.mem_filterMap.mpr ⟨o, hmo, hd⟩)
            rw [put_get_ne hne]
            exact hO t ht
        have hset : ∀ {v : Value} {w' : World}, (∀ t, o.dst = some t → T t v w') → Below w.heap.size w w' → Tabbed ops T a0 w0 (s.setIfInBounds i true) (a.put o.dst v) w' := by
          intro v w' hv hb
          refine ⟨hI.below.trans (hb.mono hI.below.size), by rw [put_defers]; exact hI.defers, by rw [put_size]; exact hI.size, fun t ht => ?_, fun j oj t hj hoj hd => ?_⟩
          · cases hd : o.dst with
            | none => exact hI.still t ht
            | some u =>
              have hne : t ≠ u := fun h => ht (h ▸ dst_mem ho hd)
              rw [put_get_ne hne]
              exact hI.still t ht
          · by_cases hij : j = i
            · subst hij
              rw [ho] at hoj
              cases hoj
              rw [hd, put_get_self (by rw [hI.size]; exact hlt' t (dst_mem ho hd))]
              exact hv t hd
            · have hj' : s[j]? = some true := by
                rw [Array.getElem?_setIfInBounds, if_neg (fun h => hij h.symm)] at hj
                exact hj
              have h1 := hmono t _ w w' hb (hI.done j oj t hj' hoj hd)
              cases hd2 : o.dst with
              | none => exact h1
              | some u =>
                have hne : t ≠ u := fun h => hij (dst_inj ops.toList hnd j i oj o t (by rw [Array.getElem?_toList]; exact hoj) (by rw [Array.getElem?_toList]; exact ho) hd (h ▸ hd2))
                rw [put_get_ne hne]
                exact h1
        have hF' : ∀ j, L ≤ j → j < ops.size → (s.setIfInBounds i true)[j]? = some false := fun j hj hjs => by
          rw [Array.getElem?_setIfInBounds, if_neg (by omega)]
          exact hF j hj hjs
        unfold OpOk at hop'
        unfold wpOp
        rw [ho]
        dsimp only
        by_cases hw : Region.wanted o (yielded ops a.tmps) = true
        · rw [if_pos hw] at hop' ⊢
          refine hop'.imp (Oper.wp_mono ?_) (fun h => h)
          rintro a' w' ⟨v, rfl, hv, hb⟩
          exact ⟨hss, .inl ⟨hF', hOset v, hset hv hb⟩⟩
        · rw [if_neg hw] at hop' ⊢
          exact ⟨hss, .inl ⟨hF', hOset _, hset hop' (Below.refl _ _)⟩⟩
    · have him : m ≤ i := by
        rcases Nat.lt_or_ge i m with h | h
        · have h1 := hT i h
          rw [hsi] at h1
          cases h1
        · exact h
      have him2 : i = m := by
        rcases Nat.lt_or_ge m i with h | h
        · have h1 := reach_done hC 12 i (i - 1) o ho haf (ht2 i his (by omega))
          rw [hF (i - 1) (by omega) (by omega)] at h1
          cases h1
        · omega
      exact go m hLm (by omega) him2 hT hF hW
  · refine ⟨⟨by simp, fun i o h => ?_⟩, .inl ⟨fun i _ hi => ?_, fun _ _ => rfl, ⟨⟨rfl, rfl, rfl, Nat.le_refl _, fun _ _ => rfl⟩, rfl, rfl, fun _ _ => rfl, fun i o t h _ _ => ?_⟩⟩⟩
    · rw [Array.getElem?_replicate] at h
      split at h <;> simp at h
    · rw [Array.getElem?_replicate, if_pos hi]
    · rw [Array.getElem?_replicate] at h
      split at h <;> simp at h
end

end Go.Proofs.YtmfaodapofamfaaGreat

/- One operation of a tail. -/
namespace Go.Proofs.YtmfaodapofamfaaGreat
open Go.RowKit

section
variable {P : Program} {ops : Array Oper} {Q : Exit → Act → World → Prop} {i : Nat} {o : Oper} {K : Act → World → Prop} {a : Act} {w w' : World}
theorem wpOp_val {v : Value} (ho : ops[i]? = some o) (hw : Region.wanted o (yielded ops a.tmps) = true) (hr : (execOp a.eval o).run P w = .ok (.value v) w') (h : K (a.put o.dst v) w') : wpOp P ops Q i K a w := by
  unfold wpOp
  rw [ho]
  dsimp only
  rw [if_pos hw]
  left
  unfold Oper.wp
  rw [hr, Oper.upon_value]
  exact h
theorem wpOps_end {tm : Array Value} {ds : List Deferred} {t : Nat} {v : Value} (h : Q .normal ⟨tm.setIfInBounds t v, ds⟩ w) : wpOps P ops Q [] (Act.put ⟨tm, ds⟩ (some t) v) w := h
end

end Go.Proofs.YtmfaodapofamfaaGreat

/- dagBegun. -/
namespace Go.Proofs.YtmfaodapofamfaaGreat
open Go.RowKit

theorem UpV.ok {w : World} {u : Wr.Up} {vp vs vt : Value} (h : UpV w u vp vs vt) : UvOk w ⟨u, vp, vs, vt⟩ := ⟨h.1, h.2.1, h.2.2.1, h.2.2.2.1, by have := h.2.2.2.2; dsimp only; omega⟩
/-- Add's answers in dagBegun. -/
theorem add_beg1 (w : World) (x : Uv) (hx : UvOk w x) (he : x.u = Wr.secondU) :
    Calls Tryz.prog 6 #[repVal (.slice none 0 0) (.slice none 0 0), uvVal x] w fun e w' => ∃ (a1 : Option Addr) (c1 : Nat) (a2 : Option Addr) (c2 : Nat) (R : Uv), e = .returned (.tuple #[repVal (.slice a1 0 c1) (.slice a2 1 c2), .int .i64 0]) ∧ UpsV w' (.slice a1 0 c1) [] ∧ UpsV w' (.slice a2 1 c2) [R] ∧ UvOk w' R ∧ R.u = Wr.secondU ∧ Below w.heap.size w w' := by
  refine (Add_any [] [] _ _ x w (ups_nil _) (ups_nil _) (by decide) (fun y hy => absurd hy (by simp)) hx).mono ?_
  rintro e w' ⟨v1, v2, R1, R2, rfl, h1, h2, h3, h4, _, h6⟩
  have hz : Dg.addErr (ups []) (ups []) x.u = 0 := by
    rw [he]
    have hc : Dg.check (ups []) (ups []) = 0 := Dg.check_ok.mpr Dg.beg_ok0
    unfold Dg.addErr
    rw [if_neg (by rw [hc]; simp), if_neg (by rw [Dg.beg_c2]; simp)]
    rfl
  have h7 := h4 hz
  rw [he] at h7
  obtain ⟨e1, e2⟩ := Dg.beg1 h7
  have e3 : R1 = [] := List.eq_nil_of_length_eq_zero (by have := congrArg List.length e1; rw [ups_length] at this; exact this)
  subst e3
  obtain ⟨R, rfl⟩ : ∃ R, R2 = [R] := by
    have hl := congrArg List.length e2
    rw [ups_length] at hl
    match R2, hl with
    | [R], _ => exact ⟨R, rfl⟩
  have e4 : R.u = Wr.secondU := by
    have : [R.u] = [Wr.secondU] := e2
    injection this
  obtain ⟨a1, c1, f1, _⟩ := id h1
  obtain ⟨a2, c2, f2, _⟩ := id h2
  subst f1 f2
  exact ⟨a1, c1, a2, c2, R, by rw [hz]; rfl, h1, h2, h3 R (by simp), e4, h6⟩
theorem add_beg2 (v1 v2 : Value) (w : World) (x R : Uv) (h1 : UpsV w v1 []) (h2 : UpsV w v2 [R]) (hR : UvOk w R) (hx : UvOk w x) (he : x.u = Wr.firstU) (hr : R.u = Wr.secondU) :
    Calls Tryz.prog 6 #[repVal v1 v2, uvVal x] w fun e w' => ∃ (a1 : Option Addr) (c1 : Nat) (a2 : Option Addr) (c2 : Nat) (R1 R2 : Uv), e = .returned (.tuple #[repVal (.slice a1 2 c1) (.slice a2 0 c2), .int .i64 0]) ∧ UpsV w' (.slice a1 2 c1) [R1, R2] ∧ UpsV w' (.slice a2 0 c2) [] ∧ UvOk w' R1 ∧ UvOk w' R2 ∧ R1.u = Wr.firstU ∧ R2.u = Wr.secondU ∧ Below w.heap.size w w' := by
  refine (Add_any [] [R] _ _ x w h1 h2 (by simp) (fun y hy => by rw [List.nil_append, List.mem_singleton] at hy; rw [hy]; exact hR) hx).mono ?_
  rintro e w' ⟨u1, u2, R1, R2, rfl, k1, k2, k3, k4, _, k6⟩
  have hu : ups [R] = [Wr.secondU] := by show [R.u] = _; rw [hr]
  rw [hu, he] at k4
  have hz : Dg.addErr (ups []) [Wr.secondU] Wr.firstU = 0 := by
    have ho : Dg.Ok [] [Wr.secondU] := by
      have hi : Dg.Is [Wr.secondU] [] [Wr.secondU] := by
        have hno : ¬ Dg.Cm [Wr.secondU] ⟨0, 1⟩ := fun h => absurd h.has (by decide)
        have hns : ¬ Dg.Cm [Wr.secondU] Wr.secondU.id := fun h => hno (Dg.Cm.under (Dg.apart_of_nodup (by decide)) (by simp) h ⟨0, 1⟩ (by decide))
        refine ⟨⟨fun u => ⟨(fun h => by cases h), (fun h => by rw [List.mem_singleton.mp h.1] at h; exact absurd h.2 hns)⟩, fun u => ⟨(fun h => ⟨h, by rw [List.mem_singleton.mp h]; exact hns⟩), (fun h => h.1)⟩⟩, rfl, rfl⟩
      exact hi.ok (Dg.apart_of_nodup (by decide)) (fun u hu => by rw [List.mem_singleton.mp hu]; exact Dg.beg_c2) (by decide)
    have hc : Dg.check (ups []) [Wr.secondU] = 0 := Dg.check_ok.mpr ho
    unfold Dg.addErr
    rw [if_neg (by rw [hc]; simp), if_neg (by rw [Dg.beg_c1]; simp)]
    rfl
  obtain ⟨e1, e2⟩ := Dg.beg2 (k4 hz)
  have e3 : R2 = [] := List.eq_nil_of_length_eq_zero (by have := congrArg List.length e2; rw [ups_length] at this; exact this)
  subst e3
  obtain ⟨Q1, Q2, rfl⟩ : ∃ Q1 Q2, R1 = [Q1, Q2] := by
    have hl := congrArg List.length e1
    rw [ups_length] at hl
    match R1, hl with
    | [Q1, Q2], _ => exact ⟨Q1, Q2, rfl⟩
  have e4 : [Q1.u, Q2.u] = [Wr.firstU, Wr.secondU] := e1
  injection e4 with e5 e6
  injection e6 with e7 _
  obtain ⟨a1, c1, f1, _⟩ := id k1
  obtain ⟨a2, c2, f2, _⟩ := id k2
  subst f1 f2
  exact ⟨a1, c1, a2, c2, Q1, Q2, by rw [hu, he, hz]; rfl, k1, k2, k3 Q1 (by simp), k3 Q2 (by simp), e5, e7, k6⟩
theorem beg_check {h w : List Wr.Up} (e1 : h = [Wr.firstU, Wr.secondU]) (e2 : w = []) : Dg.check h w = 0 := by
  subst e1 e2
  have hA : Dg.Apart [Wr.secondU, Wr.firstU] := Dg.apart_of_nodup (by decide)
  have h1 : Dg.Cm [Wr.secondU, Wr.firstU] Wr.firstU.id := .mk Wr.firstU (by simp) (fun x hx => by cases hx)
  have h2 : Dg.Cm [Wr.secondU, Wr.firstU] Wr.secondU.id := .mk Wr.secondU (by simp) (fun x hx => by
    have hx2 : x = ⟨0, 1⟩ := by simpa [Dg.under, Wr.secondU] using hx
    rw [hx2]
    exact h1)
  have hall : ∀ u, u ∈ [Wr.secondU, Wr.firstU] → Dg.Cm [Wr.secondU, Wr.firstU] u.id := fun u hu => by
    rcases Dg.beg_mem.mp hu with rfl | rfl
    · exact h2
    · exact h1
  have hi : Dg.Is [Wr.secondU, Wr.firstU] [Wr.firstU, Wr.secondU] [] := by
    refine ⟨⟨fun u => ?_, fun u => ⟨(fun h => by cases h), (fun h => absurd (hall u h.1) h.2)⟩⟩, by decide, rfl⟩
    rw [Dg.beg_mem]
    exact ⟨fun h => ⟨Dg.beg_mem.mpr h.symm, hall u (Dg.beg_mem.mpr h.symm)⟩, fun h => (Dg.beg_mem.mp h.1).symm⟩
  refine Dg.check_ok.mpr (hi.ok hA (fun u hu => ?_) (by decide))
  rcases Dg.beg_mem.mp hu with rfl | rfl
  · exact Dg.beg_c2
  · exact Dg.beg_c1
theorem beg_all (v1 v2 : Value) (w : World) (R1 R2 : Uv) (h1 : UpsV w v1 [R1, R2]) (h2 : UpsV w v2 []) (o1 : UvOk w R1) (o2 : UvOk w R2) (e1 : R1.u = Wr.firstU) (e2 : R2.u = Wr.secondU) :
    (Calls Tryz.prog 7 #[repVal v1 v2] w fun e w' => ∃ v', e = .returned (.tuple #[v', .int .i64 0]) ∧ IdsV w' v' [⟨1, 1⟩] ∧ Below w.heap.size w w') ∧
    (Calls Tryz.prog 8 #[repVal v1 v2] w fun e w' => ∃ v', e = .returned (.tuple #[v', .int .i64 0]) ∧ FactsV w' v' [⟨0, [4, 5]⟩] ∧ Below w.heap.size w w') ∧
    (Calls Tryz.prog 15 #[repVal v1 v2] w fun e w' => e = .returned (.int .i64 0) ∧ Below w.heap.size w w') := by
  have hu : ups [R1, R2] = [Wr.firstU, Wr.secondU] := by show [R1.u, R2.u] = _; rw [e1, e2]
  have hc : Dg.check (ups [R1, R2]) (ups []) = 0 := beg_check hu rfl
  have hok : ∀ x, x ∈ [R1, R2] ++ [] → UvOk w x := fun x hx => by
    have hx : x = R1 ∨ x = R2 := by simpa using hx
    rcases hx with rfl | rfl
    · exact o1
    · exact o2
  refine ⟨?_, ?_, ?_⟩
  · refine (Heads_any [R1, R2] [] _ _ w h1 h2 (by simp) hok).mono ?_
    rintro e w' ⟨v', rfl, k1, k2⟩
    rw [Dg.ifOk_ok hc, hu, Dg.beg_heads] at k1
    exact ⟨v', by rw [hc], k1, k2⟩
  · refine (Facts_any [R1, R2] [] _ _ w h1 h2 (by simp) hok).mono ?_
    rintro e w' ⟨v', rfl, k1, k2⟩
    rw [Dg.ifOk_ok hc, hu, Dg.beg_facts] at k1
    exact ⟨v', by rw [hc], k1, k2⟩
  · refine (DCheck_any [R1, R2] [] _ _ w h1 h2 (by simp) hok).mono ?_
    rintro e w' ⟨rfl, k2⟩
    exact ⟨by rw [hc], k2⟩
end Go.Proofs.YtmfaodapofamfaaGreat

/- What stands where a box of two slices is written: all blocks that hold a number. -/
namespace Go.Proofs.YtmfaodapofamfaaGreat
open Go.RowKit

def Kn (w w' : World) : Prop := ∀ b, (∃ o n, w.cell? ⟨b, o, none⟩ = some (.int .i64 n)) → ∀ o v, w.cell? ⟨b, o, none⟩ = some v → w'.cell? ⟨b, o, none⟩ = some v
theorem Kn.trans {a b c : World} (h : Kn a b) (k : Kn b c) : Kn a c := fun i hi o v e => k i (by obtain ⟨p, n, q⟩ := hi; exact ⟨p, n, h i ⟨p, n, q⟩ p _ q⟩) o v (h i hi o v e)
theorem Kn.below {w w' : World} (h : Below w.heap.size w w') : Kn w w' := fun _ _ _ _ e => cell_below h e
theorem Kn.ints {w w' : World} (k : Kn w w') {v : Value} {l : List Int} (h : IntsV w v l) : IntsV w' v l := by
  obtain ⟨ao, cap, rfl, h⟩ := h
  refine ⟨ao, cap, rfl, ?_⟩
  rcases h with h | ⟨b, off, rfl, h⟩
  · exact .inl h
  · exact .inr ⟨b, off, rfl, fun i hi => k _ ⟨_, _, h i hi⟩ _ _ (h i hi)⟩
theorem Kn.ids {w w' : World} (k : Kn w w') {v : Value} {l : List Wr.Id} (h : IdsV w v l) : IdsV w' v l := by
  obtain ⟨ao, cap, rfl, hc, h⟩ := h
  refine ⟨ao, cap, rfl, hc, ?_⟩
  rcases h with h | ⟨b, off, rfl, h⟩
  · exact .inl h
  · exact .inr ⟨b, off, rfl, fun i hi => ⟨k _ ⟨_, _, (h i hi).1⟩ _ _ (h i hi).1, k _ ⟨_, _, (h i hi).1⟩ _ _ (h i hi).2⟩⟩
theorem Kn.fact {w w' : World} (k : Kn w w') {b off : Nat} {f : Rl.Fc} (h : FactIn w b off f) : FactIn w' b off f := by
  obtain ⟨h1, u, h2, h3⟩ := h
  exact ⟨k _ ⟨_, _, h1⟩ _ _ h1, u, k _ ⟨_, _, h1⟩ _ _ h2, k.ints h3⟩
theorem Kn.facts {w w' : World} (k : Kn w w') {v : Value} {l : List Rl.Fc} (h : FactsV w v l) : FactsV w' v l := by
  obtain ⟨ao, cap, rfl, hc, h⟩ := h
  refine ⟨ao, cap, rfl, hc, ?_⟩
  rcases h with h | ⟨b, off, rfl, h⟩
  · exact .inl h
  · exact .inr ⟨b, off, rfl, fun i hi => k.fact (h i hi)⟩
theorem UvOk.kn {w w' : World} {x : Uv} (h : UvOk w x) (k : Kn w w') : UvOk w' x := ⟨k.ids h.p, k.facts h.s, k.ids h.t, h.f, h.l⟩
theorem UpsV.kn {w w' : World} {v : Value} {q : List Uv} (h : UpsV w v q) (k : Kn w w') : UpsV w' v q := by
  obtain ⟨ao, cap, e, hc, h⟩ := h
  refine ⟨ao, cap, e, hc, ?_⟩
  rcases h with h | ⟨b, off, rfl, h⟩
  · exact .inl h
  · refine .inr ⟨b, off, rfl, fun i hi => ?_⟩
    obtain ⟨h0, h1, h2, h3, h4⟩ := h i hi
    exact ⟨k _ ⟨_, _, h0⟩ _ _ h0, k _ ⟨_, _, h0⟩ _ _ h1, k _ ⟨_, _, h0⟩ _ _ h2, k _ ⟨_, _, h0⟩ _ _ h3, k _ ⟨_, _, h0⟩ _ _ h4⟩
/-- .. a box of two slices, one after the other. -/
def two (z : World) (F : Nat) (u v : Value) : World := (z.setCell ⟨F, 0, none⟩ u).setCell ⟨F, 1, none⟩ v
theorem two_heap {z : World} {F : Nat} {x y u v : Value} {t : TypeId} (h : z.heap[F]? = some (.cells #[x, y] t)) : (two z F u v).heap[F]? = some (.cells #[u, v] t) := by
  unfold two
  have h1 : (z.setCell ⟨F, 0, none⟩ u).heap[F]? = some (.cells #[u, y] t) := by rw [Lib.heap_setCell_same h]; rfl
  rw [Lib.heap_setCell_same h1]
  rfl
theorem two_other {z : World} {F : Nat} {u v : Value} {b : Nat} (h : b ≠ F) : (two z F u v).heap[b]? = z.heap[b]? := by
  unfold two
  rw [Below.heap_setCell _ _ _ _ h, Below.heap_setCell _ _ _ _ h]
theorem two_kn {z : World} {F : Nat} {ax ay : Option Addr} {nx cx ny cy : Nat} {u v : Value} {t : TypeId} (h : z.heap[F]? = some (.cells #[.slice ax nx cx, .slice ay ny cy] t)) : Kn z (two z F u v) := fun b hb o x e => by
  have hne : b ≠ F := fun e2 => by
    subst e2
    obtain ⟨p, n, hp⟩ := hb
    rw [Lib.cell_of_heap h] at hp
    match p with
    | 0 => cases hp
    | 1 => cases hp
    | _ + 2 => cases hp
  rw [cell_heap (two_other hne)]
  exact e
theorem two_below {w z : World} {F : Nat} (h : Below w.heap.size w z) (hF : w.heap.size ≤ F) (u v : Value) : Below w.heap.size w (two z F u v) := (h.setCell (p := ⟨F, 0, none⟩) hF u).setCell (p := ⟨F, 1, none⟩) hF v
/-- A box of two slices stands there. -/
def Bx (w : World) (b : Nat) : Prop := ∃ a1 n1 c1 a2 n2 c2, w.heap[b]? = some (.cells #[.slice a1 n1 c1, .slice a2 n2 c2] 24)
theorem Bx.below {w w' : World} {b : Nat} (h : Bx w b) (hb : Below w.heap.size w w') : Bx w' b := by
  obtain ⟨a1, n1, c1, a2, n2, c2, h⟩ := h
  exact ⟨a1, n1, c1, a2, n2, c2, (hb.block _ (Array.getElem?_eq_some_iff.1 h).1).trans h⟩
/-- From world to world: all below B stands, all blocks with numbers, and a box stays a box. -/
def Rb (B : Nat) (w w' : World) : Prop := Below B w w' ∧ Kn w w' ∧ ∀ b, Bx w b → Bx w' b
theorem Rb.trans {B : Nat} {a b c : World} (h : Rb B a b) (k : Rb B b c) : Rb B a c := ⟨h.1.trans k.1, h.2.1.trans k.2.1, fun i hi => k.2.2 i (h.2.2 i hi)⟩
theorem Rb.refl (B : Nat) (w : World) : Rb B w w := ⟨Below.refl _ _, fun _ _ _ _ e => e, fun _ h => h⟩
theorem Rb.of {B : Nat} {w w' : World} (h : Below w.heap.size w w') (hB : B ≤ w.heap.size) : Rb B w w' := ⟨h.mono hB, Kn.below h, fun _ hb => hb.below h⟩
theorem Rb.draw (B : Nat) (w : World) : Rb B w { w with drawn := w.drawn + 1 } := ⟨(Below.refl B w).drew, fun _ _ _ _ e => e, fun _ h => h⟩
theorem Rb.two {B : Nat} {z : World} {F : Nat} {a1 a2 b1 b2 : Option Addr} {n1 c1 n2 c2 m1 d1 m2 d2 : Nat} (h : z.heap[F]? = some (.cells #[.slice a1 n1 c1, .slice a2 n2 c2] 24)) (hF : B ≤ F) : Rb B z (two z F (.slice b1 m1 d1) (.slice b2 m2 d2)) := by
  refine ⟨((Below.refl B z).setCell (p := ⟨F, 0, none⟩) hF _).setCell (p := ⟨F, 1, none⟩) hF _, two_kn h, fun b hb => ?_⟩
  by_cases e : b = F
  · subst e
    exact ⟨_, _, _, _, _, _, two_heap h⟩
  · obtain ⟨p1, q1, r1, p2, q2, r2, hb⟩ := hb
    exact ⟨p1, q1, r1, p2, q2, r2, (two_other e).trans hb⟩
/-- A pointer to a box. -/
def Bxp (B : Nat) (w : World) (v : Value) : Prop := ∃ b, v = .pointer (some ⟨b, 0, none⟩) ∧ Bx w b ∧ B ≤ b
theorem Bxp.rb {B C : Nat} {w w' : World} {v : Value} (h : Bxp B w v) (k : Rb C w w') : Bxp B w' v := by
  obtain ⟨b, e, h, l⟩ := h
  exact ⟨b, e, k.2.2 b h, l⟩
theorem bxp_new (B : Nat) (y : World) (hB : B ≤ y.heap.size) : Bxp B (y.alloc (.cells #[.slice none 0 0, .slice none 0 0] 24)) (.pointer (some ⟨y.heap.size, 0, none⟩)) := ⟨_, rfl, ⟨_, _, _, _, _, _, heap_alloc_new y _⟩, hB⟩
end Go.Proofs.YtmfaodapofamfaaGreat

/- A region by a table, with a store among its operations: worlds behind are such as a relation says; one operation S leaves a fact D. -/
namespace Go.Proofs.YtmfaodapofamfaaGreat
open Go.RowKit

/-- All that is written is written once, and within the frame; what must be waited for stands ahead. -/
def tabFineR (ops : Array Oper) (n : Nat) : Bool :=
  decide ((ops.toList.filterMap (·.dst)).Nodup) && (ops.toList.filterMap (·.dst)).all (fun t => decide (t < n)) && (List.range ops.size).all (fun i => ((ops[i]?).map (fun o => o.after.toList.all (fun e => !Region.binds .any e || decide (e.on < i)))).getD true)
def waitedBy (ops : Array Oper) (S i : Nat) : Bool := ((ops[S]?).map fun o => o.after.toList.any fun e => Region.binds .any e && e.on == i).getD false
structure TabbedR (R : World → World → Prop) (ops : Array Oper) (T : Nat → Value → World → Prop) (a0 : Act) (w0 : World) (s : Array Bool) (a : Act) (w : World) : Prop where
  below : R w0 w
  defers : a.defers = a0.defers
  size : a.tmps.size = a0.tmps.size
  still : ∀ t, t ∉ ops.toList.filterMap (·.dst) → a.tmps.getD t undef = a0.tmps.getD t undef
  done : ∀ (i : Nat) (o : Oper) (t : Nat), s[i]? = some true → ops[i]? = some o → o.dst = some t → T t (a.tmps.getD t undef) w
structure OpInR (R : World → World → Prop) (ops : Array Oper) (T : Nat → Value → World → Prop) (a0 : Act) (w0 : World) (o : Oper) (a : Act) (w : World) : Prop where
  below : R w0 w
  still : ∀ t, t ∉ ops.toList.filterMap (·.dst) → a.tmps.getD t undef = a0.tmps.getD t undef
  has : ∀ e, e ∈ o.after → Region.binds .any e = true → ∀ (o' : Oper) (t : Nat), ops[e.on]? = some o' → o'.dst = some t → T t (a.tmps.getD t undef) w
  size : a.tmps.size = a0.tmps.size
def OpOkR (P : Program) (R : World → World → Prop) (ops : Array Oper) (Q : Exit → Act → World → Prop) (T : Nat → Value → World → Prop) (S : Nat) (D : Act → World → Prop) (i : Nat) (o : Oper) (a : Act) (w : World) : Prop :=
  Region.wanted o (yielded ops a.tmps) = true ∧ o.wp P a w (fun a' w' => ∃ v, a' = a.put o.dst v ∧ (∀ t, o.dst = some t → T t v w') ∧ R w w' ∧ (i = S → D (a.put o.dst v) w') ∧ (waitedBy ops S i = false → ¬ i = S → D a w → D (a.put o.dst v) w')) Q
section
variable {P : Program} {ops : Array Oper} {Q : Exit → Act → World → Prop} {R : World → World → Prop} {T : Nat → Value → World → Prop} {a0 : Act} {w0 : World} {o : Oper} {a : Act} {w : World} {S i : Nat} {D : Act → World → Prop}
theorem OpInR.of (h : OpInR R ops T a0 w0 o a w) (t : Nat) (hw : waitsFor ops o t = true) : T t (a.tmps.getD t undef) w := by
  unfold waitsFor at hw
  rw [List.any_eq_true] at hw
  obtain ⟨e, he, hw⟩ := hw
  rw [Bool.and_eq_true] at hw
  cases ho : ops[e.on]? with
  | none => rw [ho] at hw; simp at hw
  | some o' =>
    rw [ho] at hw
    exact h.has e (by simpa using he) hw.1 o' t ho (by simpa using hw.2)
theorem OpInR.old (h : OpInR R ops T a0 w0 o a w) (t : Nat) (hs : stays ops t = true) : a.tmps.getD t undef = a0.tmps.getD t undef := by
  refine h.still t ?_
  unfold stays at hs
  simpa [List.contains_iff_mem] using hs
theorem opOkR_val {v : Value} {w' : World} (hw : Region.wanted o (yielded ops a.tmps) = true) (hr : (execOp a.eval o).run P w = .ok (.value v) w') (hT : ∀ t, o.dst = some t → T t v w') (hb : R w w') (hS : i = S → D (a.put o.dst v) w') (hD : waitedBy ops S i = false → ¬ i = S → D a w → D (a.put o.dst v) w') : OpOkR P R ops Q T S D i o a w := by
  refine ⟨hw, ?_⟩
  unfold Oper.wp
  rw [hr, Oper.upon_value]
  exact ⟨v, rfl, hT, hb, hS, hD⟩
theorem opOkR_void {w' : World} (hw : Region.wanted o (yielded ops a.tmps) = true) (hr : (execOp a.eval o).run P w = .ok .skip w') (hd : o.dst = none) (hb : R w w') (hS : i = S → D a w') (hD : waitedBy ops S i = false → ¬ i = S → D a w → D a w') : OpOkR P R ops Q T S D i o a w := by
  refine ⟨hw, ?_⟩
  unfold Oper.wp
  rw [hr, Oper.upon_skip]
  refine ⟨undef, rfl, fun t ht => (by rw [hd] at ht; cases ht), hb, fun h => ?_, fun h1 h2 h3 => ?_⟩
  · rw [hd]; exact hS h
  · rw [hd]; exact hD h1 h2 h3
theorem opOkR_call {f : FuncId} {args : Array Value} (hw : Region.wanted o (yielded ops a.tmps) = true) (hr : (execOp a.eval o).run P w = .ok (.enter f args) w)
    (hc : Calls P f args w fun e w' => ∃ v, e = .returned v ∧ (∀ t, o.dst = some t → T t v w') ∧ R w w' ∧ (i = S → D (a.put o.dst v) w') ∧ (waitedBy ops S i = false → ¬ i = S → D a w → D (a.put o.dst v) w')) : OpOkR P R ops Q T S D i o a w := by
  refine ⟨hw, ?_⟩
  unfold Oper.wp
  rw [hr, Oper.upon_enter]
  refine Calls.mono hc ?_
  rintro e w' ⟨v, rfl, h⟩
  exact ⟨v, rfl, h⟩
def AllOpsI (Φ : Nat → Oper → Prop) : Nat → List Oper → Prop
  | _, [] => True
  | i, o :: l => Φ i o ∧ AllOpsI Φ (i + 1) l
theorem AllOpsI.cons {Φ : Nat → Oper → Prop} {i : Nat} {o : Oper} {l : List Oper} (h : Φ i o) (hl : AllOpsI Φ (i + 1) l) : AllOpsI Φ i (o :: l) := ⟨h, hl⟩
theorem AllOpsI.nil {Φ : Nat → Oper → Prop} {i : Nat} : AllOpsI Φ i [] := trivial
theorem AllOpsI.get {Φ : Nat → Oper → Prop} : ∀ (l : List Oper) (i : Nat), AllOpsI Φ i l → ∀ j o, l[j]? = some o → Φ (i + j) o
  | [], _, _, j, o, h => by simp at h
  | x :: l, i, hA, j, o, h => by
    cases j with
    | zero => simp only [List.getElem?_cons_zero, Option.some.injEq] at h; subst h; exact hA.1
    | succ j =>
      simp only [List.getElem?_cons_succ] at h
      have := AllOpsI.get l (i + 1) hA.2 j o h
      rw [show i + (j + 1) = i + 1 + j by omega]
      exact this
theorem wp_region_tabR (R : World → World → Prop) (hRt : ∀ a b c, R a b → R b c → R a c) (hRd : ∀ w, R w { w with drawn := w.drawn + 1 }) (T : Nat → Value → World → Prop) (S : Nat) (D : Act → World → Prop) (hS : S < ops.size) {id : Nat} {a0 : Act} {w0 : World} (hm : P.follows .mixedOrders = true)
    (hf : tabFineR ops a0.tmps.size = true)
    (hmono : ∀ t v w w', R w w' → T t v w → T t v w')
    (hopA : AllOpsI (fun i o => ∀ a w, OpInR R ops T a0 w0 o a w → OpOkR P R ops Q T S D i o a w) 0 ops.toList)
    (hend : ∀ a w, R w0 w → D a w → a.defers = a0.defers → a.tmps.size = a0.tmps.size → (∀ t, t ∉ ops.toList.filterMap (·.dst) → a.tmps.getD t undef = a0.tmps.getD t undef) → (∀ t, t ∈ ops.toList.filterMap (·.dst) → T t (a.tmps.getD t undef) w) → Q .normal a w) :
    (Code.region id ops true).wp P Q a0 w0 := by
  have hop : ∀ (i : Nat) (o : Oper), ops[i]? = some o → ∀ a w, OpInR R ops T a0 w0 o a w → OpOkR P R ops Q T S D i o a w := fun i o ho => by
    have := AllOpsI.get ops.toList 0 hopA i o (by rw [Array.getElem?_toList]; exact ho)
    rw [Nat.zero_add] at this
    exact this
  unfold tabFineR at hf
  rw [Bool.and_eq_true, Bool.and_eq_true] at hf
  obtain ⟨⟨hnd, hlt⟩, hah⟩ := hf
  have hnd := of_decide_eq_true hnd
  have hlt' : ∀ t, t ∈ ops.toList.filterMap (·.dst) → t < a0.tmps.size := fun t ht => by
    have h := List.all_eq_true.mp hlt t ht
    exact of_decide_eq_true h
  have hah' : ∀ (i : Nat) (o : Oper), ops[i]? = some o → ∀ e, e ∈ o.after → Region.binds .any e = true → e.on < i := fun i o ho e he hbe => by
    have hi : i < ops.size := (Array.getElem?_eq_some_iff.mp ho).1
    have h := List.all_eq_true.mp hah i (List.mem_range.mpr hi)
    rw [ho, Option.map_some, Option.getD_some] at h
    have h9 := List.all_eq_true.mp h e (by simpa using he)
    rw [hbe] at h9
    exact of_decide_eq_true (by simpa using h9)
  have hset : ∀ {T : Nat → Value → World → Prop} {s : Array Bool} {a : Act} {w w' : World} {i : Nat} {o : Oper} {v : Value}, (∀ t v w w', R w w' → T t v w → T t v w') → s.size = ops.size → ops[i]? = some o → TabbedR R ops T a0 w0 s a w → (∀ t, o.dst = some t → T t v w') → R w w' → TabbedR R ops T a0 w0 (s.setIfInBounds i true) (a.put o.dst v) w' := by
    intro T s a w w' i o v hmono hs ho hI hv hb
    refine ⟨hRt _ _ _ hI.below hb, by rw [put_defers]; exact hI.defers, by rw [put_size]; exact hI.size, fun t ht => ?_, fun j oj t hj hoj hd => ?_⟩
    · cases hd : o.dst with
      | none => exact hI.still t ht
      | some u =>
        have hne : t ≠ u := fun h => ht (h ▸ dst_mem ho hd)
        rw [put_get_ne hne]
        exact hI.still t ht
    · by_cases hij : j = i
      · subst hij
        rw [ho] at hoj
        cases hoj
        rw [hd, put_get_self (by rw [hI.size]; exact hlt' t (dst_mem ho hd))]
        exact hv t hd
      · have hj' : s[j]? = some true := by
          rw [Array.getElem?_setIfInBounds, if_neg (fun h => hij h.symm)] at hj
          exact hj
        have h1 := hmono t _ w w' hb (hI.done j oj t hj' hoj hd)
        cases hd2 : o.dst with
        | none => exact h1
        | some u =>
          have hne : t ≠ u := fun h => hij (dst_inj ops.toList hnd j i oj o t (by rw [Array.getElem?_toList]; exact hoj) (by rw [Array.getElem?_toList]; exact ho) hd (h ▸ hd2))
          rw [put_get_ne hne]
          exact h1
  refine wp_region_inv (fun s a w => s.size = ops.size ∧ TabbedR R ops T a0 w0 s a w ∧ (s[S]? = some true → D a w ∧ ∀ i, waitedBy ops S i = true → s[i]? = some true)) hm ?_ ?_ ?_
  · rintro s a w hr ⟨hs, hI, hDs⟩
    have hall : ∀ n : Nat, n ≤ ops.size → ∀ i : Nat, i < n → s[i]? = some true := by
      intro n
      induction n with
      | zero => intro _ i hi; exact absurd hi (Nat.not_lt_zero _)
      | succ n ih =>
        intro hn i hi
        have ih := ih (by omega)
        by_cases hin : i < n
        · exact ih i hin
        · have hin : i = n := by omega
          subst hin
          cases hsi : s[i]? with
          | none => rw [Array.getElem?_eq_none_iff] at hsi; omega
          | some b =>
            cases b with
            | true => rfl
            | false =>
              exfalso
              have hio : i < ops.size := by omega
              have : i ∈ Region.ready .any ops s := by
                unfold Region.ready
                refine List.mem_filter.mpr ⟨List.mem_range.mpr hio, ?_⟩
                rw [Bool.and_eq_true]
                refine ⟨by simp [Array.getD_eq_getD_getElem?, hsi], ?_⟩
                have ho : ops[i]? = some ops[i] := Array.getElem?_eq_getElem hio
                rw [ho, Option.map_some, Option.getD_some, Array.all_eq_true_iff_forall_mem]
                intro e he
                cases hbe : Region.binds .any e with
                | false => rfl
                | true =>
                  have h1 := ih e.on (hah' i _ ho e he hbe)
                  simp [Array.getD_eq_getD_getElem?, h1]
              rw [hr] at this
              exact absurd this (by simp)
    refine hend a w hI.below (hDs (hall ops.size (Nat.le_refl _) S hS)).1 hI.defers hI.size hI.still (fun t ht => ?_)
    obtain ⟨o, ho, hd⟩ := List.mem_filterMap.mp ht
    obtain ⟨i, hi⟩ := List.mem_iff_getElem?.mp ho
    rw [Array.getElem?_toList] at hi
    exact hI.done i o t (hall ops.size (Nat.le_refl _) i (Array.getElem?_eq_some_iff.mp hi).1) hi hd
  · rintro s a w i hi ⟨hs, hI, hDs⟩
    obtain ⟨hsi, o, ho, haf⟩ := ready_mem hi
    have h := hop i o ho a w ⟨hI.below, hI.still, fun e he hb o' t ho' hd => hI.done e.on o' t (haf e he hb) ho' hd, hI.size⟩
    have hss : (s.setIfInBounds i true).size = ops.size := by simp [hs]
    obtain ⟨hw, h⟩ := h
    unfold wpOp
    rw [ho]
    dsimp only
    rw [if_pos hw]
    left
    refine Oper.wp_mono ?_ h
    rintro a' w' ⟨v, rfl, hv, hb, hSS, hDD⟩
    refine ⟨hss, hset hmono hs ho hI hv hb, fun hS1 => ?_⟩
    have hup : ∀ j, s[j]? = some true → (s.setIfInBounds i true)[j]? = some true := fun j hj => by
      rw [Array.getElem?_setIfInBounds]
      split
      · rename_i h9
        subst h9
        rw [hsi] at hj
        cases hj
      · exact hj
    by_cases hiS : i = S
    · refine ⟨hSS hiS, fun j hj => hup j ?_⟩
      subst hiS
      unfold waitedBy at hj
      rw [ho, Option.map_some, Option.getD_some, List.any_eq_true] at hj
      obtain ⟨e, he, h9⟩ := hj
      rw [Bool.and_eq_true] at h9
      have := haf e (by simpa using he) h9.1
      rw [(by simpa using h9.2 : e.on = j)] at this
      exact this
    · rw [Array.getElem?_setIfInBounds, if_neg hiS] at hS1
      obtain ⟨hD1, hW1⟩ := hDs hS1
      refine ⟨?_, fun j hj => hup j (hW1 j hj)⟩
      cases hwi : waitedBy ops S i with
      | true =>
        have := hW1 i hwi
        rw [hsi] at this
        cases this
      | false => exact hDD hwi hiS hD1
  · refine ⟨by simp, ⟨hRd w0, rfl, rfl, fun _ _ => rfl, fun i o t h _ _ => ?_⟩, fun h => ?_⟩
    · rw [Array.getElem?_replicate] at h
      split at h <;> simp at h
    · rw [Array.getElem?_replicate] at h
      split at h <;> simp at h
end
end Go.Proofs.YtmfaodapofamfaaGreat

