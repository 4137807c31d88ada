/- Own texts, one behind the other (part 3). -/
import Derived.Test.YtmfaodapofamfaaGreatBundleB
import Derived.Test.YtmfaodapofamfaaGreatRows
import Derived.Orders
import Derived.Laws.BitsAllLaws
import Derived.Lib.BufferMore
import Derived.Laws.AppendOwnNone
import Derived.Lib.AppendZeros
/- byIds: updates by their ids. -/
namespace Go.Proofs.YtmfaodapofamfaaGreat
open Go.RowKit Go.Maps

/-- Some map; if no two have one id: of these. -/
def MapOf (w : World) (B n : Nat) (q : List Uv) : Prop := ∃ D : DataW Value, w.ownsMap Tryz.prog 26 uvElem B n D ∧ (((ups q).map Wr.Up.id).Nodup → CmD q D)
theorem MapOf.at_ {w : World} {B : Nat} {q : List Uv} (h : MapOf w B q.length q) (hn : ((ups q).map Wr.Up.id).Nodup) : CmAt w B q := by
  obtain ⟨D, h1, h2⟩ := h
  exact ⟨D, h1, h2 hn⟩
theorem ups_snoc (c : List Uv) (y : Uv) : (ups (c ++ [y])).map Wr.Up.id = (ups c).map Wr.Up.id ++ [y.u.id] := by simp [ups]
theorem new_of_nodup {c : List Uv} {y : Uv} (h : ((ups (c ++ [y])).map Wr.Up.id).Nodup) : ((ups c).map Wr.Up.id).Nodup ∧ Dg.hasU (ups c) y.u.id = false := by
  rw [ups_snoc, List.nodup_append] at h
  refine ⟨h.1, ?_⟩
  cases hx : Dg.hasU (ups c) y.u.id with
  | false => rfl
  | true =>
    obtain ⟨v, hv, e⟩ := Dg.hasU_iff.mp hx
    exact absurd rfl (h.2.2 y.u.id (List.mem_map.mpr ⟨v, hv, e⟩) y.u.id (by simp))
theorem wpList_store_map (w : World) {ops : Array Oper} {rest : List Oper} {o : Oper} {a : Act} {Q : Exit → Act → World → Prop} (hg : o.guard = none) (m x v : Operand) (hop : o.op = Op.mapUpdate 64 m x v) (b n : Nat) (c : List Uv) (y : Uv) (w0 : World)
    (hm : a.eval m = .map (some b)) (hown : MapOf w b n c) (hl : n ≤ 1000000) (hx : a.eval x = idVal y.u.id) (hv : a.eval v = uvVal y) (hy : Wr.isId y.u.id = true) (hok : UvOk w0 y)
    (hK : ∀ w', MapOf w' b (n + 1) (c ++ [y]) → w.grownBy w' (some b) → wpList Tryz.prog ops Q rest (a.put o.dst undef) w') :
    wpList Tryz.prog ops Q (o :: rest) a w := by
  obtain ⟨D, hown, hD⟩ := hown
  refine wpList_mapUpdate_own w hg m x v 64 hop 26 30 idLaw Tryz.underlying64 uvElem b n D hm hown (by unfold maxLen; omega) _ _ _ hx hv (keyOf_id hy) _ _ (uvElem_ok hok) (fun w' h1 h2 => hK w' ⟨_, h1, fun hn => ?_⟩ h2)
  obtain ⟨n1, n2⟩ := new_of_nodup hn
  exact (hD n1).push (hown.tidy idLaw) y hy n2

set_option maxRecDepth 100000 in
set_option maxHeartbeats 1000000 in
theorem byIds_any (q : List Uv) (v : Value) (w : World) (hV : UpsV w v q) (hl : q.length ≤ 1000) (hok : ∀ x, x ∈ q → UvOk w x) (hid : ∀ x, x ∈ q → Wr.isId x.u.id = true) :
    Calls Tryz.prog 30 #[v] w fun e w' => e = .returned (.map (some w.heap.size)) ∧ MapOf w' w.heap.size q.length q ∧ Below w.heap.size w w' := by
  obtain ⟨ao, cap, rfl, _, hA⟩ := hV
  have HA : Hid (∀ z, Below w.heap.size w z → UpsAt z ao q) := fun z hz => hA.kc (Kc.below hz)
  have HK : Hid (∀ k, k < q.length → UvOk w (uvD q k) ∧ Wr.isId (uvD q k).u.id = true) := fun k hk => ⟨hok _ (uvD_mem q k hk), hid _ (uvD_mem q k hk)⟩
  clear hA hok hid
  have hmm := @run_makeMap Tryz.prog
  go_enter Tryz.func30, Tryz.ntmps30
  go_wp2_with fail
  go_loopw [9] (fun iv wr => ∃ k : Nat, k ≤ q.length ∧ iv = .int .i64 k ∧ Hid (MapOf wr w.heap.size k (q.take k)) ∧ Hid (Below w.heap.size w wr)) (fun iv _ => q.length - (intOf iv).toNat)
  case atStart => exact ⟨0, Nat.zero_le _, rfl, ⟨_, World.ownsMap_made _ _ _ _, fun _ => CmD.nil⟩, (Below.refl _ _).alloc (Nat.le_refl _) _⟩
  case round =>
    obtain ⟨k, hk, rfl, HM, HG⟩ := hrel
    by_cases hlt : k < q.length
    · obtain ⟨b, off, rfl, c0, c1, c2, c3, c4⟩ := ups_at (HA.out wr HG.out) k hlt
      obtain ⟨hx, hi⟩ := HK.out k hlt
      have HD : Hid (q.take (k + 1) = q.take k ++ [uvD q k]) := uvD_take q k hlt
      generalize uvD q k = x at *
      obtain ⟨a1, n1, d1, a2, n2, d2, a3, n3, d3, e1, e2, e3⟩ := hx.forms
      have HX : Hid (UvOk w x ∧ Wr.isId x.u.id = true) := ⟨hx, hi⟩
      clear hx hi
      obtain ⟨⟨⟨ua, un⟩, ps, says, ts⟩, vp, vs, vt⟩ := x
      dsimp only at *
      subst e1 e2 e3
      have hsz := HG.out.size
      have hm2 : MapOf (wr.alloc (.cells #[.int .i64 ua, .int .i64 un, .slice a1 n1 d1, .slice a2 n2 d2, .slice a3 n3 d3] 30)) w.heap.size k (q.take k) := by
        obtain ⟨D, h1, h2⟩ := HM.out
        exact ⟨D, h1.alloc _, h2⟩
      have HM2 : Hid (MapOf (wr.alloc (.cells #[.int .i64 ua, .int .i64 un, .slice a1 n1 d1, .slice a2 n2 d2, .slice a3 n3 d3] 30)) w.heap.size k (q.take k)) := hm2
      have HG2 : Hid (Below w.heap.size w (wr.alloc (.cells #[.int .i64 ua, .int .i64 un, .slice a1 n1 d1, .slice a2 n2 d2, .slice a3 n3 d3] 30))) := HG.out.alloc hsz _
      clear hm2 HM
      go_wp2_with (at_mapUpdate; refine wpList_store_map _ rfl _ _ _ rfl w.heap.size k (q.take k) ⟨⟨⟨ua, un⟩, ps, says, ts⟩, .slice a1 n1 d1, .slice a2 n2 d2, .slice a3 n3 d3⟩ w rfl HM2.out (by omega) rfl rfl HX.out.2 HX.out.1 ?_; intro w5 hm5 hg5)
      have HM5 : Hid (MapOf w5 w.heap.size (k + 1) (q.take (k + 1))) := by
        show MapOf _ _ _ _
        rw [HD.out]
        exact hm5
      have HG5 : Hid (Below w.heap.size w w5) := HG2.out.grown hg5 HG2.out.size (fun j e => by cases e; exact Nat.le_refl _)
      clear hm5 hg5 HD
      go_roundw
      case rel => exact ⟨k + 1, hlt, by go_num, HM5.out, HG5.out⟩
      case measure => simp [intOf]; omega
    · have hdd : decide (k < q.length) = false := decide_eq_false hlt
      obtain rfl : k = q.length := by omega
      have HM3 : Hid (MapOf wr w.heap.size q.length q) := by
        have := HM.out
        rw [List.take_length] at this
        exact this
      go_wp2_with fail
      go_ret
      exact ⟨rfl, HM3.out, HG.out⟩
end Go.Proofs.YtmfaodapofamfaaGreat

/- settle: who is come to, and who is left. -/
namespace Go.Proofs.YtmfaodapofamfaaGreat
open Go.RowKit Go.Maps

def lenOf : Value → Nat
  | .slice _ n _ => n
  | _ => 0
theorem ups_length (q : List Uv) : (ups q).length = q.length := by simp [ups]
theorem ups_append (q r : List Uv) : ups (q ++ r) = ups q ++ ups r := by simp [ups]
/-- What one round has done so far. -/
structure PassI (q0 c q : List Uv) (k : Nat) (c' l' : List Uv) : Prop where
  pass : Dg.pass Dg.snoc (ups c) (ups q) = ((Dg.pass Dg.snoc (ups c') (ups (q.drop k))).1, ups l' ++ (Dg.pass Dg.snoc (ups c') (ups (q.drop k))).2)
  perm : (c' ++ l' ++ q.drop k).Perm (c ++ q)
theorem PassI.start (q0 c q : List Uv) : PassI q0 c q 0 c [] := ⟨rfl, by simp⟩
theorem PassI.yes {q0 c q c' l' : List Uv} {k : Nat} (h : PassI q0 c q k c' l') (hk : k < q.length) (hc : Dg.carry (ups c') (uvD q k).u = true) : PassI q0 c q (k + 1) (c' ++ [uvD q k]) l' := by
  refine ⟨?_, ?_⟩
  · rw [h.pass, uvD_drop q k hk]
    show _ = ((Dg.pass Dg.snoc (ups (c' ++ [uvD q k])) (ups (q.drop (k + 1)))).1, _)
    have e : ups (uvD q k :: q.drop (k + 1)) = (uvD q k).u :: ups (q.drop (k + 1)) := rfl
    rw [e, Dg.pass_yes hc, ups_append]
    rfl
  · refine List.Perm.trans ?_ h.perm
    rw [uvD_drop q k hk]
    generalize uvD q k = x
    generalize q.drop (k + 1) = r
    rw [List.append_assoc, List.append_assoc, List.append_assoc]
    exact List.Perm.append_left c' ((List.perm_middle (a := x) (l₁ := l') (l₂ := r)).symm)
theorem PassI.no {q0 c q c' l' : List Uv} {k : Nat} (h : PassI q0 c q k c' l') (hk : k < q.length) (hc : Dg.carry (ups c') (uvD q k).u = false) : PassI q0 c q (k + 1) c' (l' ++ [uvD q k]) := by
  refine ⟨?_, ?_⟩
  · rw [h.pass, uvD_drop q k hk]
    have e : ups (uvD q k :: q.drop (k + 1)) = (uvD q k).u :: ups (q.drop (k + 1)) := rfl
    rw [e, Dg.pass_no hc, ups_append, List.append_assoc]
    rfl
  · refine List.Perm.trans ?_ h.perm
    rw [uvD_drop q k hk]
    simp only [List.append_assoc, List.cons_append, List.nil_append]
    exact List.Perm.refl _
theorem PassI.fin {q0 c q c' l' : List Uv} {k : Nat} (h : PassI q0 c q k c' l') (hk : ¬ k < q.length) : Dg.pass Dg.snoc (ups c) (ups q) = (ups c', ups l') ∧ (c' ++ l').Perm (c ++ q) := by
  have e : q.drop k = [] := List.drop_of_length_le (by omega)
  have h1 := h.pass
  have h2 := h.perm
  rw [e] at h1 h2
  rw [List.append_nil] at h2
  refine ⟨h1.trans ?_, h2⟩
  show (ups c', ups l' ++ []) = _
  rw [List.append_nil]
theorem nodup_perm {a b : List Uv} (h : a.Perm b) (hb : ((ups b).map Wr.Up.id).Nodup) : ((ups a).map Wr.Up.id).Nodup := (((h.map Uv.u).map Wr.Up.id).nodup_iff).mpr hb

/-- What stands between two rounds. -/
structure SetI (q0 : List Uv) (w : World) (c q : List Uv) (v : Value) (wr : World) : Prop where
  set : Dg.settle Dg.snoc [] (ups q0) = Dg.settle Dg.snoc (ups c) (ups q)
  perm : (c ++ q).Perm q0
  map : CmAt wr w.heap.size c
  row : UpsV wr v q
  kc : Kc w wr
  bel : Below w.heap.size w wr
  own : q = q0 ∨ URow wr w.heap.size v q
set_option maxRecDepth 100000 in
set_option maxHeartbeats 2000000 in
theorem settle_any (q0 : List Uv) (v0 : Value) (w : World) (hV : UpsV w v0 q0) (hl : q0.length ≤ 1000) (hok : ∀ x, x ∈ q0 → UvOk w x) (hid : ∀ x, x ∈ q0 → IdsOk x.u) (hnd : ((ups q0).map Wr.Up.id).Nodup) :
    Calls Tryz.prog 32 #[v0] w fun e w' => ∃ (c l : List Uv) (v : Value), e = .returned (.tuple #[.map (some w.heap.size), v]) ∧ Dg.settle Dg.snoc [] (ups q0) = (ups c, ups l) ∧ (c ++ l).Perm q0 ∧ CmAt w' w.heap.size c ∧ URow w' w.heap.size v l ∧ Below w.heap.size w w' := by
  obtain ⟨i0, hi, hz0, hz1, hz2⟩ := info_parts up_info
  have HOK : Hid (∀ x, x ∈ q0 → UvOk w x ∧ IdsOk x.u) := fun x hx => ⟨hok x hx, hid x hx⟩
  have HND : Hid (((ups q0).map Wr.Up.id).Nodup) := hnd
  have HV : Hid (UpsV w v0 q0) := hV
  obtain ⟨ao, cap, rfl, _⟩ := hV
  clear hok hid hnd
  have hmm := @run_makeMap Tryz.prog
  go_enter Tryz.func32, Tryz.ntmps32
  go_wp2_with fail
  have HS : Hid (SetI q0 w [] q0 (.slice ao q0.length cap) (w.alloc (.map #[] 0))) := ⟨rfl, .refl _, cmAt_made w, HV.out.kc (Kc.below ((Below.refl _ _).alloc (Nat.le_refl _) _)), Kc.below ((Below.refl _ _).alloc (Nat.le_refl _) _), (Below.refl _ _).alloc (Nat.le_refl _) _, .inl rfl⟩
  clear HV
  generalize w.alloc (.map #[] 0) = w1 at *
  go_loopw [0, 2, 3] (fun lv mv fv wr => ∃ (c q : List Uv) (aq : Option Addr) (cq : Nat), mv = .map (some w.heap.size) ∧ lv = .slice aq q.length cq ∧ (∃ af nf cf, fv = .slice af nf cf) ∧ Hid (SetI q0 w c q lv wr)) (fun lv _ _ _ => lenOf lv)
  case atStart => exact ⟨[], q0, _, _, rfl, rfl, ⟨_, _, _, rfl⟩, HS.out⟩
  case round =>
    obtain ⟨c, q, aq, cq, rfl, rfl, ⟨af, nf, cf, rfl⟩, HI⟩ := hrel
    clear HS
    generalize wr = wO at *
    have hql : q.length ≤ 1000 ∧ c.length ≤ 1000 := by
      have := HI.out.perm.length_eq
      rw [List.length_append] at this
      omega
    go_wp2_with fail
    go_loopw [3, 9] (fun fv iv wr => ∃ (k : Nat) (c' l' : List Uv), k ≤ q.length ∧ iv = .int .i64 k ∧ Hid (PassI q0 c q k c' l') ∧ CmAt wr w.heap.size c' ∧ URow wr wO.heap.size fv l' ∧ Hid (wO.grownBy wr (some w.heap.size))) (fun _ iv _ => q.length - (intOf iv).toNat)
    case atStart => exact ⟨0, c, [], Nat.zero_le _, rfl, PassI.start _ _ _, HI.out.map, World.ownsRow_nil _ _ _ _, grown_refl _ _⟩
    case round =>
      obtain ⟨k, c', l', hk, rfl, HP, hcm, hrow, HG⟩ := hrel
      obtain ⟨af, cf, rfl⟩ := own_slice hrow
      have hwz : wO.heap.size ≤ wr.heap.size := HG.out.size
      have hww : w.heap.size < wO.heap.size := HI.out.map.lt
      have hll : l'.length ≤ 1000 ∧ c'.length ≤ 1000 := by
        have := HP.out.perm.length_eq
        simp only [List.length_append] at this
        have h2 := HI.out.perm.length_eq
        rw [List.length_append] at h2
        omega
      by_cases hlt : k < q.length
      · have g1 : decide (k < q.length) = true := decide_eq_true hlt
        have HKC : Hid (Kc wO wr) := Kc.map HG.out HI.out.map
        obtain ⟨aq', cq', eq', _, hA⟩ := HI.out.row
        cases eq'
        obtain ⟨b, off, rfl, c0, c1, c2, c3, c4⟩ := ups_at (hA.kc HKC.out) k hlt
        have hmem : uvD q k ∈ q0 := HI.out.perm.mem_iff.mp (List.mem_append_right _ (uvD_mem q k hlt))
        have hx := (HOK.out _ hmem).1.kc (HI.out.kc.trans HKC.out)
        have hxi := (HOK.out _ hmem).2
        have HY : Hid (Dg.carry (ups c') (uvD q k).u = true → PassI q0 c q (k + 1) (c' ++ [uvD q k]) l') := fun h => HP.out.yes hlt h
        have HN : Hid (Dg.carry (ups c') (uvD q k).u = false → PassI q0 c q (k + 1) c' (l' ++ [uvD q k])) := fun h => HP.out.no hlt h
        have HNH : Hid (Dg.hasU (ups c') (uvD q k).u.id = false) := by
          have h3 : ((ups (c' ++ l' ++ q.drop k)).map Wr.Up.id).Nodup := nodup_perm (HP.out.perm.trans HI.out.perm) HND.out
          rw [uvD_drop q k hlt] at h3
          have h4 : ((ups (c' ++ [uvD q k])).map Wr.Up.id).Nodup := by
            refine h3.sublist ?_
            refine List.Sublist.map _ (List.Sublist.map _ ?_)
            rw [List.append_assoc]
            refine List.Sublist.append_left ?_ c'
            exact (List.singleton_sublist.mpr (by simp))
          exact (new_of_nodup h4).2
        clear HP hA
        generalize uvD q k = x at *
        obtain ⟨a1, n1, d1, a2, n2, d2, a3, n3, d3, e1, e2, e3⟩ := hx.forms
        have HX : Hid (UvOk wr x) := hx
        have HXI : Hid (IdsOk x.u) := hxi
        clear hx hxi hmem
        obtain ⟨⟨⟨ua, un⟩, ps, says, ts⟩, vp, vs, vt⟩ := x
        dsimp only at *
        subst e1 e2 e3
        have HB1 : Hid (Below wr.heap.size wr (wr.alloc (.cells #[.int .i64 ua, .int .i64 un, .slice a1 n1 d1, .slice a2 n2 d2, .slice a3 n3 d3] 30))) := (Below.refl _ _).alloc (Nat.le_refl _) _
        have HH1 : Hid ((wr.alloc (.cells #[.int .i64 ua, .int .i64 un, .slice a1 n1 d1, .slice a2 n2 d2, .slice a3 n3 d3] 30)).heap[wr.heap.size]? = _) := rl_new wr (.cells #[.int .i64 ua, .int .i64 un, .slice a1 n1 d1, .slice a2 n2 d2, .slice a3 n3 d3] 30)
        have HC : Hid (Calls Tryz.prog 73 #[.map (some w.heap.size), uvVal ⟨⟨⟨ua, un⟩, ps, says, ts⟩, .slice a1 n1 d1, .slice a2 n2 d2, .slice a3 n3 d3⟩] (wr.alloc (.cells #[.int .i64 ua, .int .i64 un, .slice a1 n1 d1, .slice a2 n2 d2, .slice a3 n3 d3] 30)) fun e w' => e = .returned (.bool (Dg.carry (ups c') ⟨⟨ua, un⟩, ps, says, ts⟩)) ∧ Below (wr.alloc (.cells #[.int .i64 ua, .int .i64 un, .slice a1 n1 d1, .slice a2 n2 d2, .slice a3 n3 d3] 30)).heap.size (wr.alloc (.cells #[.int .i64 ua, .int .i64 un, .slice a1 n1 d1, .slice a2 n2 d2, .slice a3 n3 d3] 30)) w') :=
          carry_any w.heap.size c' ⟨⟨⟨ua, un⟩, ps, says, ts⟩, .slice a1 n1 d1, .slice a2 n2 d2, .slice a3 n3 d3⟩ _ (hcm.below HB1.out) (HX.out.below HB1.out) (by have h1 := HXI.out.lp; have h2 := HXI.out.lt; dsimp only at *; omega) HXI.out.ps HXI.out.ts
        go_upto_region 6 with fail
        generalize wr.alloc (.cells #[.int .i64 ua, .int .i64 un, .slice a1 n1 d1, .slice a2 n2 d2, .slice a3 n3 d3] 30) = w2 at *
        have HD : Hid (∀ z, Below w2.heap.size w2 z → z.heap[wr.heap.size]? = some (.cells #[.int .i64 ua, .int .i64 un, .slice a1 n1 d1, .slice a2 n2 d2, .slice a3 n3 d3] 30)) := fun z hz => (hz.block _ (Array.getElem?_eq_some_iff.1 HH1.out).1).trans HH1.out
        have q0' : w2.cell? ⟨wr.heap.size, 0, none⟩ = some (.int .i64 ua) := by rw [Lib.cell_of_heap HH1.out]; rfl
        have q1' : w2.cell? ⟨wr.heap.size, 1, none⟩ = some (.int .i64 un) := by rw [Lib.cell_of_heap HH1.out]; rfl
        have q2' : w2.cell? ⟨wr.heap.size, 2, none⟩ = some (.slice a1 n1 d1) := by rw [Lib.cell_of_heap HH1.out]; rfl
        have q3' : w2.cell? ⟨wr.heap.size, 3, none⟩ = some (.slice a2 n2 d2) := by rw [Lib.cell_of_heap HH1.out]; rfl
        have q4' : w2.cell? ⟨wr.heap.size, 4, none⟩ = some (.slice a3 n3 d3) := by rw [Lib.cell_of_heap HH1.out]; rfl
        go_wp2_with fail
        refine Calls.mono HC.out ?_
        rintro e w3 ⟨rfl, hb3⟩
        clear HC q0' q1' q2' q3' q4' c0 c1 c2 c3 c4 HH1
        have hh3 := HD.out w3 hb3
        have q0' : w3.cell? ⟨wr.heap.size, 0, none⟩ = some (.int .i64 ua) := by rw [Lib.cell_of_heap hh3]; rfl
        have q1' : w3.cell? ⟨wr.heap.size, 1, none⟩ = some (.int .i64 un) := by rw [Lib.cell_of_heap hh3]; rfl
        have q2' : w3.cell? ⟨wr.heap.size, 2, none⟩ = some (.slice a1 n1 d1) := by rw [Lib.cell_of_heap hh3]; rfl
        have q3' : w3.cell? ⟨wr.heap.size, 3, none⟩ = some (.slice a2 n2 d2) := by rw [Lib.cell_of_heap hh3]; rfl
        have q4' : w3.cell? ⟨wr.heap.size, 4, none⟩ = some (.slice a3 n3 d3) := by rw [Lib.cell_of_heap hh3]; rfl
        have hb13 := HB1.out.trans (hb3.mono HB1.out.size)
        have hcm3 := hcm.below hb13
        have hrow3 := ownsRow_below hrow hb13
        have HX3 : Hid (UvOk w3 ⟨⟨⟨ua, un⟩, ps, says, ts⟩, .slice a1 n1 d1, .slice a2 n2 d2, .slice a3 n3 d3⟩) := HX.out.below hb13
        have HG3 : Hid (wO.grownBy w3 (some w.heap.size)) := grown_below HG.out hb13
        have hsz3 : wO.heap.size ≤ w3.heap.size := HG3.out.size
        clear hcm hrow HB1 HD hb3 hh3 hb13 HG HX HKC
        cases hca : Dg.carry (ups c') ⟨⟨ua, un⟩, ps, says, ts⟩
        · -- left
          have HP5 : Hid _ := HN.out hca
          clear HY HN hca
          go_wp2_with (at_builtin; refine wpList_append_own _ rfl _ _ 22 rfl wO.heap.size 30 i0 _ 5 88 Tryz.underlying22 hi hz0 hz1 hz2 rfl (by decide) _ _ _ rfl (hrow3.alloc _) ⟨w3.heap.size, 0, none⟩ 1 1 ([(⟨⟨⟨ua, un⟩, ps, says, ts⟩, .slice a1 n1 d1, .slice a2 n2 d2, .slice a3 n3 d3⟩ : Uv)].map uvCells).flatten rfl rfl ?c1 ?c2 ?c3 ?c4 ?c5 ?_)
          case c2 => intro u hu; simp at hu; rcases hu with rfl | rfl | rfl | rfl | rfl <;> rfl
          case c3 => unfold maxLen; omega
          case c4 => omega
          case c5 => simp; omega
          · exact news5 w3 _ _ _ _ _ 30
          intro vs2 w4 hown4 hgrow4 _
          obtain ⟨ao9, cap9, rfl⟩ := own_slice hown4
          have HO4 : Hid (URow w4 wO.heap.size (.slice ao9 (l'.length + 1) cap9) (l' ++ [(⟨⟨⟨ua, un⟩, ps, says, ts⟩, .slice a1 n1 d1, .slice a2 n2 d2, .slice a3 n3 d3⟩ : Uv)])) := by
            show World.ownsRow _ _ _ _ _ _ _
            rw [List.length_append, List.map_append, List.flatten_append]
            exact hown4
          have HG4 : Hid (wO.grownBy w4 (some w.heap.size)) := grown_own (grown_trans HG3.out (grown_alloc w3 _ _)) hgrow4 (hrow3.alloc _)
          have HC4 : Hid (CmAt w4 w.heap.size c') := by
            show CmAt _ _ _
            obtain ⟨D, g1, g2⟩ := hcm3
            exact ⟨D, (g1.alloc _).kept hgrow4 (fun e => by have := (hrow3.lt _ e.symm).1; omega), g2⟩
          clear hown4 hgrow4 hrow3 hcm3 HG3 HX3 q0' q1' q2' q3' q4'
          go_wp2_with fail
          go_roundw
          case rel => exact ⟨k + 1, _, _, hlt, by go_num, HP5.out, HC4.out, HO4.out, HG4.out⟩
          case measure => simp [intOf]; omega
        · have HP5 : Hid _ := HY.out hca
          clear HY HN hca
          go_wp2_with (at_mapUpdate; refine wpList_store_ids _ rfl _ _ _ rfl w.heap.size c' ⟨⟨⟨ua, un⟩, ps, says, ts⟩, .slice a1 n1 d1, .slice a2 n2 d2, .slice a3 n3 d3⟩ w3 rfl hcm3 (by omega) rfl rfl HXI.out.id HX3.out HNH.out ?_; intro w4 hm4 hg4)
          have HO4 : Hid (URow w4 wO.heap.size (.slice af l'.length cf) l') := hrow3.kept hg4 (.inr (fun e => by have := (hrow3.lt _ e).1; omega))
          have HG4 : Hid (wO.grownBy w4 (some w.heap.size)) := grown_trans HG3.out hg4
          have HM4 : Hid (CmAt w4 w.heap.size (c' ++ [(⟨⟨⟨ua, un⟩, ps, says, ts⟩, .slice a1 n1 d1, .slice a2 n2 d2, .slice a3 n3 d3⟩ : Uv)])) := hm4
          clear hm4 hg4 hrow3 hcm3 HG3 HX3 q0' q1' q2' q3' q4'
          go_roundw
          case rel => exact ⟨k + 1, _, _, hlt, by go_num, HP5.out, HM4.out, HO4.out, HG4.out⟩
          case measure => simp [intOf]; omega
      · have g1 : decide (k < q.length) = false := decide_eq_false hlt
        obtain ⟨hp1, hp2⟩ := HP.out.fin hlt
        have HP1 : Hid (Dg.pass Dg.snoc (ups c) (ups q) = (ups c', ups l')) := hp1
        have HP2 : Hid ((c' ++ l').Perm q0) := hp2.trans HI.out.perm
        have HBW : Hid (Below w.heap.size w wr) := HI.out.bel.grown HG.out HI.out.bel.size (fun j e => by cases e; exact Nat.le_refl _)
        have HKC : Hid (Kc w wr) := HI.out.kc.trans (Kc.map HG.out HI.out.map)
        have HRW : Hid (URow wr w.heap.size (.slice af l'.length cf) l') := rl_own_le hrow (by omega)
        clear hp1 hp2 HP
        by_cases he : l'.length = q.length
        · have g2 : ((l'.length : Int) == (q.length : Int)) = true := by rw [he]; simp
          have HR : Hid (Dg.settle Dg.snoc [] (ups q0) = (ups c', ups l')) := by
            show _ = _
            rw [HI.out.set, Dg.settle_end (by rw [HP1.out]; show (ups l').length = _; rw [ups_length, ups_length, he]), HP1.out]
          clear he
          go_wp2_with fail
          go_ret2
          exact ⟨c', l', _, rfl, HR.out, HP2.out, hcm, HRW.out, HBW.out⟩
        · have g2 : ((l'.length : Int) == (q.length : Int)) = false := by
            have : ¬ (l'.length : Int) = (q.length : Int) := by omega
            simpa using this
          have hlq : l'.length < q.length := by
            have h1 := Dg.pass_len Dg.snoc (ups q) (ups c)
            rw [HP1.out] at h1
            have h2 : (ups l').length ≤ (ups q).length := h1
            rw [ups_length, ups_length] at h2
            omega
          have HR : Hid (SetI q0 w c' l' (.slice af l'.length cf) wr) := by
            refine ⟨?_, HP2.out, hcm, own_ups hrow, HKC.out, HBW.out, .inr HRW.out⟩
            rw [HI.out.set, Dg.settle_on (by rw [HP1.out]; show ¬ (ups l').length = _; rw [ups_length, ups_length]; exact he), HP1.out]
          clear he
          go_wp2_with fail
          go_roundw
          case rel => exact ⟨c', l', af, cf, rfl, rfl, ⟨_, _, _, rfl⟩, HR.out⟩
          case measure => simp [lenOf]; omega
end Go.Proofs.YtmfaodapofamfaaGreat

/- The document's PlaceOf. -/
namespace Go.Proofs.YtmfaodapofamfaaGreat
open Go.RowKit

/-- Where an id is among updates: r is its place, or -1. -/
def PlaceR (q : List Uv) (x : Wr.Id) (r : Int) : Prop := (r = -1 ∧ Dg.hasU (ups q) x = false) ∨ ∃ k : Nat, r = k ∧ k < q.length ∧ (uvD q k).u.id = x
theorem PlaceR.neg {q : List Uv} {x : Wr.Id} {r : Int} (h : PlaceR q x r) : decide (r < 0) = !Dg.hasU (ups q) x := by
  rcases h with ⟨rfl, h⟩ | ⟨k, rfl, hk, he⟩
  · rw [h]; rfl
  · have : Dg.hasU (ups q) x = true := Dg.hasU_iff.mpr ⟨(uvD q k).u, List.mem_map.mpr ⟨_, uvD_mem q k hk, rfl⟩, he⟩
    rw [this]
    exact decide_eq_false (by omega)
theorem PlaceR.pos {q : List Uv} {x : Wr.Id} {r : Int} (h : PlaceR q x r) : decide (0 ≤ r) = Dg.hasU (ups q) x := by
  have h1 := h.neg
  cases hh : Dg.hasU (ups q) x <;> rw [hh] at h1 <;> simp at h1 ⊢ <;> omega
set_option maxRecDepth 100000 in
set_option maxHeartbeats 2000000 in
theorem PlaceOf_any (q : List Uv) (x : Wr.Id) (v : Value) (w : World) (hV : UpsV w v q) (hl : q.length ≤ 9223372036854775806) : Calls Tryz.prog 19 #[v, idVal x] w fun e w' => ∃ r : Int, e = .returned (.int .i64 r) ∧ PlaceR q x r ∧ Below w.heap.size w w' := by
  obtain ⟨ao, cap, rfl, _, hA⟩ := hV
  obtain ⟨xa, xn⟩ := x
  have HA : Hid (UpsAt w ao q) := hA
  have HG : Hid (Below w.heap.size w (w.alloc (.cells #[.int .i64 xa, .int .i64 xn] 26))) := ((Gr.refl w).alloc _).below
  have HB : Hid _ := heap_alloc_new w (.cells #[.int .i64 xa, .int .i64 xn] 26)
  clear hA
  go_enter Tryz.func19, Tryz.ntmps19
  go_upto_region 1 with fail
  generalize w.alloc (.cells #[.int .i64 xa, .int .i64 xn] 26) = w2 at *
  have c0 : w2.cell? ⟨w.heap.size, 0, none⟩ = some (.int .i64 xa) := by rw [Lib.cell_of_heap HB.out]; rfl
  have c1 : w2.cell? ⟨w.heap.size, 1, none⟩ = some (.int .i64 xn) := by rw [Lib.cell_of_heap HB.out]; rfl
  clear HB
  go_wp2_with fail
  go_loopw [5] (fun iv wr => ∃ k nq : Nat, k ≤ q.length ∧ iv = .int .i64 k ∧ Hid (Dg.hasU (ups (q.take k)) ⟨xa, xn⟩ = false) ∧ wr = w2.drewN nq) (fun iv _ => q.length - (intOf iv).toNat)
  case atStart => exact ⟨0, 0, Nat.zero_le _, rfl, rfl, rfl⟩
  case round =>
    obtain ⟨k, nq, hk, rfl, HR, rfl⟩ := hrel
    have HBW : Hid (Below w.heap.size w (w2.drewN nq)) := HG.out.trans ((blw_drewN w2 nq).mono HG.out.size)
    by_cases hlt : k < q.length
    · obtain ⟨b, off, rfl, p0, p1, _⟩ := ups_at HA.out k hlt
      have a0 := cell_below HG.out p0
      have a1 := cell_below HG.out p1
      clear p0 p1
      have HD : Hid ((uvD q k).u.id ≠ ⟨xa, xn⟩ → Dg.hasU (ups (q.take (k + 1))) ⟨xa, xn⟩ = false) := fun h => by
        rw [uvD_take q k hlt, ups_append]
        have h0 := HR.out
        unfold Dg.hasU at h0 ⊢
        rw [List.any_append, h0]
        simp [ups, h]
      have HE : Hid ((uvD q k).u.id = ⟨xa, xn⟩ → PlaceR q ⟨xa, xn⟩ k) := fun h => .inr ⟨k, rfl, hlt, h⟩
      clear HR
      generalize (uvD q k).u.id = z at *
      obtain ⟨za, zn⟩ := z
      dsimp only at a0 a1
      by_cases e1 : za = xa
      · by_cases e2 : zn = xn
        · subst e1 e2
          have g1 : (za == za) = true := by simp
          have g2 : (zn == zn) = true := by simp
          have HP : Hid _ := HE.out rfl
          go_upto_region 4 with fail
          go_quiet (fail)
          go_wp2_with fail
          go_ret
          exact ⟨k, rfl, HP.out, HG.out.trans ((blw_drewN w2 _).mono HG.out.size)⟩
        · have g2 : (zn == xn) = false := by simpa using e2
          have g3 : (xn == zn) = false := by simpa using fun h => e2 h.symm
          subst e1
          have g1 : (za == za) = true := by simp
          have HN : Hid _ := HD.out (fun h => e2 (by injection h))
          clear HD HE e2
          go_upto_region 4 with fail
          go_quiet (fail)
          go_wp2_with fail
          go_roundw
          case rel => exact ⟨k + 1, _, hlt, by go_num, HN.out, rfl⟩
          case measure => simp [intOf]; omega
      · have g1 : (za == xa) = false := by simpa using e1
        have g3 : (xa == za) = false := by simpa using fun h => e1 h.symm
        have HN : Hid _ := HD.out (fun h => e1 (by injection h))
        clear HD HE e1
        go_upto_region 4 with fail
        go_quiet (fail)
        go_wp2_with fail
        go_roundw
        case rel => exact ⟨k + 1, _, hlt, by go_num, HN.out, rfl⟩
        case measure => simp [intOf]; omega
    · have hdd : decide (k < q.length) = false := decide_eq_false hlt
      have HE : Hid (PlaceR q ⟨xa, xn⟩ (-1)) := by
        have h0 := HR.out
        rw [List.take_of_length_le (by omega)] at h0
        exact .inl ⟨rfl, h0⟩
      go_wp2_with fail
      go_ret
      exact ⟨-1, rfl, HE.out, HBW.out⟩
end Go.Proofs.YtmfaodapofamfaaGreat

/- What others have, plain: which updates are heads or behind one; nothing of the program stands here. -/
namespace Go.Proofs.YtmfaodapofamfaaGreat
namespace Gs
open Wr (Up)

inductive Kw (h : List Up) (ids : List Wr.Id) : Wr.Id → Prop
  | head {x : Wr.Id} : x ∈ ids → Dg.hasU h x = true → Kw h ids x
  | under {u : Up} {x : Wr.Id} : u ∈ h → Kw h ids u.id → x ∈ Dg.under u → Dg.hasU h x = true → Kw h ids x
theorem Kw.of {h : List Up} {ids m : List Wr.Id} (hm : ∀ y, y ∈ ids → Dg.hasU h y = true → Kw h m y) {x : Wr.Id} (k : Kw h ids x) : Kw h m x := by
  induction k with
  | head h1 h2 => exact hm _ h1 h2
  | under h1 _ h3 h4 ih => exact .under h1 ih h3 h4
theorem Kw.mono {h : List Up} {ids m : List Wr.Id} (hm : ∀ y, y ∈ ids → y ∈ m) {x : Wr.Id} (k : Kw h ids x) : Kw h m x := k.of fun y hy hh => .head (hm y hy) hh
open Classical in
noncomputable def knows (h : List Up) (ids : List Wr.Id) (u : Up) : Bool := decide (Kw h ids u.id)
noncomputable def known (h : List Up) (ids : List Wr.Id) : List Bool := h.map (knows h ids)
noncomputable def missing (h : List Up) (ids : List Wr.Id) : List Up := h.filter fun u => !knows h ids u
open Classical in
theorem knows_iff {h : List Up} {ids : List Wr.Id} {u : Up} : knows h ids u = true ↔ Kw h ids u.id := by
  unfold knows
  exact decide_eq_true_iff
def at_ (f : List Bool) (i : Nat) : Bool := f.getD i false
theorem at_set {f : List Bool} {i j : Nat} : at_ (f.set i true) j = true ↔ at_ f j = true ∨ (j = i ∧ i < f.length) := by
  unfold at_
  rw [List.getD_eq_getElem?_getD, List.getD_eq_getElem?_getD, List.getElem?_set]
  by_cases e : i = j
  · subst e
    by_cases hl : i < f.length
    · simp [hl]
    · simp [hl]
  · rw [if_neg e]
    constructor
    · exact .inl
    · rintro (h | ⟨h, _⟩)
      · exact h
      · exact absurd h.symm e
theorem set_len (f : List Bool) (i : Nat) : (f.set i true).length = f.length := List.length_set
theorem ups_uvD {q : List Uv} {u : Up} (h : u ∈ ups q) : ∃ i, i < q.length ∧ (uvD q i).u = u := by
  obtain ⟨y, hy, rfl⟩ := List.mem_map.mp h
  obtain ⟨i, hi, rfl⟩ := List.getElem_of_mem hy
  refine ⟨i, hi, ?_⟩
  unfold uvD
  rw [List.getD_eq_getElem?_getD, List.getElem?_eq_getElem hi]
  rfl
theorem mem_uvD {q : List Uv} {i : Nat} (h : i < q.length) : (uvD q i).u ∈ ups q := List.mem_map_of_mem (uvD_mem q i h)
theorem has_uvD {q : List Uv} {i : Nat} (h : i < q.length) : Dg.hasU (ups q) (uvD q i).u.id = true := Dg.hasU_iff.mpr ⟨_, mem_uvD h, rfl⟩
/-- What one who marks leaves. -/
structure MarkP (q : List Uv) (ids : List Wr.Id) (f g : List Bool) : Prop where
  len : g.length = f.length
  mono : ∀ i, at_ f i = true → at_ g i = true
  sound : ∀ i, i < q.length → at_ g i = true → at_ f i = true ∨ Kw (ups q) ids (uvD q i).u.id
  heads : ∀ i, i < q.length → (uvD q i).u.id ∈ ids → at_ g i = true
  shut : ∀ i, i < q.length → at_ g i = true → at_ f i = true ∨ ∀ j, j < q.length → (uvD q j).u.id ∈ Dg.under (uvD q i).u → at_ g j = true
theorem MarkP.refl (q : List Uv) (f : List Bool) : MarkP q [] f f := ⟨rfl, (fun _ h => h), (fun _ _ h => .inl h), (fun _ _ h => by cases h), (fun _ _ h => .inl h)⟩
theorem MarkP.skip {q : List Uv} {ids : List Wr.Id} {x : Wr.Id} {f g : List Bool} (h : MarkP q ids f g) (hx : ∀ i, i < q.length → (uvD q i).u.id = x → at_ g i = true) : MarkP q (ids ++ [x]) f g := by
  refine ⟨h.len, h.mono, fun i hi hg => ?_, fun i hi hm => ?_, h.shut⟩
  · rcases h.sound i hi hg with h1 | h1
    · exact .inl h1
    · exact .inr (h1.mono fun y hy => List.mem_append_left _ hy)
  · rcases List.mem_append.mp hm with h1 | h1
    · exact h.heads i hi h1
    · exact hx i hi (List.mem_singleton.mp h1)
theorem MarkP.visit {q : List Uv} {ids : List Wr.Id} {a : Nat} {f g g2 g3 : List Bool} (h : MarkP q ids f g) (ha : a < q.length) (hl : g.length = q.length)
    (hq : ∀ i, i < q.length → (uvD q i).u.id = (uvD q a).u.id → i = a) (h2 : MarkP q (uvD q a).u.ps (g.set a true) g2) (h3 : MarkP q (uvD q a).u.ts g2 g3) : MarkP q (ids ++ [(uvD q a).u.id]) f g3 := by
  have hk : Kw (ups q) (ids ++ [(uvD q a).u.id]) (uvD q a).u.id := .head (List.mem_append_right _ (List.mem_singleton.mpr rfl)) (has_uvD ha)
  have hkn : ∀ {l : List Wr.Id}, (∀ y, y ∈ l → y ∈ Dg.under (uvD q a).u) → ∀ {x}, Kw (ups q) l x → Kw (ups q) (ids ++ [(uvD q a).u.id]) x := fun hl x k => k.of fun y hy hh => .under (mem_uvD ha) hk (hl y hy) hh
  have hp : ∀ y, y ∈ (uvD q a).u.ps → y ∈ Dg.under (uvD q a).u := fun y hy => List.mem_append_left _ hy
  have ht : ∀ y, y ∈ (uvD q a).u.ts → y ∈ Dg.under (uvD q a).u := fun y hy => List.mem_append_right _ hy
  have hup : ∀ i, at_ g i = true → at_ g3 i = true := fun i hi => h3.mono i (h2.mono i (at_set.mpr (.inl hi)))
  have haa : at_ g3 a = true := h3.mono a (h2.mono a (at_set.mpr (.inr ⟨rfl, by omega⟩)))
  refine ⟨h3.len.trans (h2.len.trans ((set_len _ _).trans h.len)), fun i hi => hup i (h.mono i hi), fun i hi hg => ?_, fun i hi hm => ?_, fun i hi hg => ?_⟩
  · rcases h3.sound i hi hg with h4 | h4
    · rcases h2.sound i hi h4 with h5 | h5
      · rcases at_set.mp h5 with h6 | ⟨rfl, _⟩
        · rcases h.sound i hi h6 with h7 | h7
          · exact .inl h7
          · exact .inr (h7.mono fun y hy => List.mem_append_left _ hy)
        · exact .inr hk
      · exact .inr (hkn hp h5)
    · exact .inr (hkn ht h4)
  · rcases List.mem_append.mp hm with h1 | h1
    · exact hup i (h.heads i hi h1)
    · rw [hq i hi (List.mem_singleton.mp h1)]
      exact haa
  · rcases h3.shut i hi hg with h4 | h4
    · rcases h2.shut i hi h4 with h5 | h5
      · rcases at_set.mp h5 with h6 | ⟨rfl, _⟩
        · rcases h.shut i hi h6 with h7 | h7
          · exact .inl h7
          · exact .inr fun j hj hm => hup j (h7 j hj hm)
        · refine .inr fun j hj hm => ?_
          rcases List.mem_append.mp hm with h1 | h1
          · exact h3.mono j (h2.heads j hj h1)
          · exact h3.heads j hj h1
      · exact .inr fun j hj hm => h3.mono j (h5 j hj hm)
    · exact .inr h4
/-- Whoever marks the heads, marks but what is known, and marks what is under what he marked, has marked what is known. -/
theorem known_of {q : List Uv} {ids : List Wr.Id} {g : List Bool} (hl : g.length = q.length) (h1 : ∀ i, i < q.length → at_ g i = true → Kw (ups q) ids (uvD q i).u.id)
    (h2 : ∀ i, i < q.length → (uvD q i).u.id ∈ ids → at_ g i = true) (h3 : ∀ i, i < q.length → at_ g i = true → ∀ j, j < q.length → (uvD q j).u.id ∈ Dg.under (uvD q i).u → at_ g j = true) : g = known (ups q) ids := by
  have key : ∀ x, Kw (ups q) ids x → ∀ i, i < q.length → (uvD q i).u.id = x → at_ g i = true := by
    intro x k
    induction k with
    | head k1 _ => intro i hi e; exact h2 i hi (by rw [e]; exact k1)
    | under k1 _ k3 _ ih =>
      intro i hi e
      obtain ⟨j, hj, ej⟩ := ups_uvD k1
      exact h3 j hj (ih j hj (by rw [ej])) i hi (by rw [e, ej]; exact k3)
  have hll : (known (ups q) ids).length = q.length := by unfold known; rw [List.length_map, ups_length]
  refine List.ext_getElem? fun i => ?_
  by_cases hi : i < q.length
  · have e1 : g[i]? = some (at_ g i) := by
      unfold at_
      rw [List.getD_eq_getElem?_getD, List.getElem?_eq_getElem (by omega)]
      rfl
    have eu : uvD q i = q[i] := by
      unfold uvD
      rw [List.getD_eq_getElem?_getD, List.getElem?_eq_getElem hi]
      rfl
    have e2 : (known (ups q) ids)[i]? = some (knows (ups q) ids (uvD q i).u) := by
      rw [eu]
      simp [known, ups, List.getElem?_eq_getElem hi]
    rw [e1, e2]
    refine congrArg some ?_
    rw [Bool.eq_iff_iff, knows_iff]
    exact ⟨h1 i hi, fun k => key _ k i hi rfl⟩
  · rw [List.getElem?_eq_none (by omega), List.getElem?_eq_none (by omega)]
theorem MarkP.known {q : List Uv} {ids : List Wr.Id} {g : List Bool} (h : MarkP q ids (List.replicate q.length false) g) : g = known (ups q) ids := by
  have hno : ∀ i, ¬ at_ (List.replicate q.length false) i = true := fun i hi => by
    unfold at_ at hi
    rw [List.getD_eq_getElem?_getD, List.getElem?_replicate] at hi
    split at hi <;> cases hi
  refine known_of (by rw [h.len, List.length_replicate]) (fun i hi hg => ?_) h.heads (fun i hi hg => ?_)
  · exact (h.sound i hi hg).resolve_left (hno i)
  · exact (h.shut i hi hg).resolve_left (hno i)
/-- How many are not yet marked. -/
def left (f : List Bool) : Nat := f.countP (fun b => !b)
theorem left_set : ∀ {f : List Bool} {i : Nat}, i < f.length → at_ f i = false → left (f.set i true) + 1 = left f
  | [], _, h, _ => absurd h (Nat.not_lt_zero _)
  | b :: f, 0, _, h => by
    have hb : b = false := h
    subst hb
    simp [left]
  | b :: f, i + 1, hl, h => by
    have := left_set (f := f) (i := i) (by simpa using hl) (by simpa [at_] using h)
    cases b <;> (simp [left] at this ⊢; omega)
theorem left_mono : ∀ {f g : List Bool}, g.length = f.length → (∀ i, at_ f i = true → at_ g i = true) → left g ≤ left f
  | [], [], _, _ => Nat.le_refl _
  | [], _ :: _, h, _ => by cases h
  | _ :: _, [], h, _ => by cases h
  | b :: f, c :: g, hl, h => by
    have h1 := left_mono (f := f) (g := g) (by simpa using hl) (fun i hi => by simpa [at_] using h (i + 1) (by simpa [at_] using hi))
    have h0 : b = true → c = true := fun hb => by simpa [at_] using h 0 (by simpa [at_] using hb)
    cases b <;> cases c <;> simp [left] at h0 h1 ⊢ <;> omega
/-- The place that a search finds. -/
def BsR (q : List Uv) (x : Wr.Id) (r : Nat) (b : Bool) : Prop := (b = true ∧ r < q.length ∧ (uvD q r).u.id = x) ∨ (b = false ∧ Dg.hasU (ups q) x = false)
theorem rise_at {q : List Uv} (h : Wr.rise Dg.uOrd (ups q) = true) : ∀ i j, i < j → j < q.length → Dg.uOrd (uvD q i).u (uvD q j).u < 0 := by
  induction q with
  | nil => intro i j _ hj; exact absurd hj (Nat.not_lt_zero _)
  | cons a q ih =>
    have h' := Dg.rise_cons.mp (show Wr.rise Dg.uOrd (a.u :: ups q) = true from h)
    intro i j hij hj
    match i, j, hij with
    | 0, j + 1, _ => exact h'.1 _ (mem_uvD (by simpa using hj))
    | i + 1, j + 1, hij => exact ih h'.2 i j (by omega) (by simpa using hj)
theorem ord_trans {x y z : Wr.Id} (h : Wr.idOrd x y < 0) (k : Wr.idOrd y z < 0) : Wr.idOrd x z < 0 := by
  rw [Dg.idOrd_neg] at *
  omega
theorem rise_id {q : List Uv} (h : Wr.rise Dg.uOrd (ups q) = true) {i j : Nat} (hi : i < q.length) (hj : j < q.length) (e : (uvD q i).u.id = (uvD q j).u.id) : i = j := by
  rcases Nat.lt_trichotomy i j with h1 | h1 | h1
  · exact absurd e (Dg.uOrd_ne (rise_at h i j h1 hj))
  · exact h1
  · exact absurd e.symm (Dg.uOrd_ne (rise_at h j i h1 hi))
structure BsI (q : List Uv) (x : Wr.Id) (i j : Nat) : Prop where
  le : i ≤ j
  lt : j ≤ q.length
  low : ∀ t, t < i → Wr.idOrd (uvD q t).u.id x < 0
  high : ∀ t, j ≤ t → t < q.length → ¬ Wr.idOrd (uvD q t).u.id x < 0
theorem BsI.start (q : List Uv) (x : Wr.Id) : BsI q x 0 q.length := ⟨Nat.zero_le _, Nat.le_refl _, (fun t h => absurd h (Nat.not_lt_zero _)), (fun t h1 h2 => absurd h2 (by omega))⟩
theorem BsI.up {q : List Uv} {x : Wr.Id} {i j m : Nat} (h : BsI q x i j) (hr : Wr.rise Dg.uOrd (ups q) = true) (h1 : i ≤ m) (h2 : m < j) (hc : Wr.idOrd (uvD q m).u.id x < 0) : BsI q x (m + 1) j := by
  refine ⟨h2, h.lt, fun t ht => ?_, h.high⟩
  have hl := h.lt
  by_cases e : t = m
  · subst e; exact hc
  · exact ord_trans (rise_at hr t m (by omega) (by omega)) hc
theorem BsI.down {q : List Uv} {x : Wr.Id} {i j m : Nat} (h : BsI q x i j) (hr : Wr.rise Dg.uOrd (ups q) = true) (h1 : i ≤ m) (h2 : m < j) (hc : ¬ Wr.idOrd (uvD q m).u.id x < 0) : BsI q x i m := by
  have hl := h.lt
  refine ⟨h1, by omega, h.low, fun t ht h3 hn => ?_⟩
  by_cases e : t = m
  · subst e; exact hc hn
  · exact hc (ord_trans (rise_at hr m t (by omega) h3) hn)
theorem BsI.fin {q : List Uv} {x : Wr.Id} {i : Nat} (h : BsI q x i i) (hr : Wr.rise Dg.uOrd (ups q) = true) : BsR q x i (decide (i < q.length) && decide (Wr.idOrd (uvD q i).u.id x = 0)) := by
  by_cases h1 : i < q.length
  · by_cases h2 : Wr.idOrd (uvD q i).u.id x = 0
    · exact .inl ⟨by simp [h1, h2], h1, Dg.idOrd_nul.mp h2⟩
    · refine .inr ⟨by simp [h2], ?_⟩
      cases hb : Dg.hasU (ups q) x with
      | false => rfl
      | true =>
        obtain ⟨u, hu, e⟩ := Dg.hasU_iff.mp hb
        obtain ⟨t, ht, et⟩ := ups_uvD hu
        rw [← et] at e
        have hz : Wr.idOrd (uvD q t).u.id x = 0 := Dg.idOrd_nul.mpr e
        rcases Nat.lt_trichotomy t i with h3 | h3 | h3
        · have := h.low t h3; omega
        · subst h3; exact absurd hz h2
        · have h4 := rise_at hr i t h3 ht
          have h5 : Wr.idOrd (uvD q i).u.id x < 0 := by rw [← e]; exact h4
          exact absurd h5 (h.high i (Nat.le_refl _) h1)
  · refine .inr ⟨by simp [h1], ?_⟩
    cases hb : Dg.hasU (ups q) x with
    | false => rfl
    | true =>
      obtain ⟨u, hu, e⟩ := Dg.hasU_iff.mp hb
      obtain ⟨t, ht, et⟩ := ups_uvD hu
      rw [← et] at e
      have hz : Wr.idOrd (uvD q t).u.id x = 0 := Dg.idOrd_nul.mpr e
      have := h.low t (by omega)
      omega
end Gs
end Go.Proofs.YtmfaodapofamfaaGreat

/- A region that draws its order, by an invariant over what has been carried out: one proof for each operation, not one for each order. -/
namespace Go.Proofs.YtmfaodapofamfaaGreat

section
variable {P : Program} {ops : Array Oper} {Q : Exit → Act → World → Prop} {md : Region.Mode}

theorem ready_mem {s : Array Bool} {i : Nat} (h : i ∈ Region.ready md ops s) : s[i]? = some false ∧ ∃ o, ops[i]? = some o ∧ ∀ e, e ∈ o.after → Region.binds md e = true → s[e.on]? = some true := by
  unfold Region.ready at h
  obtain ⟨_, h⟩ := List.mem_filter.mp h
  rw [Bool.and_eq_true] at h
  obtain ⟨h1, h2⟩ := h
  refine ⟨?_, ?_⟩
  · cases hs : s[i]? with
    | none => simp [Array.getD_eq_getD_getElem?, hs] at h1
    | some b => cases b <;> simp [Array.getD_eq_getD_getElem?, hs] at h1 ⊢
  · cases ho : ops[i]? with
    | none => simp [ho] at h2
    | some o =>
      refine ⟨o, rfl, fun e he hb => ?_⟩
      rw [ho, Option.map_some, Option.getD_some, Array.all_eq_true_iff_forall_mem] at h2
      have h3 := h2 e he
      rw [hb] at h3
      cases hs : s[e.on]? with
      | none => simp [Array.getD_eq_getD_getElem?, hs] at h3
      | some b => cases b <;> simp [Array.getD_eq_getD_getElem?, hs] at h3 ⊢

/-- How many are not yet carried out. -/
def left (s : Array Bool) : Nat := s.toList.countP (fun b => !b)
theorem left_zero {s : Array Bool} (h : left s = 0) : Region.ready md ops s = [] := by
  cases hr : Region.ready md ops s with
  | nil => rfl
  | cons i r =>
    have h1 := (ready_mem (s := s) (i := i) (by rw [hr]; exact List.mem_cons_self)).1
    have h2 : false ∈ s.toList := by
      rw [← Array.getElem?_toList] at h1
      exact List.mem_of_getElem? h1
    have h3 := List.countP_eq_zero.mp h false h2
    simp at h3
theorem left_set {s : Array Bool} {i : Nat} (h : s[i]? = some false) : left (s.setIfInBounds i true) + 1 = left s := by
  obtain ⟨hi, he⟩ := Array.getElem?_eq_some_iff.mp h
  unfold left
  have h1 : (s.setIfInBounds i true).toList = s.toList.set i true := by simp
  rw [h1, List.countP_set (h := by simpa using hi)]
  have hm : 0 < s.toList.countP (fun b => !b) := List.countP_pos_iff.mpr ⟨false, by rw [← Array.getElem?_toList] at h; exact List.mem_of_getElem? h, rfl⟩
  have h2 : s.toList[i]'(by simpa using hi) = false := by rw [Array.getElem_toList]; exact he
  rw [h2]
  simp only [Bool.not_false, Bool.not_true, if_true, Bool.false_eq_true, if_false]
  omega

theorem wpAny_inv (I : Array Bool → Act → World → Prop) (hend : ∀ s a w, Region.ready md ops s = [] → I s a w → Q .normal a w)
    (hstep : ∀ s a w i, i ∈ Region.ready md ops s → I s a w → wpOp P ops Q i (I (s.setIfInBounds i true)) a w) :
    ∀ (fuel : Nat) (s : Array Bool) (a : Act) (w : World), left s ≤ fuel → I s a w → wpAny P md ops Q fuel s a w
  | 0, s, a, w, hc, hI => ⟨left_zero (by omega), hend s a w (left_zero (by omega)) hI⟩
  | fuel + 1, s, a, w, hc, hI => ⟨fun h0 => hend s a w h0 hI, fun i hi => wpOp_mono (fun a' w' hI' => wpAny_inv I hend hstep fuel _ a' w' (by have := left_set (ready_mem hi).1; omega) hI') (hstep s a w i hi hI)⟩

/-- The region itself. -/
theorem wp_region_inv (I : Array Bool → Act → World → Prop) {id : Nat} {a : Act} {w : World} (hm : P.follows .mixedOrders = true)
    (hend : ∀ s a w, Region.ready .any ops s = [] → I s a w → Q .normal a w)
    (hstep : ∀ s a w i, i ∈ Region.ready .any ops s → I s a w → wpOp P ops Q i (I (s.setIfInBounds i true)) a w)
    (h0 : I (Array.replicate ops.size false) a { w with drawn := w.drawn + 1 }) : (Code.region id ops true).wp P Q a w := by
  refine wp_region_any hm (wpAny_inv I hend hstep ops.size _ _ _ ?_ h0)
  unfold left
  exact Nat.le_trans List.countP_le_length (by simp)
end

end Go.Proofs.YtmfaodapofamfaaGreat

/- A region that draws its order, by a table: of each temporary that it writes, what holds of its value once it is written. One goal for each operation. -/
namespace Go.Proofs.YtmfaodapofamfaaGreat
open Go.RowKit

/-- All that is written is written once, and within the frame; what is waited for stands ahead. -/
def tabFine (ops : Array Oper) (n : Nat) : Bool :=
  decide ((ops.toList.filterMap (·.dst)).Nodup) && (ops.toList.filterMap (·.dst)).all (fun t => decide (t < n)) && (List.range ops.size).all (fun i => ((ops[i]?).map (fun o => o.after.toList.all (fun e => decide (e.on < i)))).getD true)

/-- The table at what is done. -/
structure Tabbed (ops : Array Oper) (T : Nat → Value → World → Prop) (a0 : Act) (w0 : World) (s : Array Bool) (a : Act) (w : World) : Prop where
  below : Below w0.heap.size w0 w
  defers : a.defers = a0.defers
  size : a.tmps.size = a0.tmps.size
  still : ∀ t, t ∉ ops.toList.filterMap (·.dst) → a.tmps.getD t undef = a0.tmps.getD t undef
  done : ∀ (i : Nat) (o : Oper) (t : Nat), s[i]? = some true → ops[i]? = some o → o.dst = some t → T t (a.tmps.getD t undef) w

section
variable {P : Program} {ops : Array Oper} {Q : Exit → Act → World → Prop} {T : Nat → Value → World → Prop}

theorem dst_mem {i : Nat} {o : Oper} {t : Nat} (h : ops[i]? = some o) (ht : o.dst = some t) : t ∈ ops.toList.filterMap (·.dst) := by
  refine List.mem_filterMap.mpr ⟨o, ?_, ht⟩
  rw [← Array.getElem?_toList] at h
  exact List.mem_of_getElem? h

theorem dst_inj : ∀ (l : List Oper), (l.filterMap (·.dst)).Nodup → ∀ (i j : Nat) (o o' : Oper) (t : Nat), l[i]? = some o → l[j]? = some o' → o.dst = some t → o'.dst = some t → i = j
  | [], _, i, j, o, o', t, h, _, _, _ => by simp at h
  | x :: l, hn, i, j, o, o', t, hi, hj, ho, ho' => by
    have hmem : ∀ k (o : Oper), l[k]? = some o → o.dst = some t → t ∈ l.filterMap (·.dst) := fun k o h1 h2 => List.mem_filterMap.mpr ⟨o, List.mem_of_getElem? h1, h2⟩
    cases i with
    | zero =>
      cases j with
      | zero => rfl
      | succ j =>
        simp only [List.getElem?_cons_zero, Option.some.injEq] at hi
        subst hi
        simp only [List.getElem?_cons_succ] at hj
        rw [List.filterMap_cons, ho] at hn
        exact absurd (hmem j o' hj ho') (List.nodup_cons.mp hn).1
    | succ i =>
      cases j with
      | zero =>
        simp only [List.getElem?_cons_zero, Option.some.injEq] at hj
        subst hj
        simp only [List.getElem?_cons_succ] at hi
        rw [List.filterMap_cons, ho'] at hn
        exact absurd (hmem i o hi ho) (List.nodup_cons.mp hn).1
      | succ j =>
        simp only [List.getElem?_cons_succ] at hi hj
        have hn' : (l.filterMap (·.dst)).Nodup := by
          rw [List.filterMap_cons] at hn
          cases hx : x.dst with
          | none => rw [hx] at hn; exact hn
          | some z => rw [hx] at hn; exact (List.nodup_cons.mp hn).2
        exact congrArg (· + 1) (dst_inj l hn' i j o o' t hi hj ho ho')

/-- What an operation's goal may take as given. -/
structure OpIn (ops : Array Oper) (T : Nat → Value → World → Prop) (a0 : Act) (w0 : World) (o : Oper) (a : Act) (w : World) : Prop where
  below : Below w0.heap.size w0 w
  still : ∀ t, t ∉ ops.toList.filterMap (·.dst) → a.tmps.getD t undef = a0.tmps.getD t undef
  has : ∀ e, e ∈ o.after → Region.binds .any e = true → ∀ (o' : Oper) (t : Nat), ops[e.on]? = some o' → o'.dst = some t → T t (a.tmps.getD t undef) w

/-- What an operation must do. -/
def OpOk (P : Program) (ops : Array Oper) (Q : Exit → Act → World → Prop) (T : Nat → Value → World → Prop) (o : Oper) (a : Act) (w : World) : Prop :=
  if Region.wanted o (yielded ops a.tmps) then o.wp P a w (fun a' w' => ∃ v, a' = a.put o.dst v ∧ (∀ t, o.dst = some t → T t v w') ∧ Below w.heap.size w w') Q ∨ (o.asks P a w ∧ LetsOut Q)
  else ∀ t, o.dst = some t → T t undef w

theorem put_get_self {a : Act} {t : Nat} {v : Value} (h : t < a.tmps.size) : (a.put (some t) v).tmps.getD t undef = v := by
  simp [Act.put, Array.getD_eq_getD_getElem?, h]
theorem put_get_ne {a : Act} {t u : Nat} {v : Value} (h : u ≠ t) : (a.put (some t) v).tmps.getD u undef = a.tmps.getD u undef := by
  simp [Act.put, Array.getD_eq_getD_getElem?, Ne.symm h]
theorem put_size {a : Act} {d : Option Nat} {v : Value} : (a.put d v).tmps.size = a.tmps.size := by
  cases d <;> simp [Act.put]
theorem put_defers {a : Act} {d : Option Nat} {v : Value} : (a.put d v).defers = a.defers := by
  cases d <;> simp [Act.put]

theorem wp_region_tab (T : Nat → Value → World → Prop) {id : Nat} {a0 : Act} {w0 : World} (hm : P.follows .mixedOrders = true)
    (hf : tabFine ops a0.tmps.size = true)
    (hmono : ∀ t v w w', Below w.heap.size w w' → T t v w → T t v w')
    (hop : ∀ (i : Nat) (o : Oper), ops[i]? = some o → ∀ a w, OpIn ops T a0 w0 o a w → OpOk P ops Q T o a w)
    (hend : ∀ a w, Below w0.heap.size w0 w → a.defers = a0.defers → a.tmps.size = a0.tmps.size → (∀ t, t ∉ ops.toList.filterMap (·.dst) → a.tmps.getD t undef = a0.tmps.getD t undef) → (∀ t, t ∈ ops.toList.filterMap (·.dst) → T t (a.tmps.getD t undef) w) → Q .normal a w) :
    (Code.region id ops true).wp P Q a0 w0 := by
  unfold tabFine at hf
  rw [Bool.and_eq_true, Bool.and_eq_true] at hf
  obtain ⟨⟨hnd, hlt⟩, hah⟩ := hf
  have hnd := of_decide_eq_true hnd
  have hlt' : ∀ t, t ∈ ops.toList.filterMap (·.dst) → t < a0.tmps.size := fun t ht => by
    have h := List.all_eq_true.mp hlt t ht
    exact of_decide_eq_true h
  have hah' : ∀ (i : Nat) (o : Oper), ops[i]? = some o → ∀ e, e ∈ o.after → e.on < i := fun i o ho e he => by
    have hi : i < ops.size := (Array.getElem?_eq_some_iff.mp ho).1
    have h := List.all_eq_true.mp hah i (List.mem_range.mpr hi)
    rw [ho, Option.map_some, Option.getD_some] at h
    exact of_decide_eq_true (List.all_eq_true.mp h e (by simpa using he))
  have hset : ∀ {T : Nat → Value → World → Prop} {s : Array Bool} {a : Act} {w w' : World} {i : Nat} {o : Oper} {v : Value}, (∀ t v w w', Below w.heap.size w w' → T t v w → T t v w') → s.size = ops.size → ops[i]? = some o → Tabbed ops T a0 w0 s a w → (∀ t, o.dst = some t → T t v w') → Below w.heap.size w w' → Tabbed ops T a0 w0 (s.setIfInBounds i true) (a.put o.dst v) w' := by
    intro T s a w w' i o v hmono hs ho hI hv hb
    refine ⟨hI.below.trans (hb.mono hI.below.size), by rw [put_defers]; exact hI.defers, by rw [put_size]; exact hI.size, fun t ht => ?_, fun j oj t hj hoj hd => ?_⟩
    · cases hd : o.dst with
      | none => exact hI.still t ht
      | some u =>
        have hne : t ≠ u := fun h => ht (h ▸ dst_mem ho hd)
        rw [put_get_ne hne]
        exact hI.still t ht
    · by_cases hij : j = i
      · subst hij
        rw [ho] at hoj
        cases hoj
        rw [hd, put_get_self (by rw [hI.size]; exact hlt' t (dst_mem ho hd))]
        exact hv t hd
      · have hj' : s[j]? = some true := by
          rw [Array.getElem?_setIfInBounds, if_neg (fun h => hij h.symm)] at hj
          exact hj
        have h1 := hmono t _ w w' hb (hI.done j oj t hj' hoj hd)
        cases hd2 : o.dst with
        | none => exact h1
        | some u =>
          have hne : t ≠ u := fun h => hij (dst_inj ops.toList hnd j i oj o t (by rw [Array.getElem?_toList]; exact hoj) (by rw [Array.getElem?_toList]; exact ho) hd (h ▸ hd2))
          rw [put_get_ne hne]
          exact h1
  refine wp_region_inv (fun s a w => s.size = ops.size ∧ Tabbed ops T a0 w0 s a w) hm ?_ ?_ ?_
  · rintro s a w hr ⟨hs, hI⟩
    have hall : ∀ n : Nat, n ≤ ops.size → ∀ i : Nat, i < n → s[i]? = some true := by
      intro n
      induction n with
      | zero => intro _ i hi; exact absurd hi (Nat.not_lt_zero _)
      | succ n ih =>
        intro hn i hi
        have ih := ih (by omega)
        by_cases hin : i < n
        · exact ih i hin
        · have hin : i = n := by omega
          subst hin
          cases hsi : s[i]? with
          | none => rw [Array.getElem?_eq_none_iff] at hsi; omega
          | some b =>
            cases b with
            | true => rfl
            | false =>
              exfalso
              have hio : i < ops.size := by omega
              have : i ∈ Region.ready .any ops s := by
                unfold Region.ready
                refine List.mem_filter.mpr ⟨List.mem_range.mpr hio, ?_⟩
                rw [Bool.and_eq_true]
                refine ⟨by simp [Array.getD_eq_getD_getElem?, hsi], ?_⟩
                have ho : ops[i]? = some ops[i] := Array.getElem?_eq_getElem hio
                rw [ho, Option.map_some, Option.getD_some, Array.all_eq_true_iff_forall_mem]
                intro e he
                have h1 := ih e.on (hah' i _ ho e he)
                simp [Array.getD_eq_getD_getElem?, h1]
              rw [hr] at this
              exact absurd this (by simp)
    refine hend a w hI.below hI.defers hI.size hI.still (fun t ht => ?_)
    obtain ⟨o, ho, hd⟩ := List.mem_filterMap.mp ht
    obtain ⟨i, hi⟩ := List.mem_iff_getElem?.mp ho
    rw [Array.getElem?_toList] at hi
    exact hI.done i o t (hall ops.size (Nat.le_refl _) i (Array.getElem?_eq_some_iff.mp hi).1) hi hd
  · rintro s a w i hi ⟨hs, hI⟩
    obtain ⟨hsi, o, ho, haf⟩ := ready_mem hi
    have h := hop i o ho a w ⟨hI.below, hI.still, fun e he hb o' t ho' hd => hI.done e.on o' t (haf e he hb) ho' hd⟩
    have hss : (s.setIfInBounds i true).size = ops.size := by simp [hs]
    unfold OpOk at h
    unfold wpOp
    rw [ho]
    dsimp only
    by_cases hw : Region.wanted o (yielded ops a.tmps) = true
    · rw [if_pos hw] at h ⊢
      refine h.imp (Oper.wp_mono ?_) (fun h => h)
      rintro a' w' ⟨v, rfl, hv, hb⟩
      exact ⟨hss, hset hmono hs ho hI hv hb⟩
    · rw [if_neg hw] at h ⊢
      exact ⟨hss, hset hmono hs ho hI h (Below.refl _ _)⟩
  · refine ⟨by simp, ⟨⟨rfl, rfl, rfl, Nat.le_refl _, fun _ _ => rfl⟩, rfl, rfl, fun _ _ => rfl, fun i o t h _ _ => ?_⟩⟩
    rw [Array.getElem?_replicate] at h
    split at h <;> simp at h
end

end Go.Proofs.YtmfaodapofamfaaGreat

/- The goals of a region by a table, operation by operation. -/
namespace Go.Proofs.YtmfaodapofamfaaGreat
open Go.RowKit

/-- Does an operation wait for the one that writes t? -/
def waitsFor (ops : Array Oper) (o : Oper) (t : Nat) : Bool := o.after.toList.any fun e => Region.binds .any e && ((ops[e.on]?).map fun o' => o'.dst == some t).getD false
def stays (ops : Array Oper) (t : Nat) : Bool := !(ops.toList.filterMap (·.dst)).contains t

section
variable {P : Program} {ops : Array Oper} {Q : Exit → Act → World → Prop} {T : Nat → Value → World → Prop} {a0 a : Act} {w0 w : World} {o : Oper}

theorem OpIn.of (h : OpIn ops T a0 w0 o a w) (t : Nat) (hw : waitsFor ops o t = true) : T t (a.tmps.getD t undef) w := by
  unfold waitsFor at hw
  obtain ⟨e, he, hb⟩ := List.any_eq_true.mp hw
  rw [Bool.and_eq_true] at hb
  cases ho : ops[e.on]? with
  | none => rw [ho] at hb; simp at hb
  | some o' =>
    rw [ho, Option.map_some, Option.getD_some] at hb
    exact h.has e (by simpa using he) hb.1 o' t ho (by simpa using hb.2)
theorem OpIn.old (h : OpIn ops T a0 w0 o a w) (t : Nat) (hs : stays ops t = true) : a.tmps.getD t undef = a0.tmps.getD t undef := by
  refine h.still t fun hm => ?_
  unfold stays at hs
  simp [hm] at hs
theorem wanted_none {y : Nat → Option Bool} (hg : o.guard = none) : Region.wanted o y = true := by simp [Region.wanted, hg]
theorem wanted_some {j t : Nat} {b : Bool} {oj : Oper} (hg : o.guard = some (j, b)) (hj : ops[j]? = some oj) (hd : oj.dst = some t) (hv : a.tmps.getD t undef = .bool b) : Region.wanted o (yielded ops a.tmps) = true := by
  have ht : a.tmps[t]? = some (.bool b) := by
    rw [Array.getD_eq_getD_getElem?] at hv
    cases h : a.tmps[t]? with
    | none => rw [h] at hv; simp [undef] at hv
    | some v => rw [h] at hv; simpa using hv
  unfold Region.wanted
  rw [hg]
  dsimp only
  unfold yielded
  rw [hj, Option.bind_some, hd, Option.bind_some, ht]
  simp
theorem opOk_val {v : Value} {w' : World} (hw : Region.wanted o (yielded ops a.tmps) = true) (hr : (execOp a.eval o).run P w = .ok (.value v) w') (hT : ∀ t, o.dst = some t → T t v w') (hb : Below w.heap.size w w') : OpOk P ops Q T o a w := by
  unfold OpOk
  rw [if_pos hw]
  left
  unfold Oper.wp
  rw [hr, Oper.upon_value]
  exact ⟨v, rfl, hT, hb⟩
theorem opOk_call {f : FuncId} {args : Array Value} (hw : Region.wanted o (yielded ops a.tmps) = true) (hr : (execOp a.eval o).run P w = .ok (.enter f args) w)
    (hc : Calls P f args w fun e w' => ∃ v, e = .returned v ∧ (∀ t, o.dst = some t → T t v w') ∧ Below w.heap.size w w') : OpOk P ops Q T o a w := by
  unfold OpOk
  rw [if_pos hw]
  left
  unfold Oper.wp
  rw [hr, Oper.upon_enter]
  refine Calls.mono hc ?_
  rintro e w' ⟨v, rfl, hT, hb⟩
  exact ⟨v, rfl, hT, hb⟩

/-- All operations, one by one. -/
def AllOps (Φ : Oper → Prop) : List Oper → Prop
  | [] => True
  | o :: l => Φ o ∧ AllOps Φ l
theorem AllOps.nil {Φ : Oper → Prop} : AllOps Φ [] := trivial
theorem AllOps.cons {Φ : Oper → Prop} {o : Oper} {l : List Oper} (h : Φ o) (hl : AllOps Φ l) : AllOps Φ (o :: l) := ⟨h, hl⟩
theorem AllOps.mem {Φ : Oper → Prop} : ∀ (l : List Oper), AllOps Φ l → ∀ o, o ∈ l → Φ o
  | [], _, o, ho => absurd ho (by simp)
  | x :: l, h, o, ho => by
    rcases List.mem_cons.mp ho with rfl | ho
    · exact h.1
    · exact AllOps.mem l h.2 o ho
theorem AllOps.at {Φ : Oper → Prop} {ops : Array Oper} (h : AllOps Φ ops.toList) (i : Nat) (o : Oper) (ho : ops[i]? = some o) : Φ o := by
  rw [← Array.getElem?_toList] at ho
  exact AllOps.mem _ h o (List.mem_of_getElem? ho)
theorem ends_at {t : Nat} (h : ∀ t, t ∈ ops.toList.filterMap (·.dst) → T t (a.tmps.getD t undef) w) (hs : stays ops t = false) : T t (a.tmps.getD t undef) w := by
  refine h t ?_
  unfold stays at hs
  simpa [List.contains_iff_mem] using hs
theorem wp_region_tabA (T : Nat → Value → World → Prop) {id : Nat} {a0 : Act} {w0 : World} (hm : P.follows .mixedOrders = true) (hf : tabFine ops a0.tmps.size = true)
    (hmono : ∀ t v w w', Below w.heap.size w w' → T t v w → T t v w')
    (hop : AllOps (fun o => ∀ a w, OpIn ops T a0 w0 o a w → OpOk P ops Q T o a w) ops.toList)
    (hend : ∀ a w, Below w0.heap.size w0 w → a.defers = a0.defers → a.tmps.size = a0.tmps.size → (∀ t, t ∉ ops.toList.filterMap (·.dst) → a.tmps.getD t undef = a0.tmps.getD t undef) → (∀ t, t ∈ ops.toList.filterMap (·.dst) → T t (a.tmps.getD t undef) w) → Q .normal a w) :
    (Code.region id ops true).wp P Q a0 w0 :=
  wp_region_tab T hm hf hmono (fun i o ho => AllOps.at hop i o ho) hend
end

end Go.Proofs.YtmfaodapofamfaaGreat

/- Behind a region by a table: the frame, written out. -/
namespace Go.Proofs.YtmfaodapofamfaaGreat
open Go.RowKit

theorem tmps_fold : ∀ (D : List Nat) (x y : Array Value), x.size = y.size → (∀ t, t ∉ D → x.getD t undef = y.getD t undef) → x = D.foldl (fun arr t => arr.setIfInBounds t (x.getD t undef)) y
  | [], x, y, hs, h => by
    show x = y
    refine Array.ext hs fun i h1 h2 => ?_
    have := h i (by simp)
    rw [Array.getD_eq_getD_getElem?, Array.getD_eq_getD_getElem?, Array.getElem?_eq_getElem h1, Array.getElem?_eq_getElem h2] at this
    exact this
  | t :: D, x, y, hs, h => by
    show x = D.foldl (fun arr t => arr.setIfInBounds t (x.getD t undef)) (y.setIfInBounds t (x.getD t undef))
    refine tmps_fold D x _ (by simp [hs]) fun s hsD => ?_
    by_cases hst : s = t
    · subst hst
      by_cases hl : s < y.size
      · simp [Array.getD_eq_getD_getElem?, hl]
      · have h1 : x[s]? = none := by rw [Array.getElem?_eq_none_iff]; omega
        have h2 : ∀ v, (y.setIfInBounds s v)[s]? = none := fun v => by rw [Array.getElem?_eq_none_iff]; simp; omega
        rw [Array.getD_eq_getD_getElem?, Array.getD_eq_getD_getElem?, h1, h2]
    · rw [h s (by simp [hst, hsD])]
      simp [Array.getD_eq_getD_getElem?, Ne.symm hst]

/-- The region by itself, then what follows. -/
theorem wp_mid {P : Program} {c : Code} {Q : Exit → Act → World → Prop} {a0 : Act} {w : World} (R : Act → Act → World → Prop) (first : c.wp P (fun e a w => e = .normal ∧ R a0 a w) a0 w) (rest : ∀ a w, R a0 a w → Q .normal a w) : c.wp P Q a0 w :=
  Code.wp_mono (fun e a w h => by obtain ⟨rfl, h⟩ := h; exact rest a w h) first

section
variable {P : Program} {ops : Array Oper} {Q : Exit → Act → World → Prop} {T : Nat → Value → World → Prop} {a : Act} {w : World} {o : Oper}
end

end Go.Proofs.YtmfaodapofamfaaGreat

/- A region by a table whose last operations come one behind the other, behind all others, and may change anything (append, then a store). -/
namespace Go.Proofs.YtmfaodapofamfaaGreat
open Go.RowKit

/-- Does operation i wait for j, by some steps? -/
def reach (ops : Array Oper) : Nat → Nat → Nat → Bool
  | 0, _, _ => false
  | f + 1, i, j => ((ops[i]?).map fun o => o.after.toList.any fun e => Region.binds .any e && (e.on == j || reach ops f e.on j)).getD false
def Closed (ops : Array Oper) (s : Array Bool) : Prop := ∀ (i : Nat) (o : Oper), s[i]? = some true → ops[i]? = some o → ∀ e, e ∈ o.after → Region.binds .any e = true → s[e.on]? = some true
theorem reach_done {ops : Array Oper} {s : Array Bool} (hC : Closed ops s) : ∀ (f i j : Nat) (o : Oper), ops[i]? = some o → (∀ e, e ∈ o.after → Region.binds .any e = true → s[e.on]? = some true) → reach ops f i j = true → s[j]? = some true
  | 0, _, _, _, _, _, h => by cases h
  | f + 1, i, j, o, ho, hd, h => by
    unfold reach at h
    rw [ho, Option.map_some, Option.getD_some] at h
    obtain ⟨e, he, h2⟩ := List.any_eq_true.mp h
    rw [Bool.and_eq_true, Bool.or_eq_true] at h2
    have hse := hd e (by simpa using he) h2.1
    rcases h2.2 with h3 | h3
    · have h3 : e.on = j := by simpa using h3
      rw [← h3]; exact hse
    · cases hoe : ops[e.on]? with
      | none =>
        cases f with
        | zero => cases h3
        | succ f => unfold reach at h3; rw [hoe] at h3; cases h3
      | some oe => exact reach_done hC f e.on j oe hoe (fun e' he' hb' => hC e.on oe hse hoe e' he' hb') h3
/-- The tail waits for all ahead of it, one by one. -/
def tailFine (ops : Array Oper) (L : Nat) : Bool := (List.range L).all (fun j => reach ops 12 L j) && (List.range ops.size).all fun i => !decide (L < i) || reach ops 12 i (i - 1)
structure OpInT (ops : Array Oper) (T : Nat → Value → World → Prop) (a0 : Act) (w0 : World) (L : Nat) (a : Act) (w : World) : Prop where
  below : Below w0.heap.size w0 w
  defers : a.defers = a0.defers
  size : a.tmps.size = a0.tmps.size
  still : ∀ t, t ∉ ops.toList.filterMap (·.dst) → a.tmps.getD t undef = a0.tmps.getD t undef
  all : ∀ (i : Nat) (o : Oper) (t : Nat), i < L → ops[i]? = some o → o.dst = some t → T t (a.tmps.getD t undef) w

section
variable {P : Program} {ops : Array Oper} {Q : Exit → Act → World → Prop}
end

end Go.Proofs.YtmfaodapofamfaaGreat

/- A region by a table, with a store among its operations: worlds behind are such as a relation says; one operation S leaves a fact D. -/
namespace Go.Proofs.YtmfaodapofamfaaGreat
open Go.RowKit

/-- All that is written is written once, and within the frame; what must be waited for stands ahead. -/
def tabFineR (ops : Array Oper) (n : Nat) : Bool :=
  decide ((ops.toList.filterMap (·.dst)).Nodup) && (ops.toList.filterMap (·.dst)).all (fun t => decide (t < n)) && (List.range ops.size).all (fun i => ((ops[i]?).map (fun o => o.after.toList.all (fun e => !Region.binds .any e || decide (e.on < i)))).getD true)
def waitedBy (ops : Array Oper) (S i : Nat) : Bool := ((ops[S]?).map fun o => o.after.toList.any fun e => Region.binds .any e && e.on == i).getD false
structure TabbedR (R : World → World → Prop) (ops : Array Oper) (T : Nat → Value → World → Prop) (a0 : Act) (w0 : World) (s : Array Bool) (a : Act) (w : World) : Prop where
  below : R w0 w
  defers : a.defers = a0.defers
  size : a.tmps.size = a0.tmps.size
  still : ∀ t, t ∉ ops.toList.filterMap (·.dst) → a.tmps.getD t undef = a0.tmps.getD t undef
  done : ∀ (i : Nat) (o : Oper) (t : Nat), s[i]? = some true → ops[i]? = some o → o.dst = some t → T t (a.tmps.getD t undef) w
structure OpInR (R : World → World → Prop) (ops : Array Oper) (T : Nat → Value → World → Prop) (a0 : Act) (w0 : World) (o : Oper) (a : Act) (w : World) : Prop where
  below : R w0 w
  still : ∀ t, t ∉ ops.toList.filterMap (·.dst) → a.tmps.getD t undef = a0.tmps.getD t undef
  has : ∀ e, e ∈ o.after → Region.binds .any e = true → ∀ (o' : Oper) (t : Nat), ops[e.on]? = some o' → o'.dst = some t → T t (a.tmps.getD t undef) w
  size : a.tmps.size = a0.tmps.size
def OpOkR (P : Program) (R : World → World → Prop) (ops : Array Oper) (Q : Exit → Act → World → Prop) (T : Nat → Value → World → Prop) (S : Nat) (D : Act → World → Prop) (i : Nat) (o : Oper) (a : Act) (w : World) : Prop :=
  Region.wanted o (yielded ops a.tmps) = true ∧ o.wp P a w (fun a' w' => ∃ v, a' = a.put o.dst v ∧ (∀ t, o.dst = some t → T t v w') ∧ R w w' ∧ (i = S → D (a.put o.dst v) w') ∧ (waitedBy ops S i = false → ¬ i = S → D a w → D (a.put o.dst v) w')) Q
section
variable {P : Program} {ops : Array Oper} {Q : Exit → Act → World → Prop} {R : World → World → Prop} {T : Nat → Value → World → Prop} {a0 : Act} {w0 : World} {o : Oper} {a : Act} {w : World} {S i : Nat} {D : Act → World → Prop}
theorem OpInR.of (h : OpInR R ops T a0 w0 o a w) (t : Nat) (hw : waitsFor ops o t = true) : T t (a.tmps.getD t undef) w := by
  unfold waitsFor at hw
  rw [List.any_eq_true] at hw
  obtain ⟨e, he, hw⟩ := hw
  rw [Bool.and_eq_true] at hw
  cases ho : ops[e.on]? with
  | none => rw [ho] at hw; simp at hw
  | some o' =>
    rw [ho] at hw
    exact h.has e (by simpa using he) hw.1 o' t ho (by simpa using hw.2)
theorem OpInR.old (h : OpInR R ops T a0 w0 o a w) (t : Nat) (hs : stays ops t = true) : a.tmps.getD t undef = a0.tmps.getD t undef := by
  refine h.still t ?_
  unfold stays at hs
  simpa [List.contains_iff_mem] using hs
theorem opOkR_val {v : Value} {w' : World} (hw : Region.wanted o (yielded ops a.tmps) = true) (hr : (execOp a.eval o).run P w = .ok (.value v) w') (hT : ∀ t, o.dst = some t → T t v w') (hb : R w w') (hS : i = S → D (a.put o.dst v) w') (hD : waitedBy ops S i = false → ¬ i = S → D a w → D (a.put o.dst v) w') : OpOkR P R ops Q T S D i o a w := by
  refine ⟨hw, ?_⟩
  unfold Oper.wp
  rw [hr, Oper.upon_value]
  exact ⟨v, rfl, hT, hb, hS, hD⟩
theorem opOkR_void {w' : World} (hw : Region.wanted o (yielded ops a.tmps) = true) (hr : (execOp a.eval o).run P w = .ok .skip w') (hd : o.dst = none) (hb : R w w') (hS : i = S → D a w') (hD : waitedBy ops S i = false → ¬ i = S → D a w → D a w') : OpOkR P R ops Q T S D i o a w := by
  refine ⟨hw, ?_⟩
  unfold Oper.wp
  rw [hr, Oper.upon_skip]
  refine ⟨undef, rfl, fun t ht => (by rw [hd] at ht; cases ht), hb, fun h => ?_, fun h1 h2 h3 => ?_⟩
  · rw [hd]; exact hS h
  · rw [hd]; exact hD h1 h2 h3
theorem opOkR_call {f : FuncId} {args : Array Value} (hw : Region.wanted o (yielded ops a.tmps) = true) (hr : (execOp a.eval o).run P w = .ok (.enter f args) w)
    (hc : Calls P f args w fun e w' => ∃ v, e = .returned v ∧ (∀ t, o.dst = some t → T t v w') ∧ R w w' ∧ (i = S → D (a.put o.dst v) w') ∧ (waitedBy ops S i = false → ¬ i = S → D a w → D (a.put o.dst v) w')) : OpOkR P R ops Q T S D i o a w := by
  refine ⟨hw, ?_⟩
  unfold Oper.wp
  rw [hr, Oper.upon_enter]
  refine Calls.mono hc ?_
  rintro e w' ⟨v, rfl, h⟩
  exact ⟨v, rfl, h⟩
def AllOpsI (Φ : Nat → Oper → Prop) : Nat → List Oper → Prop
  | _, [] => True
  | i, o :: l => Φ i o ∧ AllOpsI Φ (i + 1) l
theorem AllOpsI.cons {Φ : Nat → Oper → Prop} {i : Nat} {o : Oper} {l : List Oper} (h : Φ i o) (hl : AllOpsI Φ (i + 1) l) : AllOpsI Φ i (o :: l) := ⟨h, hl⟩
theorem AllOpsI.nil {Φ : Nat → Oper → Prop} {i : Nat} : AllOpsI Φ i [] := trivial
theorem AllOpsI.get {Φ : Nat → Oper → Prop} : ∀ (l : List Oper) (i : Nat), AllOpsI Φ i l → ∀ j o, l[j]? = some o → Φ (i + j) o
  | [], _, _, j, o, h => by simp at h
  | x :: l, i, hA, j, o, h => by
    cases j with
    | zero => simp only [List.getElem?_cons_zero, Option.some.injEq] at h; subst h; exact hA.1
    | succ j =>
      simp only [List.getElem?_cons_succ] at h
      have := AllOpsI.get l (i + 1) hA.2 j o h
      rw [show i + (j + 1) = i + 1 + j by omega]
      exact this
theorem wp_region_tabR (R : World → World → Prop) (hRt : ∀ a b c, R a b → R b c → R a c) (hRd : ∀ w, R w { w with drawn := w.drawn + 1 }) (T : Nat → Value → World → Prop) (S : Nat) (D : Act → World → Prop) (hS : S < ops.size) {id : Nat} {a0 : Act} {w0 : World} (hm : P.follows .mixedOrders = true)
    (hf : tabFineR ops a0.tmps.size = true)
    (hmono : ∀ t v w w', R w w' → T t v w → T t v w')
    (hopA : AllOpsI (fun i o => ∀ a w, OpInR R ops T a0 w0 o a w → OpOkR P R ops Q T S D i o a w) 0 ops.toList)
    (hend : ∀ a w, R w0 w → D a w → a.defers = a0.defers → a.tmps.size = a0.tmps.size → (∀ t, t ∉ ops.toList.filterMap (·.dst) → a.tmps.getD t undef = a0.tmps.getD t undef) → (∀ t, t ∈ ops.toList.filterMap (·.dst) → T t (a.tmps.getD t undef) w) → Q .normal a w) :
    (Code.region id ops true).wp P Q a0 w0 := by
  have hop : ∀ (i : Nat) (o : Oper), ops[i]? = some o → ∀ a w, OpInR R ops T a0 w0 o a w → OpOkR P R ops Q T S D i o a w := fun i o ho => by
    have := AllOpsI.get ops.toList 0 hopA i o (by rw [Array.getElem?_toList]; exact ho)
    rw [Nat.zero_add] at this
    exact this
  unfold tabFineR at hf
  rw [Bool.and_eq_true, Bool.and_eq_true] at hf
  obtain ⟨⟨hnd, hlt⟩, hah⟩ := hf
  have hnd := of_decide_eq_true hnd
  have hlt' : ∀ t, t ∈ ops.toList.filterMap (·.dst) → t < a0.tmps.size := fun t ht => by
    have h := List.all_eq_true.mp hlt t ht
    exact of_decide_eq_true h
  have hah' : ∀ (i : Nat) (o : Oper), ops[i]? = some o → ∀ e, e ∈ o.after → Region.binds .any e = true → e.on < i := fun i o ho e he hbe => by
    have hi : i < ops.size := (Array.getElem?_eq_some_iff.mp ho).1
    have h := List.all_eq_true.mp hah i (List.mem_range.mpr hi)
    rw [ho, Option.map_some, Option.getD_some] at h
    have h9 := List.all_eq_true.mp h e (by simpa using he)
    rw [hbe] at h9
    exact of_decide_eq_true (by simpa using h9)
  have hset : ∀ {T : Nat → Value → World → Prop} {s : Array Bool} {a : Act} {w w' : World} {i : Nat} {o : Oper} {v : Value}, (∀ t v w w', R w w' → T t v w → T t v w') → s.size = ops.size → ops[i]? = some o → TabbedR R ops T a0 w0 s a w → (∀ t, o.dst = some t → T t v w') → R w w' → TabbedR R ops T a0 w0 (s.setIfInBounds i true) (a.put o.dst v) w' := by
    intro T s a w w' i o v hmono hs ho hI hv hb
    refine ⟨hRt _ _ _ hI.below hb, by rw [put_defers]; exact hI.defers, by rw [put_size]; exact hI.size, fun t ht => ?_, fun j oj t hj hoj hd => ?_⟩
    · cases hd : o.dst with
      | none => exact hI.still t ht
      | some u =>
        have hne : t ≠ u := fun h => ht (h ▸ dst_mem ho hd)
        rw [put_get_ne hne]
        exact hI.still t ht
    · by_cases hij : j = i
      · subst hij
        rw [ho] at hoj
        cases hoj
        rw [hd, put_get_self (by rw [hI.size]; exact hlt' t (dst_mem ho hd))]
        exact hv t hd
      · have hj' : s[j]? = some true := by
          rw [Array.getElem?_setIfInBounds, if_neg (fun h => hij h.symm)] at hj
          exact hj
        have h1 := hmono t _ w w' hb (hI.done j oj t hj' hoj hd)
        cases hd2 : o.dst with
        | none => exact h1
        | some u =>
          have hne : t ≠ u := fun h => hij (dst_inj ops.toList hnd j i oj o t (by rw [Array.getElem?_toList]; exact hoj) (by rw [Array.getElem?_toList]; exact ho) hd (h ▸ hd2))
          rw [put_get_ne hne]
          exact h1
  refine wp_region_inv (fun s a w => s.size = ops.size ∧ TabbedR R ops T a0 w0 s a w ∧ (s[S]? = some true → D a w ∧ ∀ i, waitedBy ops S i = true → s[i]? = some true)) hm ?_ ?_ ?_
  · rintro s a w hr ⟨hs, hI, hDs⟩
    have hall : ∀ n : Nat, n ≤ ops.size → ∀ i : Nat, i < n → s[i]? = some true := by
      intro n
      induction n with
      | zero => intro _ i hi; exact absurd hi (Nat.not_lt_zero _)
      | succ n ih =>
        intro hn i hi
        have ih := ih (by omega)
        by_cases hin : i < n
        · exact ih i hin
        · have hin : i = n := by omega
          subst hin
          cases hsi : s[i]? with
          | none => rw [Array.getElem?_eq_none_iff] at hsi; omega
          | some b =>
            cases b with
            | true => rfl
            | false =>
              exfalso
              have hio : i < ops.size := by omega
              have : i ∈ Region.ready .any ops s := by
                unfold Region.ready
                refine List.mem_filter.mpr ⟨List.mem_range.mpr hio, ?_⟩
                rw [Bool.and_eq_true]
                refine ⟨by simp [Array.getD_eq_getD_getElem?, hsi], ?_⟩
                have ho : ops[i]? = some ops[i] := Array.getElem?_eq_getElem hio
                rw [ho, Option.map_some, Option.getD_some, Array.all_eq_true_iff_forall_mem]
                intro e he
                cases hbe : Region.binds .any e with
                | false => rfl
                | true =>
                  have h1 := ih e.on (hah' i _ ho e he hbe)
                  simp [Array.getD_eq_getD_getElem?, h1]
              rw [hr] at this
              exact absurd this (by simp)
    refine hend a w hI.below (hDs (hall ops.size (Nat.le_refl _) S hS)).1 hI.defers hI.size hI.still (fun t ht => ?_)
    obtain ⟨o, ho, hd⟩ := List.mem_filterMap.mp ht
    obtain ⟨i, hi⟩ := List.mem_iff_getElem?.mp ho
    rw [Array.getElem?_toList] at hi
    exact hI.done i o t (hall ops.size (Nat.le_refl _) i (Array.getElem?_eq_some_iff.mp hi).1) hi hd
  · rintro s a w i hi ⟨hs, hI, hDs⟩
    obtain ⟨hsi, o, ho, haf⟩ := ready_mem hi
    have h := hop i o ho a w ⟨hI.below, hI.still, fun e he hb o' t ho' hd => hI.done e.on o' t (haf e he hb) ho' hd, hI.size⟩
    have hss : (s.setIfInBounds i true).size = ops.size := by simp [hs]
    obtain ⟨hw, h⟩ := h
    unfold wpOp
    rw [ho]
    dsimp only
    rw [if_pos hw]
    left
    refine Oper.wp_mono ?_ h
    rintro a' w' ⟨v, rfl, hv, hb, hSS, hDD⟩
    refine ⟨hss, hset hmono hs ho hI hv hb, fun hS1 => ?_⟩
    have hup : ∀ j, s[j]? = some true → (s.setIfInBounds i true)[j]? = some true := fun j hj => by
      rw [Array.getElem?_setIfInBounds]
      split
      · rename_i h9
        subst h9
        rw [hsi] at hj
        cases hj
      · exact hj
    by_cases hiS : i = S
    · refine ⟨hSS hiS, fun j hj => hup j ?_⟩
      subst hiS
      unfold waitedBy at hj
      rw [ho, Option.map_some, Option.getD_some, List.any_eq_true] at hj
      obtain ⟨e, he, h9⟩ := hj
      rw [Bool.and_eq_true] at h9
      have := haf e (by simpa using he) h9.1
      rw [(by simpa using h9.2 : e.on = j)] at this
      exact this
    · rw [Array.getElem?_setIfInBounds, if_neg hiS] at hS1
      obtain ⟨hD1, hW1⟩ := hDs hS1
      refine ⟨?_, fun j hj => hup j (hW1 j hj)⟩
      cases hwi : waitedBy ops S i with
      | true =>
        have := hW1 i hwi
        rw [hsi] at this
        cases this
      | false => exact hDD hwi hiS hD1
  · refine ⟨by simp, ⟨hRd w0, rfl, rfl, fun _ _ => rfl, fun i o t h _ _ => ?_⟩, fun h => ?_⟩
    · rw [Array.getElem?_replicate] at h
      split at h <;> simp at h
    · rw [Array.getElem?_replicate] at h
      split at h <;> simp at h
end
end Go.Proofs.YtmfaodapofamfaaGreat

/- The search for an id. -/
namespace Go.Proofs.YtmfaodapofamfaaGreat
open Go.RowKit

set_option maxRecDepth 100000 in
set_option maxHeartbeats 1000000 in
theorem cmpId_any (x : Uv) (y : Wr.Id) (w : World) (hx : UvOk w x) : Calls Tryz.prog 93 #[uvVal x, idVal y] w fun e w' => e = .returned (.int .i64 (Wr.idOrd x.u.id y)) ∧ Below w.heap.size w w' := by
  obtain ⟨b1, m1, f1, b2, m2, f2, b3, m3, f3, e1, e2, e3⟩ := hx.forms
  obtain ⟨⟨⟨va, vn⟩, ps, says, ts⟩, vp, vs, vt⟩ := x
  obtain ⟨ya, yn⟩ := y
  dsimp only at e1 e2 e3 ⊢
  subst e1 e2 e3
  have HO : Hid (∀ z, Calls Tryz.prog 66 #[idVal ⟨va, vn⟩, idVal ⟨ya, yn⟩] z fun e w' => e = .returned (.int .i64 (Wr.idOrd ⟨va, vn⟩ ⟨ya, yn⟩)) ∧ Gr z w') := fun z => uOrder_any ⟨va, vn⟩ ⟨ya, yn⟩ z
  have hg : Gr w ((w.alloc (.cells #[.int .i64 va, .int .i64 vn, .slice b1 m1 f1, .slice b2 m2 f2, .slice b3 m3 f3] 30)).alloc (.cells #[.int .i64 ya, .int .i64 yn] 26)) := ((Gr.refl w).alloc _).alloc _
  clear hx
  go_enter Tryz.func93, Tryz.ntmps93
  go_wp2_with fail
  refine Calls.mono (HO.out _) ?_
  rintro _ w3 ⟨rfl, hg3⟩
  have hh := (hg.trans hg3).below
  clear hg hg3 HO
  go_wp2_with fail
  go_ret
  exact ⟨rfl, hh⟩
def bsT5 (b f n c m o : Nat) (va vn : Int) (b1 : Option Addr) (m1 f1 : Nat) (b2 : Option Addr) (m2 f2 : Nat) (b3 : Option Addr) (m3 f3 : Nat) (xa xn r : Int) (hb : Bool) (tQ : Nat) (vQ : Value) (_ : World) : Prop :=
  match tQ with
  | 24 => vQ = .func (.func 93) #[] #[]
  | 25 => vQ = .slice (some ⟨b, f, none⟩) n c
  | 26 => vQ = .int .i64 m
  | 27 => vQ = .pointer (some ⟨b, o, none⟩)
  | 28 => vQ = .agg #[.int .i64 va, .int .i64 vn, .slice b1 m1 f1, .slice b2 m2 f2, .slice b3 m3 f3]
  | 29 => vQ = .agg #[.int .i64 xa, .int .i64 xn]
  | 30 => vQ = .int .i64 r
  | 31 => vQ = .bool hb
  | _ => True
theorem bsT5_mono (b f n c m o : Nat) (va vn : Int) (b1 : Option Addr) (m1 f1 : Nat) (b2 : Option Addr) (m2 f2 : Nat) (b3 : Option Addr) (m3 f3 : Nat) (xa xn r : Int) (hb : Bool) (tQ : Nat) (vQ : Value) (W W' : World) (_ : Below W.heap.size W W') (h : bsT5 b f n c m o va vn b1 m1 f1 b2 m2 f2 b3 m3 f3 xa xn r hb tQ vQ W) : bsT5 b f n c m o va vn b1 m1 f1 b2 m2 f2 b3 m3 f3 xa xn r hb tQ vQ W' := by
  revert h
  unfold bsT5
  split <;> (intro h; first | exact h)
def bsT8 (b f n c m o : Nat) (va vn : Int) (b1 : Option Addr) (m1 f1 : Nat) (b2 : Option Addr) (m2 f2 : Nat) (b3 : Option Addr) (m3 f3 : Nat) (xa xn r : Int) (hb : Bool) (tQ : Nat) (vQ : Value) (_ : World) : Prop :=
  match tQ with
  | 35 => vQ = .int .i64 m
  | 36 => vQ = .int .i64 m
  | 37 => vQ = .int .i64 n
  | 38 => vQ = .bool true
  | 39 => vQ = .bool true
  | 40 => vQ = .func (.func 93) #[] #[]
  | 41 => vQ = .slice (some ⟨b, f, none⟩) n c
  | 42 => vQ = .int .i64 m
  | 43 => vQ = .pointer (some ⟨b, o, none⟩)
  | 44 => vQ = .agg #[.int .i64 va, .int .i64 vn, .slice b1 m1 f1, .slice b2 m2 f2, .slice b3 m3 f3]
  | 45 => vQ = .agg #[.int .i64 xa, .int .i64 xn]
  | 46 => vQ = .int .i64 r
  | 47 => vQ = .bool hb
  | 48 => vQ = .bool hb
  | 6 => vQ = .int .i64 m
  | 7 => vQ = .bool hb
  | _ => True
theorem bsT8_same {b f n c m o : Nat} {va vn : Int} {b1 : Option Addr} {m1 f1 : Nat} {b2 : Option Addr} {m2 f2 : Nat} {b3 : Option Addr} {m3 f3 : Nat} {xa xn r : Int} {hb : Bool} {t : Nat} {v : Value} {W W2 : World} (h : bsT8 b f n c m o va vn b1 m1 f1 b2 m2 f2 b3 m3 f3 xa xn r hb t v W) : bsT8 b f n c m o va vn b1 m1 f1 b2 m2 f2 b3 m3 f3 xa xn r hb t v W2 := h

set_option maxRecDepth 100000 in
set_option maxHeartbeats 4000000 in
theorem search_any (q : List Uv) (x : Wr.Id) (v : Value) (w : World) (hV : UpsV w v q) (hl : q.length ≤ 1000) (hok : ∀ y, y ∈ q → UvOk w y) (hr : Wr.rise Dg.uOrd (ups q) = true) :
    Calls Tryz.prog 92 #[v, idVal x, .func (.func 93) #[] #[]] w fun e w' => ∃ (r : Nat) (b : Bool), e = .returned (.tuple #[.int .i64 r, .bool b]) ∧ Gs.BsR q x r b ∧ Below w.heap.size w w' := by
  obtain ⟨ao, cap, rfl, _, hA⟩ := hV
  obtain ⟨xa, xn⟩ := x
  have HA : Hid (UpsAt w ao q) := hA
  have HK : Hid (∀ y, y ∈ q → UvOk w y) := hok
  have HRS : Hid (Wr.rise Dg.uOrd (ups q) = true) := hr
  have HB : Hid _ := heap_alloc_new w (.cells #[.int .i64 xa, .int .i64 xn] 26)
  have HG : Hid _ := new_below w (.cells #[.int .i64 xa, .int .i64 xn] 26)
  clear hA hok hr
  go_enter Tryz.func92, Tryz.ntmps92
  go_upto_region 1 with fail
  generalize w.alloc (.cells #[.int .i64 xa, .int .i64 xn] 26) = w1 at *
  have HT1 : Hid (∀ z, Below w1.heap.size w1 z → z.cell? ⟨w.heap.size, 0, none⟩ = some (.int .i64 xa) ∧ z.cell? ⟨w.heap.size, 1, none⟩ = some (.int .i64 xn)) := fun z hz => ⟨cell_below hz (by rw [Lib.cell_of_heap HB.out]; rfl), cell_below hz (by rw [Lib.cell_of_heap HB.out]; rfl)⟩
  clear HB
  go_wp2_with fail
  go_loopw [9, 10] (fun iv jv wr => ∃ i j : Nat, iv = .int .i64 i ∧ jv = .int .i64 j ∧ Hid (Gs.BsI q ⟨xa, xn⟩ i j) ∧ Hid (Below w1.heap.size w1 wr)) (fun iv jv _ => (intOf jv).toNat - (intOf iv).toNat)
  case atStart => exact ⟨0, q.length, rfl, rfl, Gs.BsI.start _ _, Below.refl _ _⟩
  case round =>
    obtain ⟨i, j, rfl, rfl, HI, HW⟩ := hrel
    have hij := HI.out.le
    have hjl := HI.out.lt
    have HBW : Hid (Below w.heap.size w wr) := HG.out.trans (HW.out.mono HG.out.size)
    have HTC : Hid (∀ z, Below wr.heap.size wr z → z.cell? ⟨w.heap.size, 0, none⟩ = some (.int .i64 xa) ∧ z.cell? ⟨w.heap.size, 1, none⟩ = some (.int .i64 xn)) := fun z hz => HT1.out z (HW.out.trans (hz.mono HW.out.size))
    by_cases hlt : i < j
    · have g1 : decide (i < j) = true := decide_eq_true hlt
      have g1' : decide ((i : Int) < (j : Int)) = true := decide_eq_true (by omega)
      obtain ⟨m, hm⟩ : ∃ m : Nat, m = (i + j) / 2 := ⟨_, rfl⟩
      have EM : Hid (((i : Int) + (j : Int)) / 2 = (m : Int)) := by show _ = _; omega
      have hml : m < q.length := by omega
      have hm1 : i ≤ m := by omega
      have hm2 : m < j := by omega
      clear hm
      go_upto_region 5 with fail
      rw [EM.out]
      clear EM
      have HUP : Hid (Wr.idOrd (uvD q m).u.id ⟨xa, xn⟩ < 0 → Gs.BsI q ⟨xa, xn⟩ (m + 1) j) := fun h => HI.out.up HRS.out hm1 hm2 h
      have HDN : Hid (¬ Wr.idOrd (uvD q m).u.id ⟨xa, xn⟩ < 0 → Gs.BsI q ⟨xa, xn⟩ i m) := fun h => HI.out.down HRS.out hm1 hm2 h
      obtain ⟨b, off, eb, p0, p1, p2, p3, p4⟩ := ups_at (HA.out.kc (Kc.below HBW.out)) m hml
      have hxo := (HK.out _ (uvD_mem q m hml)).below HBW.out
      generalize uvD q m = x at *
      obtain ⟨b1, m1, f1, b2, m2, f2, b3, m3, f3, e1, e2, e3⟩ := hxo.forms
      have HX : Hid (UvOk wr x) := hxo
      clear hxo
      obtain ⟨⟨⟨va, vn⟩, ps, says, ts⟩, vp, vs, vt⟩ := x
      dsimp only at *
      subst e1 e2 e3
      have HXU : Hid (∀ z, Below wr.heap.size wr z → z.cell? ⟨b, off + m * 5, none⟩ = some (.int .i64 va) ∧ z.cell? ⟨b, off + m * 5 + 1, none⟩ = some (.int .i64 vn) ∧ z.cell? ⟨b, off + m * 5 + 2, none⟩ = some (.slice b1 m1 f1) ∧ z.cell? ⟨b, off + m * 5 + 3, none⟩ = some (.slice b2 m2 f2) ∧ z.cell? ⟨b, off + m * 5 + 4, none⟩ = some (.slice b3 m3 f3)) := fun z hz => ⟨cell_below hz p0, cell_below hz p1, cell_below hz p2, cell_below hz p3, cell_below hz p4⟩
      clear p0 p1 p2 p3 p4
      subst eb
      obtain ⟨r, hr9⟩ : ∃ r, r = Wr.idOrd ⟨va, vn⟩ ⟨xa, xn⟩ := ⟨_, rfl⟩
      have HOR : Hid (∀ z, Below wr.heap.size wr z → Calls Tryz.prog 93 #[uvVal ⟨⟨⟨va, vn⟩, ps, says, ts⟩, .slice b1 m1 f1, .slice b2 m2 f2, .slice b3 m3 f3⟩, idVal ⟨xa, xn⟩] z fun e w' => e = .returned (.int .i64 r) ∧ Below z.heap.size z w') := fun z hz => by
        rw [hr9]
        exact cmpId_any ⟨⟨⟨va, vn⟩, ps, says, ts⟩, .slice b1 m1 f1, .slice b2 m2 f2, .slice b3 m3 f3⟩ ⟨xa, xn⟩ z (HX.out.below hz)
      rw [← hr9] at HUP HDN
      clear hr9
      obtain ⟨hb, HHB⟩ : ∃ hb, Hid (hb = decide (r < 0)) := ⟨_, rfl⟩
      refine wp_region_tabA (bsT5 b off q.length cap m (off + m * 5) va vn b1 m1 f1 b2 m2 f2 b3 m3 f3 xa xn r hb) (by kernel_rfl) (by kernel_rfl) (bsT5_mono _ _ _ _ _ _ _ _ _ _ _ _ _ _ _ _ _ _ _ _ _) ?hop5 ?hend5
      case hop5 =>
          refine AllOps.cons (fun a y h => ?_) ?_
          · have e2 : a.eval (.tmp 2) = (.func (.func 93) #[] #[] : Value) := h.old 2 (by kernel_rfl)
            refine opOk_val (v := .func (.func 93) #[] #[]) (w' := y) (wanted_none rfl) ?_ (fun t ht => by cases ht; exact rfl) (Below.refl _ _)
            have ec : ∀ v, a.eval (.const v) = v := fun _ => rfl
            generalize a.eval = ev at *
            clear h
            go_simp
          refine AllOps.cons (fun a y h => ?_) ?_
          · have e0 : a.eval (.tmp 0) = (.slice (some ⟨b, off, none⟩) q.length cap : Value) := h.old 0 (by kernel_rfl)
            refine opOk_val (v := .slice (some ⟨b, off, none⟩) q.length cap) (w' := y) (wanted_none rfl) ?_ (fun t ht => by cases ht; exact rfl) (Below.refl _ _)
            have ec : ∀ v, a.eval (.const v) = v := fun _ => rfl
            generalize a.eval = ev at *
            clear h
            go_simp
          refine AllOps.cons (fun a y h => ?_) ?_
          · have e11 : a.eval (.tmp 11) = (.int .i64 m : Value) := h.old 11 (by kernel_rfl)
            refine opOk_val (v := .int .i64 m) (w' := y) (wanted_none rfl) ?_ (fun t ht => by cases ht; exact rfl) (Below.refl _ _)
            have ec : ∀ v, a.eval (.const v) = v := fun _ => rfl
            generalize a.eval = ev at *
            clear h
            go_simp
          refine AllOps.cons (fun a y h => ?_) ?_
          · have e25 : a.eval (.tmp 25) = (.slice (some ⟨b, off, none⟩) q.length cap : Value) := h.of 25 (by kernel_rfl)
            have e26 : a.eval (.tmp 26) = (.int .i64 m : Value) := h.of 26 (by kernel_rfl)
            refine opOk_val (v := .pointer (some ⟨b, (off + m * 5), none⟩)) (w' := y) (wanted_none rfl) ?_ (fun t ht => by cases ht; exact rfl) (Below.refl _ _)
            have ec : ∀ v, a.eval (.const v) = v := fun _ => rfl
            generalize a.eval = ev at *
            clear h
            go_simp
          refine AllOps.cons (fun a y h => ?_) ?_
          · have e27 : a.eval (.tmp 27) = (.pointer (some ⟨b, (off + m * 5), none⟩) : Value) := h.of 27 (by kernel_rfl)
            obtain ⟨y0, y1, y2, y3, y4⟩ := HXU.out y h.below
            refine opOk_val (v := .agg #[.int .i64 va, .int .i64 vn, .slice b1 m1 f1, .slice b2 m2 f2, .slice b3 m3 f3]) (w' := y) (wanted_none rfl) ?_ (fun t ht => by cases ht; exact rfl) (Below.refl _ _)
            have ec : ∀ v, a.eval (.const v) = v := fun _ => rfl
            generalize a.eval = ev at *
            clear h
            go_simp
          refine AllOps.cons (fun a y h => ?_) ?_
          · have e4 : a.eval (.tmp 4) = (.pointer (some ⟨w.heap.size, 0, none⟩) : Value) := h.old 4 (by kernel_rfl)
            obtain ⟨t0, t1⟩ := HTC.out y h.below
            refine opOk_val (v := .agg #[.int .i64 xa, .int .i64 xn]) (w' := y) (wanted_none rfl) ?_ (fun t ht => by cases ht; exact rfl) (Below.refl _ _)
            have ec : ∀ v, a.eval (.const v) = v := fun _ => rfl
            generalize a.eval = ev at *
            clear h
            go_simp
          refine AllOps.cons (fun a y h => ?_) ?_
          · have e24 : a.eval (.tmp 24) = (.func (.func 93) #[] #[] : Value) := h.of 24 (by kernel_rfl)
            have e28 : a.eval (.tmp 28) = (.agg #[.int .i64 va, .int .i64 vn, .slice b1 m1 f1, .slice b2 m2 f2, .slice b3 m3 f3] : Value) := h.of 28 (by kernel_rfl)
            have e29 : a.eval (.tmp 29) = (.agg #[.int .i64 xa, .int .i64 xn] : Value) := h.of 29 (by kernel_rfl)
            refine opOk_call (f := 93) (args := #[.agg #[.int .i64 va, .int .i64 vn, .slice b1 m1 f1, .slice b2 m2 f2, .slice b3 m3 f3], .agg #[.int .i64 xa, .int .i64 xn]]) (wanted_none rfl) ?_ ?_
            · have ec : ∀ v, a.eval (.const v) = v := fun _ => rfl
              have ef : ∀ f, a.eval (.func f) = .func (.func f) #[] #[] := fun _ => rfl
              generalize a.eval = ev at *
              clear h
              go_simp
            · refine Calls.mono (HOR.out y h.below) ?_
              rintro _ y2 ⟨rfl, hb2⟩
              exact ⟨_, rfl, fun t ht => by cases ht; exact rfl, hb2⟩
          refine AllOps.cons (fun a y h => ?_) ?_
          · have e30 : a.eval (.tmp 30) = (.int .i64 r : Value) := h.of 30 (by kernel_rfl)
            have hh := HHB.out
            refine opOk_val (v := .bool hb) (w' := y) (wanted_none rfl) ?_ (fun t ht => by cases ht; exact rfl) (Below.refl _ _)
            rw [hh]
            have ec : ∀ v, a.eval (.const v) = v := fun _ => rfl
            generalize a.eval = ev at *
            clear h
            go_simp
          exact AllOps.nil
      rintro ⟨tm, df⟩ wE hbE hdE hszE hstE hTE
      have k31 : tm.getD 31 undef = (.bool hb : Value) := ends_at (T := bsT5 b off q.length cap m (off + m * 5) va vn b1 m1 f1 b2 m2 f2 b3 m3 f3 xa xn r hb) (w := wE) (a := ⟨tm, df⟩) (t := 31) hTE (by kernel_rfl)
      obtain rfl : df = [] := hdE
      have HWE : Hid (Below w1.heap.size w1 wE) := HW.out.trans (hbE.mono HW.out.size)
      have hF8 := tmps_fold [24, 25, 26, 27, 28, 29, 30, 31] tm _ hszE hstE
      clear hszE hstE hTE hbE
      simp only [List.foldl_cons, List.foldl_nil, k31] at hF8
      clear k31
      generalize tm.getD 24 undef = x24 at hF8
      generalize tm.getD 25 undef = x25 at hF8
      generalize tm.getD 26 undef = x26 at hF8
      generalize tm.getD 27 undef = x27 at hF8
      generalize tm.getD 28 undef = x28 at hF8
      generalize tm.getD 29 undef = x29 at hF8
      generalize tm.getD 30 undef = x30 at hF8
      simp only [List.setIfInBounds_toArray, List.set_cons_zero, List.set_cons_succ] at hF8
      subst hF8
      clear HW HTC HXU HOR
      by_cases hc : r < 0
      · have HN : Hid _ := HUP.out hc
        obtain rfl : hb = true := by rw [HHB.out]; exact decide_eq_true hc
        clear HUP HDN HHB
        go_wp2_with fail
        go_roundw
        case rel => exact ⟨m + 1, j, by go_num, rfl, HN.out, HWE.out⟩
        case measure => simp [intOf]; omega
      · have HN : Hid _ := HDN.out hc
        obtain rfl : hb = false := by rw [HHB.out]; exact decide_eq_false hc
        clear HUP HDN HHB
        go_wp2_with fail
        go_roundw
        case rel => exact ⟨i, m, rfl, rfl, HN.out, HWE.out⟩
        case measure => simp [intOf]; omega
    · have g1 : decide (i < j) = false := decide_eq_false hlt
      have g1' : decide ((i : Int) < (j : Int)) = false := decide_eq_false (by omega)
      obtain rfl : j = i := by omega
      have HF : Hid _ := HI.out.fin HRS.out
      go_upto_region 8 with fail
      by_cases hin : j < q.length
      · have g2 : decide (j < q.length) = true := decide_eq_true hin
        have g2' : decide ((j : Int) < (q.length : Int)) = true := decide_eq_true (by omega)
        obtain ⟨b, off, eb, p0, p1, p2, p3, p4⟩ := ups_at (HA.out.kc (Kc.below HBW.out)) j hin
        have hxo := (HK.out _ (uvD_mem q j hin)).below HBW.out
        have HF2 : Hid (Gs.BsR q ⟨xa, xn⟩ j (decide (Wr.idOrd (uvD q j).u.id ⟨xa, xn⟩ = 0))) := by
          have := HF.out
          rw [g2, Bool.true_and] at this
          exact this
        clear HF
        generalize uvD q j = x at *
        obtain ⟨b1, m1, f1, b2, m2, f2, b3, m3, f3, e1, e2, e3⟩ := hxo.forms
        have HX : Hid (UvOk wr x) := hxo
        clear hxo
        obtain ⟨⟨⟨va, vn⟩, ps, says, ts⟩, vp, vs, vt⟩ := x
        dsimp only at *
        subst e1 e2 e3
        have HXU : Hid (∀ z, Below wr.heap.size wr z → z.cell? ⟨b, off + j * 5, none⟩ = some (.int .i64 va) ∧ z.cell? ⟨b, off + j * 5 + 1, none⟩ = some (.int .i64 vn) ∧ z.cell? ⟨b, off + j * 5 + 2, none⟩ = some (.slice b1 m1 f1) ∧ z.cell? ⟨b, off + j * 5 + 3, none⟩ = some (.slice b2 m2 f2) ∧ z.cell? ⟨b, off + j * 5 + 4, none⟩ = some (.slice b3 m3 f3)) := fun z hz => ⟨cell_below hz p0, cell_below hz p1, cell_below hz p2, cell_below hz p3, cell_below hz p4⟩
        clear p0 p1 p2 p3 p4
        subst eb
        obtain ⟨r, hr9⟩ : ∃ r, r = Wr.idOrd ⟨va, vn⟩ ⟨xa, xn⟩ := ⟨_, rfl⟩
        have HOR : Hid (∀ z, Below wr.heap.size wr z → Calls Tryz.prog 93 #[uvVal ⟨⟨⟨va, vn⟩, ps, says, ts⟩, .slice b1 m1 f1, .slice b2 m2 f2, .slice b3 m3 f3⟩, idVal ⟨xa, xn⟩] z fun e w' => e = .returned (.int .i64 r) ∧ Below z.heap.size z w') := fun z hz => by
          rw [hr9]
          exact cmpId_any ⟨⟨⟨va, vn⟩, ps, says, ts⟩, .slice b1 m1 f1, .slice b2 m2 f2, .slice b3 m3 f3⟩ ⟨xa, xn⟩ z (HX.out.below hz)
        rw [← hr9] at HF2
        clear hr9
        obtain ⟨hb, HHB⟩ : ∃ hb, Hid (hb = (r == 0)) := ⟨_, rfl⟩
        have ebd : decide (r = 0) = hb := by rw [HHB.out, Bool.eq_iff_iff]; simp
        rw [ebd] at HF2
        clear ebd
        refine wp_region_tabR (Below wr.heap.size) (fun _ _ _ => Below.trans) (fun z => (Below.refl wr.heap.size z).drew) (bsT8 b off q.length cap j (off + j * 5) va vn b1 m1 f1 b2 m2 f2 b3 m3 f3 xa xn r hb) 15 (fun _ _ => True) (by decide) (by kernel_rfl) (by kernel_rfl) (fun _ _ _ _ _ h => bsT8_same h) ?hop8 ?hend8
        case hop8 =>
          refine AllOpsI.cons (fun a y h => ?_) ?_
          · have e9 : a.eval (.tmp 9) = (.int .i64 j : Value) := h.old 9 (by kernel_rfl)
            refine opOkR_val (v := .int .i64 j) (w' := y) (wanted_none rfl) ?_ (fun t ht => by cases ht; exact rfl) (Below.refl _ _) (fun _ => trivial) (fun _ _ _ => trivial)
            have ec : ∀ v, a.eval (.const v) = v := fun _ => rfl
            generalize a.eval = ev at *
            clear h
            go_simp
          refine AllOpsI.cons (fun a y h => ?_) ?_
          · have e9 : a.eval (.tmp 9) = (.int .i64 j : Value) := h.old 9 (by kernel_rfl)
            refine opOkR_val (v := .int .i64 j) (w' := y) (wanted_none rfl) ?_ (fun t ht => by cases ht; exact rfl) (Below.refl _ _) (fun _ => trivial) (fun _ _ _ => trivial)
            have ec : ∀ v, a.eval (.const v) = v := fun _ => rfl
            generalize a.eval = ev at *
            clear h
            go_simp
          refine AllOpsI.cons (fun a y h => ?_) ?_
          · have e8 : a.eval (.tmp 8) = (.int .i64 q.length : Value) := h.old 8 (by kernel_rfl)
            refine opOkR_val (v := .int .i64 q.length) (w' := y) (wanted_none rfl) ?_ (fun t ht => by cases ht; exact rfl) (Below.refl _ _) (fun _ => trivial) (fun _ _ _ => trivial)
            have ec : ∀ v, a.eval (.const v) = v := fun _ => rfl
            generalize a.eval = ev at *
            clear h
            go_simp
          refine AllOpsI.cons (fun a y h => ?_) ?_
          · have e36 : a.eval (.tmp 36) = (.int .i64 j : Value) := h.of 36 (by kernel_rfl)
            have e37 : a.eval (.tmp 37) = (.int .i64 q.length : Value) := h.of 37 (by kernel_rfl)
            refine opOkR_val (v := .bool true) (w' := y) (wanted_none rfl) ?_ (fun t ht => by cases ht; exact rfl) (Below.refl _ _) (fun _ => trivial) (fun _ _ _ => trivial)
            have ec : ∀ v, a.eval (.const v) = v := fun _ => rfl
            generalize a.eval = ev at *
            clear h
            go_simp
          refine AllOpsI.cons (fun a y h => ?_) ?_
          · have e38 : a.eval (.tmp 38) = (.bool true : Value) := h.of 38 (by kernel_rfl)
            refine opOkR_val (v := .bool true) (w' := y) (wanted_none rfl) ?_ (fun t ht => by cases ht; exact rfl) (Below.refl _ _) (fun _ => trivial) (fun _ _ _ => trivial)
            have ec : ∀ v, a.eval (.const v) = v := fun _ => rfl
            generalize a.eval = ev at *
            clear h
            go_simp
          refine AllOpsI.cons (fun a y h => ?_) ?_
          · have e2 : a.eval (.tmp 2) = (.func (.func 93) #[] #[] : Value) := h.old 2 (by kernel_rfl)
            refine opOkR_val (v := .func (.func 93) #[] #[]) (w' := y) (wanted_some (j := 4) (t := 39) (b := true) rfl rfl rfl (h.of 39 (by kernel_rfl))) ?_ (fun t ht => by cases ht; exact rfl) (Below.refl _ _) (fun _ => trivial) (fun _ _ _ => trivial)
            have ec : ∀ v, a.eval (.const v) = v := fun _ => rfl
            generalize a.eval = ev at *
            clear h
            go_simp
          refine AllOpsI.cons (fun a y h => ?_) ?_
          · have e0 : a.eval (.tmp 0) = (.slice (some ⟨b, off, none⟩) q.length cap : Value) := h.old 0 (by kernel_rfl)
            refine opOkR_val (v := .slice (some ⟨b, off, none⟩) q.length cap) (w' := y) (wanted_some (j := 4) (t := 39) (b := true) rfl rfl rfl (h.of 39 (by kernel_rfl))) ?_ (fun t ht => by cases ht; exact rfl) (Below.refl _ _) (fun _ => trivial) (fun _ _ _ => trivial)
            have ec : ∀ v, a.eval (.const v) = v := fun _ => rfl
            generalize a.eval = ev at *
            clear h
            go_simp
          refine AllOpsI.cons (fun a y h => ?_) ?_
          · have e9 : a.eval (.tmp 9) = (.int .i64 j : Value) := h.old 9 (by kernel_rfl)
            refine opOkR_val (v := .int .i64 j) (w' := y) (wanted_some (j := 4) (t := 39) (b := true) rfl rfl rfl (h.of 39 (by kernel_rfl))) ?_ (fun t ht => by cases ht; exact rfl) (Below.refl _ _) (fun _ => trivial) (fun _ _ _ => trivial)
            have ec : ∀ v, a.eval (.const v) = v := fun _ => rfl
            generalize a.eval = ev at *
            clear h
            go_simp
          refine AllOpsI.cons (fun a y h => ?_) ?_
          · have e41 : a.eval (.tmp 41) = (.slice (some ⟨b, off, none⟩) q.length cap : Value) := h.of 41 (by kernel_rfl)
            have e42 : a.eval (.tmp 42) = (.int .i64 j : Value) := h.of 42 (by kernel_rfl)
            refine opOkR_val (v := .pointer (some ⟨b, (off + j * 5), none⟩)) (w' := y) (wanted_some (j := 4) (t := 39) (b := true) rfl rfl rfl (h.of 39 (by kernel_rfl))) ?_ (fun t ht => by cases ht; exact rfl) (Below.refl _ _) (fun _ => trivial) (fun _ _ _ => trivial)
            have ec : ∀ v, a.eval (.const v) = v := fun _ => rfl
            generalize a.eval = ev at *
            clear h
            go_simp
          refine AllOpsI.cons (fun a y h => ?_) ?_
          · have e43 : a.eval (.tmp 43) = (.pointer (some ⟨b, (off + j * 5), none⟩) : Value) := h.of 43 (by kernel_rfl)
            obtain ⟨y0, y1, y2, y3, y4⟩ := HXU.out y h.below
            refine opOkR_val (v := .agg #[.int .i64 va, .int .i64 vn, .slice b1 m1 f1, .slice b2 m2 f2, .slice b3 m3 f3]) (w' := y) (wanted_some (j := 4) (t := 39) (b := true) rfl rfl rfl (h.of 39 (by kernel_rfl))) ?_ (fun t ht => by cases ht; exact rfl) (Below.refl _ _) (fun _ => trivial) (fun _ _ _ => trivial)
            have ec : ∀ v, a.eval (.const v) = v := fun _ => rfl
            generalize a.eval = ev at *
            clear h
            go_simp
          refine AllOpsI.cons (fun a y h => ?_) ?_
          · have e4 : a.eval (.tmp 4) = (.pointer (some ⟨w.heap.size, 0, none⟩) : Value) := h.old 4 (by kernel_rfl)
            obtain ⟨t0, t1⟩ := HTC.out y h.below
            refine opOkR_val (v := .agg #[.int .i64 xa, .int .i64 xn]) (w' := y) (wanted_some (j := 4) (t := 39) (b := true) rfl rfl rfl (h.of 39 (by kernel_rfl))) ?_ (fun t ht => by cases ht; exact rfl) (Below.refl _ _) (fun _ => trivial) (fun _ _ _ => trivial)
            have ec : ∀ v, a.eval (.const v) = v := fun _ => rfl
            generalize a.eval = ev at *
            clear h
            go_simp
          refine AllOpsI.cons (fun a y h => ?_) ?_
          · have e40 : a.eval (.tmp 40) = (.func (.func 93) #[] #[] : Value) := h.of 40 (by kernel_rfl)
            have e44 : a.eval (.tmp 44) = (.agg #[.int .i64 va, .int .i64 vn, .slice b1 m1 f1, .slice b2 m2 f2, .slice b3 m3 f3] : Value) := h.of 44 (by kernel_rfl)
            have e45 : a.eval (.tmp 45) = (.agg #[.int .i64 xa, .int .i64 xn] : Value) := h.of 45 (by kernel_rfl)
            refine opOkR_call (f := 93) (args := #[.agg #[.int .i64 va, .int .i64 vn, .slice b1 m1 f1, .slice b2 m2 f2, .slice b3 m3 f3], .agg #[.int .i64 xa, .int .i64 xn]]) (wanted_some (j := 4) (t := 39) (b := true) rfl rfl rfl (h.of 39 (by kernel_rfl))) ?_ ?_
            · have ec : ∀ v, a.eval (.const v) = v := fun _ => rfl
              have ef : ∀ f, a.eval (.func f) = .func (.func f) #[] #[] := fun _ => rfl
              generalize a.eval = ev at *
              clear h
              go_simp
            · refine Calls.mono (HOR.out y h.below) ?_
              rintro _ y2 ⟨rfl, hb2⟩
              exact ⟨_, rfl, fun t ht => by cases ht; exact rfl, hb2.mono h.below.size, (fun h9 => absurd h9 (by decide)), (fun _ _ _ => trivial)⟩
          refine AllOpsI.cons (fun a y h => ?_) ?_
          · have e46 : a.eval (.tmp 46) = (.int .i64 r : Value) := h.of 46 (by kernel_rfl)
            have hh := HHB.out
            refine opOkR_val (v := .bool hb) (w' := y) (wanted_some (j := 4) (t := 39) (b := true) rfl rfl rfl (h.of 39 (by kernel_rfl))) ?_ (fun t ht => by cases ht; exact rfl) (Below.refl _ _) (fun _ => trivial) (fun _ _ _ => trivial)
            rw [hh]
            have ec : ∀ v, a.eval (.const v) = v := fun _ => rfl
            generalize a.eval = ev at *
            clear h
            go_simp
          refine AllOpsI.cons (fun a y h => ?_) ?_
          · have e39 : a.eval (.tmp 39) = (.bool true : Value) := h.of 39 (by kernel_rfl)
            have e47 : a.eval (.tmp 47) = (.bool hb : Value) := h.of 47 (by kernel_rfl)
            refine opOkR_val (v := .bool hb) (w' := y) (wanted_none rfl) ?_ (fun t ht => by cases ht; exact rfl) (Below.refl _ _) (fun _ => trivial) (fun _ _ _ => trivial)
            have ec : ∀ v, a.eval (.const v) = v := fun _ => rfl
            generalize a.eval = ev at *
            clear h
            go_simp
          refine AllOpsI.cons (fun a y h => ?_) ?_
          · have e35 : a.eval (.tmp 35) = (.int .i64 j : Value) := h.of 35 (by kernel_rfl)
            refine opOkR_val (v := .int .i64 j) (w' := y) (wanted_none rfl) ?_ (fun t ht => by cases ht; exact rfl) (Below.refl _ _) (fun _ => trivial) (fun _ _ _ => trivial)
            have ec : ∀ v, a.eval (.const v) = v := fun _ => rfl
            generalize a.eval = ev at *
            clear h
            go_simp
          refine AllOpsI.cons (fun a y h => ?_) ?_
          · have e48 : a.eval (.tmp 48) = (.bool hb : Value) := h.of 48 (by kernel_rfl)
            refine opOkR_val (v := .bool hb) (w' := y) (wanted_none rfl) ?_ (fun t ht => by cases ht; exact rfl) (Below.refl _ _) (fun _ => trivial) (fun _ _ _ => trivial)
            have ec : ∀ v, a.eval (.const v) = v := fun _ => rfl
            generalize a.eval = ev at *
            clear h
            go_simp
          exact AllOpsI.nil
        rintro ⟨tm, df⟩ wE hbE _ hdE hszE hstE hTE
        have k6 : tm.getD 6 undef = (.int .i64 j : Value) := hTE 6 (by decide)
        have k7 : tm.getD 7 undef = (.bool hb : Value) := hTE 7 (by decide)
        obtain rfl : df = [] := hdE
        have HWE : Hid (Below w.heap.size w wE) := HBW.out.trans (hbE.mono HBW.out.size)
        have hF8 := tmps_fold [35, 36, 37, 38, 39, 40, 41, 42, 43, 44, 45, 46, 47, 48, 6, 7] tm _ hszE hstE
        clear hszE hstE hTE hbE
        simp only [List.foldl_cons, List.foldl_nil, k6, k7] at hF8
        clear k6 k7
        generalize tm.getD 35 undef = x35 at hF8
        generalize tm.getD 36 undef = x36 at hF8
        generalize tm.getD 37 undef = x37 at hF8
        generalize tm.getD 38 undef = x38 at hF8
        generalize tm.getD 39 undef = x39 at hF8
        generalize tm.getD 40 undef = x40 at hF8
        generalize tm.getD 41 undef = x41 at hF8
        generalize tm.getD 42 undef = x42 at hF8
        generalize tm.getD 43 undef = x43 at hF8
        generalize tm.getD 44 undef = x44 at hF8
        generalize tm.getD 45 undef = x45 at hF8
        generalize tm.getD 46 undef = x46 at hF8
        generalize tm.getD 47 undef = x47 at hF8
        generalize tm.getD 48 undef = x48 at hF8
        simp only [List.setIfInBounds_toArray, List.set_cons_zero, List.set_cons_succ] at hF8
        subst hF8
        go_wp2_with fail
        go_ret2
        exact ⟨j, hb, rfl, HF2.out, HWE.out⟩
      · have g2 : decide (j < q.length) = false := decide_eq_false hin
        obtain rfl : j = q.length := by omega
        have HF2 : Hid (Gs.BsR q ⟨xa, xn⟩ q.length false) := by
          have := HF.out
          rw [g2, Bool.false_and] at this
          exact this
        clear HF
        go_quiet (fail)
        go_wp2_with fail
        go_ret2
        exact ⟨q.length, false, rfl, HF2.out, HBW.out.trans ((blw_drewN wr _).mono HBW.out.size)⟩
end Go.Proofs.YtmfaodapofamfaaGreat

/- What stands where a box of two slices is written: all blocks that hold a number. -/
namespace Go.Proofs.YtmfaodapofamfaaGreat
open Go.RowKit

def Kn (w w' : World) : Prop := ∀ b, (∃ o n, w.cell? ⟨b, o, none⟩ = some (.int .i64 n)) → ∀ o v, w.cell? ⟨b, o, none⟩ = some v → w'.cell? ⟨b, o, none⟩ = some v
theorem Kn.trans {a b c : World} (h : Kn a b) (k : Kn b c) : Kn a c := fun i hi o v e => k i (by obtain ⟨p, n, q⟩ := hi; exact ⟨p, n, h i ⟨p, n, q⟩ p _ q⟩) o v (h i hi o v e)
theorem Kn.below {w w' : World} (h : Below w.heap.size w w') : Kn w w' := fun _ _ _ _ e => cell_below h e
theorem Kn.ints {w w' : World} (k : Kn w w') {v : Value} {l : List Int} (h : IntsV w v l) : IntsV w' v l := by
  obtain ⟨ao, cap, rfl, h⟩ := h
  refine ⟨ao, cap, rfl, ?_⟩
  rcases h with h | ⟨b, off, rfl, h⟩
  · exact .inl h
  · exact .inr ⟨b, off, rfl, fun i hi => k _ ⟨_, _, h i hi⟩ _ _ (h i hi)⟩
theorem Kn.ids {w w' : World} (k : Kn w w') {v : Value} {l : List Wr.Id} (h : IdsV w v l) : IdsV w' v l := by
  obtain ⟨ao, cap, rfl, hc, h⟩ := h
  refine ⟨ao, cap, rfl, hc, ?_⟩
  rcases h with h | ⟨b, off, rfl, h⟩
  · exact .inl h
  · exact .inr ⟨b, off, rfl, fun i hi => ⟨k _ ⟨_, _, (h i hi).1⟩ _ _ (h i hi).1, k _ ⟨_, _, (h i hi).1⟩ _ _ (h i hi).2⟩⟩
theorem Kn.fact {w w' : World} (k : Kn w w') {b off : Nat} {f : Rl.Fc} (h : FactIn w b off f) : FactIn w' b off f := by
  obtain ⟨h1, u, h2, h3⟩ := h
  exact ⟨k _ ⟨_, _, h1⟩ _ _ h1, u, k _ ⟨_, _, h1⟩ _ _ h2, k.ints h3⟩
theorem Kn.facts {w w' : World} (k : Kn w w') {v : Value} {l : List Rl.Fc} (h : FactsV w v l) : FactsV w' v l := by
  obtain ⟨ao, cap, rfl, hc, h⟩ := h
  refine ⟨ao, cap, rfl, hc, ?_⟩
  rcases h with h | ⟨b, off, rfl, h⟩
  · exact .inl h
  · exact .inr ⟨b, off, rfl, fun i hi => k.fact (h i hi)⟩
theorem UvOk.kn {w w' : World} {x : Uv} (h : UvOk w x) (k : Kn w w') : UvOk w' x := ⟨k.ids h.p, k.facts h.s, k.ids h.t, h.f, h.l⟩
theorem UpsV.kn {w w' : World} {v : Value} {q : List Uv} (h : UpsV w v q) (k : Kn w w') : UpsV w' v q := by
  obtain ⟨ao, cap, e, hc, h⟩ := h
  refine ⟨ao, cap, e, hc, ?_⟩
  rcases h with h | ⟨b, off, rfl, h⟩
  · exact .inl h
  · refine .inr ⟨b, off, rfl, fun i hi => ?_⟩
    obtain ⟨h0, h1, h2, h3, h4⟩ := h i hi
    exact ⟨k _ ⟨_, _, h0⟩ _ _ h0, k _ ⟨_, _, h0⟩ _ _ h1, k _ ⟨_, _, h0⟩ _ _ h2, k _ ⟨_, _, h0⟩ _ _ h3, k _ ⟨_, _, h0⟩ _ _ h4⟩
/-- .. a box of two slices, one after the other. -/
def two (z : World) (F : Nat) (u v : Value) : World := (z.setCell ⟨F, 0, none⟩ u).setCell ⟨F, 1, none⟩ v
theorem two_heap {z : World} {F : Nat} {x y u v : Value} {t : TypeId} (h : z.heap[F]? = some (.cells #[x, y] t)) : (two z F u v).heap[F]? = some (.cells #[u, v] t) := by
  unfold two
  have h1 : (z.setCell ⟨F, 0, none⟩ u).heap[F]? = some (.cells #[u, y] t) := by rw [Lib.heap_setCell_same h]; rfl
  rw [Lib.heap_setCell_same h1]
  rfl
theorem two_other {z : World} {F : Nat} {u v : Value} {b : Nat} (h : b ≠ F) : (two z F u v).heap[b]? = z.heap[b]? := by
  unfold two
  rw [Below.heap_setCell _ _ _ _ h, Below.heap_setCell _ _ _ _ h]
theorem two_kn {z : World} {F : Nat} {ax ay : Option Addr} {nx cx ny cy : Nat} {u v : Value} {t : TypeId} (h : z.heap[F]? = some (.cells #[.slice ax nx cx, .slice ay ny cy] t)) : Kn z (two z F u v) := fun b hb o x e => by
  have hne : b ≠ F := fun e2 => by
    subst e2
    obtain ⟨p, n, hp⟩ := hb
    rw [Lib.cell_of_heap h] at hp
    match p with
    | 0 => cases hp
    | 1 => cases hp
    | _ + 2 => cases hp
  rw [cell_heap (two_other hne)]
  exact e
theorem two_below {w z : World} {F : Nat} (h : Below w.heap.size w z) (hF : w.heap.size ≤ F) (u v : Value) : Below w.heap.size w (two z F u v) := (h.setCell (p := ⟨F, 0, none⟩) hF u).setCell (p := ⟨F, 1, none⟩) hF v
/-- A box of two slices stands there. -/
def Bx (w : World) (b : Nat) : Prop := ∃ a1 n1 c1 a2 n2 c2, w.heap[b]? = some (.cells #[.slice a1 n1 c1, .slice a2 n2 c2] 24)
theorem Bx.below {w w' : World} {b : Nat} (h : Bx w b) (hb : Below w.heap.size w w') : Bx w' b := by
  obtain ⟨a1, n1, c1, a2, n2, c2, h⟩ := h
  exact ⟨a1, n1, c1, a2, n2, c2, (hb.block _ (Array.getElem?_eq_some_iff.1 h).1).trans h⟩
/-- From world to world: all below B stands, all blocks with numbers, and a box stays a box. -/
def Rb (B : Nat) (w w' : World) : Prop := Below B w w' ∧ Kn w w' ∧ ∀ b, Bx w b → Bx w' b
theorem Rb.trans {B : Nat} {a b c : World} (h : Rb B a b) (k : Rb B b c) : Rb B a c := ⟨h.1.trans k.1, h.2.1.trans k.2.1, fun i hi => k.2.2 i (h.2.2 i hi)⟩
theorem Rb.refl (B : Nat) (w : World) : Rb B w w := ⟨Below.refl _ _, fun _ _ _ _ e => e, fun _ h => h⟩
theorem Rb.of {B : Nat} {w w' : World} (h : Below w.heap.size w w') (hB : B ≤ w.heap.size) : Rb B w w' := ⟨h.mono hB, Kn.below h, fun _ hb => hb.below h⟩
theorem Rb.draw (B : Nat) (w : World) : Rb B w { w with drawn := w.drawn + 1 } := ⟨(Below.refl B w).drew, fun _ _ _ _ e => e, fun _ h => h⟩
theorem Rb.two {B : Nat} {z : World} {F : Nat} {a1 a2 b1 b2 : Option Addr} {n1 c1 n2 c2 m1 d1 m2 d2 : Nat} (h : z.heap[F]? = some (.cells #[.slice a1 n1 c1, .slice a2 n2 c2] 24)) (hF : B ≤ F) : Rb B z (two z F (.slice b1 m1 d1) (.slice b2 m2 d2)) := by
  refine ⟨((Below.refl B z).setCell (p := ⟨F, 0, none⟩) hF _).setCell (p := ⟨F, 1, none⟩) hF _, two_kn h, fun b hb => ?_⟩
  by_cases e : b = F
  · subst e
    exact ⟨_, _, _, _, _, _, two_heap h⟩
  · obtain ⟨p1, q1, r1, p2, q2, r2, hb⟩ := hb
    exact ⟨p1, q1, r1, p2, q2, r2, (two_other e).trans hb⟩
/-- A pointer to a box. -/
def Bxp (B : Nat) (w : World) (v : Value) : Prop := ∃ b, v = .pointer (some ⟨b, 0, none⟩) ∧ Bx w b ∧ B ≤ b
theorem Bxp.rb {B C : Nat} {w w' : World} {v : Value} (h : Bxp B w v) (k : Rb C w w') : Bxp B w' v := by
  obtain ⟨b, e, h, l⟩ := h
  exact ⟨b, e, k.2.2 b h, l⟩
theorem bxp_new (B : Nat) (y : World) (hB : B ≤ y.heap.size) : Bxp B (y.alloc (.cells #[.slice none 0 0, .slice none 0 0] 24)) (.pointer (some ⟨y.heap.size, 0, none⟩)) := ⟨_, rfl, ⟨_, _, _, _, _, _, heap_alloc_new y _⟩, hB⟩
end Go.Proofs.YtmfaodapofamfaaGreat

/- A region by a table with a tail, where the tail writes what the table reads. -/
namespace Go.Proofs.YtmfaodapofamfaaGreat
open Go.RowKit

section
variable {P : Program} {ops : Array Oper} {Q : Exit → Act → World → Prop}
theorem wp_region_tail2 (T : Nat → Value → World → Prop) (L : Nat) {id : Nat} {a0 : Act} {w0 : World} (hL : L < ops.size) (htf : tailFine ops L = true) (hm : P.follows .mixedOrders = true)
    (hf : tabFine ops a0.tmps.size = true)
    (hmono : ∀ t v w w', Below w.heap.size w w' → T t v w → T t v w')
    (hop : AllOps (fun o => ∀ a w, OpIn ops T a0 w0 o a w → (∀ t, t ∉ (ops.toList.take L).filterMap (·.dst) → a.tmps.getD t undef = a0.tmps.getD t undef) → OpOk P ops Q T o a w) (ops.toList.take L))
    (htail : ∀ a w, OpInT ops T a0 w0 L a w → (∀ t, t ∉ (ops.toList.take L).filterMap (·.dst) → a.tmps.getD t undef = a0.tmps.getD t undef) → wpOps P ops Q (List.range' L (ops.size - L)) a w) :
    (Code.region id ops true).wp P Q a0 w0 := by
  unfold tailFine at htf
  rw [Bool.and_eq_true] at htf
  have ht1 : ∀ j, j < L → reach ops 12 L j = true := fun j hj => List.all_eq_true.mp htf.1 j (List.mem_range.mpr hj)
  have ht2 : ∀ i, i < ops.size → L < i → reach ops 12 i (i - 1) = true := fun i hi hLi => by
    have h := List.all_eq_true.mp htf.2 i (List.mem_range.mpr hi)
    rw [decide_eq_true hLi] at h
    simpa using h
  unfold tabFine at hf
  rw [Bool.and_eq_true, Bool.and_eq_true] at hf
  obtain ⟨⟨hnd, hlt⟩, hah⟩ := hf
  have hnd := of_decide_eq_true hnd
  have hlt' : ∀ t, t ∈ ops.toList.filterMap (·.dst) → t < a0.tmps.size := fun t ht => of_decide_eq_true (List.all_eq_true.mp hlt t ht)
  have hah' : ∀ (i : Nat) (o : Oper), ops[i]? = some o → ∀ e, e ∈ o.after → e.on < i := fun i o ho e he => by
    have hi : i < ops.size := (Array.getElem?_eq_some_iff.mp ho).1
    have h := List.all_eq_true.mp hah i (List.mem_range.mpr hi)
    rw [ho, Option.map_some, Option.getD_some] at h
    exact of_decide_eq_true (List.all_eq_true.mp h e (by simpa using he))
  refine wp_region_inv (fun s a w => (s.size = ops.size ∧ Closed ops s) ∧ (((∀ i, L ≤ i → i < ops.size → s[i]? = some false) ∧ (∀ t, t ∉ (ops.toList.take L).filterMap (·.dst) → a.tmps.getD t undef = a0.tmps.getD t undef) ∧ Tabbed ops T a0 w0 s a w) ∨
    (∃ m, L ≤ m ∧ m ≤ ops.size ∧ (∀ i, i < m → s[i]? = some true) ∧ (∀ i, m ≤ i → i < ops.size → s[i]? = some false) ∧ wpOps P ops Q (List.range' m (ops.size - m)) a w))) hm ?_ ?_ ?_
  · rintro s a w hr ⟨⟨hs, hC⟩, hI⟩
    have hall : ∀ n : Nat, n ≤ ops.size → ∀ i : Nat, i < n → s[i]? = some true := by
      intro n
      induction n with
      | zero => intro _ i hi; exact absurd hi (Nat.not_lt_zero _)
      | succ n ih =>
        intro hn i hi
        have ih := ih (by omega)
        by_cases hin : i < n
        · exact ih i hin
        · have hin : i = n := by omega
          subst hin
          cases hsi : s[i]? with
          | none => rw [Array.getElem?_eq_none_iff] at hsi; omega
          | some b =>
            cases b with
            | true => rfl
            | false =>
              exfalso
              have hio : i < ops.size := by omega
              have : i ∈ Region.ready .any ops s := by
                unfold Region.ready
                refine List.mem_filter.mpr ⟨List.mem_range.mpr hio, ?_⟩
                rw [Bool.and_eq_true]
                refine ⟨by simp [Array.getD_eq_getD_getElem?, hsi], ?_⟩
                have ho : ops[i]? = some ops[i] := Array.getElem?_eq_getElem hio
                rw [ho, Option.map_some, Option.getD_some, Array.all_eq_true_iff_forall_mem]
                intro e he
                have h1 := ih e.on (hah' i _ ho e he)
                simp [Array.getD_eq_getD_getElem?, h1]
              rw [hr] at this
              exact absurd this (by simp)
    have hd := hall ops.size (Nat.le_refl _)
    rcases hI with ⟨hF, _, _⟩ | ⟨m, _, hm1, _, hF, hW⟩
    · have h1 := hF L (Nat.le_refl _) hL
      rw [hd L hL] at h1
      cases h1
    · by_cases hme : m = ops.size
      · subst hme
        rw [Nat.sub_self] at hW
        exact hW
      · have h1 := hF m (Nat.le_refl _) (by omega)
        rw [hd m (by omega)] at h1
        cases h1
  · rintro s a w i hi ⟨⟨hs, hC⟩, hI⟩
    obtain ⟨hsi, o, ho, haf⟩ := ready_mem hi
    have his : i < ops.size := (Array.getElem?_eq_some_iff.mp ho).1
    have hup : ∀ j, s[j]? = some true → (s.setIfInBounds i true)[j]? = some true := fun j hj => by
      rw [Array.getElem?_setIfInBounds]
      by_cases hij : i = j
      · rw [if_pos hij, if_pos (by omega)]
      · rw [if_neg hij]; exact hj
    have hss : (s.setIfInBounds i true).size = ops.size ∧ Closed ops (s.setIfInBounds i true) := by
      refine ⟨by simp [hs], fun i' o' hi' ho' e he hb => ?_⟩
      by_cases hii : i = i'
      · subst hii
        rw [ho] at ho'
        cases ho'
        exact hup _ (haf e he hb)
      · rw [Array.getElem?_setIfInBounds, if_neg hii] at hi'
        exact hup _ (hC i' o' hi' ho' e he hb)
    have go : ∀ m, L ≤ m → m < ops.size → i = m → (∀ j, j < m → s[j]? = some true) → (∀ j, m ≤ j → j < ops.size → s[j]? = some false) → wpOps P ops Q (List.range' m (ops.size - m)) a w →
        wpOp P ops Q i (fun a' w' => ((s.setIfInBounds i true).size = ops.size ∧ Closed ops (s.setIfInBounds i true)) ∧ (((∀ j, L ≤ j → j < ops.size → (s.setIfInBounds i true)[j]? = some false) ∧ (∀ t, t ∉ (ops.toList.take L).filterMap (·.dst) → a'.tmps.getD t undef = a0.tmps.getD t undef) ∧ Tabbed ops T a0 w0 (s.setIfInBounds i true) a' w') ∨
          (∃ m, L ≤ m ∧ m ≤ ops.size ∧ (∀ j, j < m → (s.setIfInBounds i true)[j]? = some true) ∧ (∀ j, m ≤ j → j < ops.size → (s.setIfInBounds i true)[j]? = some false) ∧ wpOps P ops Q (List.range' m (ops.size - m)) a' w'))) a w := by
      intro m hLm hms him hT hF hW
      subst him
      obtain ⟨d, hd⟩ : ∃ d, ops.size - i = d + 1 := ⟨ops.size - i - 1, by omega⟩
      rw [hd, List.range'_succ, wpOps_cons] at hW
      refine wpOp_mono (fun a' w' h' => ⟨hss, .inr ⟨i + 1, by omega, by omega, fun j hj => ?_, fun j hj hjs => ?_, ?_⟩⟩) hW
      · by_cases hji : j = i
        · subst hji
          rw [Array.getElem?_setIfInBounds, if_pos rfl, if_pos (by omega)]
        · exact hup j (hT j (by omega))
      · rw [Array.getElem?_setIfInBounds, if_neg (by omega)]
        exact hF j (by omega) hjs
      · rw [show ops.size - (i + 1) = d by omega]
        exact h'
    rcases hI with ⟨hF, hO, hI⟩ | ⟨m, hLm, hm1, hT, hF, hW⟩
    · by_cases hiL : L ≤ i
      · have hiL2 : i = L := by
          rcases Nat.lt_or_ge L i with h | h
          · have h1 := reach_done hC 12 i (i - 1) o ho haf (ht2 i his h)
            rw [hF (i - 1) (by omega) (by omega)] at h1
            cases h1
          · omega
        subst hiL2
        have hdn : ∀ j, j < i → s[j]? = some true := fun j hj => reach_done hC 12 i j o ho haf (ht1 j hj)
        exact go i (Nat.le_refl _) his rfl hdn (fun j hj hjs => hF j hj hjs) (htail a w ⟨hI.below, hI.defers, hI.size, hI.still, fun j oj t hj hoj hd => hI.done j oj t (hdn j hj) hoj hd⟩ hO)
      · have hmo : o ∈ ops.toList.take L := by
          rw [← Array.getElem?_toList] at ho
          refine List.mem_of_getElem? (i := i) ?_
          rw [List.getElem?_take, if_pos (by omega)]
          exact ho
        have hop' : OpOk P ops Q T o a w := AllOps.mem _ hop o hmo a w ⟨hI.below, hI.still, fun e he hb o' t ho' hd => hI.done e.on o' t (haf e he hb) ho' hd⟩ hO
        have hOset : ∀ (v : Value) t, t ∉ (ops.toList.take L).filterMap (·.dst) → (a.put o.dst v).tmps.getD t undef = a0.tmps.getD t undef := fun v t ht => by
          cases hd : o.dst with
          | none => exact hO t ht
          | some u =>
            have hne : t ≠ u := fun h => ht (h ▸ List.mem_filterMap.mpr ⟨o, hmo, hd⟩)
            rw [put_get_ne hne]
            exact hO t ht
        have hset : ∀ {v : Value} {w' : World}, (∀ t, o.dst = some t → T t v w') → Below w.heap.size w w' → Tabbed ops T a0 w0 (s.setIfInBounds i true) (a.put o.dst v) w' := by
          intro v w' hv hb
          refine ⟨hI.below.trans (hb.mono hI.below.size), by rw [put_defers]; exact hI.defers, by rw [put_size]; exact hI.size, fun t ht => ?_, fun j oj t hj hoj hd => ?_⟩
          · cases hd : o.dst with
            | none => exact hI.still t ht
            | some u =>
              have hne : t ≠ u := fun h => ht (h ▸ dst_mem ho hd)
              rw [put_get_ne hne]
              exact hI.still t ht
          · by_cases hij : j = i
            · subst hij
              rw [ho] at hoj
              cases hoj
              rw [hd, put_get_self (by rw [hI.size]; exact hlt' t (dst_mem ho hd))]
              exact hv t hd
            · have hj' : s[j]? = some true := by
                rw [Array.getElem?_setIfInBounds, if_neg (fun h => hij h.symm)] at hj
                exact hj
              have h1 := hmono t _ w w' hb (hI.done j oj t hj' hoj hd)
              cases hd2 : o.dst with
              | none => exact h1
              | some u =>
                have hne : t ≠ u := fun h => hij (dst_inj ops.toList hnd j i oj o t (by rw [Array.getElem?_toList]; exact hoj) (by rw [Array.getElem?_toList]; exact ho) hd (h ▸ hd2))
                rw [put_get_ne hne]
                exact h1
        have hF' : ∀ j, L ≤ j → j < ops.size → (s.setIfInBounds i true)[j]? = some false := fun j hj hjs => by
          rw [Array.getElem?_setIfInBounds, if_neg (by omega)]
          exact hF j hj hjs
        unfold OpOk at hop'
        unfold wpOp
        rw [ho]
        dsimp only
        by_cases hw : Region.wanted o (yielded ops a.tmps) = true
        · rw [if_pos hw] at hop' ⊢
          refine hop'.imp (Oper.wp_mono ?_) (fun h => h)
          rintro a' w' ⟨v, rfl, hv, hb⟩
          exact ⟨hss, .inl ⟨hF', hOset v, hset hv hb⟩⟩
        · rw [if_neg hw] at hop' ⊢
          exact ⟨hss, .inl ⟨hF', hOset _, hset hop' (Below.refl _ _)⟩⟩
    · have him : m ≤ i := by
        rcases Nat.lt_or_ge i m with h | h
        · have h1 := hT i h
          rw [hsi] at h1
          cases h1
        · exact h
      have him2 : i = m := by
        rcases Nat.lt_or_ge m i with h | h
        · have h1 := reach_done hC 12 i (i - 1) o ho haf (ht2 i his (by omega))
          rw [hF (i - 1) (by omega) (by omega)] at h1
          cases h1
        · omega
      exact go m hLm (by omega) him2 hT hF hW
  · refine ⟨⟨by simp, fun i o h => ?_⟩, .inl ⟨fun i _ hi => ?_, fun _ _ => rfl, ⟨⟨rfl, rfl, rfl, Nat.le_refl _, fun _ _ => rfl⟩, rfl, rfl, fun _ _ => rfl, fun i o t h _ _ => ?_⟩⟩⟩
    · rw [Array.getElem?_replicate] at h
      split at h <;> simp at h
    · rw [Array.getElem?_replicate, if_pos hi]
    · rw [Array.getElem?_replicate] at h
      split at h <;> simp at h
end

end Go.Proofs.YtmfaodapofamfaaGreat

/- One operation of a tail. -/
namespace Go.Proofs.YtmfaodapofamfaaGreat
open Go.RowKit

section
variable {P : Program} {ops : Array Oper} {Q : Exit → Act → World → Prop} {i : Nat} {o : Oper} {K : Act → World → Prop} {a : Act} {w w' : World}
theorem wpOp_val {v : Value} (ho : ops[i]? = some o) (hw : Region.wanted o (yielded ops a.tmps) = true) (hr : (execOp a.eval o).run P w = .ok (.value v) w') (h : K (a.put o.dst v) w') : wpOp P ops Q i K a w := by
  unfold wpOp
  rw [ho]
  dsimp only
  rw [if_pos hw]
  left
  unfold Oper.wp
  rw [hr, Oper.upon_value]
  exact h
theorem wpOp_void (ho : ops[i]? = some o) (hw : Region.wanted o (yielded ops a.tmps) = true) (hd : o.dst = none) (hr : (execOp a.eval o).run P w = .ok .skip w') (h : K a w') : wpOp P ops Q i K a w := by
  unfold wpOp
  rw [ho]
  dsimp only
  rw [if_pos hw]
  left
  unfold Oper.wp
  rw [hr, Oper.upon_skip, hd]
  exact h
theorem wpOp_wp (ho : ops[i]? = some o) (hw : Region.wanted o (yielded ops a.tmps) = true) (h : o.wp P a w K Q) : wpOp P ops Q i K a w := by
  unfold wpOp
  rw [ho]
  dsimp only
  rw [if_pos hw]
  exact .inl h
theorem wpOps_end {tm : Array Value} {ds : List Deferred} {t : Nat} {v : Value} (h : Q .normal ⟨tm.setIfInBounds t v, ds⟩ w) : wpOps P ops Q [] (Act.put ⟨tm, ds⟩ (some t) v) w := h
end

end Go.Proofs.YtmfaodapofamfaaGreat

/- Updates put behind a row of one's own; the library's Grow and Concat of updates. -/
namespace Go.Proofs.YtmfaodapofamfaaGreat
open Go.RowKit

theorem ups_flat (q : List Uv) : (q.map uvCells).flatten.length = q.length * 5 := by
  induction q with
  | nil => rfl
  | cons a r ih =>
    rw [List.map_cons, List.flatten_cons, List.length_append, ih]
    show 5 + r.length * 5 = (r.length + 1) * 5
    omega
theorem ups_cells {w : World} {b off : Nat} {q : List Uv} (h : ∀ i, i < q.length → UpIn w b (off + i * 5) (uvD q i)) : ∀ j u, (q.map uvCells).flatten[j]? = some u → w.cell? ⟨b, off + j, none⟩ = some u := by
  intro j u hj
  have hjl : j < q.length * 5 := by
    rcases Nat.lt_or_ge j (q.length * 5) with h2 | h2
    · exact h2
    · rw [List.getElem?_eq_none (by rw [ups_flat]; exact h2)] at hj; cases hj
  have hi : j / 5 < q.length := by omega
  have e : j = j / 5 * 5 + j % 5 := by omega
  have hm : j % 5 < 5 := by omega
  rw [e, flat5_get q _ _ hi hm] at hj
  obtain ⟨h0, h1, h2, h3, h4⟩ := h _ hi
  have eo : off + j = off + j / 5 * 5 + j % 5 := by omega
  rw [eo]
  generalize j % 5 = m at *
  match m, hm with
  | 0, _ => rw [← hj]; exact h0
  | 1, _ => rw [← hj]; exact h1
  | 2, _ => rw [← hj]; exact h2
  | 3, _ => rw [← hj]; exact h3
  | 4, _ => rw [← hj]; exact h4
theorem uv_one {w : World} {q : List Uv} (h : ∀ x, x ∈ q → UvOk w x) : ∀ u, u ∈ (q.map uvCells).flatten → u.oneCell' = true := by
  intro u hu
  obtain ⟨c, hc, hu⟩ := List.mem_flatten.mp hu
  obtain ⟨p, hp, rfl⟩ := List.mem_map.mp hc
  obtain ⟨a1, n1, d1, a2, n2, d2, a3, n3, d3, e1, e2, e3⟩ := (h p hp).forms
  simp only [uvCells, e1, e2, e3, List.mem_cons, List.not_mem_nil, or_false] at hu
  rcases hu with rfl | rfl | rfl | rfl | rfl <;> rfl
/-- 'append(row, updates...)': W: the world in which the updates lie. -/
theorem wp_append_ups {W w : World} {ops : Array Oper} {rest : List Oper} {o : Oper} {a : Act} {Q : Exit → Act → World → Prop} (hgd : o.guard = none) (s x : Operand)
    (ho : o.op = .call { callee := .builtin .append, args := #[s, x], argTypes := #[22, 22] }) (B : Nat) (hB : B ≤ w.heap.size) (v : Value) (q : List Uv) (hs : a.eval s = v)
    (hown : URow w B v q) (ao : Option Addr) (cap : Nat) (q2 : List Uv) (hx : a.eval x = .slice ao q2.length cap) (hcap : ao = none → cap = 0) (hA : UpsAt w ao q2) (hok : ∀ x, x ∈ q2 → UvOk W x)
    (hb : q.length + q2.length ≤ 4194304)
    (h : ∀ v' w', URow w' B v' (q ++ q2) → w.grownBy w' v.ownBlock → wpList Tryz.prog ops Q rest (a.put o.dst v') w') : wpList Tryz.prog ops Q (o :: rest) a w := by
  obtain ⟨i0, hi, hz0, hz1, hz2⟩ := info_parts up_info
  cases ao with
  | none =>
    have hq2 : q2 = [] := by
      rcases hA with hl | ⟨b, off, hb2, _⟩
      · exact hl
      · cases hb2
    subst hq2
    refine wpList_append_own_none hgd s x 22 ho B 30 i0 5 Tryz.underlying22 hi v q.length _ hs hown (by rw [hx, hcap rfl]; rfl) ?_
    refine h v w ?_ (grown_refl _ _)
    rw [List.append_nil]
    exact hown
  | some ad =>
    refine wpList_append_own w hgd s x 22 ho B 30 i0 _ 5 88 Tryz.underlying22 hi hz0 hz1 hz2 rfl (by decide) v q.length _ hs hown ad q2.length cap ((q2.map uvCells).flatten) hx (by rw [ups_flat]) ?_ (uv_one hok) (by unfold maxLen; omega) (by omega) hB ?_
    · intro j u hj
      rcases hA with hl | ⟨b, off, hb2, hc⟩
      · subst hl
        simp at hj
      · rw [Option.some.inj hb2, Addr.add_lit]
        exact ups_cells hc j u hj
    · intro v' w' ho2 hg _
      refine h v' w' ?_ hg
      show World.ownsRow _ _ _ _ _ _ _
      rw [List.length_append, List.map_append, List.flatten_append]
      exact ho2

set_option maxRecDepth 100000 in
set_option maxHeartbeats 1000000 in
theorem growU_any (w : World) (n : Nat) (hn : n ≤ 100000) :
    Calls Tryz.prog 72 #[.slice none 0 0, .int .i64 n] w fun e w' => ∃ v', e = .returned v' ∧ URow w' w.heap.size v' [] ∧ Below w.heap.size w w' := by
  obtain ⟨i0, hi, hz0, hz1, hz2⟩ := info_parts up_info
  by_cases h0 : n = 0
  · subst h0
    go_enter Tryz.func72, Tryz.ntmps72
    go_wp2_with fail
    go_ret
    exact ⟨_, rfl, World.ownsRow_nil _ _ _ _, Below.refl _ _⟩
  · have hp : 0 < n := by omega
    have HR : Hid _ := Lib.run_append_nil_zeros w 22 3 22 30 i0 _ .i64 .i64 Tryz.underlying22 Tryz.underlying3 hi hz0 n hp (by rw [hz1]; decide) (by omega) (by rw [hz2]; omega)
    go_enter Tryz.func72, Tryz.ntmps72
    go_wp2_with (at_builtin; refine Lib.wpList_append_run _ rfl _ _ 22 3 rfl _ _ rfl rfl _ _ HR.out ?_)
    have HO : Hid (∀ cur : Array Value, cur.size = grownCap w n 0 30 * 5 → (w.alloc (.cells cur 30)).drew.ownsRow w.heap.size 30 5 (.slice (some ⟨w.heap.size, 0, none⟩) 0 (grownCap w n 0 30)) 0 [] ∧ Below w.heap.size w (w.alloc (.cells cur 30)).drew) := by
      intro cur hc
      have h1 := World.ownsRow_made (base := w.heap.size) (e := 30) (size := 5) w cur (grownCap w n 0 30) (Nat.le_refl _) (grownCap_le_maxLen _ _ _ _ (by unfold maxLen; omega)) hc
      have h2 : Below w.heap.size w (w.alloc (.cells cur 30)) := (Below.refl _ _).alloc (Nat.le_refl _) _
      exact ⟨h1, h2.os, h2.tape, h2.output, h2.size, h2.block⟩
    have hge := grownCap_ge w n 0 30
    go_ret
    refine ⟨_, rfl, HO.out _ ?_⟩
    simp [Builtin.zeroCells]
    omega

set_option maxRecDepth 100000 in
set_option maxHeartbeats 2000000 in
theorem concatU_any (l m : List Uv) (b : Nat) (ao bo : Option Addr) (cap cbp : Nat) (w : World) (hA : UpsAt w ao l ∧ (ao = none → cap = 0)) (hB : UpsAt w bo m ∧ (bo = none → cbp = 0)) (hb0 : w.cell? ⟨b, 0, none⟩ = some (.slice ao l.length cap)) (hb1 : w.cell? ⟨b, 1, none⟩ = some (.slice bo m.length cbp)) (hl : l.length + m.length ≤ 1000) (hok : ∀ x, x ∈ l ++ m → UvOk w x) :
    Calls Tryz.prog 29 #[.slice (some ⟨b, 0, none⟩) 2 2] w fun e w' => ∃ v', e = .returned v' ∧ URow w' w.heap.size v' (l ++ m) ∧ Below w.heap.size w w' := by
  have HA : Hid (∀ z, Below w.heap.size w z → UpsAt z ao l) := fun z hz => hA.1.kc (Kc.below hz)
  have HB : Hid (∀ z, Below w.heap.size w z → UpsAt z bo m) := fun z hz => hB.1.kc (Kc.below hz)
  have HA2 : Hid (ao = none → cap = 0) := hA.2
  have HB2 : Hid (bo = none → cbp = 0) := hB.2
  have HO1 : Hid (∀ x, x ∈ l → UvOk w x) := fun x hx => hok x (List.mem_append_left _ hx)
  have HO2 : Hid (∀ x, x ∈ m → UvOk w x) := fun x hx => hok x (List.mem_append_right _ hx)
  clear hA hB hok
  go_enter Tryz.func29, Tryz.ntmps29
  go_wp2_with fail
  go_loopw [3, 11] (fun sz i wr => w = wr ∧ ((i = .int .i64 (0 : Nat) ∧ sz = .int .i64 0) ∨ (i = .int .i64 (1 : Nat) ∧ sz = .int .i64 (l.length : Nat)) ∨ (i = .int .i64 (2 : Nat) ∧ sz = .int .i64 ((l.length + m.length : Nat) : Int)))) (fun _ i _ => 2 - (intOf i).toNat)
  case atStart => exact ⟨rfl, .inl ⟨rfl, rfl⟩⟩
  case round =>
    obtain ⟨rfl, ⟨rfl, rfl⟩ | ⟨rfl, rfl⟩ | ⟨rfl, rfl⟩⟩ := hrel
    · go_wp2_with fail
      go_roundw
      case rel => exact ⟨by trivial, .inr (.inl ⟨by first | rfl | go_num, by first | rfl | go_num | simp⟩)⟩
      case measure => simp [intOf]
    · go_wp2_with fail
      go_roundw
      case rel => exact ⟨by trivial, .inr (.inr ⟨by first | rfl | go_num, by first | rfl | go_num | simp⟩)⟩
      case measure => simp [intOf]
    · go_wp2_with fail
      refine Calls.mono (growU_any _ (l.length + m.length) (by omega)) ?_
      rintro e w1 ⟨v1, rfl, hown1, hbw1⟩
      obtain ⟨a1, c1, rfl⟩ := own_slice hown1
      have d0 := cell_below hbw1 hb0
      have d1 := cell_below hbw1 hb1
      go_wp2_with fail
      clear d0 d1
      go_loopw [6, 27] (fun ns i wr => Below w.heap.size w wr ∧ ((i = .int .i64 (0 : Nat) ∧ URow wr w.heap.size ns []) ∨ (i = .int .i64 (1 : Nat) ∧ URow wr w.heap.size ns l) ∨ (i = .int .i64 (2 : Nat) ∧ URow wr w.heap.size ns (l ++ m)))) (fun _ i _ => 2 - (intOf i).toNat)
      case atStart => exact ⟨hbw1, .inl ⟨rfl, hown1⟩⟩
      case round =>
        obtain ⟨hbw, hrel⟩ := hrel
        have hsz := hbw.size
        rcases hrel with ⟨rfl, hown⟩ | ⟨rfl, hown⟩ | ⟨rfl, hown⟩
        · have d0 := cell_below hbw hb0
          have d1 := cell_below hbw hb1
          obtain ⟨a2, c2, rfl⟩ := own_slice hown
          go_wp2_with (at_builtin; refine wp_append_ups (W := w) rfl (.tmp 31) (.tmp 32) rfl w.heap.size hsz _ [] rfl hown ao cap l rfl HA2.out (HA.out _ hbw) HO1.out ?c1 ?_)
          case c1 => simp; omega
          intro v2 w2 ho2 hg2
          have HB3 : Hid (Below w.heap.size w w2) := hbw.grown hg2 hsz (fun k hk => (hown.lt k hk).1)
          obtain ⟨a3, c3, rfl⟩ := own_slice ho2
          have H2 : Hid (URow w2 w.heap.size (.slice a3 l.length c3) l) := ho2
          go_wp2_with fail
          go_roundw
          case rel => exact ⟨HB3.out, .inr (.inl ⟨by first | rfl | go_num, H2.out⟩)⟩
          case measure => simp [intOf]
        · have d0 := cell_below hbw hb0
          have d1 := cell_below hbw hb1
          obtain ⟨a2, c2, rfl⟩ := own_slice hown
          go_wp2_with (at_builtin; refine wp_append_ups (W := w) rfl (.tmp 31) (.tmp 32) rfl w.heap.size hsz _ l rfl hown bo cbp m rfl HB2.out (HB.out _ hbw) HO2.out ?c1 ?_)
          case c1 => omega
          intro v2 w2 ho2 hg2
          have HB3 : Hid (Below w.heap.size w w2) := hbw.grown hg2 hsz (fun k hk => (hown.lt k hk).1)
          obtain ⟨a3, c3, rfl⟩ := own_slice ho2
          have H2 : Hid (URow w2 w.heap.size (.slice a3 (l ++ m).length c3) (l ++ m)) := ho2
          go_wp2_with fail
          go_roundw
          case rel => exact ⟨HB3.out, .inr (.inr ⟨by first | rfl | go_num, H2.out⟩)⟩
          case measure => simp [intOf]
        · have H2 : Hid (URow wr w.heap.size u6 (l ++ m)) := hown
          obtain ⟨a2, c2, rfl⟩ := own_slice hown
          clear hown
          go_wp2_with fail
          go_ret
          exact ⟨_, rfl, H2.out, hbw⟩
theorem cat_cell (w : World) (C : Array Value) (t : TypeId) (j : Nat) : (w.alloc (.cells C t)).cell? ⟨w.heap.size, j, none⟩ = C[j]? := World.cell?_alloc_mark w C t _ j
end Go.Proofs.YtmfaodapofamfaaGreat

