/- Own texts, one behind the other (part 3). -/
import Derived.Test.YtmfaodapofamfaaGreatBundleB
import Derived.Test.YtmfaodapofamfaaGreatRows
import Derived.Laws.AppendOwnNone
import Derived.Lib.AppendZeros
import Derived.RangeFuncNested
import Derived.RangeFuncBound
import Derived.RangeFuncCalls
import Derived.RangeFuncLeaves
import Derived.RangeFuncBox
import Derived.Sort.MapsRangeIn
import Derived.Shelf.Abstract
import Derived.Shelf.RegionOpen
import Derived.WalkKit
import Derived.OwnWalkIn
import Derived.TacticsInMore
import Derived.LoopNIn
import Derived.LoopIn
import Derived.Shelf.SlSortCmp.WholeK
import Derived.Ground.SlsfProg
import Derived.Test.YtmfaodapofamfaaGreatProg
import Derived.Orders
/- byIds: updates by their ids. -/
namespace Go.Proofs.YtmfaodapofamfaaGreat
open Go.RowKit Go.Maps

/-- Some map; if no two have one id: of these. -/
def MapOf (w : World) (B n : Nat) (q : List Uv) : Prop := ∃ D : DataW Value, w.ownsMap Tryz.prog 26 uvElem B n D ∧ (((ups q).map Wr.Up.id).Nodup → CmD q D)
theorem MapOf.at_ {w : World} {B : Nat} {q : List Uv} (h : MapOf w B q.length q) (hn : ((ups q).map Wr.Up.id).Nodup) : CmAt w B q := by
  obtain ⟨D, h1, h2⟩ := h
  exact ⟨D, h1, h2 hn⟩
theorem ups_snoc (c : List Uv) (y : Uv) : (ups (c ++ [y])).map Wr.Up.id = (ups c).map Wr.Up.id ++ [y.u.id] := by simp [ups]
theorem new_of_nodup {c : List Uv} {y : Uv} (h : ((ups (c ++ [y])).map Wr.Up.id).Nodup) : ((ups c).map Wr.Up.id).Nodup ∧ Dg.hasU (ups c) y.u.id = false := by
  rw [ups_snoc, List.nodup_append] at h
  refine ⟨h.1, ?_⟩
  cases hx : Dg.hasU (ups c) y.u.id with
  | false => rfl
  | true =>
    obtain ⟨v, hv, e⟩ := Dg.hasU_iff.mp hx
    exact absurd rfl (h.2.2 y.u.id (List.mem_map.mpr ⟨v, hv, e⟩) y.u.id (by simp))
theorem wpList_store_map (w : World) {ops : Array Oper} {rest : List Oper} {o : Oper} {a : Act} {Q : Exit → Act → World → Prop} (hg : o.guard = none) (m x v : Operand) (hop : o.op = Op.mapUpdate 64 m x v) (b n : Nat) (c : List Uv) (y : Uv) (w0 : World)
    (hm : a.eval m = .map (some b)) (hown : MapOf w b n c) (hl : n ≤ 1000000) (hx : a.eval x = idVal y.u.id) (hv : a.eval v = uvVal y) (hy : Wr.isId y.u.id = true) (hok : UvOk w0 y)
    (hK : ∀ w', MapOf w' b (n + 1) (c ++ [y]) → w.grownBy w' (some b) → wpList Tryz.prog ops Q rest (a.put o.dst undef) w') :
    wpList Tryz.prog ops Q (o :: rest) a w := by
  obtain ⟨D, hown, hD⟩ := hown
  refine wpList_mapUpdate_own w hg m x v 64 hop 26 30 idLaw Tryz.underlying64 uvElem b n D hm hown (by unfold maxLen; omega) _ _ _ hx hv (keyOf_id hy) _ _ (uvElem_ok hok) (fun w' h1 h2 => hK w' ⟨_, h1, fun hn => ?_⟩ h2)
  obtain ⟨n1, n2⟩ := new_of_nodup hn
  exact (hD n1).push (hown.tidy idLaw) y hy n2

set_option maxRecDepth 100000 in
set_option maxHeartbeats 1000000 in
theorem byIds_any (q : List Uv) (v : Value) (w : World) (hV : UpsV w v q) (hl : q.length ≤ 1000) (hok : ∀ x, x ∈ q → UvOk w x) (hid : ∀ x, x ∈ q → Wr.isId x.u.id = true) :
    Calls Tryz.prog 30 #[v] w fun e w' => e = .returned (.map (some w.heap.size)) ∧ MapOf w' w.heap.size q.length q ∧ Below w.heap.size w w' := by
  obtain ⟨ao, cap, rfl, _, hA⟩ := hV
  have HA : Hid (∀ z, Below w.heap.size w z → UpsAt z ao q) := fun z hz => hA.kc (Kc.below hz)
  have HK : Hid (∀ k, k < q.length → UvOk w (uvD q k) ∧ Wr.isId (uvD q k).u.id = true) := fun k hk => ⟨hok _ (uvD_mem q k hk), hid _ (uvD_mem q k hk)⟩
  clear hA hok hid
  have hmm := @run_makeMap Tryz.prog
  go_enter Tryz.func30, Tryz.ntmps30
  go_wp2_with fail
  go_loopw [9] (fun iv wr => ∃ k : Nat, k ≤ q.length ∧ iv = .int .i64 k ∧ Hid (MapOf wr w.heap.size k (q.take k)) ∧ Hid (Below w.heap.size w wr)) (fun iv _ => q.length - (intOf iv).toNat)
  case atStart => exact ⟨0, Nat.zero_le _, rfl, ⟨_, World.ownsMap_made _ _ _ _, fun _ => CmD.nil⟩, (Below.refl _ _).alloc (Nat.le_refl _) _⟩
  case round =>
    obtain ⟨k, hk, rfl, HM, HG⟩ := hrel
    by_cases hlt : k < q.length
    · obtain ⟨b, off, rfl, c0, c1, c2, c3, c4⟩ := ups_at (HA.out wr HG.out) k hlt
      obtain ⟨hx, hi⟩ := HK.out k hlt
      have HD : Hid (q.take (k + 1) = q.take k ++ [uvD q k]) := uvD_take q k hlt
      generalize uvD q k = x at *
      obtain ⟨a1, n1, d1, a2, n2, d2, a3, n3, d3, e1, e2, e3⟩ := hx.forms
      have HX : Hid (UvOk w x ∧ Wr.isId x.u.id = true) := ⟨hx, hi⟩
      clear hx hi
      obtain ⟨⟨⟨ua, un⟩, ps, says, ts⟩, vp, vs, vt⟩ := x
      dsimp only at *
      subst e1 e2 e3
      have hsz := HG.out.size
      have hm2 : MapOf (wr.alloc (.cells #[.int .i64 ua, .int .i64 un, .slice a1 n1 d1, .slice a2 n2 d2, .slice a3 n3 d3] 30)) w.heap.size k (q.take k) := by
        obtain ⟨D, h1, h2⟩ := HM.out
        exact ⟨D, h1.alloc _, h2⟩
      have HM2 : Hid (MapOf (wr.alloc (.cells #[.int .i64 ua, .int .i64 un, .slice a1 n1 d1, .slice a2 n2 d2, .slice a3 n3 d3] 30)) w.heap.size k (q.take k)) := hm2
      have HG2 : Hid (Below w.heap.size w (wr.alloc (.cells #[.int .i64 ua, .int .i64 un, .slice a1 n1 d1, .slice a2 n2 d2, .slice a3 n3 d3] 30))) := HG.out.alloc hsz _
      clear hm2 HM
      go_wp2_with (at_mapUpdate; refine wpList_store_map _ rfl _ _ _ rfl w.heap.size k (q.take k) ⟨⟨⟨ua, un⟩, ps, says, ts⟩, .slice a1 n1 d1, .slice a2 n2 d2, .slice a3 n3 d3⟩ w rfl HM2.out (by omega) rfl rfl HX.out.2 HX.out.1 ?_; intro w5 hm5 hg5)
      have HM5 : Hid (MapOf w5 w.heap.size (k + 1) (q.take (k + 1))) := by
        show MapOf _ _ _ _
        rw [HD.out]
        exact hm5
      have HG5 : Hid (Below w.heap.size w w5) := HG2.out.grown hg5 HG2.out.size (fun j e => by cases e; exact Nat.le_refl _)
      clear hm5 hg5 HD
      go_roundw
      case rel => exact ⟨k + 1, hlt, by go_num, HM5.out, HG5.out⟩
      case measure => simp [intOf]; omega
    · have hdd : decide (k < q.length) = false := decide_eq_false hlt
      obtain rfl : k = q.length := by omega
      have HM3 : Hid (MapOf wr w.heap.size q.length q) := by
        have := HM.out
        rw [List.take_length] at this
        exact this
      go_wp2_with fail
      go_ret
      exact ⟨rfl, HM3.out, HG.out⟩
end Go.Proofs.YtmfaodapofamfaaGreat

/- IndexFunc and ContainsFunc of updates; order; Rise. -/
namespace Go.Proofs.YtmfaodapofamfaaGreat
open Go.RowKit Go.Maps

set_option maxRecDepth 100000 in
set_option maxHeartbeats 1000000 in
theorem indexA_any (B : Nat) (P : Wr.Up → Bool) (q : List Uv) (v : Value) (w : World) (hV : UpsV w v q) (hl : q.length ≤ 1000) (hok : ∀ x, x ∈ q → UvOk w x) (hC : ∀ z x, Below w.heap.size w z → x ∈ q → Calls Tryz.prog 89 #[uvVal x, .pointer (some ⟨B, 0, none⟩)] z fun e w' => e = .returned (.bool (P x.u)) ∧ Below z.heap.size z w') :
    Calls Tryz.prog 108 #[v, .func (.func 89) #[] #[.pointer (some ⟨B, 0, none⟩)]] w fun e w' => ∃ r : Int, e = .returned (.int .i64 r) ∧ (decide (0 ≤ r) = (ups q).any P) ∧ Below w.heap.size w w' := by
  obtain ⟨ao, cap, rfl, _, hA⟩ := hV
  have HA : Hid (UpsAt w ao q) := hA
  have HF : Hid (∀ x, x ∈ q → UvOk w x) := hok
  have HC : Hid (∀ z x, Below w.heap.size w z → x ∈ q → Calls Tryz.prog 89 #[uvVal x, .pointer (some ⟨B, 0, none⟩)] z fun e w' => e = .returned (.bool (P x.u)) ∧ Below z.heap.size z w') := hC
  clear hok hC hA
  go_enter Tryz.func108, Tryz.ntmps108
  go_wp2_with fail
  go_loopw [8] (fun iv wr => ∃ k : Nat, k ≤ q.length ∧ iv = .int .i64 k ∧ Hid ((ups q).any P = ((ups (q.drop k)).any P)) ∧ Below w.heap.size w wr) (fun iv _ => q.length - (intOf iv).toNat)
  case atStart => exact ⟨0, Nat.zero_le _, rfl, rfl, Below.refl _ _⟩
  case round =>
    obtain ⟨k, hk, rfl, HR, hbw⟩ := hrel
    by_cases hlt : k < q.length
    · obtain ⟨b, off, rfl, c0, c1, c2, c3, c4⟩ := ups_at (HA.out.kc (Kc.below hbw)) k hlt
      have HD : Hid ((ups q).any P = (P (uvD q k).u || (ups (q.drop (k + 1))).any P)) := by
        show _ = _
        rw [HR.out, uvD_drop q k hlt]
        rfl
      have hm := uvD_mem q k hlt
      have HX : Hid (Calls Tryz.prog 89 #[uvVal (uvD q k), .pointer (some ⟨B, 0, none⟩)] wr fun e w' => e = .returned (.bool (P (uvD q k).u)) ∧ Below wr.heap.size wr w') := HC.out wr _ hbw hm
      obtain ⟨a1, n1, d1, a2, n2, d2, a3, n3, d3, e1, e2, e3⟩ := (HF.out _ hm).forms
      clear HR hm
      generalize uvD q k = x at *
      generalize P x.u = bx at *
      obtain ⟨⟨⟨ua, un⟩, ps, says, ts⟩, vp, vs, vt⟩ := x
      dsimp only at *
      subst e1 e2 e3
      cases bx
      · go_wp2_with (go_at_call 89; refine Calls.mono HX.out ?_; rintro e z1 ⟨rfl, hg1⟩)
        have hb1 := hbw.trans (hg1.mono hbw.size)
        go_roundw
        case rel => exact ⟨k + 1, hlt, by go_num, HD.out.trans (by rw [Bool.false_or]), hb1⟩
        case measure => simp [intOf]; omega
      · go_wp2_with (go_at_call 89; refine Calls.mono HX.out ?_; rintro e z1 ⟨rfl, hg1⟩)
        go_ret
        exact ⟨k, rfl, by rw [HD.out, decide_eq_true (by omega)]; rfl, hbw.trans (hg1.mono hbw.size)⟩
    · have hdd : decide (k < q.length) = false := decide_eq_false hlt
      have HE : Hid ((ups q).any P = false) := by
        show _ = _
        rw [HR.out, List.drop_of_length_le (by omega)]
        rfl
      go_wp2_with fail
      go_ret
      exact ⟨-1, rfl, by rw [HE.out]; rfl, hbw⟩
set_option maxRecDepth 100000 in
set_option maxHeartbeats 1000000 in
theorem containsA_any (B : Nat) (P : Wr.Up → Bool) (q : List Uv) (v : Value) (w : World) (hV : UpsV w v q) (hl : q.length ≤ 1000) (hok : ∀ x, x ∈ q → UvOk w x) (hC : ∀ z x, Below w.heap.size w z → x ∈ q → Calls Tryz.prog 89 #[uvVal x, .pointer (some ⟨B, 0, none⟩)] z fun e w' => e = .returned (.bool (P x.u)) ∧ Below z.heap.size z w') :
    Calls Tryz.prog 88 #[v, .func (.func 89) #[] #[.pointer (some ⟨B, 0, none⟩)]] w fun e w' => e = .returned (.bool ((ups q).any P)) ∧ Below w.heap.size w w' := by
  have HC : Hid _ := indexA_any B P q v w hV hl hok hC
  obtain ⟨ao, cap, rfl, _⟩ := id hV
  generalize (ups q).any P = bb at *
  clear hV hok hC
  go_enter Tryz.func88, Tryz.ntmps88
  go_wp2_with (go_at_call 108; refine Calls.mono HC.out ?_; rintro e z1 ⟨r, rfl, hr, hg1⟩)
  go_ret
  exact ⟨by rw [← hr]; rfl, hg1⟩
set_option maxRecDepth 100000 in
set_option maxHeartbeats 1000000 in
theorem indexB_any (B : Nat) (P : Wr.Up → Bool) (q : List Uv) (v : Value) (w : World) (hV : UpsV w v q) (hl : q.length ≤ 1000) (hok : ∀ x, x ∈ q → UvOk w x) (hC : ∀ z x, Below w.heap.size w z → x ∈ q → Calls Tryz.prog 90 #[uvVal x, .pointer (some ⟨B, 0, none⟩)] z fun e w' => e = .returned (.bool (P x.u)) ∧ Below z.heap.size z w') :
    Calls Tryz.prog 108 #[v, .func (.func 90) #[] #[.pointer (some ⟨B, 0, none⟩)]] w fun e w' => ∃ r : Int, e = .returned (.int .i64 r) ∧ (decide (0 ≤ r) = (ups q).any P) ∧ Below w.heap.size w w' := by
  obtain ⟨ao, cap, rfl, _, hA⟩ := hV
  have HA : Hid (UpsAt w ao q) := hA
  have HF : Hid (∀ x, x ∈ q → UvOk w x) := hok
  have HC : Hid (∀ z x, Below w.heap.size w z → x ∈ q → Calls Tryz.prog 90 #[uvVal x, .pointer (some ⟨B, 0, none⟩)] z fun e w' => e = .returned (.bool (P x.u)) ∧ Below z.heap.size z w') := hC
  clear hok hC hA
  go_enter Tryz.func108, Tryz.ntmps108
  go_wp2_with fail
  go_loopw [8] (fun iv wr => ∃ k : Nat, k ≤ q.length ∧ iv = .int .i64 k ∧ Hid ((ups q).any P = ((ups (q.drop k)).any P)) ∧ Below w.heap.size w wr) (fun iv _ => q.length - (intOf iv).toNat)
  case atStart => exact ⟨0, Nat.zero_le _, rfl, rfl, Below.refl _ _⟩
  case round =>
    obtain ⟨k, hk, rfl, HR, hbw⟩ := hrel
    by_cases hlt : k < q.length
    · obtain ⟨b, off, rfl, c0, c1, c2, c3, c4⟩ := ups_at (HA.out.kc (Kc.below hbw)) k hlt
      have HD : Hid ((ups q).any P = (P (uvD q k).u || (ups (q.drop (k + 1))).any P)) := by
        show _ = _
        rw [HR.out, uvD_drop q k hlt]
        rfl
      have hm := uvD_mem q k hlt
      have HX : Hid (Calls Tryz.prog 90 #[uvVal (uvD q k), .pointer (some ⟨B, 0, none⟩)] wr fun e w' => e = .returned (.bool (P (uvD q k).u)) ∧ Below wr.heap.size wr w') := HC.out wr _ hbw hm
      obtain ⟨a1, n1, d1, a2, n2, d2, a3, n3, d3, e1, e2, e3⟩ := (HF.out _ hm).forms
      clear HR hm
      generalize uvD q k = x at *
      generalize P x.u = bx at *
      obtain ⟨⟨⟨ua, un⟩, ps, says, ts⟩, vp, vs, vt⟩ := x
      dsimp only at *
      subst e1 e2 e3
      cases bx
      · go_wp2_with (go_at_call 90; refine Calls.mono HX.out ?_; rintro e z1 ⟨rfl, hg1⟩)
        have hb1 := hbw.trans (hg1.mono hbw.size)
        go_roundw
        case rel => exact ⟨k + 1, hlt, by go_num, HD.out.trans (by rw [Bool.false_or]), hb1⟩
        case measure => simp [intOf]; omega
      · go_wp2_with (go_at_call 90; refine Calls.mono HX.out ?_; rintro e z1 ⟨rfl, hg1⟩)
        go_ret
        exact ⟨k, rfl, by rw [HD.out, decide_eq_true (by omega)]; rfl, hbw.trans (hg1.mono hbw.size)⟩
    · have hdd : decide (k < q.length) = false := decide_eq_false hlt
      have HE : Hid ((ups q).any P = false) := by
        show _ = _
        rw [HR.out, List.drop_of_length_le (by omega)]
        rfl
      go_wp2_with fail
      go_ret
      exact ⟨-1, rfl, by rw [HE.out]; rfl, hbw⟩
set_option maxRecDepth 100000 in
set_option maxHeartbeats 1000000 in
theorem containsB_any (B : Nat) (P : Wr.Up → Bool) (q : List Uv) (v : Value) (w : World) (hV : UpsV w v q) (hl : q.length ≤ 1000) (hok : ∀ x, x ∈ q → UvOk w x) (hC : ∀ z x, Below w.heap.size w z → x ∈ q → Calls Tryz.prog 90 #[uvVal x, .pointer (some ⟨B, 0, none⟩)] z fun e w' => e = .returned (.bool (P x.u)) ∧ Below z.heap.size z w') :
    Calls Tryz.prog 88 #[v, .func (.func 90) #[] #[.pointer (some ⟨B, 0, none⟩)]] w fun e w' => e = .returned (.bool ((ups q).any P)) ∧ Below w.heap.size w w' := by
  have HC : Hid _ := indexB_any B P q v w hV hl hok hC
  obtain ⟨ao, cap, rfl, _⟩ := id hV
  generalize (ups q).any P = bb at *
  clear hV hok hC
  go_enter Tryz.func88, Tryz.ntmps88
  go_wp2_with (go_at_call 108; refine Calls.mono HC.out ?_; rintro e z1 ⟨r, rfl, hr, hg1⟩)
  go_ret
  exact ⟨by rw [← hr]; rfl, hg1⟩
set_option maxRecDepth 100000 in
set_option maxHeartbeats 1000000 in
theorem indexC_any (B : Nat) (P : Wr.Up → Bool) (q : List Uv) (v : Value) (w : World) (hV : UpsV w v q) (hl : q.length ≤ 1000) (hok : ∀ x, x ∈ q → UvOk w x) (hC : ∀ z x, Below w.heap.size w z → x ∈ q → Calls Tryz.prog 73 #[.map (some B), uvVal x] z fun e w' => e = .returned (.bool (P x.u)) ∧ Below z.heap.size z w') :
    Calls Tryz.prog 108 #[v, .func (.func 73) #[.map (some B)] #[]] w fun e w' => ∃ r : Int, e = .returned (.int .i64 r) ∧ (decide (0 ≤ r) = (ups q).any P) ∧ Below w.heap.size w w' := by
  obtain ⟨ao, cap, rfl, _, hA⟩ := hV
  have HA : Hid (UpsAt w ao q) := hA
  have HF : Hid (∀ x, x ∈ q → UvOk w x) := hok
  have HC : Hid (∀ z x, Below w.heap.size w z → x ∈ q → Calls Tryz.prog 73 #[.map (some B), uvVal x] z fun e w' => e = .returned (.bool (P x.u)) ∧ Below z.heap.size z w') := hC
  clear hok hC hA
  go_enter Tryz.func108, Tryz.ntmps108
  go_wp2_with fail
  go_loopw [8] (fun iv wr => ∃ k : Nat, k ≤ q.length ∧ iv = .int .i64 k ∧ Hid ((ups q).any P = ((ups (q.drop k)).any P)) ∧ Below w.heap.size w wr) (fun iv _ => q.length - (intOf iv).toNat)
  case atStart => exact ⟨0, Nat.zero_le _, rfl, rfl, Below.refl _ _⟩
  case round =>
    obtain ⟨k, hk, rfl, HR, hbw⟩ := hrel
    by_cases hlt : k < q.length
    · obtain ⟨b, off, rfl, c0, c1, c2, c3, c4⟩ := ups_at (HA.out.kc (Kc.below hbw)) k hlt
      have HD : Hid ((ups q).any P = (P (uvD q k).u || (ups (q.drop (k + 1))).any P)) := by
        show _ = _
        rw [HR.out, uvD_drop q k hlt]
        rfl
      have hm := uvD_mem q k hlt
      have HX : Hid (Calls Tryz.prog 73 #[.map (some B), uvVal (uvD q k)] wr fun e w' => e = .returned (.bool (P (uvD q k).u)) ∧ Below wr.heap.size wr w') := HC.out wr _ hbw hm
      obtain ⟨a1, n1, d1, a2, n2, d2, a3, n3, d3, e1, e2, e3⟩ := (HF.out _ hm).forms
      clear HR hm
      generalize uvD q k = x at *
      generalize P x.u = bx at *
      obtain ⟨⟨⟨ua, un⟩, ps, says, ts⟩, vp, vs, vt⟩ := x
      dsimp only at *
      subst e1 e2 e3
      cases bx
      · go_wp2_with (go_at_call 73; refine Calls.mono HX.out ?_; rintro e z1 ⟨rfl, hg1⟩)
        have hb1 := hbw.trans (hg1.mono hbw.size)
        go_roundw
        case rel => exact ⟨k + 1, hlt, by go_num, HD.out.trans (by rw [Bool.false_or]), hb1⟩
        case measure => simp [intOf]; omega
      · go_wp2_with (go_at_call 73; refine Calls.mono HX.out ?_; rintro e z1 ⟨rfl, hg1⟩)
        go_ret
        exact ⟨k, rfl, by rw [HD.out, decide_eq_true (by omega)]; rfl, hbw.trans (hg1.mono hbw.size)⟩
    · have hdd : decide (k < q.length) = false := decide_eq_false hlt
      have HE : Hid ((ups q).any P = false) := by
        show _ = _
        rw [HR.out, List.drop_of_length_le (by omega)]
        rfl
      go_wp2_with fail
      go_ret
      exact ⟨-1, rfl, by rw [HE.out]; rfl, hbw⟩
set_option maxRecDepth 100000 in
set_option maxHeartbeats 1000000 in
theorem containsC_any (B : Nat) (P : Wr.Up → Bool) (q : List Uv) (v : Value) (w : World) (hV : UpsV w v q) (hl : q.length ≤ 1000) (hok : ∀ x, x ∈ q → UvOk w x) (hC : ∀ z x, Below w.heap.size w z → x ∈ q → Calls Tryz.prog 73 #[.map (some B), uvVal x] z fun e w' => e = .returned (.bool (P x.u)) ∧ Below z.heap.size z w') :
    Calls Tryz.prog 88 #[v, .func (.func 73) #[.map (some B)] #[]] w fun e w' => e = .returned (.bool ((ups q).any P)) ∧ Below w.heap.size w w' := by
  have HC : Hid _ := indexC_any B P q v w hV hl hok hC
  obtain ⟨ao, cap, rfl, _⟩ := id hV
  generalize (ups q).any P = bb at *
  clear hV hok hC
  go_enter Tryz.func88, Tryz.ntmps88
  go_wp2_with (go_at_call 108; refine Calls.mono HC.out ?_; rintro e z1 ⟨r, rfl, hr, hg1⟩)
  go_ret
  exact ⟨by rw [← hr]; rfl, hg1⟩
end Go.Proofs.YtmfaodapofamfaaGreat

/- The order of updates; do they rise? -/
namespace Go.Proofs.YtmfaodapofamfaaGreat
open Go.RowKit Go.Maps

set_option maxRecDepth 100000 in
set_option maxHeartbeats 1000000 in
theorem order_any (x y : Uv) (w w0 : World) (hx : UvOk w0 x) (hy : UvOk w0 y) : Calls Tryz.prog 76 #[uvVal x, uvVal y] w fun e w' => e = .returned (.int .i64 (Dg.uOrd x.u y.u)) ∧ Gr w w' := by
  obtain ⟨a1, n1, d1, a2, n2, d2, a3, n3, d3, e1, e2, e3⟩ := hx.forms
  obtain ⟨b1, m1, f1, b2, m2, f2, b3, m3, f3, g1, g2, g3⟩ := hy.forms
  obtain ⟨⟨⟨ua, un⟩, ps, says, ts⟩, vp, vs, vt⟩ := x
  obtain ⟨⟨⟨xa, xn⟩, ps2, says2, ts2⟩, vp2, vs2, vt2⟩ := y
  dsimp only at *
  subst e1 e2 e3 g1 g2 g3
  clear hx hy
  have HO : Hid (∀ z, Calls Tryz.prog 66 #[idVal ⟨ua, un⟩, idVal ⟨xa, xn⟩] z fun e w' => e = .returned (.int .i64 (Wr.idOrd ⟨ua, un⟩ ⟨xa, xn⟩)) ∧ Gr z w') := fun z => uOrder_any ⟨ua, un⟩ ⟨xa, xn⟩ z
  have HU : Hid (Dg.uOrd ⟨⟨ua, un⟩, ps, says, ts⟩ ⟨⟨xa, xn⟩, ps2, says2, ts2⟩ = Wr.idOrd ⟨ua, un⟩ ⟨xa, xn⟩) := rfl
  generalize Dg.uOrd ⟨⟨ua, un⟩, ps, says, ts⟩ ⟨⟨xa, xn⟩, ps2, says2, ts2⟩ = od at *
  generalize Wr.idOrd ⟨ua, un⟩ ⟨xa, xn⟩ = oe at *
  obtain rfl : od = oe := HU.out
  have HG : Hid (Gr w ((w.alloc (.cells #[.int .i64 ua, .int .i64 un, .slice a1 n1 d1, .slice a2 n2 d2, .slice a3 n3 d3] 30)).alloc (.cells #[.int .i64 xa, .int .i64 xn, .slice b1 m1 f1, .slice b2 m2 f2, .slice b3 m3 f3] 30))) := ((Gr.refl w).alloc _).alloc _
  go_enter Tryz.func76, Tryz.ntmps76
  go_wp2_with (go_at_call 66; refine Calls.mono (HO.out _) ?_; rintro e z1 ⟨rfl, hg1⟩)
  go_ret
  exact ⟨rfl, HG.out.trans hg1⟩
theorem ups_getD (q : List Uv) (i : Nat) : (ups q).getD i uvZ.u = (uvD q i).u := by
  unfold ups uvD
  rw [List.getD_eq_getElem?_getD, List.getD_eq_getElem?_getD, List.getElem?_map]
  cases q[i]? <;> rfl
set_option maxRecDepth 100000 in
set_option maxHeartbeats 2000000 in
theorem RiseU_any (q : List Uv) (v : Value) (w : World) (hV : UpsV w v q) (hl : q.length ≤ 1000) (hok : ∀ x, x ∈ q → UvOk w x) : Calls Tryz.prog 87 #[v, .func (.func 76) #[] #[]] w fun e w' => e = .returned (.bool (Wr.rise Dg.uOrd (ups q))) ∧ Below w.heap.size w w' := by
  obtain ⟨ao, cap, rfl, _, hA⟩ := hV
  have HA : Hid (UpsAt w ao q) := hA
  have HF : Hid (∀ x, x ∈ q → UvOk w x) := hok
  clear hok hA
  go_enter Tryz.func87, Tryz.ntmps87
  go_wp2_with fail
  go_loopw [5] (fun iv wr => ∃ k : Nat, 1 ≤ k ∧ k ≤ q.length + 1 ∧ iv = .int .i64 k ∧ Hid (Wr.rise Dg.uOrd (ups q) = Wr.rise Dg.uOrd ((ups q).drop (k - 1))) ∧ Below w.heap.size w wr) (fun iv _ => q.length + 2 - (intOf iv).toNat)
  case atStart => exact ⟨1, Nat.le_refl _, by omega, rfl, rfl, Below.refl _ _⟩
  case round =>
    obtain ⟨k, hk1, hk, rfl, HR, hbw⟩ := hrel
    obtain ⟨j, hkj⟩ : ∃ j, k = j + 1 := ⟨k - 1, by omega⟩
    by_cases hlt : k < q.length
    · have hltj : j < q.length := by omega
      have hwr : IntKind.i64.wrap ((k : Int) - 1) = (j : Int) := by
        have e : ((k : Int) - 1) = (j : Int) := by omega
        rw [e]
        simp [IntKind.wrap, IntKind.bits, IntKind.signed]
        omega
      have HD : Hid (Wr.rise Dg.uOrd (ups q) = (decide (Dg.uOrd (uvD q j).u (uvD q k).u < 0) && Wr.rise Dg.uOrd ((ups q).drop j.succ))) := by
        show _ = _
        rw [HR.out, hkj, Nat.add_sub_cancel, ← ups_getD, ← ups_getD]
        exact Wr.rise_step Dg.uOrd uvZ.u (ups q) j (by show j + 1 < (q.map Uv.u).length; rw [List.length_map]; omega)
      have HKJ : Hid (k = j + 1) := hkj
      clear hkj
      obtain ⟨b, off, rfl, p0, p1, p2, p3, p4⟩ := ups_at (HA.out.kc (Kc.below hbw)) j hltj
      obtain ⟨b2, off2, hv2, r0, r1, r2, r3, r4⟩ := ups_at (HA.out.kc (Kc.below hbw)) k hlt
      injection hv2 with hv2
      injection hv2 with hb2 ho2 _
      subst hb2 ho2
      have hx := HF.out _ (uvD_mem q j hltj)
      have hy := HF.out _ (uvD_mem q k hlt)
      have HN : Hid (∀ z, Below wr.heap.size wr z → Calls Tryz.prog 76 #[uvVal (uvD q j), uvVal (uvD q k)] z fun e w' => e = .returned (.int .i64 (Dg.uOrd (uvD q j).u (uvD q k).u)) ∧ Below wr.heap.size wr w' ∧ UpIn w' b (off + j * 5) (uvD q j) ∧ UpIn w' b (off + k * 5) (uvD q k)) := by
        intro z hz
        refine (order_any (uvD q j) (uvD q k) z w hx hy).mono ?_
        rintro e w' ⟨h1, h2⟩
        have h3 := hz.trans (h2.below.mono hz.size)
        exact ⟨h1, h3, (Kc.below h3).up ⟨p0, p1, p2, p3, p4⟩, (Kc.below h3).up ⟨r0, r1, r2, r3, r4⟩⟩
      obtain ⟨a1, n1, d1, a2, n2, d2, a3, n3, d3, e1, e2, e3⟩ := hx.forms
      obtain ⟨b1, m1, f1, b2, m2, f2, b3, m3, f3, g1, g2, g3⟩ := hy.forms
      clear HR hx hy
      generalize hod : Dg.uOrd (uvD q j).u (uvD q k).u = od at *
      clear hod
      generalize uvD q j = x at *
      generalize uvD q k = y at *
      obtain ⟨⟨⟨ua, un⟩, ps, says, ts⟩, vp, vs, vt⟩ := x
      obtain ⟨⟨⟨xa, xn⟩, ps2, says2, ts2⟩, vp2, vs2, vt2⟩ := y
      unfold UpIn at HN
      dsimp only at *
      subst e1 e2 e3 g1 g2 g3
      have HGA : ∀ b o, Below wr.heap.size wr b → Below wr.heap.size wr (b.alloc o) := fun _ o h => h.alloc h.size o
      have HGD : ∀ b, Below wr.heap.size wr b → Below wr.heap.size wr b.drew := fun _ h => ⟨h.os, h.tape, h.output, h.size, h.block⟩
      have HGR : Below wr.heap.size wr wr := Below.refl _ _
      by_cases ho : 0 ≤ od
      · have hod : decide (0 ≤ od) = true := decide_eq_true ho
        have HE : Hid (Wr.rise Dg.uOrd (ups q) = false) := by
          show _ = _
          rw [HD.out, decide_eq_false (by omega)]
          rfl
        clear HD
        go_upto_region 4 with fail
        go_region_held3 (fun yy => yy.cell? ⟨b, off + j * 5, none⟩ = some (.int .i64 ua) ∧ yy.cell? ⟨b, off + j * 5 + 1, none⟩ = some (.int .i64 un) ∧ yy.cell? ⟨b, off + j * 5 + 2, none⟩ = some (.slice a1 n1 d1) ∧ yy.cell? ⟨b, off + j * 5 + 3, none⟩ = some (.slice a2 n2 d2) ∧ yy.cell? ⟨b, off + j * 5 + 4, none⟩ = some (.slice a3 n3 d3) ∧ yy.cell? ⟨b, off + k * 5, none⟩ = some (.int .i64 xa) ∧ yy.cell? ⟨b, off + k * 5 + 1, none⟩ = some (.int .i64 xn) ∧ yy.cell? ⟨b, off + k * 5 + 2, none⟩ = some (.slice b1 m1 f1) ∧ yy.cell? ⟨b, off + k * 5 + 3, none⟩ = some (.slice b2 m2 f2) ∧ yy.cell? ⟨b, off + k * 5 + 4, none⟩ = some (.slice b3 m3 f3) ∧ Below wr.heap.size wr yy) (go_keep) (
          (go_at_call 76; refine Calls.mono (HN.out _ ?_) ?_; (simp [*]); rintro e w2 ⟨rfl, hb2, ⟨z0, z1, z2, z3, z4⟩, s0, s1, s2, s3, s4⟩))
        clear HGA HGD HGR HN z0 z1 z2 z3 z4 s0 s1 s2 s3 s4 p0 p1 p2 p3 p4 r0 r1 r2 r3 r4
        have hb3 := hbw.trans (hb2.mono hbw.size)
        clear hb2 hbw
        go_wp2_with fail
        go_ret
        exact ⟨by rw [HE.out]; rfl, hb3⟩
      · have hod : decide (0 ≤ od) = false := decide_eq_false ho
        have HE : Hid (Wr.rise Dg.uOrd (ups q) = Wr.rise Dg.uOrd ((ups q).drop k)) := by
          show _ = _
          rw [HD.out, decide_eq_true (by omega), Bool.true_and, HKJ.out]
        clear HD
        go_upto_region 4 with fail
        go_region_held3 (fun yy => yy.cell? ⟨b, off + j * 5, none⟩ = some (.int .i64 ua) ∧ yy.cell? ⟨b, off + j * 5 + 1, none⟩ = some (.int .i64 un) ∧ yy.cell? ⟨b, off + j * 5 + 2, none⟩ = some (.slice a1 n1 d1) ∧ yy.cell? ⟨b, off + j * 5 + 3, none⟩ = some (.slice a2 n2 d2) ∧ yy.cell? ⟨b, off + j * 5 + 4, none⟩ = some (.slice a3 n3 d3) ∧ yy.cell? ⟨b, off + k * 5, none⟩ = some (.int .i64 xa) ∧ yy.cell? ⟨b, off + k * 5 + 1, none⟩ = some (.int .i64 xn) ∧ yy.cell? ⟨b, off + k * 5 + 2, none⟩ = some (.slice b1 m1 f1) ∧ yy.cell? ⟨b, off + k * 5 + 3, none⟩ = some (.slice b2 m2 f2) ∧ yy.cell? ⟨b, off + k * 5 + 4, none⟩ = some (.slice b3 m3 f3) ∧ Below wr.heap.size wr yy) (go_keep) (
          (go_at_call 76; refine Calls.mono (HN.out _ ?_) ?_; (simp [*]); rintro e w2 ⟨rfl, hb2, ⟨z0, z1, z2, z3, z4⟩, s0, s1, s2, s3, s4⟩))
        clear HGA HGD HGR HN z0 z1 z2 z3 z4 s0 s1 s2 s3 s4 p0 p1 p2 p3 p4 r0 r1 r2 r3 r4
        have hb3 := hbw.trans (hb2.mono hbw.size)
        clear hb2 hbw
        go_wp2_with fail
        go_roundw
        case rel => exact ⟨k + 1, by omega, by omega, by go_num, HE.out, hb3⟩
        case measure => simp [intOf]; omega
    · have hltI : decide (k < q.length) = false := decide_eq_false hlt
      have HE : Hid (Wr.rise Dg.uOrd (ups q) = true) := HR.out.trans (Wr.rise_end Dg.uOrd (ups q) (k - 1) (by show ¬ k - 1 + 1 < (q.map Uv.u).length; rw [List.length_map]; omega))
      go_wp2_with fail
      go_ret
      exact ⟨by rw [HE.out]; rfl, hbw⟩
end Go.Proofs.YtmfaodapofamfaaGreat

/- settle: who is come to, and who is left. -/
namespace Go.Proofs.YtmfaodapofamfaaGreat
open Go.RowKit Go.Maps

def lenOf : Value → Nat
  | .slice _ n _ => n
  | _ => 0
theorem ups_length (q : List Uv) : (ups q).length = q.length := by simp [ups]
theorem ups_append (q r : List Uv) : ups (q ++ r) = ups q ++ ups r := by simp [ups]
/-- What one round has done so far. -/
structure PassI (q0 c q : List Uv) (k : Nat) (c' l' : List Uv) : Prop where
  pass : Dg.pass Dg.snoc (ups c) (ups q) = ((Dg.pass Dg.snoc (ups c') (ups (q.drop k))).1, ups l' ++ (Dg.pass Dg.snoc (ups c') (ups (q.drop k))).2)
  perm : (c' ++ l' ++ q.drop k).Perm (c ++ q)
theorem PassI.start (q0 c q : List Uv) : PassI q0 c q 0 c [] := ⟨rfl, by simp⟩
theorem PassI.yes {q0 c q c' l' : List Uv} {k : Nat} (h : PassI q0 c q k c' l') (hk : k < q.length) (hc : Dg.carry (ups c') (uvD q k).u = true) : PassI q0 c q (k + 1) (c' ++ [uvD q k]) l' := by
  refine ⟨?_, ?_⟩
  · rw [h.pass, uvD_drop q k hk]
    show _ = ((Dg.pass Dg.snoc (ups (c' ++ [uvD q k])) (ups (q.drop (k + 1)))).1, _)
    have e : ups (uvD q k :: q.drop (k + 1)) = (uvD q k).u :: ups (q.drop (k + 1)) := rfl
    rw [e, Dg.pass_yes hc, ups_append]
    rfl
  · refine List.Perm.trans ?_ h.perm
    rw [uvD_drop q k hk]
    generalize uvD q k = x
    generalize q.drop (k + 1) = r
    rw [List.append_assoc, List.append_assoc, List.append_assoc]
    exact List.Perm.append_left c' ((List.perm_middle (a := x) (l₁ := l') (l₂ := r)).symm)
theorem PassI.no {q0 c q c' l' : List Uv} {k : Nat} (h : PassI q0 c q k c' l') (hk : k < q.length) (hc : Dg.carry (ups c') (uvD q k).u = false) : PassI q0 c q (k + 1) c' (l' ++ [uvD q k]) := by
  refine ⟨?_, ?_⟩
  · rw [h.pass, uvD_drop q k hk]
    have e : ups (uvD q k :: q.drop (k + 1)) = (uvD q k).u :: ups (q.drop (k + 1)) := rfl
    rw [e, Dg.pass_no hc, ups_append, List.append_assoc]
    rfl
  · refine List.Perm.trans ?_ h.perm
    rw [uvD_drop q k hk]
    simp only [List.append_assoc, List.cons_append, List.nil_append]
    exact List.Perm.refl _
theorem PassI.fin {q0 c q c' l' : List Uv} {k : Nat} (h : PassI q0 c q k c' l') (hk : ¬ k < q.length) : Dg.pass Dg.snoc (ups c) (ups q) = (ups c', ups l') ∧ (c' ++ l').Perm (c ++ q) := by
  have e : q.drop k = [] := List.drop_of_length_le (by omega)
  have h1 := h.pass
  have h2 := h.perm
  rw [e] at h1 h2
  rw [List.append_nil] at h2
  refine ⟨h1.trans ?_, h2⟩
  show (ups c', ups l' ++ []) = _
  rw [List.append_nil]
theorem nodup_perm {a b : List Uv} (h : a.Perm b) (hb : ((ups b).map Wr.Up.id).Nodup) : ((ups a).map Wr.Up.id).Nodup := (((h.map Uv.u).map Wr.Up.id).nodup_iff).mpr hb

/-- What stands between two rounds. -/
structure SetI (q0 : List Uv) (w : World) (c q : List Uv) (v : Value) (wr : World) : Prop where
  set : Dg.settle Dg.snoc [] (ups q0) = Dg.settle Dg.snoc (ups c) (ups q)
  perm : (c ++ q).Perm q0
  map : CmAt wr w.heap.size c
  row : UpsV wr v q
  kc : Kc w wr
  bel : Below w.heap.size w wr
  own : q = q0 ∨ URow wr w.heap.size v q
set_option maxRecDepth 100000 in
set_option maxHeartbeats 2000000 in
theorem settle_any (q0 : List Uv) (v0 : Value) (w : World) (hV : UpsV w v0 q0) (hl : q0.length ≤ 1000) (hok : ∀ x, x ∈ q0 → UvOk w x) (hid : ∀ x, x ∈ q0 → IdsOk x.u) (hnd : ((ups q0).map Wr.Up.id).Nodup) :
    Calls Tryz.prog 32 #[v0] w fun e w' => ∃ (c l : List Uv) (v : Value), e = .returned (.tuple #[.map (some w.heap.size), v]) ∧ Dg.settle Dg.snoc [] (ups q0) = (ups c, ups l) ∧ (c ++ l).Perm q0 ∧ CmAt w' w.heap.size c ∧ URow w' w.heap.size v l ∧ Below w.heap.size w w' := by
  obtain ⟨i0, hi, hz0, hz1, hz2⟩ := info_parts up_info
  have HOK : Hid (∀ x, x ∈ q0 → UvOk w x ∧ IdsOk x.u) := fun x hx => ⟨hok x hx, hid x hx⟩
  have HND : Hid (((ups q0).map Wr.Up.id).Nodup) := hnd
  have HV : Hid (UpsV w v0 q0) := hV
  obtain ⟨ao, cap, rfl, _⟩ := hV
  clear hok hid hnd
  have hmm := @run_makeMap Tryz.prog
  go_enter Tryz.func32, Tryz.ntmps32
  go_wp2_with fail
  have HS : Hid (SetI q0 w [] q0 (.slice ao q0.length cap) (w.alloc (.map #[] 0))) := ⟨rfl, .refl _, cmAt_made w, HV.out.kc (Kc.below ((Below.refl _ _).alloc (Nat.le_refl _) _)), Kc.below ((Below.refl _ _).alloc (Nat.le_refl _) _), (Below.refl _ _).alloc (Nat.le_refl _) _, .inl rfl⟩
  clear HV
  generalize w.alloc (.map #[] 0) = w1 at *
  go_loopw [0, 2, 3] (fun lv mv fv wr => ∃ (c q : List Uv) (aq : Option Addr) (cq : Nat), mv = .map (some w.heap.size) ∧ lv = .slice aq q.length cq ∧ (∃ af nf cf, fv = .slice af nf cf) ∧ Hid (SetI q0 w c q lv wr)) (fun lv _ _ _ => lenOf lv)
  case atStart => exact ⟨[], q0, _, _, rfl, rfl, ⟨_, _, _, rfl⟩, HS.out⟩
  case round =>
    obtain ⟨c, q, aq, cq, rfl, rfl, ⟨af, nf, cf, rfl⟩, HI⟩ := hrel
    clear HS
    generalize wr = wO at *
    have hql : q.length ≤ 1000 ∧ c.length ≤ 1000 := by
      have := HI.out.perm.length_eq
      rw [List.length_append] at this
      omega
    go_wp2_with fail
    go_loopw [3, 9] (fun fv iv wr => ∃ (k : Nat) (c' l' : List Uv), k ≤ q.length ∧ iv = .int .i64 k ∧ Hid (PassI q0 c q k c' l') ∧ CmAt wr w.heap.size c' ∧ URow wr wO.heap.size fv l' ∧ Hid (wO.grownBy wr (some w.heap.size))) (fun _ iv _ => q.length - (intOf iv).toNat)
    case atStart => exact ⟨0, c, [], Nat.zero_le _, rfl, PassI.start _ _ _, HI.out.map, World.ownsRow_nil _ _ _ _, grown_refl _ _⟩
    case round =>
      obtain ⟨k, c', l', hk, rfl, HP, hcm, hrow, HG⟩ := hrel
      obtain ⟨af, cf, rfl⟩ := own_slice hrow
      have hwz : wO.heap.size ≤ wr.heap.size := HG.out.size
      have hww : w.heap.size < wO.heap.size := HI.out.map.lt
      have hll : l'.length ≤ 1000 ∧ c'.length ≤ 1000 := by
        have := HP.out.perm.length_eq
        simp only [List.length_append] at this
        have h2 := HI.out.perm.length_eq
        rw [List.length_append] at h2
        omega
      by_cases hlt : k < q.length
      · have g1 : decide (k < q.length) = true := decide_eq_true hlt
        have HKC : Hid (Kc wO wr) := Kc.map HG.out HI.out.map
        obtain ⟨aq', cq', eq', _, hA⟩ := HI.out.row
        cases eq'
        obtain ⟨b, off, rfl, c0, c1, c2, c3, c4⟩ := ups_at (hA.kc HKC.out) k hlt
        have hmem : uvD q k ∈ q0 := HI.out.perm.mem_iff.mp (List.mem_append_right _ (uvD_mem q k hlt))
        have hx := (HOK.out _ hmem).1.kc (HI.out.kc.trans HKC.out)
        have hxi := (HOK.out _ hmem).2
        have HY : Hid (Dg.carry (ups c') (uvD q k).u = true → PassI q0 c q (k + 1) (c' ++ [uvD q k]) l') := fun h => HP.out.yes hlt h
        have HN : Hid (Dg.carry (ups c') (uvD q k).u = false → PassI q0 c q (k + 1) c' (l' ++ [uvD q k])) := fun h => HP.out.no hlt h
        have HNH : Hid (Dg.hasU (ups c') (uvD q k).u.id = false) := by
          have h3 : ((ups (c' ++ l' ++ q.drop k)).map Wr.Up.id).Nodup := nodup_perm (HP.out.perm.trans HI.out.perm) HND.out
          rw [uvD_drop q k hlt] at h3
          have h4 : ((ups (c' ++ [uvD q k])).map Wr.Up.id).Nodup := by
            refine h3.sublist ?_
            refine List.Sublist.map _ (List.Sublist.map _ ?_)
            rw [List.append_assoc]
            refine List.Sublist.append_left ?_ c'
            exact (List.singleton_sublist.mpr (by simp))
          exact (new_of_nodup h4).2
        clear HP hA
        generalize uvD q k = x at *
        obtain ⟨a1, n1, d1, a2, n2, d2, a3, n3, d3, e1, e2, e3⟩ := hx.forms
        have HX : Hid (UvOk wr x) := hx
        have HXI : Hid (IdsOk x.u) := hxi
        clear hx hxi hmem
        obtain ⟨⟨⟨ua, un⟩, ps, says, ts⟩, vp, vs, vt⟩ := x
        dsimp only at *
        subst e1 e2 e3
        have HB1 : Hid (Below wr.heap.size wr (wr.alloc (.cells #[.int .i64 ua, .int .i64 un, .slice a1 n1 d1, .slice a2 n2 d2, .slice a3 n3 d3] 30))) := (Below.refl _ _).alloc (Nat.le_refl _) _
        have HH1 : Hid ((wr.alloc (.cells #[.int .i64 ua, .int .i64 un, .slice a1 n1 d1, .slice a2 n2 d2, .slice a3 n3 d3] 30)).heap[wr.heap.size]? = _) := rl_new wr (.cells #[.int .i64 ua, .int .i64 un, .slice a1 n1 d1, .slice a2 n2 d2, .slice a3 n3 d3] 30)
        have HC : Hid (Calls Tryz.prog 73 #[.map (some w.heap.size), uvVal ⟨⟨⟨ua, un⟩, ps, says, ts⟩, .slice a1 n1 d1, .slice a2 n2 d2, .slice a3 n3 d3⟩] (wr.alloc (.cells #[.int .i64 ua, .int .i64 un, .slice a1 n1 d1, .slice a2 n2 d2, .slice a3 n3 d3] 30)) fun e w' => e = .returned (.bool (Dg.carry (ups c') ⟨⟨ua, un⟩, ps, says, ts⟩)) ∧ Below (wr.alloc (.cells #[.int .i64 ua, .int .i64 un, .slice a1 n1 d1, .slice a2 n2 d2, .slice a3 n3 d3] 30)).heap.size (wr.alloc (.cells #[.int .i64 ua, .int .i64 un, .slice a1 n1 d1, .slice a2 n2 d2, .slice a3 n3 d3] 30)) w') :=
          carry_any w.heap.size c' ⟨⟨⟨ua, un⟩, ps, says, ts⟩, .slice a1 n1 d1, .slice a2 n2 d2, .slice a3 n3 d3⟩ _ (hcm.below HB1.out) (HX.out.below HB1.out) (by have h1 := HXI.out.lp; have h2 := HXI.out.lt; dsimp only at *; omega) HXI.out.ps HXI.out.ts
        go_upto_region 6 with fail
        generalize wr.alloc (.cells #[.int .i64 ua, .int .i64 un, .slice a1 n1 d1, .slice a2 n2 d2, .slice a3 n3 d3] 30) = w2 at *
        have HD : Hid (∀ z, Below w2.heap.size w2 z → z.heap[wr.heap.size]? = some (.cells #[.int .i64 ua, .int .i64 un, .slice a1 n1 d1, .slice a2 n2 d2, .slice a3 n3 d3] 30)) := fun z hz => (hz.block _ (Array.getElem?_eq_some_iff.1 HH1.out).1).trans HH1.out
        have q0' : w2.cell? ⟨wr.heap.size, 0, none⟩ = some (.int .i64 ua) := by rw [Lib.cell_of_heap HH1.out]; rfl
        have q1' : w2.cell? ⟨wr.heap.size, 1, none⟩ = some (.int .i64 un) := by rw [Lib.cell_of_heap HH1.out]; rfl
        have q2' : w2.cell? ⟨wr.heap.size, 2, none⟩ = some (.slice a1 n1 d1) := by rw [Lib.cell_of_heap HH1.out]; rfl
        have q3' : w2.cell? ⟨wr.heap.size, 3, none⟩ = some (.slice a2 n2 d2) := by rw [Lib.cell_of_heap HH1.out]; rfl
        have q4' : w2.cell? ⟨wr.heap.size, 4, none⟩ = some (.slice a3 n3 d3) := by rw [Lib.cell_of_heap HH1.out]; rfl
        go_wp2_with fail
        refine Calls.mono HC.out ?_
        rintro e w3 ⟨rfl, hb3⟩
        clear HC q0' q1' q2' q3' q4' c0 c1 c2 c3 c4 HH1
        have hh3 := HD.out w3 hb3
        have q0' : w3.cell? ⟨wr.heap.size, 0, none⟩ = some (.int .i64 ua) := by rw [Lib.cell_of_heap hh3]; rfl
        have q1' : w3.cell? ⟨wr.heap.size, 1, none⟩ = some (.int .i64 un) := by rw [Lib.cell_of_heap hh3]; rfl
        have q2' : w3.cell? ⟨wr.heap.size, 2, none⟩ = some (.slice a1 n1 d1) := by rw [Lib.cell_of_heap hh3]; rfl
        have q3' : w3.cell? ⟨wr.heap.size, 3, none⟩ = some (.slice a2 n2 d2) := by rw [Lib.cell_of_heap hh3]; rfl
        have q4' : w3.cell? ⟨wr.heap.size, 4, none⟩ = some (.slice a3 n3 d3) := by rw [Lib.cell_of_heap hh3]; rfl
        have hb13 := HB1.out.trans (hb3.mono HB1.out.size)
        have hcm3 := hcm.below hb13
        have hrow3 := ownsRow_below hrow hb13
        have HX3 : Hid (UvOk w3 ⟨⟨⟨ua, un⟩, ps, says, ts⟩, .slice a1 n1 d1, .slice a2 n2 d2, .slice a3 n3 d3⟩) := HX.out.below hb13
        have HG3 : Hid (wO.grownBy w3 (some w.heap.size)) := grown_below HG.out hb13
        have hsz3 : wO.heap.size ≤ w3.heap.size := HG3.out.size
        clear hcm hrow HB1 HD hb3 hh3 hb13 HG HX HKC
        cases hca : Dg.carry (ups c') ⟨⟨ua, un⟩, ps, says, ts⟩
        · -- left
          have HP5 : Hid _ := HN.out hca
          clear HY HN hca
          go_wp2_with (at_builtin; refine wpList_append_own _ rfl _ _ 22 rfl wO.heap.size 30 i0 _ 5 88 Tryz.underlying22 hi hz0 hz1 hz2 rfl (by decide) _ _ _ rfl (hrow3.alloc _) ⟨w3.heap.size, 0, none⟩ 1 1 ([(⟨⟨⟨ua, un⟩, ps, says, ts⟩, .slice a1 n1 d1, .slice a2 n2 d2, .slice a3 n3 d3⟩ : Uv)].map uvCells).flatten rfl rfl ?c1 ?c2 ?c3 ?c4 ?c5 ?_)
          case c2 => intro u hu; simp at hu; rcases hu with rfl | rfl | rfl | rfl | rfl <;> rfl
          case c3 => unfold maxLen; omega
          case c4 => omega
          case c5 => simp; omega
          · exact news5 w3 _ _ _ _ _ 30
          intro vs2 w4 hown4 hgrow4 _
          obtain ⟨ao9, cap9, rfl⟩ := own_slice hown4
          have HO4 : Hid (URow w4 wO.heap.size (.slice ao9 (l'.length + 1) cap9) (l' ++ [(⟨⟨⟨ua, un⟩, ps, says, ts⟩, .slice a1 n1 d1, .slice a2 n2 d2, .slice a3 n3 d3⟩ : Uv)])) := by
            show World.ownsRow _ _ _ _ _ _ _
            rw [List.length_append, List.map_append, List.flatten_append]
            exact hown4
          have HG4 : Hid (wO.grownBy w4 (some w.heap.size)) := grown_own (grown_trans HG3.out (grown_alloc w3 _ _)) hgrow4 (hrow3.alloc _)
          have HC4 : Hid (CmAt w4 w.heap.size c') := by
            show CmAt _ _ _
            obtain ⟨D, g1, g2⟩ := hcm3
            exact ⟨D, (g1.alloc _).kept hgrow4 (fun e => by have := (hrow3.lt _ e.symm).1; omega), g2⟩
          clear hown4 hgrow4 hrow3 hcm3 HG3 HX3 q0' q1' q2' q3' q4'
          go_wp2_with fail
          go_roundw
          case rel => exact ⟨k + 1, _, _, hlt, by go_num, HP5.out, HC4.out, HO4.out, HG4.out⟩
          case measure => simp [intOf]; omega
        · have HP5 : Hid _ := HY.out hca
          clear HY HN hca
          go_wp2_with (at_mapUpdate; refine wpList_store_ids _ rfl _ _ _ rfl w.heap.size c' ⟨⟨⟨ua, un⟩, ps, says, ts⟩, .slice a1 n1 d1, .slice a2 n2 d2, .slice a3 n3 d3⟩ w3 rfl hcm3 (by omega) rfl rfl HXI.out.id HX3.out HNH.out ?_; intro w4 hm4 hg4)
          have HO4 : Hid (URow w4 wO.heap.size (.slice af l'.length cf) l') := hrow3.kept hg4 (.inr (fun e => by have := (hrow3.lt _ e).1; omega))
          have HG4 : Hid (wO.grownBy w4 (some w.heap.size)) := grown_trans HG3.out hg4
          have HM4 : Hid (CmAt w4 w.heap.size (c' ++ [(⟨⟨⟨ua, un⟩, ps, says, ts⟩, .slice a1 n1 d1, .slice a2 n2 d2, .slice a3 n3 d3⟩ : Uv)])) := hm4
          clear hm4 hg4 hrow3 hcm3 HG3 HX3 q0' q1' q2' q3' q4'
          go_roundw
          case rel => exact ⟨k + 1, _, _, hlt, by go_num, HP5.out, HM4.out, HO4.out, HG4.out⟩
          case measure => simp [intOf]; omega
      · have g1 : decide (k < q.length) = false := decide_eq_false hlt
        obtain ⟨hp1, hp2⟩ := HP.out.fin hlt
        have HP1 : Hid (Dg.pass Dg.snoc (ups c) (ups q) = (ups c', ups l')) := hp1
        have HP2 : Hid ((c' ++ l').Perm q0) := hp2.trans HI.out.perm
        have HBW : Hid (Below w.heap.size w wr) := HI.out.bel.grown HG.out HI.out.bel.size (fun j e => by cases e; exact Nat.le_refl _)
        have HKC : Hid (Kc w wr) := HI.out.kc.trans (Kc.map HG.out HI.out.map)
        have HRW : Hid (URow wr w.heap.size (.slice af l'.length cf) l') := rl_own_le hrow (by omega)
        clear hp1 hp2 HP
        by_cases he : l'.length = q.length
        · have g2 : ((l'.length : Int) == (q.length : Int)) = true := by rw [he]; simp
          have HR : Hid (Dg.settle Dg.snoc [] (ups q0) = (ups c', ups l')) := by
            show _ = _
            rw [HI.out.set, Dg.settle_end (by rw [HP1.out]; show (ups l').length = _; rw [ups_length, ups_length, he]), HP1.out]
          clear he
          go_wp2_with fail
          go_ret2
          exact ⟨c', l', _, rfl, HR.out, HP2.out, hcm, HRW.out, HBW.out⟩
        · have g2 : ((l'.length : Int) == (q.length : Int)) = false := by
            have : ¬ (l'.length : Int) = (q.length : Int) := by omega
            simpa using this
          have hlq : l'.length < q.length := by
            have h1 := Dg.pass_len Dg.snoc (ups q) (ups c)
            rw [HP1.out] at h1
            have h2 : (ups l').length ≤ (ups q).length := h1
            rw [ups_length, ups_length] at h2
            omega
          have HR : Hid (SetI q0 w c' l' (.slice af l'.length cf) wr) := by
            refine ⟨?_, HP2.out, hcm, own_ups hrow, HKC.out, HBW.out, .inr HRW.out⟩
            rw [HI.out.set, Dg.settle_on (by rw [HP1.out]; show ¬ (ups l').length = _; rw [ups_length, ups_length]; exact he), HP1.out]
          clear he
          go_wp2_with fail
          go_roundw
          case rel => exact ⟨c', l', af, cf, rfl, rfl, ⟨_, _, _, rfl⟩, HR.out⟩
          case measure => simp [lenOf]; omega
end Go.Proofs.YtmfaodapofamfaaGreat

/- Updates put behind a row of one's own; the library's Grow and Concat of updates. -/
namespace Go.Proofs.YtmfaodapofamfaaGreat
open Go.RowKit

theorem ups_flat (q : List Uv) : (q.map uvCells).flatten.length = q.length * 5 := by
  induction q with
  | nil => rfl
  | cons a r ih =>
    rw [List.map_cons, List.flatten_cons, List.length_append, ih]
    show 5 + r.length * 5 = (r.length + 1) * 5
    omega
theorem ups_cells {w : World} {b off : Nat} {q : List Uv} (h : ∀ i, i < q.length → UpIn w b (off + i * 5) (uvD q i)) : ∀ j u, (q.map uvCells).flatten[j]? = some u → w.cell? ⟨b, off + j, none⟩ = some u := by
  intro j u hj
  have hjl : j < q.length * 5 := by
    rcases Nat.lt_or_ge j (q.length * 5) with h2 | h2
    · exact h2
    · rw [List.getElem?_eq_none (by rw [ups_flat]; exact h2)] at hj; cases hj
  have hi : j / 5 < q.length := by omega
  have e : j = j / 5 * 5 + j % 5 := by omega
  have hm : j % 5 < 5 := by omega
  rw [e, flat5_get q _ _ hi hm] at hj
  obtain ⟨h0, h1, h2, h3, h4⟩ := h _ hi
  have eo : off + j = off + j / 5 * 5 + j % 5 := by omega
  rw [eo]
  generalize j % 5 = m at *
  match m, hm with
  | 0, _ => rw [← hj]; exact h0
  | 1, _ => rw [← hj]; exact h1
  | 2, _ => rw [← hj]; exact h2
  | 3, _ => rw [← hj]; exact h3
  | 4, _ => rw [← hj]; exact h4
theorem uv_one {w : World} {q : List Uv} (h : ∀ x, x ∈ q → UvOk w x) : ∀ u, u ∈ (q.map uvCells).flatten → u.oneCell' = true := by
  intro u hu
  obtain ⟨c, hc, hu⟩ := List.mem_flatten.mp hu
  obtain ⟨p, hp, rfl⟩ := List.mem_map.mp hc
  obtain ⟨a1, n1, d1, a2, n2, d2, a3, n3, d3, e1, e2, e3⟩ := (h p hp).forms
  simp only [uvCells, e1, e2, e3, List.mem_cons, List.not_mem_nil, or_false] at hu
  rcases hu with rfl | rfl | rfl | rfl | rfl <;> rfl
/-- 'append(row, updates...)': W: the world in which the updates lie. -/
theorem wp_append_ups {W w : World} {ops : Array Oper} {rest : List Oper} {o : Oper} {a : Act} {Q : Exit → Act → World → Prop} (hgd : o.guard = none) (s x : Operand)
    (ho : o.op = .call { callee := .builtin .append, args := #[s, x], argTypes := #[22, 22] }) (B : Nat) (hB : B ≤ w.heap.size) (v : Value) (q : List Uv) (hs : a.eval s = v)
    (hown : URow w B v q) (ao : Option Addr) (cap : Nat) (q2 : List Uv) (hx : a.eval x = .slice ao q2.length cap) (hcap : ao = none → cap = 0) (hA : UpsAt w ao q2) (hok : ∀ x, x ∈ q2 → UvOk W x)
    (hb : q.length + q2.length ≤ 4194304)
    (h : ∀ v' w', URow w' B v' (q ++ q2) → w.grownBy w' v.ownBlock → wpList Tryz.prog ops Q rest (a.put o.dst v') w') : wpList Tryz.prog ops Q (o :: rest) a w := by
  obtain ⟨i0, hi, hz0, hz1, hz2⟩ := info_parts up_info
  cases ao with
  | none =>
    have hq2 : q2 = [] := by
      rcases hA with hl | ⟨b, off, hb2, _⟩
      · exact hl
      · cases hb2
    subst hq2
    refine wpList_append_own_none hgd s x 22 ho B 30 i0 5 Tryz.underlying22 hi v q.length _ hs hown (by rw [hx, hcap rfl]; rfl) ?_
    refine h v w ?_ (grown_refl _ _)
    rw [List.append_nil]
    exact hown
  | some ad =>
    refine wpList_append_own w hgd s x 22 ho B 30 i0 _ 5 88 Tryz.underlying22 hi hz0 hz1 hz2 rfl (by decide) v q.length _ hs hown ad q2.length cap ((q2.map uvCells).flatten) hx (by rw [ups_flat]) ?_ (uv_one hok) (by unfold maxLen; omega) (by omega) hB ?_
    · intro j u hj
      rcases hA with hl | ⟨b, off, hb2, hc⟩
      · subst hl
        simp at hj
      · rw [Option.some.inj hb2, Addr.add_lit]
        exact ups_cells hc j u hj
    · intro v' w' ho2 hg _
      refine h v' w' ?_ hg
      show World.ownsRow _ _ _ _ _ _ _
      rw [List.length_append, List.map_append, List.flatten_append]
      exact ho2

set_option maxRecDepth 100000 in
set_option maxHeartbeats 1000000 in
theorem growU_any (w : World) (n : Nat) (hn : n ≤ 100000) :
    Calls Tryz.prog 72 #[.slice none 0 0, .int .i64 n] w fun e w' => ∃ v', e = .returned v' ∧ URow w' w.heap.size v' [] ∧ Below w.heap.size w w' := by
  obtain ⟨i0, hi, hz0, hz1, hz2⟩ := info_parts up_info
  by_cases h0 : n = 0
  · subst h0
    go_enter Tryz.func72, Tryz.ntmps72
    go_wp2_with fail
    go_ret
    exact ⟨_, rfl, World.ownsRow_nil _ _ _ _, Below.refl _ _⟩
  · have hp : 0 < n := by omega
    have HR : Hid _ := Lib.run_append_nil_zeros w 22 3 22 30 i0 _ .i64 .i64 Tryz.underlying22 Tryz.underlying3 hi hz0 n hp (by rw [hz1]; decide) (by omega) (by rw [hz2]; omega)
    go_enter Tryz.func72, Tryz.ntmps72
    go_wp2_with (at_builtin; refine Lib.wpList_append_run _ rfl _ _ 22 3 rfl _ _ rfl rfl _ _ HR.out ?_)
    have HO : Hid (∀ cur : Array Value, cur.size = grownCap w n 0 30 * 5 → (w.alloc (.cells cur 30)).drew.ownsRow w.heap.size 30 5 (.slice (some ⟨w.heap.size, 0, none⟩) 0 (grownCap w n 0 30)) 0 [] ∧ Below w.heap.size w (w.alloc (.cells cur 30)).drew) := by
      intro cur hc
      have h1 := World.ownsRow_made (base := w.heap.size) (e := 30) (size := 5) w cur (grownCap w n 0 30) (Nat.le_refl _) (grownCap_le_maxLen _ _ _ _ (by unfold maxLen; omega)) hc
      have h2 : Below w.heap.size w (w.alloc (.cells cur 30)) := (Below.refl _ _).alloc (Nat.le_refl _) _
      exact ⟨h1, h2.os, h2.tape, h2.output, h2.size, h2.block⟩
    have hge := grownCap_ge w n 0 30
    go_ret
    refine ⟨_, rfl, HO.out _ ?_⟩
    simp [Builtin.zeroCells]
    omega

set_option maxRecDepth 100000 in
set_option maxHeartbeats 2000000 in
theorem concatU_any (l m : List Uv) (b : Nat) (ao bo : Option Addr) (cap cbp : Nat) (w : World) (hA : UpsAt w ao l ∧ (ao = none → cap = 0)) (hB : UpsAt w bo m ∧ (bo = none → cbp = 0)) (hb0 : w.cell? ⟨b, 0, none⟩ = some (.slice ao l.length cap)) (hb1 : w.cell? ⟨b, 1, none⟩ = some (.slice bo m.length cbp)) (hl : l.length + m.length ≤ 1000) (hok : ∀ x, x ∈ l ++ m → UvOk w x) :
    Calls Tryz.prog 29 #[.slice (some ⟨b, 0, none⟩) 2 2] w fun e w' => ∃ v', e = .returned v' ∧ URow w' w.heap.size v' (l ++ m) ∧ Below w.heap.size w w' := by
  have HA : Hid (∀ z, Below w.heap.size w z → UpsAt z ao l) := fun z hz => hA.1.kc (Kc.below hz)
  have HB : Hid (∀ z, Below w.heap.size w z → UpsAt z bo m) := fun z hz => hB.1.kc (Kc.below hz)
  have HA2 : Hid (ao = none → cap = 0) := hA.2
  have HB2 : Hid (bo = none → cbp = 0) := hB.2
  have HO1 : Hid (∀ x, x ∈ l → UvOk w x) := fun x hx => hok x (List.mem_append_left _ hx)
  have HO2 : Hid (∀ x, x ∈ m → UvOk w x) := fun x hx => hok x (List.mem_append_right _ hx)
  clear hA hB hok
  go_enter Tryz.func29, Tryz.ntmps29
  go_wp2_with fail
  go_loopw [3, 11] (fun sz i wr => w = wr ∧ ((i = .int .i64 (0 : Nat) ∧ sz = .int .i64 0) ∨ (i = .int .i64 (1 : Nat) ∧ sz = .int .i64 (l.length : Nat)) ∨ (i = .int .i64 (2 : Nat) ∧ sz = .int .i64 ((l.length + m.length : Nat) : Int)))) (fun _ i _ => 2 - (intOf i).toNat)
  case atStart => exact ⟨rfl, .inl ⟨rfl, rfl⟩⟩
  case round =>
    obtain ⟨rfl, ⟨rfl, rfl⟩ | ⟨rfl, rfl⟩ | ⟨rfl, rfl⟩⟩ := hrel
    · go_wp2_with fail
      go_roundw
      case rel => exact ⟨by trivial, .inr (.inl ⟨by first | rfl | go_num, by first | rfl | go_num | simp⟩)⟩
      case measure => simp [intOf]
    · go_wp2_with fail
      go_roundw
      case rel => exact ⟨by trivial, .inr (.inr ⟨by first | rfl | go_num, by first | rfl | go_num | simp⟩)⟩
      case measure => simp [intOf]
    · go_wp2_with fail
      refine Calls.mono (growU_any _ (l.length + m.length) (by omega)) ?_
      rintro e w1 ⟨v1, rfl, hown1, hbw1⟩
      obtain ⟨a1, c1, rfl⟩ := own_slice hown1
      have d0 := cell_below hbw1 hb0
      have d1 := cell_below hbw1 hb1
      go_wp2_with fail
      clear d0 d1
      go_loopw [6, 27] (fun ns i wr => Below w.heap.size w wr ∧ ((i = .int .i64 (0 : Nat) ∧ URow wr w.heap.size ns []) ∨ (i = .int .i64 (1 : Nat) ∧ URow wr w.heap.size ns l) ∨ (i = .int .i64 (2 : Nat) ∧ URow wr w.heap.size ns (l ++ m)))) (fun _ i _ => 2 - (intOf i).toNat)
      case atStart => exact ⟨hbw1, .inl ⟨rfl, hown1⟩⟩
      case round =>
        obtain ⟨hbw, hrel⟩ := hrel
        have hsz := hbw.size
        rcases hrel with ⟨rfl, hown⟩ | ⟨rfl, hown⟩ | ⟨rfl, hown⟩
        · have d0 := cell_below hbw hb0
          have d1 := cell_below hbw hb1
          obtain ⟨a2, c2, rfl⟩ := own_slice hown
          go_wp2_with (at_builtin; refine wp_append_ups (W := w) rfl (.tmp 31) (.tmp 32) rfl w.heap.size hsz _ [] rfl hown ao cap l rfl HA2.out (HA.out _ hbw) HO1.out ?c1 ?_)
          case c1 => simp; omega
          intro v2 w2 ho2 hg2
          have HB3 : Hid (Below w.heap.size w w2) := hbw.grown hg2 hsz (fun k hk => (hown.lt k hk).1)
          obtain ⟨a3, c3, rfl⟩ := own_slice ho2
          have H2 : Hid (URow w2 w.heap.size (.slice a3 l.length c3) l) := ho2
          go_wp2_with fail
          go_roundw
          case rel => exact ⟨HB3.out, .inr (.inl ⟨by first | rfl | go_num, H2.out⟩)⟩
          case measure => simp [intOf]
        · have d0 := cell_below hbw hb0
          have d1 := cell_below hbw hb1
          obtain ⟨a2, c2, rfl⟩ := own_slice hown
          go_wp2_with (at_builtin; refine wp_append_ups (W := w) rfl (.tmp 31) (.tmp 32) rfl w.heap.size hsz _ l rfl hown bo cbp m rfl HB2.out (HB.out _ hbw) HO2.out ?c1 ?_)
          case c1 => omega
          intro v2 w2 ho2 hg2
          have HB3 : Hid (Below w.heap.size w w2) := hbw.grown hg2 hsz (fun k hk => (hown.lt k hk).1)
          obtain ⟨a3, c3, rfl⟩ := own_slice ho2
          have H2 : Hid (URow w2 w.heap.size (.slice a3 (l ++ m).length c3) (l ++ m)) := ho2
          go_wp2_with fail
          go_roundw
          case rel => exact ⟨HB3.out, .inr (.inr ⟨by first | rfl | go_num, H2.out⟩)⟩
          case measure => simp [intOf]
        · have H2 : Hid (URow wr w.heap.size u6 (l ++ m)) := hown
          obtain ⟨a2, c2, rfl⟩ := own_slice hown
          clear hown
          go_wp2_with fail
          go_ret
          exact ⟨_, rfl, H2.out, hbw⟩
theorem cat_cell (w : World) (C : Array Value) (t : TypeId) (j : Nat) : (w.alloc (.cells C t)).cell? ⟨w.heap.size, j, none⟩ = C[j]? := World.cell?_alloc_mark w C t _ j
end Go.Proofs.YtmfaodapofamfaaGreat

/- Package dag: checkTogether and Check. -/
namespace Go.Proofs.YtmfaodapofamfaaGreat
open Go.RowKit Go.Maps

theorem one_id {w : World} {v : Value} {x : Wr.Id} (g : Nat) (h0 : w.cell? ⟨g, 0, none⟩ = some (.int .i64 x.a)) (h1 : w.cell? ⟨g, 1, none⟩ = some (.int .i64 x.n)) (hv : v = .slice (some ⟨g, 0, none⟩) 1 1) : IdsV w v [x] := by
  subst hv
  refine ⟨_, 1, rfl, ⟨Nat.le_refl _, fun h => by cases h⟩, .inr ⟨g, 0, rfl, fun i hi => ?_⟩⟩
  have : i = 0 := by simp at hi; exact hi
  subst this
  exact ⟨h0, h1⟩
set_option maxRecDepth 100000 in
set_option maxHeartbeats 1000000 in
theorem held1_any (B hb : Nat) (c : List Uv) (x : Uv) (w w0 : World) (hM : CmAt w B c) (hbx : w.cell? ⟨hb, 0, none⟩ = some (.map (some B))) (hx : UvOk w0 x) (hi : Wr.isId x.u.id = true) :
    Calls Tryz.prog 89 #[uvVal x, .pointer (some ⟨hb, 0, none⟩)] w fun e w' => e = .returned (.bool (Dg.hasU (ups c) x.u.id)) ∧ Below w.heap.size w w' := by
  obtain ⟨a1, n1, d1, a2, n2, d2, a3, n3, d3, e1, e2, e3⟩ := hx.forms
  obtain ⟨⟨⟨ua, un⟩, ps, says, ts⟩, vp, vs, vt⟩ := x
  dsimp only at *
  subst e1 e2 e3
  have hb1 : Below w.heap.size w ((w.alloc (.cells #[.int .i64 ua, .int .i64 un, .slice a1 n1 d1, .slice a2 n2 d2, .slice a3 n3 d3] 30)).alloc (.cells #[.int .i64 ua, .int .i64 un] 26)) := ((Below.refl _ _).alloc (Nat.le_refl _) _).alloc (by simp) _
  have HB1 : Hid (Below w.heap.size w ((w.alloc (.cells #[.int .i64 ua, .int .i64 un, .slice a1 n1 d1, .slice a2 n2 d2, .slice a3 n3 d3] 30)).alloc (.cells #[.int .i64 ua, .int .i64 un] 26))) := hb1
  have c9 : (w.alloc (.cells #[.int .i64 ua, .int .i64 un, .slice a1 n1 d1, .slice a2 n2 d2, .slice a3 n3 d3] 30)).cell? ⟨hb, 0, none⟩ = some (.map (some B)) := cell_below ((Below.refl _ _).alloc (Nat.le_refl _) _) hbx
  have HC : Hid (Calls Tryz.prog 31 #[.map (some B), .slice (some ⟨w.heap.size + 1, 0, none⟩) 1 1] ((w.alloc (.cells #[.int .i64 ua, .int .i64 un, .slice a1 n1 d1, .slice a2 n2 d2, .slice a3 n3 d3] 30)).alloc (.cells #[.int .i64 ua, .int .i64 un] 26)) fun e w' => e = .returned (.bool (Dg.hasU (ups c) ⟨ua, un⟩)) ∧ Below ((w.alloc (.cells #[.int .i64 ua, .int .i64 un, .slice a1 n1 d1, .slice a2 n2 d2, .slice a3 n3 d3] 30)).alloc (.cells #[.int .i64 ua, .int .i64 un] 26)).heap.size ((w.alloc (.cells #[.int .i64 ua, .int .i64 un, .slice a1 n1 d1, .slice a2 n2 d2, .slice a3 n3 d3] 30)).alloc (.cells #[.int .i64 ua, .int .i64 un] 26)) w') := by
    have h := hold_any B c [⟨ua, un⟩] (.slice (some ⟨w.heap.size + 1, 0, none⟩) 1 1) _ (hM.below hb1) (one_id (w.heap.size + 1) (by rw [← World.size_alloc w]; exact (cat_cell _ _ _ 0).trans rfl) (by rw [← World.size_alloc w]; exact (cat_cell _ _ _ 1).trans rfl) rfl) (by simp) (fun y hy => by rw [List.mem_singleton.mp hy]; exact hi)
    refine h.mono ?_
    rintro e w' ⟨rfl, h2⟩
    refine ⟨?_, h2⟩
    rw [List.all_cons, List.all_nil, Bool.and_true]
  generalize Dg.hasU (ups c) ⟨ua, un⟩ = bb at *
  clear hM hx hi hb1
  go_enter Tryz.func89, Tryz.ntmps89
  go_wp2_with (go_at_call 31; refine Calls.mono HC.out ?_; rintro e z1 ⟨rfl, hg1⟩)
  go_ret
  exact ⟨rfl, HB1.out.trans (hg1.mono HB1.out.size)⟩
set_option maxRecDepth 100000 in
set_option maxHeartbeats 1000000 in
theorem held2_any (B hb : Nat) (c : List Uv) (x : Uv) (w : World) (hM : CmAt w B c) (hbx : w.cell? ⟨hb, 0, none⟩ = some (.map (some B))) (hx : UvOk w x) (hi : IdsOk x.u) :
    Calls Tryz.prog 90 #[uvVal x, .pointer (some ⟨hb, 0, none⟩)] w fun e w' => e = .returned (.bool (!Dg.carry (ups c) x.u)) ∧ Below w.heap.size w w' := by
  have h1 := hi.lp
  have h2 := hi.lt
  obtain ⟨a1, n1, d1, a2, n2, d2, a3, n3, d3, e1, e2, e3⟩ := hx.forms
  have HC : Hid (∀ z, Below w.heap.size w z → Calls Tryz.prog 73 #[.map (some B), uvVal x] z fun e w' => e = .returned (.bool (Dg.carry (ups c) x.u)) ∧ Below z.heap.size z w') := fun z hz => carry_any B c x z (hM.below hz) (hx.below hz) (by omega) hi.ps hi.ts
  generalize Dg.carry (ups c) x.u = bb at *
  obtain ⟨⟨⟨ua, un⟩, ps, says, ts⟩, vp, vs, vt⟩ := x
  dsimp only at *
  subst e1 e2 e3
  have HB1 : Hid (Below w.heap.size w (w.alloc (.cells #[.int .i64 ua, .int .i64 un, .slice a1 n1 d1, .slice a2 n2 d2, .slice a3 n3 d3] 30))) := (Below.refl _ _).alloc (Nat.le_refl _) _
  have c9 : (w.alloc (.cells #[.int .i64 ua, .int .i64 un, .slice a1 n1 d1, .slice a2 n2 d2, .slice a3 n3 d3] 30)).cell? ⟨hb, 0, none⟩ = some (.map (some B)) := cell_below HB1.out hbx
  clear hM hx hi h1 h2
  go_enter Tryz.func90, Tryz.ntmps90
  go_wp2_with (go_at_call 73; refine Calls.mono (HC.out _ HB1.out) ?_; rintro e z1 ⟨rfl, hg1⟩)
  go_ret
  exact ⟨rfl, HB1.out.trans (hg1.mono HB1.out.size)⟩

abbrev repVal (hv wv : Value) : Value := .agg #[hv, wv]
theorem together_a {h w : List Wr.Up} (e : (Wr.rise Dg.uOrd h && Wr.rise Dg.uOrd w && !(w.any fun u => Dg.hasU h u.id)) = false) : Dg.together h w = 4 := by
  unfold Dg.together; rw [if_pos e]
theorem together_b {h w : List Wr.Up} (e1 : Wr.rise Dg.uOrd h = true) (e2 : Wr.rise Dg.uOrd w = true) (e3 : (w.any fun u => Dg.hasU h u.id) = false) (e4 : (h.any fun u => !Dg.carry h u) = true) : Dg.together h w = 5 := by
  unfold Dg.together; rw [e1, e2, e3, e4]; rfl
theorem together_c {h w : List Wr.Up} (e1 : Wr.rise Dg.uOrd h = true) (e2 : Wr.rise Dg.uOrd w = true) (e3 : (w.any fun u => Dg.hasU h u.id) = false) (e4 : (h.any fun u => !Dg.carry h u) = false) : Dg.together h w = if ((Dg.settle Dg.snoc [] h).2.length != 0 || w.any (Dg.carry h)) = true then 4 else 0 := by
  unfold Dg.together; rw [e1, e2, e3, e4]; rfl
set_option maxRecDepth 100000 in
set_option maxHeartbeats 2000000 in
theorem checkTogether_any (hq wq : List Uv) (hv wv : Value) (w : World) (hV : UpsV w hv hq) (wV : UpsV w wv wq) (hl : hq.length + wq.length ≤ 1000) (hok : ∀ x, x ∈ hq ++ wq → UvOk w x) (hid : ∀ x, x ∈ hq ++ wq → IdsOk x.u) :
    Calls Tryz.prog 56 #[repVal hv wv] w fun e w' => e = .returned (.int .i64 (Dg.together (ups hq) (ups wq))) ∧ Below w.heap.size w w' := by
  have HO : Hid ((∀ x, x ∈ hq → UvOk w x ∧ IdsOk x.u) ∧ (∀ x, x ∈ wq → UvOk w x ∧ IdsOk x.u)) := ⟨fun x hx => ⟨hok x (List.mem_append_left _ hx), hid x (List.mem_append_left _ hx)⟩, fun x hx => ⟨hok x (List.mem_append_right _ hx), hid x (List.mem_append_right _ hx)⟩⟩
  have HHV : Hid (UpsV w hv hq) := hV
  have HWV : Hid (UpsV w wv wq) := wV
  obtain ⟨ah, ch, rfl, _⟩ := hV
  obtain ⟨aw, cw, rfl, _⟩ := wV
  clear hok hid
  have HB1 : Hid (Below w.heap.size w (w.alloc (.cells #[.slice ah hq.length ch, .slice aw wq.length cw] 24))) := (Below.refl _ _).alloc (Nat.le_refl _) _
  have HH1 : Hid ((w.alloc (.cells #[.slice ah hq.length ch, .slice aw wq.length cw] 24)).heap[w.heap.size]? = some (.cells #[.slice ah hq.length ch, .slice aw wq.length cw] 24)) := rl_new w _
  go_enter Tryz.func56, Tryz.ntmps56
  go_upto_region 1 with fail
  generalize w.alloc (.cells #[.slice ah hq.length ch, .slice aw wq.length cw] 24) = w1 at *
  have c0 : w1.cell? ⟨w.heap.size, 0, none⟩ = some (.slice ah hq.length ch) := by rw [Lib.cell_of_heap HH1.out]; rfl
  have HC1 : Hid (Calls Tryz.prog 30 #[.slice ah hq.length ch] w1 fun e w' => e = .returned (.map (some w1.heap.size)) ∧ MapOf w' w1.heap.size hq.length hq ∧ Below w1.heap.size w1 w') := byIds_any hq _ w1 (HHV.out.kc (Kc.below HB1.out)) (by omega) (fun x hx => (HO.out.1 x hx).1.below HB1.out) (fun x hx => (HO.out.1 x hx).2.id)
  go_upto_region 2 with (go_at_call 30; refine Calls.mono HC1.out ?_; rintro e w2 ⟨rfl, hm2, hb2⟩)
  have HB3 : Hid (Below w1.heap.size w1 (w2.alloc (.cells #[.map (some w1.heap.size)] 64))) := hb2.alloc hb2.size _
  have HX3 : Hid ((w2.alloc (.cells #[.map (some w1.heap.size)] 64)).heap[w2.heap.size]? = some (.cells #[.map (some w1.heap.size)] 64)) := rl_new w2 _
  have HM3 : Hid (((ups hq).map Wr.Up.id).Nodup → CmAt (w2.alloc (.cells #[.map (some w1.heap.size)] 64)) w1.heap.size hq) := fun hn => (hm2.at_ hn).below ((Below.refl _ _).alloc (Nat.le_refl _) _)
  clear hm2 hb2 HC1 c0
  generalize w2.heap.size = hb at *
  generalize w2.alloc (.cells #[.map (some w1.heap.size)] 64) = w3 at *
  have HB0 : Hid (Below w.heap.size w w3) := HB1.out.trans (HB3.out.mono HB1.out.size)
  have HF : Hid (∀ z, Below w3.heap.size w3 z → z.cell? ⟨w.heap.size, 0, none⟩ = some (.slice ah hq.length ch) ∧ z.cell? ⟨w.heap.size, 1, none⟩ = some (.slice aw wq.length cw) ∧ z.cell? ⟨hb, 0, none⟩ = some (.map (some w1.heap.size))) := fun z hz => by
    have hx1 := HB3.out.trans (hz.mono HB3.out.size)
    have hh1 := (hx1.block _ (Array.getElem?_eq_some_iff.1 HH1.out).1).trans HH1.out
    have hh2 := (hz.block _ (Array.getElem?_eq_some_iff.1 HX3.out).1).trans HX3.out
    exact ⟨by rw [Lib.cell_of_heap hh1]; rfl, by rw [Lib.cell_of_heap hh1]; rfl, by rw [Lib.cell_of_heap hh2]; rfl⟩
  have HT : Hid (∀ z, Below w3.heap.size w3 z → Below w.heap.size w z) := fun z hz => HB0.out.trans (hz.mono HB0.out.size)
  have HR1 : Hid (∀ z, Below w3.heap.size w3 z → Calls Tryz.prog 87 #[.slice ah hq.length ch, .func (.func 76) #[] #[]] z fun e w' => e = .returned (.bool (Wr.rise Dg.uOrd (ups hq))) ∧ Below w3.heap.size w3 w') := fun z hz =>
    (RiseU_any hq _ z (HHV.out.kc (Kc.below (HT.out z hz))) (by omega) (fun x hx => (HO.out.1 x hx).1.below (HT.out z hz))).mono fun _ _ h => ⟨h.1, hz.trans (h.2.mono hz.size)⟩
  have HR2 : Hid (∀ z, Below w3.heap.size w3 z → Calls Tryz.prog 87 #[.slice aw wq.length cw, .func (.func 76) #[] #[]] z fun e w' => e = .returned (.bool (Wr.rise Dg.uOrd (ups wq))) ∧ Below w3.heap.size w3 w') := fun z hz =>
    (RiseU_any wq _ z (HWV.out.kc (Kc.below (HT.out z hz))) (by omega) (fun x hx => (HO.out.2 x hx).1.below (HT.out z hz))).mono fun _ _ h => ⟨h.1, hz.trans (h.2.mono hz.size)⟩
  have HK3 : Hid (Wr.rise Dg.uOrd (ups hq) = true → ∀ z, Below w3.heap.size w3 z → Calls Tryz.prog 88 #[.slice aw wq.length cw, .func (.func 89) #[] #[.pointer (some ⟨hb, 0, none⟩)]] z fun e w' => e = .returned (.bool ((ups wq).any fun u => Dg.hasU (ups hq) u.id)) ∧ Below w3.heap.size w3 w') := fun hr z hz =>
    (containsA_any hb (fun u => Dg.hasU (ups hq) u.id) wq _ z (HWV.out.kc (Kc.below (HT.out z hz))) (by omega) (fun x hx => (HO.out.2 x hx).1.below (HT.out z hz)) (fun y x hy hx => by
      have hzy := hz.trans (hy.mono hz.size)
      exact held1_any w1.heap.size hb hq x y w ((HM3.out (Dg.rise_nodup hr)).below hzy) (HF.out y hzy).2.2 (HO.out.2 x hx).1 (HO.out.2 x hx).2.id)).mono fun _ _ h => ⟨h.1, hz.trans (h.2.mono hz.size)⟩
  have HK4 : Hid (Wr.rise Dg.uOrd (ups hq) = true → ∀ z, Below w3.heap.size w3 z → Calls Tryz.prog 88 #[.slice ah hq.length ch, .func (.func 90) #[] #[.pointer (some ⟨hb, 0, none⟩)]] z fun e w' => e = .returned (.bool ((ups hq).any fun u => !Dg.carry (ups hq) u)) ∧ Below w3.heap.size w3 w') := fun hr z hz =>
    (containsB_any hb (fun u => !Dg.carry (ups hq) u) hq _ z (HHV.out.kc (Kc.below (HT.out z hz))) (by omega) (fun x hx => (HO.out.1 x hx).1.below (HT.out z hz)) (fun y x hy hx => by
      have hzy := hz.trans (hy.mono hz.size)
      exact held2_any w1.heap.size hb hq x y ((HM3.out (Dg.rise_nodup hr)).below hzy) (HF.out y hzy).2.2 ((HO.out.1 x hx).1.below (HT.out y hzy)) (HO.out.1 x hx).2)).mono fun _ _ h => ⟨h.1, hz.trans (h.2.mono hz.size)⟩
  have HK5 : Hid (Wr.rise Dg.uOrd (ups hq) = true → ∀ z, Below w3.heap.size w3 z → Calls Tryz.prog 32 #[.slice ah hq.length ch] z fun e w' => ∃ (m : Value) (a : Option Addr) (c : Nat), e = .returned (.tuple #[m, .slice a (Dg.settle Dg.snoc [] (ups hq)).2.length c]) ∧ (∃ k, m = .map (some k)) ∧ Below w3.heap.size w3 w') := fun hr z hz =>
    (settle_any hq _ z (HHV.out.kc (Kc.below (HT.out z hz))) (by omega) (fun x hx => (HO.out.1 x hx).1.below (HT.out z hz)) (fun x hx => (HO.out.1 x hx).2) (Dg.rise_nodup hr)).mono (by
      rintro e w' ⟨c, l, v, rfl, hs, _, _, hrow, hb⟩
      obtain ⟨a, cc, rfl⟩ := own_slice hrow
      refine ⟨.map (some z.heap.size), a, cc, ?_, ⟨_, rfl⟩, hz.trans (hb.mono hz.size)⟩
      rw [hs]
      show _ = Ending.returned (.tuple #[_, .slice a (ups l).length cc])
      rw [ups_length])
  have HK6 : Hid (Wr.rise Dg.uOrd (ups hq) = true → ∀ z, Below w3.heap.size w3 z → Calls Tryz.prog 88 #[.slice aw wq.length cw, .func (.func 73) #[.map (some w1.heap.size)] #[]] z fun e w' => e = .returned (.bool ((ups wq).any (Dg.carry (ups hq)))) ∧ Below w3.heap.size w3 w') := fun hr z hz =>
    (containsC_any w1.heap.size (Dg.carry (ups hq)) wq _ z (HWV.out.kc (Kc.below (HT.out z hz))) (by omega) (fun x hx => (HO.out.2 x hx).1.below (HT.out z hz)) (fun y x hy hx => by
      have hzy := hz.trans (hy.mono hz.size)
      have hi := (HO.out.2 x hx).2
      have g1 := hi.lp
      have g2 := hi.lt
      exact carry_any w1.heap.size hq x y ((HM3.out (Dg.rise_nodup hr)).below hzy) ((HO.out.2 x hx).1.below (HT.out y hzy)) (by omega) hi.ps hi.ts)).mono fun _ _ h => ⟨h.1, hz.trans (h.2.mono hz.size)⟩
  have HA : Hid ((Wr.rise Dg.uOrd (ups hq) && Wr.rise Dg.uOrd (ups wq) && !((ups wq).any fun u => Dg.hasU (ups hq) u.id)) = false → Dg.together (ups hq) (ups wq) = 4) := together_a
  have HBb : Hid (Wr.rise Dg.uOrd (ups hq) = true → Wr.rise Dg.uOrd (ups wq) = true → ((ups wq).any fun u => Dg.hasU (ups hq) u.id) = false → ((ups hq).any fun u => !Dg.carry (ups hq) u) = true → Dg.together (ups hq) (ups wq) = 5) := together_b
  have HCc : Hid (Wr.rise Dg.uOrd (ups hq) = true → Wr.rise Dg.uOrd (ups wq) = true → ((ups wq).any fun u => Dg.hasU (ups hq) u.id) = false → ((ups hq).any fun u => !Dg.carry (ups hq) u) = false → Dg.together (ups hq) (ups wq) = if ((Dg.settle Dg.snoc [] (ups hq)).2.length != 0 || (ups wq).any (Dg.carry (ups hq))) = true then 4 else 0) := together_c
  generalize Wr.rise Dg.uOrd (ups hq) = r1 at *
  generalize Wr.rise Dg.uOrd (ups wq) = r2 at *
  generalize ((ups wq).any fun u => Dg.hasU (ups hq) u.id) = r3 at *
  generalize ((ups hq).any fun u => !Dg.carry (ups hq) u) = r4 at *
  generalize (Dg.settle Dg.snoc [] (ups hq)).2.length = n5 at *
  generalize (ups wq).any (Dg.carry (ups hq)) = r6 at *
  clear HHV HWV HO HM3 HB1 HH1 HB3 HX3 HB0
  obtain ⟨c0, c1, c2⟩ := HF.out w3 (Below.refl _ _)
  have HE : Hid (Below w3.heap.size w3 w3) := Below.refl _ _
  cases r1
  · have HTG : Hid (Dg.together (ups hq) (ups wq) = 4) := HA.out rfl
    go_wp2_with (go_at_call 87; refine Calls.mono (HR1.out _ HE.out) ?_; rintro e z1 ⟨rfl, hg1⟩)
    go_ret
    exact ⟨by rw [HTG.out]; rfl, HT.out _ hg1⟩
  have hk3 := HK3.out rfl
  have hk4 := HK4.out rfl
  have hk5 := HK5.out rfl
  have hk6 := HK6.out rfl
  clear HK3 HK4 HK5 HK6
  have HK3 : Hid _ := hk3
  have HK4 : Hid _ := hk4
  have HK5 : Hid _ := hk5
  have HK6 : Hid _ := hk6
  clear hk3 hk4 hk5 hk6
  cases r2
  · have HTG : Hid (Dg.together (ups hq) (ups wq) = 4) := HA.out rfl
    clear HA HBb HCc HK3 HK4 HK5 HK6
    go_wp2_with (first
      | (go_at_call 87; (with_reducible refine Calls.mono (HR1.out _ HE.out) ?_); clear HR1; rintro e z1 ⟨rfl, hg1⟩; obtain ⟨c0, c1, c2⟩ := HF.out z1 hg1; have HG1 : Hid _ := hg1)
      | (go_at_call 87; (with_reducible refine Calls.mono (HR2.out _ HG1.out) ?_); rintro e z2 ⟨rfl, hg2⟩))
    go_ret
    exact ⟨by rw [HTG.out]; rfl, HT.out _ hg2⟩
  cases r3
  rotate_left
  · have HTG : Hid (Dg.together (ups hq) (ups wq) = 4) := HA.out rfl
    clear HA HBb HCc HK4 HK5 HK6
    go_wp2_with (first
      | (go_at_call 87; (with_reducible refine Calls.mono (HR1.out _ HE.out) ?_); clear HR1; rintro e z1 ⟨rfl, hg1⟩; obtain ⟨c0, c1, c2⟩ := HF.out z1 hg1; have HG1 : Hid _ := hg1)
      | (go_at_call 87; (with_reducible refine Calls.mono (HR2.out _ HG1.out) ?_); clear HR2; rintro e z2 ⟨rfl, hg2⟩; obtain ⟨c0, c1, c2⟩ := HF.out z2 hg2; have HG2 : Hid _ := hg2)
      | (go_at_call 88; (with_reducible refine Calls.mono (HK3.out _ HG2.out) ?_); rintro e z3 ⟨rfl, hg3⟩))
    go_ret
    exact ⟨by rw [HTG.out]; rfl, HT.out _ hg3⟩
  clear HA
  have HB5 : Hid (r4 = true → Dg.together (ups hq) (ups wq) = 5) := fun h => HBb.out rfl rfl rfl h
  have HC5 : Hid (r4 = false → Dg.together (ups hq) (ups wq) = if (n5 != 0 || r6) = true then 4 else 0) := fun h => HCc.out rfl rfl rfl h
  clear HBb HCc
  go_upto_region 4 with (first
      | (go_at_call 87; (with_reducible refine Calls.mono (HR1.out _ HE.out) ?_); clear HR1; rintro e z1 ⟨rfl, hg1⟩; obtain ⟨c0, c1, c2⟩ := HF.out z1 hg1; have HG1 : Hid _ := hg1)
      | (go_at_call 87; (with_reducible refine Calls.mono (HR2.out _ HG1.out) ?_); clear HR2; rintro e z2 ⟨rfl, hg2⟩; obtain ⟨c0, c1, c2⟩ := HF.out z2 hg2; have HG2 : Hid _ := hg2)
      | (go_at_call 88; (with_reducible refine Calls.mono (HK3.out _ HG2.out) ?_); clear HK3; rintro e z3 ⟨rfl, hg3⟩))
  clear c0 c1 c2 HG1 HG2
  obtain ⟨c0, c1, c2⟩ := HF.out z3 hg3
  have HG3 : Hid (Below w3.heap.size w3 z3) := hg3
  clear hg1 hg2 hg3
  cases r4
  rotate_left
  · have HTG : Hid (Dg.together (ups hq) (ups wq) = 5) := HB5.out rfl
    go_wp2_with (go_at_call 88; (with_reducible refine Calls.mono (HK4.out _ HG3.out) ?_); rintro e z4 ⟨rfl, hg4⟩)
    go_ret
    exact ⟨by rw [HTG.out]; rfl, HT.out _ hg4⟩
  clear HB5
  have HC2 := HC5.out rfl
  clear HC5
  go_upto_region 6 with (go_at_call 88; (with_reducible refine Calls.mono (HK4.out _ HG3.out) ?_); rintro e z4 ⟨rfl, hg4⟩)
  clear c0 c1 c2 HK4 HG3
  obtain ⟨c0, c1, c2⟩ := HF.out z4 hg4
  have HG4 : Hid (Below w3.heap.size w3 z4) := hg4
  clear hg4
  go_upto_region 7 with (go_at_call 32; (with_reducible refine Calls.mono (HK5.out _ HG4.out) ?_); rintro e z5 ⟨m5, a5, k5, rfl, ⟨b5, rfl⟩, hg5⟩)
  clear c0 c1 c2 HK5 HG4
  obtain ⟨c0, c1, c2⟩ := HF.out z5 hg5
  have HG5 : Hid (Below w3.heap.size w3 z5) := hg5
  clear hg5
  by_cases h0 : 0 < n5
  · have g0 : decide ((0 : Int) < (n5 : Int)) = true := decide_eq_true (by omega)
    have g1 : decide (0 < n5) = true := decide_eq_true h0
    have HTG : Hid (Dg.together (ups hq) (ups wq) = 4) := by
      show _ = _
      rw [HC2]
      have : (n5 != 0) = true := by simp; omega
      rw [this]
      rfl
    clear HC2
    go_wp2_with fail
    go_ret
    exact ⟨by rw [HTG.out]; rfl, HT.out _ HG5.out⟩
  · have g0 : decide ((0 : Int) < (n5 : Int)) = false := decide_eq_false (by omega)
    have g1 : decide (0 < n5) = false := decide_eq_false h0
    have hn5 : (n5 != 0) = false := by simp; omega
    rw [hn5, Bool.false_or] at HC2
    cases r6
    · have HTG : Hid (Dg.together (ups hq) (ups wq) = 0) := HC2
      clear HC2
      go_wp2_with (go_at_call 88; (with_reducible refine Calls.mono (HK6.out _ HG5.out) ?_); rintro e z6 ⟨rfl, hg6⟩)
      go_ret
      exact ⟨by rw [HTG.out]; rfl, HT.out _ hg6⟩
    · have HTG : Hid (Dg.together (ups hq) (ups wq) = 4) := HC2
      clear HC2
      go_wp2_with (go_at_call 88; (with_reducible refine Calls.mono (HK6.out _ HG5.out) ?_); rintro e z6 ⟨rfl, hg6⟩)
      go_ret
      exact ⟨by rw [HTG.out]; rfl, HT.out _ hg6⟩

theorem first_step (l : List Wr.Up) (u : Wr.Up) (h : Wr.check u = 0) : Dg.first (u :: l) = Dg.first l := by
  unfold Dg.first
  rw [List.find?_cons, show Dg.bad u = false from by simp [Dg.bad, h]]
theorem first_stop (l : List Wr.Up) (u : Wr.Up) (h : ¬ Wr.check u = 0) : Dg.first (u :: l) = Wr.check u := by
  unfold Dg.first
  rw [List.find?_cons, show Dg.bad u = true from by simp [Dg.bad, h]]
set_option maxRecDepth 100000 in
set_option maxHeartbeats 2000000 in
theorem DCheck_any (hq wq : List Uv) (hv wv : Value) (w : World) (hV : UpsV w hv hq) (wV : UpsV w wv wq) (hl : hq.length ≤ 4611686018427387903 ∧ wq.length ≤ 4611686018427387903) (hok : ∀ x, x ∈ hq ++ wq → UvOk w x) :
    Calls Tryz.prog 15 #[repVal hv wv] w fun e w' => e = .returned (.int .i64 (Dg.check (ups hq) (ups wq))) ∧ Below w.heap.size w w' := by
  have HO : Hid (∀ x, x ∈ hq ++ wq → UvOk w x) := hok
  have HHV : Hid (UpsV w hv hq) := hV
  have HWV : Hid (UpsV w wv wq) := wV
  obtain ⟨ah, ch, rfl, hch, _⟩ := hV
  obtain ⟨aw, cw, rfl, hcw, _⟩ := wV
  clear hok
  have HB1 : Hid (Below w.heap.size w (w.alloc (.cells #[.slice ah hq.length ch, .slice aw wq.length cw] 24))) := (Below.refl _ _).alloc (Nat.le_refl _) _
  have HH1 : Hid ((w.alloc (.cells #[.slice ah hq.length ch, .slice aw wq.length cw] 24)).heap[w.heap.size]? = some (.cells #[.slice ah hq.length ch, .slice aw wq.length cw] 24)) := rl_new w _
  have HCH : Hid (ah = none → ch = 0) := hch.2
  have HCW : Hid (aw = none → cw = 0) := hcw.2
  clear hch hcw
  go_enter Tryz.func15, Tryz.ntmps15
  go_upto_region 1 with fail
  generalize w.alloc (.cells #[.slice ah hq.length ch, .slice aw wq.length cw] 24) = w1 at *
  have HF : Hid (∀ z, Below w1.heap.size w1 z → z.cell? ⟨w.heap.size, 0, none⟩ = some (.slice ah hq.length ch) ∧ z.cell? ⟨w.heap.size, 1, none⟩ = some (.slice aw wq.length cw)) := fun z hz => by
    have hh1 := (hz.block _ (Array.getElem?_eq_some_iff.1 HH1.out).1).trans HH1.out
    exact ⟨by rw [Lib.cell_of_heap hh1]; rfl, by rw [Lib.cell_of_heap hh1]; rfl⟩
  obtain ⟨c0, c1⟩ := HF.out w1 (Below.refl _ _)
  have hwr : IntKind.i64.wrap ((hq.length : Int) + (wq.length : Int)) = ((hq.length + wq.length : Nat) : Int) := by
    rw [← Int.natCast_add]
    simp [IntKind.wrap, IntKind.bits, IntKind.signed]
    omega
  by_cases hmany : 200 < hq.length + wq.length
  · have g0 : decide ((200 : Int) < ((hq.length + wq.length : Nat) : Int)) = true := decide_eq_true (by omega)
    have g1 : decide (200 < hq.length + wq.length) = true := decide_eq_true hmany
    have HTG : Hid (Dg.check (ups hq) (ups wq) = 2) := by
      show _ = _
      unfold Dg.check
      rw [ups_length, ups_length, if_pos hmany]
    clear HF HO
    go_wp2_with fail
    go_ret
    exact ⟨by rw [HTG.out]; rfl, HB1.out⟩
  have g0 : decide ((200 : Int) < ((hq.length + wq.length : Nat) : Int)) = false := decide_eq_false (by omega)
  have g1 : decide (200 < hq.length + wq.length) = false := decide_eq_false hmany
  have HTG : Hid (Dg.check (ups hq) (ups wq) = if Dg.first (ups (hq ++ wq)) ≠ 0 then Dg.first (ups (hq ++ wq)) else Dg.together (ups hq) (ups wq)) := by
    show _ = _
    unfold Dg.check
    rw [ups_length, ups_length, if_neg hmany, ups_append]
  obtain ⟨q, HQE⟩ : ∃ q, Hid (q = hq ++ wq) := ⟨_, rfl⟩
  rw [← HQE.out] at HTG
  go_upto_region 3 with fail
  have HB2 : Hid (Below w1.heap.size w1 (w1.alloc (.cells #[.slice ah hq.length ch, .slice aw wq.length cw] 22))) := (Below.refl _ _).alloc (Nat.le_refl _) _
  have HC2 : Hid (Calls Tryz.prog 29 #[.slice (some ⟨w1.heap.size, 0, none⟩) 2 2] (w1.alloc (.cells #[.slice ah hq.length ch, .slice aw wq.length cw] 22)) fun e w' => ∃ v', e = .returned v' ∧ URow w' (w1.alloc (.cells #[.slice ah hq.length ch, .slice aw wq.length cw] 22)).heap.size v' q ∧ Below w1.heap.size w1 w') := by
    have hb := HB1.out.trans (HB2.out.mono HB1.out.size)
    obtain ⟨_, _, e1, _, k1⟩ := HHV.out.kc (Kc.below hb)
    obtain ⟨_, _, e2, _, k2⟩ := HWV.out.kc (Kc.below hb)
    cases e1
    cases e2
    refine (concatU_any hq wq w1.heap.size ah aw ch cw _ ⟨k1, HCH.out⟩ ⟨k2, HCW.out⟩ (cat_cell _ _ _ 0) (cat_cell _ _ _ 1) (by omega) (fun x hx => (HO.out x hx).below hb)).mono ?_
    rintro e w' ⟨v', h1, h2, h3⟩
    exact ⟨v', h1, by rw [HQE.out]; exact h2, HB2.out.trans (h3.mono HB2.out.size)⟩
  go_upto_region 4 with (go_at_call 29; refine Calls.mono HC2.out ?_; rintro e w2 ⟨v2, rfl, hrow2, hb2⟩; obtain ⟨a2, k2, rfl⟩ := own_slice hrow2)
  have HR2 : Hid (UpsV w2 (.slice a2 q.length k2) q) := own_ups hrow2
  have HG2 : Hid (Below w1.heap.size w1 w2) := hb2
  clear hrow2 hb2 HC2 HB2 c0 c1
  have HT : Hid (∀ z, Below w1.heap.size w1 z → Below w.heap.size w z) := fun z hz => HB1.out.trans (hz.mono HB1.out.size)
  have hlen : q.length ≤ 200 := by rw [HQE.out, List.length_append]; omega
  have HQ : Hid (hq.length + wq.length ≤ 200) := by show _ ≤ _; omega
  have HAPP : Hid (∀ x, x ∈ q → UvOk w2 x) := fun x hx => (HO.out x (HQE.out ▸ hx)).below (HT.out _ HG2.out)
  have HCT : Hid ((∀ u, u ∈ ups q → Wr.check u = 0) → ∀ z, Below w1.heap.size w1 z → Calls Tryz.prog 56 #[repVal (.slice ah hq.length ch) (.slice aw wq.length cw)] z fun e w' => e = .returned (.int .i64 (Dg.together (ups hq) (ups wq))) ∧ Below w1.heap.size w1 w') := fun hz0 z hz =>
    (checkTogether_any hq wq _ _ z (HHV.out.kc (Kc.below (HT.out z hz))) (HWV.out.kc (Kc.below (HT.out z hz))) (by omega) (fun x hx => (HO.out x hx).below (HT.out z hz)) (fun x hx => idsOk_of (hz0 _ (List.mem_map.mpr ⟨x, HQE.out ▸ hx, rfl⟩)))).mono fun _ _ h => ⟨h.1, hz.trans (h.2.mono hz.size)⟩
  clear HHV HWV HO hwr g0 g1 hmany hl HH1
  go_wp2_with fail
  go_loopw [21] (fun iv wr => ∃ k : Nat, k ≤ q.length ∧ iv = .int .i64 k ∧ Hid (Dg.first (ups q) = Dg.first (ups (q.drop k))) ∧ Hid (Below w2.heap.size w2 wr)) (fun iv _ => q.length - (intOf iv).toNat)
  case atStart => exact ⟨0, Nat.zero_le _, rfl, rfl, Below.refl _ _⟩
  case round =>
    obtain ⟨k, hk, rfl, HR, HG⟩ := hrel
    have HG1 : Hid (Below w1.heap.size w1 wr) := HG2.out.trans (HG.out.mono HG2.out.size)
    by_cases hlt : k < q.length
    · obtain ⟨_, _, e9, _, hA⟩ := HR2.out.kc (Kc.below HG.out)
      cases e9
      obtain ⟨b, off, rfl, d0, d1, d2, d3, d4⟩ := ups_at hA k hlt
      have hx := (HAPP.out _ (uvD_mem q k hlt)).below HG.out
      have HD1 : Hid (Wr.check (uvD q k).u = 0 → Dg.first (ups q) = Dg.first (ups (q.drop (k + 1)))) := fun h => by
        rw [HR.out, uvD_drop q k hlt]
        exact first_step _ _ h
      have HD2 : Hid (¬ Wr.check (uvD q k).u = 0 → Dg.first (ups q) = Wr.check (uvD q k).u) := fun h => by
        rw [HR.out, uvD_drop q k hlt]
        exact first_stop _ _ h
      have HC : Hid (∀ z, Below wr.heap.size wr z → Calls Tryz.prog 28 #[uvVal (uvD q k)] z fun e w' => e = .returned (.int .i64 (Wr.check (uvD q k).u)) ∧ Below wr.heap.size wr w') := fun z hz =>
        (Check_any (uvD q k).u _ _ _ z (hx.below hz).p (hx.below hz).s (hx.below hz).t hx.f hx.l).mono fun _ _ h => ⟨h.1, hz.trans (h.2.mono hz.size)⟩
      obtain ⟨a1, n1, f1, a3, n3, f3, a4, n4, f4, e1, e2, e3⟩ := hx.forms
      clear HR hx hA
      generalize uvD q k = x at *
      generalize Wr.check x.u = ck at *
      obtain ⟨⟨⟨ua, un⟩, ps, says, ts⟩, vp, vs, vt⟩ := x
      dsimp only at *
      subst e1 e2 e3
      have HBN : Hid (Below wr.heap.size wr (wr.alloc (.cells #[.int .i64 ua, .int .i64 un, .slice a1 n1 f1, .slice a3 n3 f3, .slice a4 n4 f4] 30))) := (Below.refl _ _).alloc (Nat.le_refl _) _
      by_cases hck : ck = 0
      · have HD3 : Hid _ := HD1.out hck
        subst hck
        go_wp2_with (go_at_call 28; refine Calls.mono (HC.out _ HBN.out) ?_; rintro e z1 ⟨rfl, hg1⟩)
        have HG3 : Hid (Below w2.heap.size w2 z1) := HG.out.trans (hg1.mono HG.out.size)
        go_roundw
        case rel => exact ⟨k + 1, hlt, by go_num, HD3.out, HG3.out⟩
        case measure => simp [intOf]; omega
      · have HD3 : Hid _ := HD2.out hck
        have hne : (ck != 0) = true := by simpa using hck
        have HTG2 : Hid (Dg.check (ups hq) (ups wq) = ck) := by
          show _ = _
          rw [HTG.out, HD3.out, if_pos hck]
        go_wp2_with (go_at_call 28; refine Calls.mono (HC.out _ HBN.out) ?_; rintro e z1 ⟨rfl, hg1⟩)
        go_ret
        exact ⟨by rw [HTG2.out]; rfl, HT.out _ (HG1.out.trans (hg1.mono HG1.out.size))⟩
    · have hdd : decide (k < q.length) = false := decide_eq_false hlt
      have h0 : Dg.first (ups q) = 0 := by
        rw [HR.out, List.drop_of_length_le (by omega)]
        rfl
      have HTG2 : Hid (Dg.check (ups hq) (ups wq) = Dg.together (ups hq) (ups wq)) := by
        show _ = _
        rw [HTG.out, if_neg (fun e => e h0)]
      have hct := HCT.out (Dg.first_ok.mp h0) wr HG1.out
      have HCT2 : Hid (Calls Tryz.prog 56 #[repVal (.slice ah hq.length ch) (.slice aw wq.length cw)] wr fun e w' => e = .returned (.int .i64 (Dg.together (ups hq) (ups wq))) ∧ Below w1.heap.size w1 w') := hct
      obtain ⟨c0, c1⟩ := HF.out wr HG1.out
      clear HCT hct HR h0
      go_wp2_with (go_at_call 56; refine Calls.mono HCT2.out ?_; rintro e z1 ⟨rfl, hg1⟩)
      go_ret
      exact ⟨by rw [HTG2.out]; rfl, HT.out _ hg1⟩
end Go.Proofs.YtmfaodapofamfaaGreat

/- Iterators over updates: those of a map, those of a slice; AppendSeq. -/
namespace Go.Proofs.YtmfaodapofamfaaGreat
open Go.RowKit Go.Shelf Go.Maps
attribute [local go_sem] Oper.semAt_some

abbrev UvIn (c : List Uv) := { x : Uv // x ∈ c }
abbrev inEnc {c : List Uv} (x : UvIn c) : Array Value := #[uvVal x.1]

set_option maxRecDepth 100000 in
set_option maxHeartbeats 2000000 in
/-- slices.Values's closure. -/
theorem values1_in (F : Fence) (n : Nat) (h7 : F.fn 78) (hro : F.round = none) (hn : 1 ≤ n) (l Bs n₀ b off cap : Nat) (q : List Uv) (hl : q.length ≤ 1000) (hb : b < n₀) (w0 : World) (hok : ∀ x, x ∈ q → UvOk w0 x) (J Jx : List (UvIn q) → World → Prop)
    (hY : ∀ pre x W, J pre W → pre.length < q.length → YieldAt F (n - 1) Tryz.prog l (inEnc x) W fun e W' =>
      (e = .returned (.bool true) ∧ J (pre ++ [x]) W' ∧ Below n₀ W W') ∨ (e = .returned (.bool false) ∧ Jx (pre ++ [x]) W'))
    (W : World) (hJ : AbidesFrom W.heap.size J) (hn0 : n₀ ≤ W.heap.size) (hBs : W.cell? ⟨Bs, 0, none⟩ = some (.slice (some ⟨b, off, none⟩) q.length cap)) (hc : ∀ i, i < q.length → UpIn W b (off + i * 5) (uvD q i)) (h0 : J [] W) :
    CallsIn F n Tryz.prog 78 #[.func (.yield l) #[] #[], .pointer (some ⟨Bs, 0, none⟩)] W fun e W' => (∃ v, e = .returned v) ∧
      ((∃ ys : List (UvIn q), ys.map (·.1) = q ∧ J ys W') ∨ (∃ pre : List (UvIn q), True ∧ Jx pre W')) := by
  refine callsIn_of_wp Tryz.func78 rfl h7 ?_ hro
  simp only [Tryz.ntmps78, List.size_toArray, List.length_cons, List.length_nil, Nat.reduceAdd, Nat.reduceSub, Array.replicate_succ, Array.replicate_zero, List.push_toArray, List.append_toArray, List.nil_append, List.cons_append]
  gi_wp2
  gi_loopw [7] (fun i wr => ∃ (k : Nat) (ys : List (UvIn q)), k ≤ q.length ∧ i = .int .i64 k ∧ Hid (ys.map (·.1) = q.take k) ∧ J ys wr ∧ Below n₀ W wr)
    (fun i _ => q.length - (intOf i).toNat)
  case atStart => exact ⟨0, [], Nat.zero_le _, rfl, rfl, h0, Below.refl _ _⟩
  case round =>
    obtain ⟨k, ys, hk, rfl, HYS, hJs, hnx⟩ := hrel
    by_cases hlt : k < q.length
    · have hin := hc k hlt
      have HLE : Hid (ys.length = k) := by
        have := congrArg List.length HYS.out
        rw [List.length_map, List.length_take] at this
        show _ = _
        omega
      obtain ⟨c0, c1, c2, c3, c4⟩ : UpIn wr b (off + k * 5) (uvD q k) := ⟨(hnx.cell (p := ⟨b, _, none⟩) hb).trans hin.1, (hnx.cell (p := ⟨b, _, none⟩) hb).trans hin.2.1, (hnx.cell (p := ⟨b, _, none⟩) hb).trans hin.2.2.1, (hnx.cell (p := ⟨b, _, none⟩) hb).trans hin.2.2.2.1, (hnx.cell (p := ⟨b, _, none⟩) hb).trans hin.2.2.2.2⟩
      have hmem := uvD_mem q k hlt
      obtain ⟨a1, n1, d1, a2, n2, d2, a3, n3, d3, e1, e2, e3⟩ := (hok _ hmem).forms
      have HST : Hid (q.take (k + 1) = q.take k ++ [uvD q k]) := uvD_take q k hlt
      generalize uvD q k = x at *
      obtain ⟨⟨⟨ua, un⟩, ps, says, ts⟩, vp, vs, vt⟩ := x
      dsimp only at *
      subst e1 e2 e3
      have hJ2 := hJ ys wr (wr.alloc (.cells #[.int .i64 ua, .int .i64 un, .slice a1 n1 d1, .slice a2 n2 d2, .slice a3 n3 d3] 30)) none hJs (World.grownBy_alloc _ _ _) (fun r e => by cases e)
      obtain ⟨fn, tmps, assign, body, hy, hR⟩ := hY ys ⟨⟨⟨⟨ua, un⟩, ps, says, ts⟩, .slice a1 n1 d1, .slice a2 n2 d2, .slice a3 n3 d3⟩, hmem⟩ _ hJ2 (by rw [HLE.out]; exact hlt)
      have hnx2 : Below n₀ W (wr.alloc (.cells #[.int .i64 ua, .int .i64 un, .slice a1 n1 d1, .slice a2 n2 d2, .slice a3 n3 d3] 30)) := hnx.alloc (Nat.le_trans hn0 hnx.size) _
      dsimp only [inEnc] at hy hR
      clear hJ2 hin
      gi_wp2
      refine hR.mono ?_
      rintro e W3 (⟨rfl, hJ3, hk3⟩ | ⟨rfl, hJx3⟩)
      · have HYS3 : Hid ((ys ++ [(⟨⟨⟨⟨ua, un⟩, ps, says, ts⟩, .slice a1 n1 d1, .slice a2 n2 d2, .slice a3 n3 d3⟩, hmem⟩ : UvIn q)]).map (·.1) = q.take (k + 1)) := by
          show _ = _
          rw [List.map_append, HYS.out, HST.out]
          rfl
        gi_wp2
        go_roundw
        case rel => exact ⟨k + 1, _, by omega, by go_num, HYS3.out, hJ3, hnx2.trans hk3⟩
        case measure => simp [intOf]; omega
      · gi_wp2
        refine bodyPost_ret (results_none rfl _ _ _) rfl ?_
        exact ⟨⟨_, rfl⟩, .inr ⟨_, trivial, hJx3⟩⟩
    · obtain rfl : k = q.length := by omega
      gi_wp2
      go_end0
      exact ⟨⟨_, rfl⟩, .inl ⟨ys, by rw [HYS.out, List.take_length], hJs⟩⟩

/-- slices.Values(l) hands back what gives them one by one. -/
theorem values_stops (F : Fence) (n : Nat) (h7 : F.fn 78) (hro : F.round = none) (hn : 1 ≤ n) (Bs n₀ : Nat) (ao : Option Addr) (cap : Nat) (q : List Uv) (hl : q.length ≤ 1000) (w : World) (hok : ∀ x, x ∈ q → UvOk w x) (hn₀ : n₀ ≤ w.heap.size)
    (hBs : w.heap[Bs]? = some (.cells #[.slice ao q.length cap] 22)) (hA : UpsAt w ao q) (hlow : ∀ b off, ao = some ⟨b, off, none⟩ → q ≠ [] → b < n₀) :
    SeqStopsK F n Tryz.prog 78 #[.pointer (some ⟨Bs, 0, none⟩)] (fun x : UvIn q => inEnc x) (Below n₀) (fun ys => ys.map (·.1) = q) (fun _ => True) q.length w := fun l J Jx W hW hJ _ hY h0 => by
  have hc' : W.cell? ⟨Bs, 0, none⟩ = some (.slice ao q.length cap) := by
    rw [Lib.cell_of_heap ((hW.block Bs (Array.getElem?_eq_some_iff.mp hBs).1).trans hBs)]
    rfl
  by_cases hq : q = []
  · -- no round
    subst hq
    have hc2 : W.cell? ⟨Bs, 0, none⟩ = some (.slice ao 0 cap) := hc'
    refine callsIn_of_wp Tryz.func78 rfl h7 ?_ hro
    simp only [Tryz.ntmps78, List.size_toArray, List.length_cons, List.length_nil, Nat.reduceAdd, Nat.reduceSub, Array.replicate_succ, Array.replicate_zero, List.push_toArray, List.append_toArray, List.nil_append, List.cons_append]
    gi_wp2
    gi_loopw [7] (fun i wr => i = .int .i64 0 ∧ J [] wr) (fun _ _ => 0)
    case atStart => exact ⟨rfl, h0⟩
    case round =>
      obtain ⟨rfl, hJs⟩ := hrel
      gi_wp2
      go_end0
      exact ⟨⟨_, rfl⟩, .inl ⟨[], rfl, hJs⟩⟩
  · rcases hA with h | ⟨b, off, rfl, hc⟩
    · exact absurd h hq
    · exact values1_in F n h7 hro hn l Bs n₀ b off cap q hl (hlow b off rfl hq) w hok J Jx hY W hJ (Nat.le_trans hn₀ hW.size) hc' (fun i hi => (Kc.below hW).up (hc i hi)) h0

/-- What has come of a map's. -/
structure Came (c : List Uv) (left : Lit → Bool) (xs : List Uv) : Prop where
  nd : xs.Nodup
  mem : ∀ x, x ∈ xs → x ∈ c ∧ left (keyLit x.u.id) = false
  rest : ∀ x, x ∈ c → left (keyLit x.u.id) = true ∨ x ∈ xs
theorem cm_nodup {c : List Uv} (h : ((ups c).map Wr.Up.id).Nodup) : c.Nodup := by
  unfold ups at h
  rw [List.map_map] at h
  exact (List.pairwise_map.mp h).imp (fun h e => h (by rw [e]))
theorem Came.perm {c xs : List Uv} {left : Lit → Bool} (h : Came c left xs) (hc : c.Nodup) (hl : ∀ k, left k = false) : xs.Perm c :=
  (List.perm_ext_iff_of_nodup h.nd hc).mpr fun x => ⟨fun hx => (h.mem x hx).1, fun hx => by
    rcases h.rest x hx with h1 | h1
    · rw [hl] at h1; cases h1
    · exact h1⟩
theorem sameKey_self (x : Wr.Id) : (keyLit x).sameKey (keyLit x) = true := by simp [keyLit, Lit.sameKey]
theorem Came.step {c xs : List Uv} {D : DataW Value} {left : Lit → Bool} (hD : CmD c D) (h : Came c left xs) {y : Uv} (hy : y ∈ c) (hl : left (keyLit y.u.id) = true) : Came c (fun z => left z && !z.sameKey (keyLit y.u.id)) (xs ++ [y]) := by
  have hny : y ∉ xs := fun hx => by have := (h.mem y hx).2; rw [hl] at this; cases this
  refine ⟨?_, fun x hx => ?_, fun x hx => ?_⟩
  · rw [List.nodup_append]
    exact ⟨h.nd, by simp, fun a ha b hb e => by rw [List.mem_singleton.mp hb] at e; exact hny (e ▸ ha)⟩
  · rcases List.mem_append.mp hx with hx | hx
    · exact ⟨(h.mem x hx).1, by rw [(h.mem x hx).2]; rfl⟩
    · rw [List.mem_singleton.mp hx]
      exact ⟨hy, by rw [sameKey_self]; simp⟩
  · rcases h.rest x hx with h1 | h1
    · by_cases e : x.u.id = y.u.id
      · right
        have : x.u = y.u := Dg.apart_of_nodup hD.apart x.u y.u (List.mem_map.mpr ⟨x, hx, rfl⟩) (List.mem_map.mpr ⟨y, hy, rfl⟩) e
        have hxy : x = y := by
          have h2 := hD.at_ x hx (.lit (.bool true))
          have h3 := hD.at_ y hy (.lit (.bool true))
          rw [e, h3] at h2
          injection h2 with h2
          injection h2 with h2
          obtain ⟨xu, xp, xs, xt⟩ := x
          obtain ⟨yu, yp, ys, yt⟩ := y
          dsimp only at this
          subst this
          simp only [Array.mk.injEq, List.cons.injEq, and_true, true_and] at h2
          obtain ⟨rfl, rfl, rfl⟩ := h2
          rfl
        rw [hxy]
        simp
      · left
        have hne : keyLit x.u.id ≠ keyLit y.u.id := fun e2 => e (keyLit_inj (hD.ok x hx) (hD.ok y hy) e2)
        rw [h1, sameKey_ne hne]
        rfl
    · exact .inr (List.mem_append_left _ h1)

set_option maxRecDepth 100000 in
set_option maxHeartbeats 2000000 in
/-- maps.Values's closure. -/
theorem mvalues1_in (F : Fence) (n : Nat) (h7 : F.fn 77) (hro : F.round = none) (hn : 1 ≤ n) (l Bm b : Nat) (c : List Uv) (D : DataW Value) (hD : CmD c D) (J Jx : List (UvIn c) → World → Prop)
    (hY : ∀ pre x W, J pre W → pre.length < c.length → YieldAt F (n - 1) Tryz.prog l (inEnc x) W fun e W' =>
      (e = .returned (.bool true) ∧ J (pre ++ [x]) W' ∧ KeepsWalks W W') ∨ (e = .returned (.bool false) ∧ Jx (pre ++ [x]) W'))
    (W : World) (hJ : AbidesFrom W.heap.size J) (hm : W.cell? ⟨Bm, 0, none⟩ = some (.map (some b))) (hown : W.ownsMap Tryz.prog 26 uvElem b c.length D) (h0 : J [] W) :
    CallsIn F n Tryz.prog 77 #[.func (.yield l) #[] #[], .pointer (some ⟨Bm, 0, none⟩)] W fun e W' => (∃ v, e = .returned v) ∧
      ((∃ ys : List (UvIn c), (ys.map (·.1)).Perm c ∧ J ys W') ∨ (∃ pre : List (UvIn c), True ∧ Jx pre W')) := by
  refine callsIn_of_wp Tryz.func77 rfl h7 ?_ hro
  simp only [Tryz.ntmps77, List.size_toArray, List.length_cons, List.length_nil, Nat.reduceAdd, Nat.reduceSub, Array.replicate_succ, Array.replicate_zero, List.push_toArray, List.append_toArray, List.nil_append, List.cons_append]
  gi_wp2_with (first
    | (gi_at_range; refine wpListIn_range_own _ rfl _ 64 rfl 26 30 idLaw Tryz.underlying64 _ b c.length _ rfl hown ?_; intro w0 hrg0 hg0 hs0)
    | gi_in)
  go_frame
  gi_loopw [4] (fun _ wr => ∃ (left : Lit → Bool) (cnt : Nat) (ys : List (UvIn c)), wr.ranges Tryz.prog 26 uvElem b W.heap.size c.length D left cnt ∧ ys.length + cnt ≤ c.length ∧ Hid (Came c left (ys.map (·.1))) ∧ J ys wr)
    (fun _ wr => wr.rangeLeft b W.heap.size)
  case atStart =>
    exact ⟨_, _, [], hrg0, by rw [hD.size]; simp, ⟨List.nodup_nil, fun x hx => absurd hx (by simp), fun x hx => .inl (by rw [hD.has _ (hD.ok x hx)]; exact Dg.hasU_iff.mpr ⟨x.u, List.mem_map.mpr ⟨x, hx, rfl⟩, rfl⟩)⟩, hJ [] W w0 none h0 hg0 (fun r e => by cases e)⟩
  case round =>
    obtain ⟨left, cnt, ys, hrg, hcs, HC, hJs⟩ := hrel
    gi_wp2_with (first
      | (gi_at_next; refine wpListIn_next_ranges _ rfl _ rfl 26 idLaw uvElem (fun v : Value => v) fiveVal (fun key kl hk => ⟨key, rfl⟩) (fun v y hv => (uvElem_inv hv).1) b W.heap.size c.length _ _ _ rfl hrg ?_ ?_)
      | gi_in)
    · intro hc0 hl0
      gi_wp2
      go_end0
      exact ⟨⟨_, rfl⟩, .inl ⟨ys, HC.out.perm (cm_nodup hD.apart) hl0, hJs⟩⟩
    · intro x f kl yd yp w2 cnt2 hkey hlk hv hat hrg2 hlt hg2 hs2 hen
      obtain ⟨y, hy, rfl⟩ := hD.only kl (has_true_of_atKey hat)
      have hey : fiveVal f = uvVal y := by
        have h1 := (uvElem_inv hv).2
        have h2 := hat (.lit (.bool true))
        rw [hD.at_ y hy] at h2
        have h3 : yd = .held (fiveVal f) := (Prod.mk.inj h1).1
        rw [h3] at h2
        injection h2 with h2
        exact h2.symm
      have HC2 : Hid (Came c (fun z => left z && !z.sameKey (keyLit y.u.id)) (ys.map (·.1) ++ [y])) := HC.out.step hD hy hlk
      have hJ2 : J ys w2 := hJ _ wr w2 (some W.heap.size) hJs hg2 (fun r e => by cases e; exact ⟨Nat.le_refl _, hrg.iter_walk⟩)
      obtain ⟨ua, un, a1, n1, d1, a2, n2, d2, a3, n3, d3⟩ := f
      have HCnt : Hid (ys.length < c.length) := by show _ < _; omega
      clear hat hv hkey hlk hs2
      have HYT : Hid (hy = hy) := rfl
      generalize hkk : keyLit y.u.id = kl at *
      clear hkk
      obtain ⟨⟨⟨ya, yn⟩, ps, says, ts⟩, vp, vs, vt⟩ := y
      simp only [fiveVal, uvVal, Value.agg.injEq, Array.mk.injEq, List.cons.injEq, Value.int.injEq, and_true, true_and] at hey
      obtain ⟨rfl, rfl, rfl, rfl, rfl⟩ := hey
      have hJ3 := hJ ys w2 (w2.alloc (.cells #[.int .i64 ua, .int .i64 un, .slice a1 n1 d1, .slice a2 n2 d2, .slice a3 n3 d3] 30)) none hJ2 (World.grownBy_alloc _ _ _) (fun r e => by cases e)
      obtain ⟨fn, tmps, assign, body, hyy, hR⟩ := hY ys ⟨⟨⟨⟨ua, un⟩, ps, says, ts⟩, .slice a1 n1 d1, .slice a2 n2 d2, .slice a3 n3 d3⟩, hy⟩ _ hJ3 HCnt.out
      have hrg3 := hrg2.alloc (.cells #[.int .i64 ua, .int .i64 un, .slice a1 n1 d1, .slice a2 n2 d2, .slice a3 n3 d3] 30)
      dsimp only [inEnc] at hyy hR
      clear hJ2 hJ3 HYT
      gi_wp2
      refine hR.mono ?_
      rintro e W3 (⟨rfl, hJ4, hk3⟩ | ⟨rfl, hJx3⟩)
      · gi_wp2
        have hrg4 := hrg3.of_walks hk3
        go_roundw
        case rel => exact ⟨_, cnt2, _, hrg4, by simp; omega, by rw [List.map_append]; exact HC2.out, hJ4⟩
        case measure => rw [hrg4.left_eq, hrg.left_eq]; exact hlt
      · gi_wp2
        refine bodyPost_ret (results_none rfl _ _ _) rfl ?_
        exact ⟨⟨_, rfl⟩, .inr ⟨_, trivial, hJx3⟩⟩
/-- maps.Values(m) hands back what gives them one by one, in some order. -/
theorem mvalues_stops (F : Fence) (n : Nat) (h7 : F.fn 77) (hro : F.round = none) (hn : 1 ≤ n) (Bm b : Nat) (c : List Uv) (w : World) (hM : CmAt w b c) (hBm : w.heap[Bm]? = some (.cells #[.map (some b)] 64)) :
    SeqStopsK F n Tryz.prog 77 #[.pointer (some ⟨Bm, 0, none⟩)] (fun x : UvIn c => inEnc x) KeepsWalks (fun ys => (ys.map (·.1)).Perm c) (fun _ => True) c.length w := fun l J Jx W hW hJ _ hY h0 => by
  obtain ⟨D, h1, h2⟩ := hM.below hW
  exact mvalues1_in F n h7 hro hn l Bm b c D h2 J Jx hY W hJ (by rw [Lib.cell_of_heap ((hW.block Bm (Array.getElem?_eq_some_iff.mp hBm).1).trans hBm)]; rfl) h1 h0
end Go.Proofs.YtmfaodapofamfaaGreat

/- The contract of the library sort of updates, laid at this program. -/
namespace Go.Proofs
open Go.Shelf
def Tryz.sortU_ren : Go.Shelf.Ren := ⟨fun | 6 => 107 | 15 => 117 | 14 => 116 | 28 => 127 | 29 => 128 | 20 => 119 | 21 => 120 | 22 => 121 | 23 => 122 | 24 => 123 | 25 => 124 | 26 => 125 | 27 => 126 | 46 => 137 | 47 => 138 | 48 => 139 | 49 => 140 | 50 => 141 | 57 => 145 | n => n, fun | 22 => 22 | 24 => 30 | 25 => 110 | 3 => 3 | 39 => 136 | 0 => 0 | 53 => 151 | 55 => 153 | 4 => 4 | 46 => 145 | 45 => 144 | 50 => 119 | 5 => 5 | 9 => 9 | 66 => 159 | 70 => 163 | 76 => 167 | 77 => 168 | n => n, fun | n => n⟩
theorem Tryz.sortU : Go.Proofs.SlLaysF0.n6 Tryz.prog Tryz.sortU_ren := {
  mixed := by kernel_rfl
  f6 := ⟨Tryz.f107.name, by decide, Tryz.func107.trans (congrArg some (by kernel_rfl))⟩
  f14 := ⟨Tryz.f116.name, by decide, Tryz.func116.trans (congrArg some (by kernel_rfl))⟩
  f15 := Tryz.func117.trans (congrArg some (by kernel_rfl))
  f20 := ⟨Tryz.f119.name, by decide, Tryz.func119.trans (congrArg some (by kernel_rfl))⟩
  f21 := ⟨Tryz.f120.name, by decide, Tryz.func120.trans (congrArg some (by kernel_rfl))⟩
  f22 := ⟨Tryz.f121.name, by decide, Tryz.func121.trans (congrArg some (by kernel_rfl))⟩
  f23 := ⟨Tryz.f122.name, by decide, Tryz.func122.trans (congrArg some (by kernel_rfl))⟩
  f24 := ⟨Tryz.f123.name, by decide, Tryz.func123.trans (congrArg some (by kernel_rfl))⟩
  f25 := ⟨Tryz.f124.name, by decide, Tryz.func124.trans (congrArg some (by kernel_rfl))⟩
  f26 := ⟨Tryz.f125.name, by decide, Tryz.func125.trans (congrArg some (by kernel_rfl))⟩
  f27 := ⟨Tryz.f126.name, by decide, Tryz.func126.trans (congrArg some (by kernel_rfl))⟩
  f28 := Tryz.func127.trans (congrArg some (by kernel_rfl))
  f29 := Tryz.func128.trans (congrArg some (by kernel_rfl))
  f46 := ⟨Tryz.f137.name, by decide, Tryz.func137.trans (congrArg some (by kernel_rfl))⟩
  f47 := Tryz.func138.trans (congrArg some (by kernel_rfl))
  f48 := Tryz.func139.trans (congrArg some (by kernel_rfl))
  f49 := ⟨Tryz.f140.name, by decide, Tryz.func140.trans (congrArg some (by kernel_rfl))⟩
  f50 := ⟨Tryz.f141.name, by decide, Tryz.func141.trans (congrArg some (by kernel_rfl))⟩
  f57 := ⟨Tryz.f145.name, by decide, Tryz.func145.trans (congrArg some (by kernel_rfl))⟩
  t0 := Tryz.underlying0
  a0 := Tryz.isAgg0
  z0 := Tryz.sizeOf0
  v0 := Tryz.zeroValue0
  t3 := Tryz.underlying3
  a3 := Tryz.isAgg3
  z3 := Tryz.sizeOf3
  v3 := Tryz.zeroValue3
  t4 := Tryz.underlying4
  a4 := Tryz.isAgg4
  z4 := Tryz.sizeOf4
  v4 := Tryz.zeroValue4
  t5 := Tryz.underlying5
  a5 := Tryz.isAgg5
  z5 := Tryz.sizeOf5
  v5 := Tryz.zeroValue5
  t9 := Tryz.underlying9
  a9 := Tryz.isAgg9
  z9 := Tryz.sizeOf9
  v9 := Tryz.zeroValue9
  t22 := Tryz.underlying22
  a22 := Tryz.isAgg22
  z22 := Tryz.sizeOf22
  v22 := Tryz.zeroValue22
  t25 := Tryz.underlying110
  a25 := Tryz.isAgg110
  z25 := Tryz.sizeOf110
  v25 := Tryz.zeroValue110
  t39 := Tryz.underlying136
  a39 := Tryz.isAgg136
  z39 := Tryz.sizeOf136
  v39 := Tryz.zeroValue136
  t45 := Tryz.underlying144
  a45 := Tryz.isAgg144
  z45 := Tryz.sizeOf144
  v45 := Tryz.zeroValue144
  t46 := Tryz.underlying145
  a46 := Tryz.isAgg145
  z46 := Tryz.sizeOf145
  v46 := Tryz.zeroValue145
  t50 := Tryz.underlying119
  a50 := Tryz.isAgg119
  z50 := Tryz.sizeOf119
  v50 := Tryz.zeroValue119
  t53 := Tryz.underlying151
  a53 := Tryz.isAgg151
  z53 := Tryz.sizeOf151
  v53 := Tryz.zeroValue151
  t55 := Tryz.underlying153
  a55 := Tryz.isAgg153
  z55 := Tryz.sizeOf153
  v55 := Tryz.zeroValue153
  t66 := Tryz.underlying159
  a66 := Tryz.isAgg159
  z66 := Tryz.sizeOf159
  v66 := Tryz.zeroValue159
  t70 := Tryz.underlying163
  a70 := Tryz.isAgg163
  z70 := Tryz.sizeOf163
  v70 := Tryz.zeroValue163
  t76 := Tryz.underlying167
  a76 := Tryz.isAgg167
  z76 := Tryz.sizeOf167
  v76 := Tryz.zeroValue167
  t77 := Tryz.underlying168
  a77 := Tryz.isAgg168
  z77 := Tryz.sizeOf168
  v77 := Tryz.zeroValue168 }
end Go.Proofs

/- The library's Clone, of updates, facts and ids. -/
namespace Go.Proofs.YtmfaodapofamfaaGreat
open Go.RowKit

/-- Cells that lie one behind the other. -/
def CellsAt (w : World) (ao : Option Addr) (xs : List Value) : Prop := xs = [] ∨ ∃ b off, ao = some ⟨b, off, none⟩ ∧ ∀ j u, xs[j]? = some u → w.cell? ⟨b, off + j, none⟩ = some u
abbrev idCells (x : Wr.Id) : List Value := [.int .i64 x.a, .int .i64 x.n]
theorem id_info : (Tryz.prog.info? 26).map (fun i => (i.zero, i.size, i.bytes)) = some (some (.agg #[.int .i64 0, .int .i64 0]), 2, 16) := by kernel_rfl
set_option maxRecDepth 100000 in
set_option maxHeartbeats 1000000 in
theorem cloneU_any (n : Nat) (xs : List Value) (ao : Option Addr) (cap : Nat) (w : World) (hA : CellsAt w ao xs) (hx : xs.length = n * 5) (h1 : ∀ u, u ∈ xs → u.oneCell' = true) (hn : n ≤ 1048576) (h0 : ao = none → n = 0) :
    Calls Tryz.prog 80 #[.slice ao n cap] w fun e w' => ∃ v', e = .returned v' ∧ w'.ownsRow w.heap.size 30 5 v' n xs ∧ Below w.heap.size w w' := by
  obtain ⟨i0, hi, hz0, hz1, hz2⟩ := info_parts up_info
  have q22 : ∀ (w : World) (a : Option Addr) (n c : Nat), (binOp .eql 22 (.slice a n c) (.slice none 0 0)).run Tryz.prog w = .ok (.bool a.isNone) w := fun w a n c => Lib.run_eql_slice_nil w 22 30 a n c 0 0 Tryz.underlying22
  have u22 : ∀ w, Sem.run Tryz.prog (underlying 22) w = .ok (TypeDesc.slice 30) w := run_underlying Tryz.underlying22
  have HA : Hid (CellsAt w ao xs) := hA
  have HX : Hid (xs.length = n * 5) := hx
  have H1 : Hid (∀ u, u ∈ xs → u.oneCell' = true) := h1
  clear hA hx h1
  cases ao with
  | none =>
    have hl0 : n = 0 := h0 rfl
    subst hl0
    have HE : Hid (xs = []) := List.eq_nil_of_length_eq_zero (by have := HX.out; omega)
    go_enter Tryz.func80, Tryz.ntmps80
    go_wp2_with fail
    go_ret
    exact ⟨_, rfl, by rw [HE.out]; exact World.ownsRow_nil _ _ _ _, Below.refl _ _⟩
  | some a =>
    clear h0
    have HC : Hid (∀ j u, xs[j]? = some u → w.cell? (a.add j) = some u) := by
      intro j u hj
      rcases HA.out with h | ⟨b, off, h, hc⟩
      · rw [h] at hj; simp at hj
      · rw [Option.some.inj h, Addr.add_lit]
        exact hc j u hj
    clear HA
    go_enter Tryz.func80, Tryz.ntmps80
    go_wp2_with (at_builtin; refine wpList_append_own _ rfl _ _ 22 rfl w.heap.size 30 i0 _ 5 88 Tryz.underlying22 hi hz0 hz1 hz2 rfl (by decide) _ _ _ rfl (World.ownsRow_made w #[] 0 (Nat.le_refl _) (Nat.zero_le _) (by simp)) a n cap xs rfl ?qc1 ?qc2 ?qc3 ?qc4 ?qc5 ?qc6 ?_)
    case qc1 => exact HX.out
    case qc2 =>
      intro j u hj
      exact Lib.cell?_alloc_some _ (HC.out j u hj)
    case qc3 => exact H1.out
    case qc4 => unfold maxLen; omega
    case qc5 => omega
    case qc6 => simp
    intro v' w' hown hgrow _
    obtain ⟨a9, c9, rfl⟩ := own_slice hown
    have hb : Below w.heap.size w w' := ((Below.refl w.heap.size w).alloc (Nat.le_refl _) _).grown hgrow (by simp) (fun k hk => by
      have : w.heap.size = k := by simpa [Value.ownBlock] using hk
      omega)
    have HO : Hid (w'.ownsRow w.heap.size 30 5 (.slice a9 n c9) n xs) := hown
    clear hown hgrow
    go_wp2_with fail
    go_ret
    exact ⟨_, rfl, HO.out, hb⟩
set_option maxRecDepth 100000 in
set_option maxHeartbeats 1000000 in
theorem cloneF_any (n : Nat) (xs : List Value) (ao : Option Addr) (cap : Nat) (w : World) (hA : CellsAt w ao xs) (hx : xs.length = n * 2) (h1 : ∀ u, u ∈ xs → u.oneCell' = true) (hn : n ≤ 1048576) (h0 : ao = none → n = 0) :
    Calls Tryz.prog 94 #[.slice ao n cap] w fun e w' => ∃ v', e = .returned v' ∧ w'.ownsRow w.heap.size 84 2 v' n xs ∧ Below w.heap.size w w' := by
  obtain ⟨i0, hi, hz0, hz1, hz2⟩ := info_parts rl_info49
  have q22 : ∀ (w : World) (a : Option Addr) (n c : Nat), (binOp .eql 28 (.slice a n c) (.slice none 0 0)).run Tryz.prog w = .ok (.bool a.isNone) w := fun w a n c => Lib.run_eql_slice_nil w 28 84 a n c 0 0 Tryz.underlying28
  have u22 : ∀ w, Sem.run Tryz.prog (underlying 28) w = .ok (TypeDesc.slice 84) w := run_underlying Tryz.underlying28
  have HA : Hid (CellsAt w ao xs) := hA
  have HX : Hid (xs.length = n * 2) := hx
  have H1 : Hid (∀ u, u ∈ xs → u.oneCell' = true) := h1
  clear hA hx h1
  cases ao with
  | none =>
    have hl0 : n = 0 := h0 rfl
    subst hl0
    have HE : Hid (xs = []) := List.eq_nil_of_length_eq_zero (by have := HX.out; omega)
    go_enter Tryz.func94, Tryz.ntmps94
    go_wp2_with fail
    go_ret
    exact ⟨_, rfl, by rw [HE.out]; exact World.ownsRow_nil _ _ _ _, Below.refl _ _⟩
  | some a =>
    clear h0
    have HC : Hid (∀ j u, xs[j]? = some u → w.cell? (a.add j) = some u) := by
      intro j u hj
      rcases HA.out with h | ⟨b, off, h, hc⟩
      · rw [h] at hj; simp at hj
      · rw [Option.some.inj h, Addr.add_lit]
        exact hc j u hj
    clear HA
    go_enter Tryz.func94, Tryz.ntmps94
    go_wp2_with (at_builtin; refine wpList_append_own _ rfl _ _ 28 rfl w.heap.size 84 i0 _ 2 32 Tryz.underlying28 hi hz0 hz1 hz2 rfl (by decide) _ _ _ rfl (World.ownsRow_made w #[] 0 (Nat.le_refl _) (Nat.zero_le _) (by simp)) a n cap xs rfl ?qc1 ?qc2 ?qc3 ?qc4 ?qc5 ?qc6 ?_)
    case qc1 => exact HX.out
    case qc2 =>
      intro j u hj
      exact Lib.cell?_alloc_some _ (HC.out j u hj)
    case qc3 => exact H1.out
    case qc4 => unfold maxLen; omega
    case qc5 => omega
    case qc6 => simp
    intro v' w' hown hgrow _
    obtain ⟨a9, c9, rfl⟩ := own_slice hown
    have hb : Below w.heap.size w w' := ((Below.refl w.heap.size w).alloc (Nat.le_refl _) _).grown hgrow (by simp) (fun k hk => by
      have : w.heap.size = k := by simpa [Value.ownBlock] using hk
      omega)
    have HO : Hid (w'.ownsRow w.heap.size 84 2 (.slice a9 n c9) n xs) := hown
    clear hown hgrow
    go_wp2_with fail
    go_ret
    exact ⟨_, rfl, HO.out, hb⟩
set_option maxRecDepth 100000 in
set_option maxHeartbeats 1000000 in
theorem cloneD_any (n : Nat) (xs : List Value) (ao : Option Addr) (cap : Nat) (w : World) (hA : CellsAt w ao xs) (hx : xs.length = n * 2) (h1 : ∀ u, u ∈ xs → u.oneCell' = true) (hn : n ≤ 1048576) (h0 : ao = none → n = 0) :
    Calls Tryz.prog 96 #[.slice ao n cap] w fun e w' => ∃ v', e = .returned v' ∧ w'.ownsRow w.heap.size 26 2 v' n xs ∧ Below w.heap.size w w' := by
  obtain ⟨i0, hi, hz0, hz1, hz2⟩ := info_parts id_info
  have q22 : ∀ (w : World) (a : Option Addr) (n c : Nat), (binOp .eql 27 (.slice a n c) (.slice none 0 0)).run Tryz.prog w = .ok (.bool a.isNone) w := fun w a n c => Lib.run_eql_slice_nil w 27 26 a n c 0 0 Tryz.underlying27
  have u22 : ∀ w, Sem.run Tryz.prog (underlying 27) w = .ok (TypeDesc.slice 26) w := run_underlying Tryz.underlying27
  have HA : Hid (CellsAt w ao xs) := hA
  have HX : Hid (xs.length = n * 2) := hx
  have H1 : Hid (∀ u, u ∈ xs → u.oneCell' = true) := h1
  clear hA hx h1
  cases ao with
  | none =>
    have hl0 : n = 0 := h0 rfl
    subst hl0
    have HE : Hid (xs = []) := List.eq_nil_of_length_eq_zero (by have := HX.out; omega)
    go_enter Tryz.func96, Tryz.ntmps96
    go_wp2_with fail
    go_ret
    exact ⟨_, rfl, by rw [HE.out]; exact World.ownsRow_nil _ _ _ _, Below.refl _ _⟩
  | some a =>
    clear h0
    have HC : Hid (∀ j u, xs[j]? = some u → w.cell? (a.add j) = some u) := by
      intro j u hj
      rcases HA.out with h | ⟨b, off, h, hc⟩
      · rw [h] at hj; simp at hj
      · rw [Option.some.inj h, Addr.add_lit]
        exact hc j u hj
    clear HA
    go_enter Tryz.func96, Tryz.ntmps96
    go_wp2_with (at_builtin; refine wpList_append_own _ rfl _ _ 27 rfl w.heap.size 26 i0 _ 2 16 Tryz.underlying27 hi hz0 hz1 hz2 rfl (by decide) _ _ _ rfl (World.ownsRow_made w #[] 0 (Nat.le_refl _) (Nat.zero_le _) (by simp)) a n cap xs rfl ?qc1 ?qc2 ?qc3 ?qc4 ?qc5 ?qc6 ?_)
    case qc1 => exact HX.out
    case qc2 =>
      intro j u hj
      exact Lib.cell?_alloc_some _ (HC.out j u hj)
    case qc3 => exact H1.out
    case qc4 => unfold maxLen; omega
    case qc5 => omega
    case qc6 => simp
    intro v' w' hown hgrow _
    obtain ⟨a9, c9, rfl⟩ := own_slice hown
    have hb : Below w.heap.size w w' := ((Below.refl w.heap.size w).alloc (Nat.le_refl _) _).grown hgrow (by simp) (fun k hk => by
      have : w.heap.size = k := by simpa [Value.ownBlock] using hk
      omega)
    have HO : Hid (w'.ownsRow w.heap.size 26 2 (.slice a9 n c9) n xs) := hown
    clear hown hgrow
    go_wp2_with fail
    go_ret
    exact ⟨_, rfl, HO.out, hb⟩

theorem ids_flat (l : List Wr.Id) : (l.map idCells).flatten.length = l.length * 2 := by
  induction l with
  | nil => rfl
  | cons a r ih =>
    rw [List.map_cons, List.flatten_cons, List.length_append, ih]
    show 2 + r.length * 2 = (r.length + 1) * 2
    omega
theorem flatD_get : ∀ (q : List Wr.Id) (i j : Nat), i < q.length → j < 2 → (q.map idCells).flatten[i * 2 + j]? = (idCells (idD q i))[j]?
  | [], i, j, hi, _ => absurd hi (by simp)
  | x :: r, 0, j, _, hj => by
    show (idCells x ++ (r.map idCells).flatten)[0 * 2 + j]? = (idCells x)[j]?
    rw [List.getElem?_append_left (by show 0 * 2 + j < 2; omega)]
    congr 1
    omega
  | x :: r, i + 1, j, hi, hj => by
    have h := flatD_get r i j (by simpa using hi) hj
    show (idCells x ++ (r.map idCells).flatten)[(i + 1) * 2 + j]? = _
    rw [List.getElem?_append_right (by show 2 ≤ _; omega)]
    have e : (i + 1) * 2 + j - (idCells x).length = i * 2 + j := by show (i + 1) * 2 + j - 2 = _; omega
    rw [e, h]
    rfl
theorem ids_cells {w : World} {ao : Option Addr} {l : List Wr.Id} (h : IdsAt w ao l) : CellsAt w ao (l.map idCells).flatten := by
  rcases h with rfl | ⟨b, off, rfl, h⟩
  · exact .inl rfl
  · refine .inr ⟨b, off, rfl, fun j u hj => ?_⟩
    have hjl : j < l.length * 2 := by
      rcases Nat.lt_or_ge j (l.length * 2) with h2 | h2
      · exact h2
      · rw [List.getElem?_eq_none (by rw [ids_flat]; exact h2)] at hj; cases hj
    have hi : j / 2 < l.length := by omega
    have e : j = j / 2 * 2 + j % 2 := by omega
    have hm : j % 2 < 2 := by omega
    rw [e, flatD_get l _ _ hi hm] at hj
    have eo : off + j = off + j / 2 * 2 + j % 2 := by omega
    rw [eo]
    obtain ⟨h0, h1⟩ := h _ hi
    generalize j % 2 = m at *
    match m, hm with
    | 0, _ => rw [← hj]; exact h0
    | 1, _ => rw [← hj]; exact h1
theorem own_ids {W : World} {B : Nat} {v : Value} {l : List Wr.Id} (h : W.ownsRow B 26 2 v l.length (l.map idCells).flatten) : IdsV W v l := by
  obtain ⟨ao, cap, rfl, hcap, hc⟩ := own_cells h
  refine ⟨ao, cap, rfl, ⟨hcap, fun e => ?_⟩, ?_⟩
  · rcases ownsRow_forms9 h with ⟨e2, h0⟩ | ⟨g, c2, e2⟩
    · injection e2
    · injection e2 with e3
      rw [e] at e3
      cases e3
  · rcases hc with h0 | ⟨g, rfl, hg⟩
    · exact .inl (List.eq_nil_of_length_eq_zero h0)
    · refine .inr ⟨g, 0, rfl, fun i hi => ?_⟩
      have key : ∀ j, j < 2 → W.cell? ⟨g, 0 + i * 2 + j, none⟩ = (idCells (idD l i))[j]? := fun j hj => by
        rw [Nat.zero_add, hg (i * 2 + j) (by omega), flatD_get l i j hi hj]
      exact ⟨by have := key 0 (by omega); simpa using this, by have := key 1 (by omega); simpa using this⟩
/-- Clone of updates. -/
theorem cloneUps_any (q : List Uv) (v : Value) (w : World) (hV : UpsV w v q) (hok : ∀ x, x ∈ q → UvOk w x) (hl : q.length ≤ 1000) :
    Calls Tryz.prog 80 #[v] w fun e w' => ∃ v', e = .returned v' ∧ URow w' w.heap.size v' q ∧ Below w.heap.size w w' := by
  obtain ⟨ao, cap, rfl, hc, hA⟩ := hV
  refine cloneU_any q.length _ ao cap w ?_ (ups_flat q) (uv_one hok) (by omega) (fun h => by have := hc.2 h; omega)
  rcases hA with rfl | ⟨b, off, rfl, h⟩
  · exact .inl rfl
  · exact .inr ⟨b, off, rfl, ups_cells h⟩
end Go.Proofs.YtmfaodapofamfaaGreat

/- The library's sort, of updates in a row of one's own. -/
namespace Go.Proofs.YtmfaodapofamfaaGreat
open Go.Shelf Go.RowKit Go.Lib Go.Sort
abbrev UGRow (w : World) (B g cap : Nat) (q : List Uv) : Prop := w.ownsRow B 30 5 (.slice (some ⟨g, 0, none⟩) q.length cap) q.length (q.map uvCells).flatten
abbrev UvS (w : World) := { x : Uv // UvOk w x }
theorem uvOk_nil (w : World) : UvOk w uvZ := ⟨⟨none, 0, rfl, ⟨Nat.le_refl _, fun _ => rfl⟩, .inl rfl⟩, ⟨none, 0, rfl, ⟨Nat.le_refl _, fun _ => rfl⟩, .inl rfl⟩, ⟨none, 0, rfl, ⟨Nat.le_refl _, fun _ => rfl⟩, .inl rfl⟩, fun f hf => absurd hf (by simp [uvZ]), by simp [uvZ]⟩
theorem uc_at (q : List Uv) (t : Nat) (ht : t < q.length * 5) : ∃ x, q[t / 5]? = some x ∧ (q.map uvCells).flatten[t]? = (uvCells x)[t % 5]? := by
  have h1 : t / 5 < q.length := by omega
  have e : t = t / 5 * 5 + t % 5 := by omega
  refine ⟨uvD q (t / 5), ?_, ?_⟩
  · simp [uvD, List.getD_eq_getElem?_getD, h1]
  · have h := flat5_get q (t / 5) (t % 5) h1 (by omega)
    rw [← e] at h
    exact h
theorem uv_lift {w : World} : ∀ {q : List Uv}, (∀ p, p ∈ q → UvOk w p) → ∃ Q : List (UvS w), Q.map (·.1) = q := by
  intro q
  induction q with
  | nil => intro _; exact ⟨[], rfl⟩
  | cons a r ih =>
    intro h
    obtain ⟨Q, hQ⟩ := ih (fun p hp => h p (by simp [hp]))
    exact ⟨⟨a, h a (by simp)⟩ :: Q, by simp [hQ]⟩
abbrev uvInh (w : World) : Inhabited (UvS w) := ⟨⟨_, uvOk_nil w⟩⟩
def uvEnc {w : World} (x : UvS w) : List Value := uvCells x.1
def uvCmp {w : World} (x y : UvS w) : Int := Dg.uOrd x.1.u y.1.u
theorem uv_swo (w : World) : SWO (ltOf (uvCmp (w := w))) where
  irrefl x := by
    unfold ltOf uvCmp
    simp only [decide_eq_false_iff_not]
    intro h
    exact Dg.uOrd_ne h rfl
  trans x y z h1 h2 := by
    unfold ltOf uvCmp at *
    simp only [decide_eq_true_eq] at *
    exact Dg.uOrd_trans h1 h2
  ntrans x y z h1 h2 := by
    unfold ltOf uvCmp at *
    simp only [decide_eq_false_iff_not] at *
    intro h3
    rcases Classical.em (x.1.u.id = y.1.u.id) with e | e
    · unfold Dg.uOrd at *
      rw [e] at h3
      exact h2 h3
    · exact h2 (Dg.uOrd_trans (Dg.uOrd_total h1 e) h3)
theorem uv_oneS {w : World} (x : UvS w) : ∀ v ∈ uvEnc x, v.oneCell' = true := by
  intro v hv
  obtain ⟨a1, n1, d1, a2, n2, d2, a3, n3, d3, e1, e2, e3⟩ := x.2.forms
  simp only [uvEnc, uvCells, e1, e2, e3, List.mem_cons, List.not_mem_nil, or_false] at hv
  rcases hv with rfl | rfl | rfl | rfl | rfl <;> rfl
theorem cmp_laysU {w0 w : World} {g : Nat} (size : Nat) : @CmpLays (UvS w0) (uvInh w0) Tryz.prog 76 #[] uvEnc 5 uvCmp g 0 size w := by
  letI : Inhabited (UvS w0) := uvInh w0
  intro m os dk _ x y
  exact order_any x.1 y.1 _ w0 x.2 y.2
theorem holds_rowU {w0 w : World} {B g cap : Nat} {Q : List (UvS w0)} (h : UGRow w B g cap (Q.map (·.1))) : @HoldsK (UvS w0) (uvInh w0) uvEnc 5 w g 0 Q.toArray := by
  letI : Inhabited (UvS w0) := uvInh w0
  intro t ht
  have ht2 : t < Q.length * 5 := by simpa using ht
  refine ⟨?_, by rw [Nat.zero_add]; exact World.ownsRow.frozenAt h t⟩
  rw [Nat.zero_add]
  have hc := World.ownsRow.cellAt h t (by rw [List.length_map]; exact ht2)
  obtain ⟨x, hx, hx2⟩ := uc_at (Q.map (·.1)) t (by rw [List.length_map]; exact ht2)
  rw [hc, hx2]
  have h1 : t / 5 < Q.length := by omega
  rw [List.getElem?_map, List.getElem?_eq_getElem h1] at hx
  have hx3 : Q[t / 5].1 = x := by simpa using hx
  show (uvCells x)[t % 5]? = some ((flatK uvEnc 5 Q.toArray)[t]!)
  rw [get_flatK uvEnc 5 Q.toArray t (by simpa using ht2)]
  have h2 : (Q.toArray)[t / 5]! = Q[t / 5] := by simp [h1]
  rw [h2]
  show _ = some ((uvCells Q[t / 5].1)[t % 5]!)
  rw [hx3]
  have h3 : t % 5 < (uvCells x).length := by show t % 5 < 5; omega
  rw [List.getElem?_eq_getElem h3, getElem!_pos (uvCells x) (t % 5) h3]
theorem row_sortedU {w0 w : World} {B g cap n : Nat} {Q : List (UvS w0)} {d : Array (UvS w0)} {os : Array Obj} (h : UGRow w B g cap (Q.map (·.1))) (hd : d.size = Q.length) :
    UGRow (@sortWorldK (UvS w0) (uvInh w0) uvEnc 5 w g 0 n d os) B g cap (d.toList.map (·.1)) := by
  letI : Inhabited (UvS w0) := uvInh w0
  have hg := World.ownsRow.lt h g rfl
  obtain ⟨h1, h2⟩ := h
  rcases h2 with ⟨h2, _⟩ | ⟨g', cap', cur, hv, hb, hh, hc1, hc2, hc3, hc4⟩
  · cases h2
  · injection hv with e1 _ e3
    injection e1 with e1
    injection e1 with e1
    subst e1 e3
    have hl : (d.toList.map (·.1)).length = Q.length := by rw [List.length_map, Array.length_toList, hd]
    refine ⟨ups_flat _, .inr ⟨g, cap, putCells id 0 (flatK uvEnc 5 d) cur, rfl, hb, ?_, by rw [hl]; simpa using hc1, hc2, by simpa [putCells] using hc3, ?_⟩⟩
    · unfold sortWorldK putRowK putRow mapBlock Sort.ahead grow
      show ((w.heap.modify g _) ++ os)[g]? = _
      rw [Array.getElem?_append_left (by simpa using hg.2), Array.getElem?_modify, if_pos rfl, hh]
      rfl
    · apply List.ext_getElem?
      intro t
      rw [List.getElem?_take, Array.getElem?_toList, hl]
      by_cases ht : t < Q.length * 5
      · rw [if_pos ht]
        have hq : (Q.map (·.1)).length = Q.length := List.length_map _
        have hcs : t < cur.size := by
          rw [hc3]
          have : Q.length ≤ cap := by simpa using hc1
          omega
        obtain ⟨x, hx, hx2⟩ := uc_at (d.toList.map (·.1)) t (by rw [hl]; exact ht)
        rw [hx2]
        unfold putCells
        rw [Array.getElem?_mapIdx, Array.getElem?_eq_getElem hcs, Option.map_some, if_pos (by rw [size_flatK, hd]; omega)]
        have h4 : t / 5 < d.size := by omega
        rw [List.getElem?_map, Array.getElem?_toList, Array.getElem?_eq_getElem h4] at hx
        have hx3 : d[t / 5].1 = x := by simpa using hx
        rw [Nat.sub_zero, get_flatK uvEnc 5 d t (by rw [hd]; exact ht), getElem!_pos d _ h4]
        show some ((uvCells d[t / 5].1)[t % 5]!) = _
        rw [hx3]
        have h3 : t % 5 < (uvCells x).length := by show t % 5 < 5; omega
        rw [List.getElem?_eq_getElem h3, getElem!_pos (uvCells x) (t % 5) h3]
      · rw [if_neg ht, List.getElem?_eq_none]
        rw [ups_flat, hl]
        omega
theorem sortU_any (w0 w : World) (B g cap : Nat) (q : List Uv) (hown : UGRow w B g cap q) (hq : ∀ p, p ∈ q → UvOk w0 p) (hn : q.length < 4611686018427387904) :
    Calls Tryz.prog 107 #[.slice (some ⟨g, 0, none⟩) q.length cap, .func (.func 76) #[] #[]] w fun e w' => e = .returned (.tuple #[]) ∧ ∃ q', q'.Perm q ∧ (ups q').Pairwise (fun a b => ¬ Dg.uOrd b a < 0) ∧ UGRow w' B g cap q' ∧ w.grownBy w' (some g) := by
  obtain ⟨Q, rfl⟩ := uv_lift hq
  letI : Inhabited (UvS w0) := uvInh w0
  have eg : ∀ args w, (callFunc 76 args).run Tryz.prog w = .ok (.enter 76 args) w := enters_of Tryz.func76 (by kernel_rfl) rfl
  have hsz : Q.toArray.size = Q.length := by simp
  have hcon := AnyQ.slices_SortFunc Tryz.sortU 5 Tryz.isAgg30 Tryz.sizeOf30 uvEnc (fun _ => rfl) uv_oneS uvCmp (uv_swo w0) 76 #[] g 0 cap Q.toArray w eg (cmp_laysU _) (holds_rowU hown) (World.ownsRow.lt hown g rfl).2 (by rw [hsz]; simpa using hn)
  rw [hsz] at hcon
  change Calls Tryz.prog 107 _ _ _ at hcon
  rw [List.length_map]
  refine hcon.mono ?_
  rintro e w' ⟨rfl, d', n, os, hp, hs, rfl⟩
  obtain ⟨p1, p2, p3⟩ := hp
  have hds : d'.size = Q.length := by rw [p1]; simp
  have e1 : d'.extract 0 Q.length = d' := by rw [← hds]; simp
  have e2 : Q.toArray.extract 0 Q.length = Q.toArray := by simp
  rw [e1, e2] at p3
  refine ⟨rfl, d'.toList.map (·.1), ?_, ?_, row_sortedU hown hds, rfl, rfl, rfl, sortWorldK_size _ _ _ _ _ _ _, fun k hk hne => sortWorldK_block _ _ _ _ _ _ _ k hk (fun e => hne (by rw [e]))⟩
  · exact p3.map _
  · rw [List.pairwise_iff_getElem]
    intro i j hi hj hij
    have hi2 : i < d'.size := by simpa [ups] using hi
    have hj2 : j < d'.size := by simpa [ups] using hj
    have := hs i j (Nat.zero_le _) hij (by omega)
    rw [getElem!_pos d' j hj2, getElem!_pos d' i hi2] at this
    unfold ltOf uvCmp at this
    simp only [decide_eq_false_iff_not] at this
    simpa [ups] using this
end Go.Proofs.YtmfaodapofamfaaGreat


namespace Go.Proofs.YtmfaodapofamfaaGreat
open Go.RowKit
/-- Facts that can be read, with the values of their numbers' lists. -/
theorem facts_fv {w : World} {ao : Option Addr} {l : List Rl.Fc} (h : FactsAt w ao l) (hf : ∀ f, f ∈ l → FFit f) :
    ∃ q : List Fv, q.map (·.1) = l ∧ (∀ p, p ∈ q → FvOk w p) ∧ (l = [] ∨ ∃ b off, ao = some ⟨b, off, none⟩ ∧ ∀ j u, ((q.map fcCells).flatten)[j]? = some u → w.cell? ⟨b, off + j, none⟩ = some u) := by
  rcases h with rfl | ⟨b, off, rfl, hc⟩
  · exact ⟨[], rfl, fun _ hp => absurd hp (by simp), .inl rfl⟩
  · have each : ∀ i, i < l.length → ∃ v, w.cell? ⟨b, off + i * 2 + 1, none⟩ = some v ∧ IntsV w v (Rl.factD l i).args := fun i hi => (hc i hi).2
    have hch : ∃ V : Nat → Value, ∀ i, i < l.length → w.cell? ⟨b, off + i * 2 + 1, none⟩ = some (V i) ∧ IntsV w (V i) (Rl.factD l i).args := by
      refine ⟨fun i => (w.cell? ⟨b, off + i * 2 + 1, none⟩).getD (.slice none 0 0), fun i hi => ?_⟩
      obtain ⟨v, h1, h2⟩ := each i hi
      simp only [h1, Option.getD_some]
      exact ⟨trivial, h2⟩
    obtain ⟨V, hV⟩ := hch
    refine ⟨(List.range l.length).map fun i => (Rl.factD l i, V i), ?_, ?_, .inr ⟨b, off, rfl, fun j u hj => ?_⟩⟩
    · apply List.ext_getElem?
      intro i
      rw [List.getElem?_map, List.getElem?_map]
      by_cases hi : i < l.length
      · rw [List.getElem?_range hi, factD_get l i hi]
        rfl
      · rw [List.getElem?_eq_none (by simpa using hi), List.getElem?_eq_none (by simpa using hi)]
        rfl
    · intro p hp
      obtain ⟨i, hi, rfl⟩ := List.mem_map.mp hp
      have hi : i < l.length := List.mem_range.mp hi
      exact ⟨(hV i hi).2, hf _ (factD_mem l i hi)⟩
    · have hjl : j < ((List.range l.length).map fun i => (Rl.factD l i, V i)).length * 2 := by
        rcases Nat.lt_or_ge j (((List.range l.length).map fun i => (Rl.factD l i, V i)).length * 2) with h2 | h2
        · exact h2
        · rw [List.getElem?_eq_none (by rw [fc_length]; exact h2)] at hj; cases hj
      obtain ⟨x, hx, hx2⟩ := fc_at _ j hjl
      rw [hx2] at hj
      have hl2 : j / 2 < l.length := by
        have h3 : ((List.range l.length).map fun i => (Rl.factD l i, V i)).length = l.length := by simp
        rw [h3] at hjl
        omega
      rw [List.getElem?_map, List.getElem?_range hl2] at hx
      have hxe : (Rl.factD l (j / 2), V (j / 2)) = x := by simpa using hx
      subst hxe
      rcases Nat.mod_two_eq_zero_or_one j with h0 | h0
      · rw [h0] at hj
        have hu : Value.int .i64 (Rl.factD l (j / 2)).pred = u := by simpa [fcCells] using hj
        rw [← hu, ← (hc (j / 2) hl2).1]
        congr 2
        omega
      · rw [h0] at hj
        have hu : V (j / 2) = u := by simpa [fcCells] using hj
        rw [← hu, ← (hV (j / 2) hl2).1]
        congr 2
        omega

end Go.Proofs.YtmfaodapofamfaaGreat

/- A region that draws its order, by an invariant over what has been carried out: one proof for each operation, not one for each order. -/
namespace Go.Proofs.YtmfaodapofamfaaGreat

section
variable {P : Program} {ops : Array Oper} {Q : Exit → Act → World → Prop} {md : Region.Mode}

theorem ready_mem {s : Array Bool} {i : Nat} (h : i ∈ Region.ready md ops s) : s[i]? = some false ∧ ∃ o, ops[i]? = some o ∧ ∀ e, e ∈ o.after → Region.binds md e = true → s[e.on]? = some true := by
  unfold Region.ready at h
  obtain ⟨_, h⟩ := List.mem_filter.mp h
  rw [Bool.and_eq_true] at h
  obtain ⟨h1, h2⟩ := h
  refine ⟨?_, ?_⟩
  · cases hs : s[i]? with
    | none => simp [Array.getD_eq_getD_getElem?, hs] at h1
    | some b => cases b <;> simp [Array.getD_eq_getD_getElem?, hs] at h1 ⊢
  · cases ho : ops[i]? with
    | none => simp [ho] at h2
    | some o =>
      refine ⟨o, rfl, fun e he hb => ?_⟩
      rw [ho, Option.map_some, Option.getD_some, Array.all_eq_true_iff_forall_mem] at h2
      have h3 := h2 e he
      rw [hb] at h3
      cases hs : s[e.on]? with
      | none => simp [Array.getD_eq_getD_getElem?, hs] at h3
      | some b => cases b <;> simp [Array.getD_eq_getD_getElem?, hs] at h3 ⊢

/-- How many are not yet carried out. -/
def left (s : Array Bool) : Nat := s.toList.countP (fun b => !b)
theorem left_zero {s : Array Bool} (h : left s = 0) : Region.ready md ops s = [] := by
  cases hr : Region.ready md ops s with
  | nil => rfl
  | cons i r =>
    have h1 := (ready_mem (s := s) (i := i) (by rw [hr]; exact List.mem_cons_self)).1
    have h2 : false ∈ s.toList := by
      rw [← Array.getElem?_toList] at h1
      exact List.mem_of_getElem? h1
    have h3 := List.countP_eq_zero.mp h false h2
    simp at h3
theorem left_set {s : Array Bool} {i : Nat} (h : s[i]? = some false) : left (s.setIfInBounds i true) + 1 = left s := by
  obtain ⟨hi, he⟩ := Array.getElem?_eq_some_iff.mp h
  unfold left
  have h1 : (s.setIfInBounds i true).toList = s.toList.set i true := by simp
  rw [h1, List.countP_set (h := by simpa using hi)]
  have hm : 0 < s.toList.countP (fun b => !b) := List.countP_pos_iff.mpr ⟨false, by rw [← Array.getElem?_toList] at h; exact List.mem_of_getElem? h, rfl⟩
  have h2 : s.toList[i]'(by simpa using hi) = false := by rw [Array.getElem_toList]; exact he
  rw [h2]
  simp only [Bool.not_false, Bool.not_true, if_true, Bool.false_eq_true, if_false]
  omega

theorem wpAny_inv (I : Array Bool → Act → World → Prop) (hend : ∀ s a w, Region.ready md ops s = [] → I s a w → Q .normal a w)
    (hstep : ∀ s a w i, i ∈ Region.ready md ops s → I s a w → wpOp P ops Q i (I (s.setIfInBounds i true)) a w) :
    ∀ (fuel : Nat) (s : Array Bool) (a : Act) (w : World), left s ≤ fuel → I s a w → wpAny P md ops Q fuel s a w
  | 0, s, a, w, hc, hI => ⟨left_zero (by omega), hend s a w (left_zero (by omega)) hI⟩
  | fuel + 1, s, a, w, hc, hI => ⟨fun h0 => hend s a w h0 hI, fun i hi => wpOp_mono (fun a' w' hI' => wpAny_inv I hend hstep fuel _ a' w' (by have := left_set (ready_mem hi).1; omega) hI') (hstep s a w i hi hI)⟩

/-- The region itself. -/
theorem wp_region_inv (I : Array Bool → Act → World → Prop) {id : Nat} {a : Act} {w : World} (hm : P.follows .mixedOrders = true)
    (hend : ∀ s a w, Region.ready .any ops s = [] → I s a w → Q .normal a w)
    (hstep : ∀ s a w i, i ∈ Region.ready .any ops s → I s a w → wpOp P ops Q i (I (s.setIfInBounds i true)) a w)
    (h0 : I (Array.replicate ops.size false) a { w with drawn := w.drawn + 1 }) : (Code.region id ops true).wp P Q a w := by
  refine wp_region_any hm (wpAny_inv I hend hstep ops.size _ _ _ ?_ h0)
  unfold left
  exact Nat.le_trans List.countP_le_length (by simp)
end

end Go.Proofs.YtmfaodapofamfaaGreat

/- A region that draws its order, by a table: of each temporary that it writes, what holds of its value once it is written. One goal for each operation. -/
namespace Go.Proofs.YtmfaodapofamfaaGreat
open Go.RowKit

/-- All that is written is written once, and within the frame; what is waited for stands ahead. -/
def tabFine (ops : Array Oper) (n : Nat) : Bool :=
  decide ((ops.toList.filterMap (·.dst)).Nodup) && (ops.toList.filterMap (·.dst)).all (fun t => decide (t < n)) && (List.range ops.size).all (fun i => ((ops[i]?).map (fun o => o.after.toList.all (fun e => decide (e.on < i)))).getD true)

/-- The table at what is done. -/
structure Tabbed (ops : Array Oper) (T : Nat → Value → World → Prop) (a0 : Act) (w0 : World) (s : Array Bool) (a : Act) (w : World) : Prop where
  below : Below w0.heap.size w0 w
  defers : a.defers = a0.defers
  size : a.tmps.size = a0.tmps.size
  still : ∀ t, t ∉ ops.toList.filterMap (·.dst) → a.tmps.getD t undef = a0.tmps.getD t undef
  done : ∀ (i : Nat) (o : Oper) (t : Nat), s[i]? = some true → ops[i]? = some o → o.dst = some t → T t (a.tmps.getD t undef) w

section
variable {P : Program} {ops : Array Oper} {Q : Exit → Act → World → Prop} {T : Nat → Value → World → Prop}

theorem dst_mem {i : Nat} {o : Oper} {t : Nat} (h : ops[i]? = some o) (ht : o.dst = some t) : t ∈ ops.toList.filterMap (·.dst) := by
  refine List.mem_filterMap.mpr ⟨o, ?_, ht⟩
  rw [← Array.getElem?_toList] at h
  exact List.mem_of_getElem? h

theorem dst_inj : ∀ (l : List Oper), (l.filterMap (·.dst)).Nodup → ∀ (i j : Nat) (o o' : Oper) (t : Nat), l[i]? = some o → l[j]? = some o' → o.dst = some t → o'.dst = some t → i = j
  | [], _, i, j, o, o', t, h, _, _, _ => by simp at h
  | x :: l, hn, i, j, o, o', t, hi, hj, ho, ho' => by
    have hmem : ∀ k (o : Oper), l[k]? = some o → o.dst = some t → t ∈ l.filterMap (·.dst) := fun k o h1 h2 => List.mem_filterMap.mpr ⟨o, List.mem_of_getElem? h1, h2⟩
    cases i with
    | zero =>
      cases j with
      | zero => rfl
      | succ j =>
        simp only [List.getElem?_cons_zero, Option.some.injEq] at hi
        subst hi
        simp only [List.getElem?_cons_succ] at hj
        rw [List.filterMap_cons, ho] at hn
        exact absurd (hmem j o' hj ho') (List.nodup_cons.mp hn).1
    | succ i =>
      cases j with
      | zero =>
        simp only [List.getElem?_cons_zero, Option.some.injEq] at hj
        subst hj
        simp only [List.getElem?_cons_succ] at hi
        rw [List.filterMap_cons, ho'] at hn
        exact absurd (hmem i o hi ho) (List.nodup_cons.mp hn).1
      | succ j =>
        simp only [List.getElem?_cons_succ] at hi hj
        have hn' : (l.filterMap (·.dst)).Nodup := by
          rw [List.filterMap_cons] at hn
          cases hx : x.dst with
          | none => rw [hx] at hn; exact hn
          | some z => rw [hx] at hn; exact (List.nodup_cons.mp hn).2
        exact congrArg (· + 1) (dst_inj l hn' i j o o' t hi hj ho ho')

/-- What an operation's goal may take as given. -/
structure OpIn (ops : Array Oper) (T : Nat → Value → World → Prop) (a0 : Act) (w0 : World) (o : Oper) (a : Act) (w : World) : Prop where
  below : Below w0.heap.size w0 w
  still : ∀ t, t ∉ ops.toList.filterMap (·.dst) → a.tmps.getD t undef = a0.tmps.getD t undef
  has : ∀ e, e ∈ o.after → Region.binds .any e = true → ∀ (o' : Oper) (t : Nat), ops[e.on]? = some o' → o'.dst = some t → T t (a.tmps.getD t undef) w

/-- What an operation must do. -/
def OpOk (P : Program) (ops : Array Oper) (Q : Exit → Act → World → Prop) (T : Nat → Value → World → Prop) (o : Oper) (a : Act) (w : World) : Prop :=
  if Region.wanted o (yielded ops a.tmps) then o.wp P a w (fun a' w' => ∃ v, a' = a.put o.dst v ∧ (∀ t, o.dst = some t → T t v w') ∧ Below w.heap.size w w') Q ∨ (o.asks P a w ∧ LetsOut Q)
  else ∀ t, o.dst = some t → T t undef w

theorem put_get_self {a : Act} {t : Nat} {v : Value} (h : t < a.tmps.size) : (a.put (some t) v).tmps.getD t undef = v := by
  simp [Act.put, Array.getD_eq_getD_getElem?, h]
theorem put_get_ne {a : Act} {t u : Nat} {v : Value} (h : u ≠ t) : (a.put (some t) v).tmps.getD u undef = a.tmps.getD u undef := by
  simp [Act.put, Array.getD_eq_getD_getElem?, Ne.symm h]
theorem put_size {a : Act} {d : Option Nat} {v : Value} : (a.put d v).tmps.size = a.tmps.size := by
  cases d <;> simp [Act.put]
theorem put_defers {a : Act} {d : Option Nat} {v : Value} : (a.put d v).defers = a.defers := by
  cases d <;> simp [Act.put]

theorem wp_region_tab (T : Nat → Value → World → Prop) {id : Nat} {a0 : Act} {w0 : World} (hm : P.follows .mixedOrders = true)
    (hf : tabFine ops a0.tmps.size = true)
    (hmono : ∀ t v w w', Below w.heap.size w w' → T t v w → T t v w')
    (hop : ∀ (i : Nat) (o : Oper), ops[i]? = some o → ∀ a w, OpIn ops T a0 w0 o a w → OpOk P ops Q T o a w)
    (hend : ∀ a w, Below w0.heap.size w0 w → a.defers = a0.defers → a.tmps.size = a0.tmps.size → (∀ t, t ∉ ops.toList.filterMap (·.dst) → a.tmps.getD t undef = a0.tmps.getD t undef) → (∀ t, t ∈ ops.toList.filterMap (·.dst) → T t (a.tmps.getD t undef) w) → Q .normal a w) :
    (Code.region id ops true).wp P Q a0 w0 := by
  unfold tabFine at hf
  rw [Bool.and_eq_true, Bool.and_eq_true] at hf
  obtain ⟨⟨hnd, hlt⟩, hah⟩ := hf
  have hnd := of_decide_eq_true hnd
  have hlt' : ∀ t, t ∈ ops.toList.filterMap (·.dst) → t < a0.tmps.size := fun t ht => by
    have h := List.all_eq_true.mp hlt t ht
    exact of_decide_eq_true h
  have hah' : ∀ (i : Nat) (o : Oper), ops[i]? = some o → ∀ e, e ∈ o.after → e.on < i := fun i o ho e he => by
    have hi : i < ops.size := (Array.getElem?_eq_some_iff.mp ho).1
    have h := List.all_eq_true.mp hah i (List.mem_range.mpr hi)
    rw [ho, Option.map_some, Option.getD_some] at h
    exact of_decide_eq_true (List.all_eq_true.mp h e (by simpa using he))
  have hset : ∀ {T : Nat → Value → World → Prop} {s : Array Bool} {a : Act} {w w' : World} {i : Nat} {o : Oper} {v : Value}, (∀ t v w w', Below w.heap.size w w' → T t v w → T t v w') → s.size = ops.size → ops[i]? = some o → Tabbed ops T a0 w0 s a w → (∀ t, o.dst = some t → T t v w') → Below w.heap.size w w' → Tabbed ops T a0 w0 (s.setIfInBounds i true) (a.put o.dst v) w' := by
    intro T s a w w' i o v hmono hs ho hI hv hb
    refine ⟨hI.below.trans (hb.mono hI.below.size), by rw [put_defers]; exact hI.defers, by rw [put_size]; exact hI.size, fun t ht => ?_, fun j oj t hj hoj hd => ?_⟩
    · cases hd : o.dst with
      | none => exact hI.still t ht
      | some u =>
        have hne : t ≠ u := fun h => ht (h ▸ dst_mem ho hd)
        rw [put_get_ne hne]
        exact hI.still t ht
    · by_cases hij : j = i
      · subst hij
        rw [ho] at hoj
        cases hoj
        rw [hd, put_get_self (by rw [hI.size]; exact hlt' t (dst_mem ho hd))]
        exact hv t hd
      · have hj' : s[j]? = some true := by
          rw [Array.getElem?_setIfInBounds, if_neg (fun h => hij h.symm)] at hj
          exact hj
        have h1 := hmono t _ w w' hb (hI.done j oj t hj' hoj hd)
        cases hd2 : o.dst with
        | none => exact h1
        | some u =>
          have hne : t ≠ u := fun h => hij (dst_inj ops.toList hnd j i oj o t (by rw [Array.getElem?_toList]; exact hoj) (by rw [Array.getElem?_toList]; exact ho) hd (h ▸ hd2))
          rw [put_get_ne hne]
          exact h1
  refine wp_region_inv (fun s a w => s.size = ops.size ∧ Tabbed ops T a0 w0 s a w) hm ?_ ?_ ?_
  · rintro s a w hr ⟨hs, hI⟩
    have hall : ∀ n : Nat, n ≤ ops.size → ∀ i : Nat, i < n → s[i]? = some true := by
      intro n
      induction n with
      | zero => intro _ i hi; exact absurd hi (Nat.not_lt_zero _)
      | succ n ih =>
        intro hn i hi
        have ih := ih (by omega)
        by_cases hin : i < n
        · exact ih i hin
        · have hin : i = n := by omega
          subst hin
          cases hsi : s[i]? with
          | none => rw [Array.getElem?_eq_none_iff] at hsi; omega
          | some b =>
            cases b with
            | true => rfl
            | false =>
              exfalso
              have hio : i < ops.size := by omega
              have : i ∈ Region.ready .any ops s := by
                unfold Region.ready
                refine List.mem_filter.mpr ⟨List.mem_range.mpr hio, ?_⟩
                rw [Bool.and_eq_true]
                refine ⟨by simp [Array.getD_eq_getD_getElem?, hsi], ?_⟩
                have ho : ops[i]? = some ops[i] := Array.getElem?_eq_getElem hio
                rw [ho, Option.map_some, Option.getD_some, Array.all_eq_true_iff_forall_mem]
                intro e he
                have h1 := ih e.on (hah' i _ ho e he)
                simp [Array.getD_eq_getD_getElem?, h1]
              rw [hr] at this
              exact absurd this (by simp)
    refine hend a w hI.below hI.defers hI.size hI.still (fun t ht => ?_)
    obtain ⟨o, ho, hd⟩ := List.mem_filterMap.mp ht
    obtain ⟨i, hi⟩ := List.mem_iff_getElem?.mp ho
    rw [Array.getElem?_toList] at hi
    exact hI.done i o t (hall ops.size (Nat.le_refl _) i (Array.getElem?_eq_some_iff.mp hi).1) hi hd
  · rintro s a w i hi ⟨hs, hI⟩
    obtain ⟨hsi, o, ho, haf⟩ := ready_mem hi
    have h := hop i o ho a w ⟨hI.below, hI.still, fun e he hb o' t ho' hd => hI.done e.on o' t (haf e he hb) ho' hd⟩
    have hss : (s.setIfInBounds i true).size = ops.size := by simp [hs]
    unfold OpOk at h
    unfold wpOp
    rw [ho]
    dsimp only
    by_cases hw : Region.wanted o (yielded ops a.tmps) = true
    · rw [if_pos hw] at h ⊢
      refine h.imp (Oper.wp_mono ?_) (fun h => h)
      rintro a' w' ⟨v, rfl, hv, hb⟩
      exact ⟨hss, hset hmono hs ho hI hv hb⟩
    · rw [if_neg hw] at h ⊢
      exact ⟨hss, hset hmono hs ho hI h (Below.refl _ _)⟩
  · refine ⟨by simp, ⟨⟨rfl, rfl, rfl, Nat.le_refl _, fun _ _ => rfl⟩, rfl, rfl, fun _ _ => rfl, fun i o t h _ _ => ?_⟩⟩
    rw [Array.getElem?_replicate] at h
    split at h <;> simp at h
end

end Go.Proofs.YtmfaodapofamfaaGreat

