/- Own texts, one behind the other (part 6). -/
import Derived.Test.YtgpaleifhcdjnaaBundleE
import Derived.Test.YtgpaleifhcdjnaaRows
/- Package relation: Set, Has. -/
namespace Go.Proofs.Ytgpaleifhcdjnaa
open Go.RowKit

theorem rl_ints_own {w : World} {B : Nat} {v : Value} {l : List Int} (h : w.ownsRow B 3 1 v l.length (l.map (Value.int .i64))) : IntsV w v l := by
  rcases h.2 with ⟨hv, h0⟩ | ⟨g, cap, cur, hv, hg, hh, hc1, hc2, hc3, hc4⟩
  · exact ⟨none, 0, by rw [hv, h0], .inl (List.eq_nil_of_length_eq_zero h0)⟩
  · subst hv
    refine ⟨_, _, rfl, .inr ⟨g, 0, rfl, fun i hi => ?_⟩⟩
    rw [Nat.zero_add, World.ownsRow.cellAt h i (by omega), List.getElem?_map, List.getElem?_eq_getElem hi]
    simp [Sc.intD, hi]
theorem FactsP.toV {B : Nat} {w : World} {v : Value} {s : List Rl.Fc} (h : FactsP B w v s) : FactsV w v s := by
  obtain ⟨q, rfl, h2, h3⟩ := h
  rcases ownsRow_forms9 h2 with ⟨hv, h0⟩ | ⟨g, cap, hv⟩
  · have hq : q = [] := List.eq_nil_of_length_eq_zero h0
    subst hq
    exact ⟨none, 0, hv, ⟨Nat.le_refl _, fun _ => rfl⟩, .inl rfl⟩
  · subst hv
    have hc : q.length ≤ cap := by
      rcases h2.2 with ⟨hv, _⟩ | ⟨_, _, _, hv, _, _, hc1, _⟩
      · cases hv
      · injection hv with _ _ e3
        omega
    refine ⟨_, cap, by rw [List.length_map], ⟨by rw [List.length_map]; exact hc, fun h => by cases h⟩, .inr ⟨g, 0, rfl, fun i hi => ?_⟩⟩
    rw [List.length_map] at hi
    have hq : q[i]? = some q[i] := List.getElem?_eq_getElem hi
    have hd : Rl.factD (q.map (·.1)) i = q[i].1 := by simp [Rl.factD, hi]
    obtain ⟨c0, c1⟩ := FRow.cell h2 hq
    rw [Nat.zero_add, hd]
    exact ⟨c0, q[i].2, c1, rl_ints_own (h3 _ (List.getElem_mem hi))⟩
theorem FactsP.nil (B : Nat) (w : World) : FactsP B w (.slice none 0 0) [] := ⟨[], rfl, World.ownsRow_nil _ _ _ _, fun _ hp => absurd hp (by simp)⟩

set_option maxRecDepth 100000 in
set_option maxHeartbeats 400000 in
theorem set1_any (w : World) : Keeps1 49 #[] w (fun _ => true) := by
  intro z f ao cap _ _ _
  show Calls Try.prog 49 #[fcVal f.pred (.slice ao f.args.length cap)] z _
  have hb0 : ∀ o, Below z.heap.size z (z.alloc o) := fun o => (Below.refl _ _).alloc (Nat.le_refl _) o
  go_enter Try.func49, Try.ntmps49
  go_wp2_with fail
  go_ret
  exact ⟨rfl, by first | exact hb0 _ | exact Below.refl _ _⟩
theorem rl_enters49 : ∀ args w, (callFunc 49 args).run Try.prog w = .ok (.enter 49 args) w := enters_of Try.func49 (by kernel_rfl) rfl

set_option maxRecDepth 100000 in
set_option maxHeartbeats 1000000 in
theorem Set_any (l : List Rl.Fc) (v : Value) (w : World) (hV : FactsV w v l) (hl : l.length ≤ 2097152) (hf : ∀ f, f ∈ l → f.args.length ≤ 1048576) :
    Calls Try.prog 23 #[v] w fun e w' => ∃ v', e = .returned v' ∧ FactsP w.heap.size w' v' (Rl.set l) ∧ Below w.heap.size w w' := by
  have HK : Hid (Calls Try.prog 48 #[v, .func (.func 49) #[] #[]] w fun e w' => ∃ v', e = .returned v' ∧ FactsP w.heap.size w' v' (Rl.set l) ∧ Below w.heap.size w w') := by
    have h := keep_any l v w 49 #[] (fun _ => true) hV hl hf rl_enters49 (set1_any w)
    rw [List.filter_eq_self.mpr (fun _ _ => rfl)] at h
    exact h
  obtain ⟨ao, cap, rfl, _⟩ := hV
  have hmf : ∀ (fn : Fn) (first cap : Array Value) (w : World), (Instr.makeFunc fn first cap).run Try.prog w = .ok (.func fn first cap) w := fun _ _ _ _ => rfl
  go_enter Try.func23, Try.ntmps23
  go_wp2_with fail
  refine Calls.mono HK.out ?_
  rintro e w1 ⟨v', rfl, hP, hb⟩
  obtain ⟨q, hq, hown, _⟩ := id hP
  obtain ⟨a9, c9, rfl⟩ := own_slice hown
  have HP : Hid _ := hP
  clear hP hown HK
  go_wp2_with fail
  go_ret
  exact ⟨_, rfl, HP.out, hb⟩

set_option maxRecDepth 100000 in
set_option maxHeartbeats 1000000 in
theorem indexF_any (l : List Rl.Fc) (ao : Option Addr) (cap : Nat) (w : World) (h : Nat) (cb : Array Value) (P : Rl.Fc → Bool) (hA : FactsAt w ao l) (hl : l.length ≤ 9223372036854775807) (hf : ∀ f, f ∈ l → FFit f) (he : ∀ args w, (callFunc h args).run Try.prog w = .ok (.enter h args) w) (hK : Keeps1 h cb w P) :
    Calls Try.prog 71 #[.slice ao l.length cap, .func (.func h) #[] cb] w fun e w' => ∃ r : Int, e = .returned (.int .i64 r) ∧ decide (0 ≤ r) = l.any P ∧ Below w.heap.size w w' := by
  have HA : Hid (FactsAt w ao l) := hA
  have HF : Hid (∀ f, f ∈ l → FFit f) := hf
  have HK : Hid (Keeps1 h cb w P) := hK
  clear hA hf hK
  go_enter Try.func71, Try.ntmps71
  go_wp2_with fail
  go_loopw [8] (fun i wr => ∃ k : Nat, k ≤ l.length ∧ i = .int .i64 k ∧ l.any P = (l.drop k).any P ∧ Below w.heap.size w wr) (fun i _ => l.length - (intOf i).toNat)
  case atStart => exact ⟨0, Nat.zero_le _, rfl, rfl, Below.refl _ _⟩
  case round =>
    obtain ⟨k, hk, rfl, hall, hbel⟩ := hrel
    have HAL : Hid _ := hall
    clear hall
    by_cases hlt : k < l.length
    · obtain ⟨b, off, rfl, p0, fv, p1, hIv⟩ := facts_at HA.out k hlt
      have hmem := factD_mem l k hlt
      have HD : Hid (l.any P = (P (Rl.factD l k) || (l.drop (k + 1)).any P)) := by show _ = _; rw [HAL.out, factD_drop l k hlt, List.any_cons]
      have HIV : Hid (IntsV w fv (Rl.factD l k).args ∧ FFit (Rl.factD l k)) := ⟨hIv, HF.out _ hmem⟩
      obtain ⟨af, cf, rfl, _⟩ := hIv
      have a0 := cell_below hbel p0
      have a1 := cell_below hbel p1
      clear p0 p1 HAL hmem
      generalize Rl.factD l k = f at *
      go_wp2_with fail
      refine Calls.mono (HK.out wr f af cf hbel (intsV_below HIV.out.1 hbel) HIV.out.2) ?_
      rintro e w1 ⟨he1, hb1⟩
      subst he1
      have hb2 := hbel.trans (hb1.mono hbel.size)
      cases hx : P f
      · have HV : Hid (l.any P = (l.drop (k + 1)).any P) := by show _ = _; rw [HD.out, hx]; rfl
        clear HD
        go_wp2_with fail
        go_roundw
        case rel => exact ⟨k + 1, by omega, by go_num, HV.out, hb2⟩
        case measure => simp [intOf]; omega
      · have HV : Hid (l.any P = true) := by show _ = _; rw [HD.out, hx]; rfl
        clear HD
        go_wp2_with fail
        go_ret
        exact ⟨k, rfl, by rw [HV.out]; simp, hb2⟩
    · have HV : Hid (l.any P = false) := by show _ = _; rw [HAL.out, List.drop_of_length_le (by omega)]; rfl
      go_wp2_with fail
      go_ret
      exact ⟨-1, rfl, by rw [HV.out]; rfl, hbel⟩

set_option maxRecDepth 100000 in
set_option maxHeartbeats 1000000 in
theorem containsF_any (l : List Rl.Fc) (v : Value) (w : World) (h : Nat) (cb : Array Value) (P : Rl.Fc → Bool) (hV : FactsV w v l) (hl : l.length ≤ 9223372036854775807) (hf : ∀ f, f ∈ l → FFit f) (he : ∀ args w, (callFunc h args).run Try.prog w = .ok (.enter h args) w) (hK : Keeps1 h cb w P) :
    Calls Try.prog 50 #[v, .func (.func h) #[] cb] w fun e w' => e = .returned (.bool (l.any P)) ∧ Below w.heap.size w w' := by
  obtain ⟨ao, cap, rfl, _, hA⟩ := hV
  have HI : Hid _ := indexF_any l ao cap w h cb P hA hl hf he hK
  clear hA hf hK
  go_enter Try.func50, Try.ntmps50
  go_wp2_with fail
  refine Calls.mono HI.out ?_
  rintro e w1 ⟨r, rfl, hr, hb⟩
  go_wp2_with fail
  go_ret
  exact ⟨by rw [← hr]; rfl, hb⟩

end Go.Proofs.Ytgpaleifhcdjnaa

/- The document's relations: the order, what is among facts, the same facts. -/
namespace Go.Proofs.Ytgpaleifhcdjnaa
open Go.RowKit

set_option maxRecDepth 100000 in
set_option maxHeartbeats 1000000 in
theorem OrderOf_any (f g : Rl.Fc) (v u : Value) (w : World) (hV : IntsV w v f.args) (hU : IntsV w u g.args) (hx : FFit f) (hy : FFit g) :
    Calls Try.prog 21 #[fcVal f.pred v, fcVal g.pred u] w fun e w' => e = .returned (.int .i64 (Rl.ord f g)) ∧ Below w.heap.size w w' := by
  obtain ⟨p, x⟩ := f
  obtain ⟨q, y⟩ := g
  have hV : IntsV w v x := hV
  have hU : IntsV w u y := hU
  have hx : x.length ≤ 9223372036854775807 := hx
  have hy : y.length ≤ 9223372036854775807 := hy
  obtain ⟨ao, cap, rfl, hA⟩ := hV
  obtain ⟨bo, cbp, rfl, hB⟩ := hU
  have HA : Hid (IntsAt w ao x) := hA
  have HB : Hid (IntsAt w bo y) := hB
  have t2 := two_blocks (w := w) (o1 := .cells #[.int .i64 p, .slice ao x.length cap] 49) (o2 := .cells #[.int .i64 q, .slice bo y.length cbp] 49) (Below.refl _ _)
  have hbw := below_two w (.cells #[.int .i64 p, .slice ao x.length cap] 49) (.cells #[.int .i64 q, .slice bo y.length cbp] 49)
  have HO : Hid (Rl.ord ⟨p, x⟩ ⟨q, y⟩ = if Rl.cmpI p q = 0 then Rl.cmpL x y else Rl.cmpI p q) := rfl
  clear hA hB
  have c0 : ((w.alloc (.cells #[.int .i64 p, .slice ao x.length cap] 49)).alloc (.cells #[.int .i64 q, .slice bo y.length cbp] 49)).cell? ⟨w.heap.size, 0, none⟩ = some (.int .i64 p) := by rw [Lib.cell_of_heap t2.1]; rfl
  have c1 : ((w.alloc (.cells #[.int .i64 p, .slice ao x.length cap] 49)).alloc (.cells #[.int .i64 q, .slice bo y.length cbp] 49)).cell? ⟨w.heap.size, 1, none⟩ = some (.slice ao x.length cap) := by rw [Lib.cell_of_heap t2.1]; rfl
  have d0 : ((w.alloc (.cells #[.int .i64 p, .slice ao x.length cap] 49)).alloc (.cells #[.int .i64 q, .slice bo y.length cbp] 49)).cell? ⟨w.heap.size + 1, 0, none⟩ = some (.int .i64 q) := by rw [Lib.cell_of_heap t2.2]; rfl
  have d1 : ((w.alloc (.cells #[.int .i64 p, .slice ao x.length cap] 49)).alloc (.cells #[.int .i64 q, .slice bo y.length cbp] 49)).cell? ⟨w.heap.size + 1, 1, none⟩ = some (.slice bo y.length cbp) := by rw [Lib.cell_of_heap t2.2]; rfl
  clear t2
  by_cases hpq : p = q
  · subst hpq
    have HO2 : Hid (Rl.ord ⟨p, x⟩ ⟨p, y⟩ = Rl.cmpL x y) := by show _ = _; rw [HO.out, if_pos (Rl.cmpI_self p)]
    have g0 : (p != p) = false := by simp
    clear HO
    go_enter Try.func21, Try.ntmps21
    go_wp2_with fail
    generalize (w.alloc (.cells #[.int .i64 p, .slice ao x.length cap] 49)).alloc (.cells #[.int .i64 p, .slice bo y.length cbp] 49) = w2 at *
    have HCA : Hid (∀ k, k < x.length → ∃ b off, ao = some ⟨b, off, none⟩ ∧ w2.cell? ⟨b, off + k, none⟩ = some (.int .i64 (Sc.intD x k))) := fun k hk => by
      obtain ⟨b, off, h1, h2⟩ := ints_at HA.out k hk
      exact ⟨b, off, h1, cell_below hbw h2⟩
    have HCB : Hid (∀ k, k < y.length → ∃ b off, bo = some ⟨b, off, none⟩ ∧ w2.cell? ⟨b, off + k, none⟩ = some (.int .i64 (Sc.intD y k))) := fun k hk => by
      obtain ⟨b, off, h1, h2⟩ := ints_at HB.out k hk
      exact ⟨b, off, h1, cell_below hbw h2⟩
    clear HA HB
    have HBW : Hid (∀ n, Below w.heap.size w (w2.drewN n)) := fun n => ⟨hbw.os, hbw.tape, hbw.output, hbw.size, hbw.block⟩
    clear hbw
    go_loopw [5] (fun i wr => ∃ k nq : Nat, k ≤ x.length ∧ k ≤ y.length ∧ i = .int .i64 k ∧ wr = w2.drewN nq ∧ Rl.cmpL (x.drop k) (y.drop k) = Rl.cmpL x y) (fun i _ => x.length - (intOf i).toNat)
    case atStart => exact ⟨0, 0, Nat.zero_le _, Nat.zero_le _, rfl, rfl, rfl⟩
    case round =>
      obtain ⟨k, nq, hk, hk2, rfl, rfl, hq⟩ := hrel
      have HQ : Hid _ := hq
      clear hq
      by_cases hl : k < x.length
      · by_cases hl2 : k < y.length
        · obtain ⟨b, off, rfl, p0⟩ := HCA.out k hl
          obtain ⟨b2, off2, rfl, p1⟩ := HCB.out k hl2
          have HD : Hid (Rl.cmpL x y = if Rl.cmpI (Sc.intD x k) (Sc.intD y k) = 0 then Rl.cmpL (x.drop (k + 1)) (y.drop (k + 1)) else Rl.cmpI (Sc.intD x k) (Sc.intD y k)) := by show _ = _; rw [← HQ.out]; exact cmpL_drop x y k hl hl2
          clear HQ
          generalize Sc.intD x k = a at *
          generalize Sc.intD y k = b' at *
          have c1n : ∀ n, (w2.drewN n).cell? ⟨w.heap.size, 1, none⟩ = some (.slice (some ⟨b, off, none⟩) x.length cap) := fun _ => c1
          have d1n : ∀ n, (w2.drewN n).cell? ⟨w.heap.size + 1, 1, none⟩ = some (.slice (some ⟨b2, off2, none⟩) y.length cbp) := fun _ => d1
          have p0n : ∀ n, (w2.drewN n).cell? ⟨b, off + k, none⟩ = some (.int .i64 a) := fun _ => p0
          have p1n : ∀ n, (w2.drewN n).cell? ⟨b2, off2 + k, none⟩ = some (.int .i64 b') := fun _ => p1
          go_upto_region 8 with fail
          have e1 := c1n nq
          have e2 := d1n nq
          have e3 := p0n nq
          have e4 := p1n nq
          generalize hz : w2.drewN nq = z at *
          go_region_held3 (fun yy => yy.cell? ⟨w.heap.size, 1, none⟩ = some (.slice (some ⟨b, off, none⟩) x.length cap) ∧ yy.cell? ⟨w.heap.size + 1, 1, none⟩ = some (.slice (some ⟨b2, off2, none⟩) y.length cbp) ∧ yy.cell? ⟨b, off + k, none⟩ = some (.int .i64 a) ∧ yy.cell? ⟨b2, off2 + k, none⟩ = some (.int .i64 b')) (go_keep) (fail)
          clear e1 e2 e3 e4
          have hzd : z.drew = w2.drewN (nq + 1) := by rw [← hz]; rfl
          rw [hzd]
          clear hz hzd
          have HI : Hid (Rl.cmpI a b' = if a < b' then -1 else if b' < a then 1 else 0) := rfl
          by_cases h1 : a < b'
          · have HV : Hid (Rl.cmpL x y = -1) := by
              show _ = _
              have h3 : Rl.cmpI a b' = -1 := by rw [HI.out, if_pos h1]
              rw [HD.out, if_neg (by rw [h3]; decide), h3]
            go_wp2_with fail
            go_ret
            exact ⟨by rw [HO2.out, HV.out]; rfl, HBW.out _⟩
          · go_upto_region 10 with fail
            have e1 := c1n (nq + 1)
            have e2 := d1n (nq + 1)
            have e3 := p0n (nq + 1)
            have e4 := p1n (nq + 1)
            generalize hz : w2.drewN (nq + 1) = z at *
            go_region_held3 (fun yy => yy.cell? ⟨w.heap.size, 1, none⟩ = some (.slice (some ⟨b, off, none⟩) x.length cap) ∧ yy.cell? ⟨w.heap.size + 1, 1, none⟩ = some (.slice (some ⟨b2, off2, none⟩) y.length cbp) ∧ yy.cell? ⟨b, off + k, none⟩ = some (.int .i64 a) ∧ yy.cell? ⟨b2, off2 + k, none⟩ = some (.int .i64 b')) (go_keep) (fail)
            clear e1 e2 e3 e4
            have hzd : z.drew = w2.drewN (nq + 1 + 1) := by rw [← hz]; rfl
            rw [hzd]
            clear hz hzd
            by_cases h2 : b' < a
            · have HV : Hid (Rl.cmpL x y = 1) := by
                show _ = _
                have h3 : Rl.cmpI a b' = 1 := by rw [HI.out, if_neg h1, if_pos h2]
                rw [HD.out, if_neg (by rw [h3]; decide), h3]
              go_wp2_with fail
              go_ret
              exact ⟨by rw [HO2.out, HV.out]; rfl, HBW.out _⟩
            · have HV : Hid (Rl.cmpL (x.drop (k + 1)) (y.drop (k + 1)) = Rl.cmpL x y) := by
                show _ = _
                have h3 : Rl.cmpI a b' = 0 := by rw [HI.out, if_neg h1, if_neg h2]
                rw [HD.out, if_pos h3]
              go_wp2_with fail
              go_roundw
              case rel => exact ⟨k + 1, nq + 1 + 1, by omega, by omega, by go_num, rfl, HV.out⟩
              case measure => simp [intOf]; omega
        · have HV : Hid (Rl.cmpL x y = 1) := by show _ = _; rw [← HQ.out]; exact cmpL_left x y k hl (by omega)
          have hyx : y.length < x.length := by omega
          have hyx2 : ¬ x.length < y.length := by omega
          go_wp2_with fail
          go_ret
          exact ⟨by rw [HO2.out, HV.out]; rfl, HBW.out _⟩
      · by_cases hl2 : x.length < y.length
        · have HV : Hid (Rl.cmpL x y = -1) := by show _ = _; rw [← HQ.out]; exact cmpL_right x y k (by omega) (by omega)
          go_wp2_with fail
          go_ret
          exact ⟨by rw [HO2.out, HV.out]; rfl, HBW.out _⟩
        · have HV : Hid (Rl.cmpL x y = 0) := by show _ = _; rw [← HQ.out, List.drop_of_length_le (by omega), List.drop_of_length_le (by omega)]; rfl
          have hyx : ¬ y.length < x.length := by omega
          go_wp2_with fail
          go_ret
          exact ⟨by rw [HO2.out, HV.out]; rfl, HBW.out _⟩
  · have g0 : (p != q) = true := by simpa using hpq
    have HO2 : Hid (Rl.ord ⟨p, x⟩ ⟨q, y⟩ = Rl.cmpI p q) := by show _ = _; rw [HO.out, if_neg (fun h => hpq (Rl.cmpI_zero.mp h))]
    have HC : Hid (Rl.cmpI p q = if p < q then -1 else if q < p then 1 else 0) := rfl
    clear HO
    by_cases h1 : p < q
    · have HV : Hid (Rl.cmpI p q = -1) := by show _ = _; rw [HC.out, if_pos h1]
      go_enter Try.func21, Try.ntmps21
      go_wp2_with fail
      go_ret
      exact ⟨by rw [HO2.out, HV.out]; rfl, hbw⟩
    · have HV : Hid (Rl.cmpI p q = 1) := by show _ = _; rw [HC.out, if_neg h1, if_pos (by omega)]
      go_enter Try.func21, Try.ntmps21
      go_wp2_with fail
      go_ret
      exact ⟨by rw [HO2.out, HV.out]; rfl, hbw⟩

end Go.Proofs.Ytgpaleifhcdjnaa

/- Package relation: Has; the document's HasFact and SameFacts. -/
namespace Go.Proofs.Ytgpaleifhcdjnaa
open Go.RowKit

theorem any_has (l : List Rl.Fc) (f : Rl.Fc) : l.any (fun g => Rl.ord f g == 0) = Rl.has l f := by
  unfold Rl.has
  congr 1
  funext g
  rw [Rl.ord_flip g f]
  by_cases h : Rl.ord g f = 0
  · rw [h]
    rfl
  · have h2 : ¬ (- Rl.ord g f) = 0 := by omega
    rw [beq_false_of_ne h2, beq_false_of_ne h]
set_option maxRecDepth 100000 in
set_option maxHeartbeats 400000 in
theorem has1_any (w : World) (FB : Nat) (f : Rl.Fc) (a : Option Addr) (c : Nat) (hB : w.heap[FB]? = some (.cells #[.int .i64 f.pred, .slice a f.args.length c] 49)) (hI : IntsV w (.slice a f.args.length c) f.args) (hF : FFit f) : Keeps1 51 #[.pointer (some ⟨FB, 0, none⟩)] w (fun g => Rl.ord f g == 0) := by
  intro z g ao cap hz hIg hFg
  show Calls Try.prog 51 #[fcVal g.pred (.slice ao g.args.length cap), .pointer (some ⟨FB, 0, none⟩)] z _
  have hBz := (hz.block FB (rl_lt hB)).trans hB
  have hba : Below z.heap.size z (z.alloc (.cells #[.int .i64 g.pred, .slice ao g.args.length cap] 49)) := (Below.refl _ _).alloc (Nat.le_refl _) _
  have hBa := (hba.block FB (rl_lt hBz)).trans hBz
  have hGa := rl_new z (.cells #[.int .i64 g.pred, .slice ao g.args.length cap] 49)
  have HC : Hid (Calls Try.prog 52 #[fcVal f.pred (.slice a f.args.length c), fcVal g.pred (.slice ao g.args.length cap)] (z.alloc (.cells #[.int .i64 g.pred, .slice ao g.args.length cap] 49)) fun e w' => e = .returned (.bool (Rl.ord f g == 0)) ∧ Gr (z.alloc (.cells #[.int .i64 g.pred, .slice ao g.args.length cap] 49)) w') := same_any f g _ _ _ (intsV_below (intsV_below hI hz) hba) (intsV_below hIg hba) hF hFg
  have c0 : (z.alloc (.cells #[.int .i64 g.pred, .slice ao g.args.length cap] 49)).cell? ⟨FB, 0, none⟩ = some (.int .i64 f.pred) := by rw [Lib.cell_of_heap hBa]; rfl
  have c1 : (z.alloc (.cells #[.int .i64 g.pred, .slice ao g.args.length cap] 49)).cell? ⟨FB, 1, none⟩ = some (.slice a f.args.length c) := by rw [Lib.cell_of_heap hBa]; rfl
  have d0 : (z.alloc (.cells #[.int .i64 g.pred, .slice ao g.args.length cap] 49)).cell? ⟨z.heap.size, 0, none⟩ = some (.int .i64 g.pred) := by rw [Lib.cell_of_heap hGa]; rfl
  have d1 : (z.alloc (.cells #[.int .i64 g.pred, .slice ao g.args.length cap] 49)).cell? ⟨z.heap.size, 1, none⟩ = some (.slice ao g.args.length cap) := by rw [Lib.cell_of_heap hGa]; rfl
  clear hBz hBa hGa hIg hz
  go_enter Try.func51, Try.ntmps51
  go_wp2_with fail
  refine Calls.mono HC.out ?_
  rintro e w1 ⟨rfl, hg⟩
  have hb := hba.trans (hg.below.mono hba.size)
  clear HC c0 c1 d0 d1
  go_wp2_with fail
  go_ret
  exact ⟨rfl, hb⟩
theorem rl_enters51 : ∀ args w, (callFunc 51 args).run Try.prog w = .ok (.enter 51 args) w := enters_of Try.func51 (by kernel_rfl) rfl

set_option maxRecDepth 100000 in
set_option maxHeartbeats 1000000 in
theorem Has_any (l : List Rl.Fc) (f : Rl.Fc) (v u : Value) (w : World) (hV : FactsV w v l) (hU : IntsV w u f.args) (hl : l.length ≤ 9223372036854775807) (hf : ∀ f, f ∈ l → FFit f) (hF : FFit f) :
    Calls Try.prog 25 #[v, fcVal f.pred u] w fun e w' => e = .returned (.bool (Rl.has l f)) ∧ Below w.heap.size w w' := by
  obtain ⟨a, c, rfl, _⟩ := id hU
  have hmf : ∀ (fn : Fn) (first cap : Array Value) (w : World), (Instr.makeFunc fn first cap).run Try.prog w = .ok (.func fn first cap) w := fun _ _ _ _ => rfl
  have hba : Below w.heap.size w (w.alloc (.cells #[.int .i64 f.pred, .slice a f.args.length c] 49)) := (Below.refl _ _).alloc (Nat.le_refl _) _
  have HC : Hid (Calls Try.prog 50 #[v, .func (.func 51) #[] #[.pointer (some ⟨w.heap.size, 0, none⟩)]] (w.alloc (.cells #[.int .i64 f.pred, .slice a f.args.length c] 49)) fun e w' => e = .returned (.bool (Rl.has l f)) ∧ Below (w.alloc (.cells #[.int .i64 f.pred, .slice a f.args.length c] 49)).heap.size (w.alloc (.cells #[.int .i64 f.pred, .slice a f.args.length c] 49)) w') := by
    rw [← any_has]
    exact containsF_any l v _ 51 _ _ (factsV_below hV hba) hl hf rl_enters51 (has1_any _ w.heap.size f a c (rl_new w _) (intsV_below hU hba) hF)
  obtain ⟨ao, cap, rfl, _⟩ := hV
  clear hU hf
  go_enter Try.func25, Try.ntmps25
  go_wp2_with fail
  refine Calls.mono HC.out ?_
  rintro e w1 ⟨rfl, hb1⟩
  have hb := hba.trans (hb1.mono hba.size)
  clear HC hb1 hba
  go_wp2_with fail
  go_ret
  exact ⟨rfl, hb⟩

set_option maxRecDepth 100000 in
set_option maxHeartbeats 1000000 in
theorem HasFact_any (l : List Rl.Fc) (f : Rl.Fc) (v u : Value) (w : World) (hV : FactsV w v l) (hU : IntsV w u f.args) (hl : l.length ≤ 9223372036854775807) (hf : ∀ f, f ∈ l → FFit f) (hF : FFit f) :
    Calls Try.prog 26 #[v, fcVal f.pred u] w fun e w' => e = .returned (.bool (Rl.has l f)) ∧ Below w.heap.size w w' := by
  obtain ⟨ao, cap, rfl, _, hA⟩ := hV
  obtain ⟨a, c, rfl, _⟩ := id hU
  have HA : Hid (FactsAt w ao l) := hA
  have HF : Hid (∀ f, f ∈ l → FFit f) := hf
  have HU : Hid (IntsV w (.slice a f.args.length c) f.args ∧ FFit f) := ⟨hU, hF⟩
  have hba : Below w.heap.size w (w.alloc (.cells #[.int .i64 f.pred, .slice a f.args.length c] 49)) := (Below.refl _ _).alloc (Nat.le_refl _) _
  have hFB := rl_new w (.cells #[.int .i64 f.pred, .slice a f.args.length c] 49)
  clear hA hf hU
  go_enter Try.func26, Try.ntmps26
  go_wp2_with fail
  generalize w.alloc (.cells #[.int .i64 f.pred, .slice a f.args.length c] 49) = w1 at *
  go_loopw [5] (fun i wr => ∃ k : Nat, k ≤ l.length ∧ i = .int .i64 k ∧ Rl.has l f = Rl.has (l.drop k) f ∧ Below w1.heap.size w1 wr) (fun i _ => l.length - (intOf i).toNat)
  case atStart => exact ⟨0, Nat.zero_le _, rfl, rfl, Below.refl _ _⟩
  case round =>
    obtain ⟨k, hk, rfl, hall, hbel⟩ := hrel
    have HAL : Hid _ := hall
    clear hall
    have hbw := hba.trans (hbel.mono hba.size)
    by_cases hlt : k < l.length
    · obtain ⟨b, off, rfl, p0, fv, p1, hIv⟩ := facts_at HA.out k hlt
      have hmem := factD_mem l k hlt
      have HD : Hid (Rl.has l f = ((Rl.ord (Rl.factD l k) f == 0) || Rl.has (l.drop (k + 1)) f)) := by show _ = _; rw [HAL.out, factD_drop l k hlt]; rfl
      have HIV : Hid (IntsV w fv (Rl.factD l k).args ∧ FFit (Rl.factD l k)) := ⟨hIv, HF.out _ hmem⟩
      obtain ⟨af, cf, rfl, _⟩ := hIv
      have a0 := cell_below hbw p0
      have a1 := cell_below hbw p1
      have hFB2 := (hbel.block _ (rl_lt hFB)).trans hFB
      have c0 : wr.cell? ⟨w.heap.size, 0, none⟩ = some (.int .i64 f.pred) := by rw [Lib.cell_of_heap hFB2]; rfl
      have c1 : wr.cell? ⟨w.heap.size, 1, none⟩ = some (.slice a f.args.length c) := by rw [Lib.cell_of_heap hFB2]; rfl
      clear p0 p1 HAL hmem hFB2
      generalize Rl.factD l k = g at *
      have HN : Hid (∀ z, Below wr.heap.size wr z → Calls Try.prog 21 #[fcVal g.pred (.slice af g.args.length cf), fcVal f.pred (.slice a f.args.length c)] z fun e w' => e = .returned (.int .i64 (Rl.ord g f)) ∧ Below wr.heap.size wr w' ∧ w'.cell? ⟨b, off + k * 2, none⟩ = some (.int .i64 g.pred) ∧ w'.cell? ⟨b, off + k * 2 + 1, none⟩ = some (.slice af g.args.length cf) ∧ w'.cell? ⟨w.heap.size, 0, none⟩ = some (.int .i64 f.pred) ∧ w'.cell? ⟨w.heap.size, 1, none⟩ = some (.slice a f.args.length c)) := by
        intro z hz
        have hzw := hbw.trans (hz.mono hbw.size)
        refine (OrderOf_any g f _ _ z (intsV_below HIV.out.1 hzw) (intsV_below HU.out.1 hzw) HIV.out.2 HU.out.2).mono ?_
        rintro e w' ⟨h1, h2⟩
        have h3 := hz.trans (h2.mono hz.size)
        exact ⟨h1, h3, cell_below h3 a0, cell_below h3 a1, cell_below h3 c0, cell_below h3 c1⟩
      have HGA : ∀ b o, Below wr.heap.size wr b → Below wr.heap.size wr (b.alloc o) := fun _ o h => h.alloc h.size o
      have HGD : ∀ b, Below wr.heap.size wr b → Below wr.heap.size wr b.drew := fun _ h => ⟨h.os, h.tape, h.output, h.size, h.block⟩
      have HGR : Below wr.heap.size wr wr := Below.refl _ _
      go_upto_region 4 with fail
      go_region_held3 (fun yy => yy.cell? ⟨b, off + k * 2, none⟩ = some (.int .i64 g.pred) ∧ yy.cell? ⟨b, off + k * 2 + 1, none⟩ = some (.slice af g.args.length cf) ∧ yy.cell? ⟨w.heap.size, 0, none⟩ = some (.int .i64 f.pred) ∧ yy.cell? ⟨w.heap.size, 1, none⟩ = some (.slice a f.args.length c) ∧ Below wr.heap.size wr yy) (go_keep) (
        (go_at_call 21; refine Calls.mono (HN.out _ ?_) ?_; (simp [*]); rintro e w2 ⟨rfl, hb2, hz2, hz3, hz4, hz5⟩))
      clear HGA HGD HGR HN hz2 hz3 hz4 hz5
      have hb3 := hbel.trans (hb2.mono hbel.size)
      have hb4 := hbw.trans (hb2.mono hbw.size)
      clear a0 a1 c0 c1 hb2 hbel hbw
      cases hx : (Rl.ord g f == 0)
      · have HV : Hid (Rl.has l f = Rl.has (l.drop (k + 1)) f) := by show _ = _; rw [HD.out, hx]; rfl
        clear HD
        go_wp2_with fail
        go_roundw
        case rel => exact ⟨k + 1, by omega, by go_num, HV.out, hb3⟩
        case measure => simp [intOf]; omega
      · have HV : Hid (Rl.has l f = true) := by show _ = _; rw [HD.out, hx]; rfl
        clear HD
        go_wp2_with fail
        go_ret
        exact ⟨by rw [HV.out]; rfl, hb4⟩
    · have HV : Hid (Rl.has l f = false) := by show _ = _; rw [HAL.out, List.drop_of_length_le (by omega)]; rfl
      go_wp2_with fail
      go_ret
      exact ⟨by rw [HV.out]; rfl, hbw⟩

set_option maxRecDepth 100000 in
set_option maxHeartbeats 1000000 in
theorem SameFacts_refl (l : List Rl.Fc) (v u : Value) (w : World) (hV : FactsV w v l) (hU : FactsV w u l) (hl : l.length ≤ 9223372036854775807) (hf : ∀ f, f ∈ l → FFit f) :
    Calls Try.prog 22 #[v, u] w fun e w' => e = .returned (.bool true) ∧ Below w.heap.size w w' := by
  obtain ⟨ao, cap, rfl, _, hA⟩ := hV
  obtain ⟨bo, cbp, rfl, _, hB⟩ := hU
  have HA : Hid (FactsAt w ao l) := hA
  have HB : Hid (FactsAt w bo l) := hB
  have HF : Hid (∀ f, f ∈ l → FFit f) := hf
  have hne : ((l.length : Int) != (l.length : Int)) = false := by simp
  clear hA hB hf
  go_enter Try.func22, Try.ntmps22
  go_wp2_with fail
  go_loopw [5] (fun i wr => ∃ k : Nat, k ≤ l.length ∧ i = .int .i64 k ∧ Below w.heap.size w wr) (fun i _ => l.length - (intOf i).toNat)
  case atStart => exact ⟨0, Nat.zero_le _, rfl, Below.refl _ _⟩
  case round =>
    obtain ⟨k, hk, rfl, hbw⟩ := hrel
    by_cases hlt : k < l.length
    · obtain ⟨b, off, rfl, p0, fv, p1, hIv⟩ := facts_at HA.out k hlt
      obtain ⟨b2, off2, rfl, r0, gv, r1, hJv⟩ := facts_at HB.out k hlt
      have hmem := factD_mem l k hlt
      have HIV : Hid (IntsV w fv (Rl.factD l k).args ∧ IntsV w gv (Rl.factD l k).args ∧ FFit (Rl.factD l k)) := ⟨hIv, hJv, HF.out _ hmem⟩
      obtain ⟨af, cf, rfl, _⟩ := hIv
      obtain ⟨ag, cg, rfl, _⟩ := hJv
      have a0 := cell_below hbw p0
      have a1 := cell_below hbw p1
      have c0 := cell_below hbw r0
      have c1 := cell_below hbw r1
      clear p0 p1 r0 r1 hmem
      generalize Rl.factD l k = g at *
      have HN : Hid (∀ z, Below wr.heap.size wr z → Calls Try.prog 21 #[fcVal g.pred (.slice af g.args.length cf), fcVal g.pred (.slice ag g.args.length cg)] z fun e w' => e = .returned (.int .i64 0) ∧ Below wr.heap.size wr w' ∧ w'.cell? ⟨b, off + k * 2, none⟩ = some (.int .i64 g.pred) ∧ w'.cell? ⟨b, off + k * 2 + 1, none⟩ = some (.slice af g.args.length cf) ∧ w'.cell? ⟨b2, off2 + k * 2, none⟩ = some (.int .i64 g.pred) ∧ w'.cell? ⟨b2, off2 + k * 2 + 1, none⟩ = some (.slice ag g.args.length cg)) := by
        intro z hz
        have hzw := hbw.trans (hz.mono hbw.size)
        refine (OrderOf_any g g _ _ z (intsV_below HIV.out.1 hzw) (intsV_below HIV.out.2.1 hzw) HIV.out.2.2 HIV.out.2.2).mono ?_
        rintro e w' ⟨h1, h2⟩
        have h3 := hz.trans (h2.mono hz.size)
        rw [Rl.ord_self] at h1
        exact ⟨h1, h3, cell_below h3 a0, cell_below h3 a1, cell_below h3 c0, cell_below h3 c1⟩
      have HGA : ∀ b o, Below wr.heap.size wr b → Below wr.heap.size wr (b.alloc o) := fun _ o h => h.alloc h.size o
      have HGD : ∀ b, Below wr.heap.size wr b → Below wr.heap.size wr b.drew := fun _ h => ⟨h.os, h.tape, h.output, h.size, h.block⟩
      have HGR : Below wr.heap.size wr wr := Below.refl _ _
      go_upto_region 6 with fail
      go_region_held3 (fun yy => yy.cell? ⟨b, off + k * 2, none⟩ = some (.int .i64 g.pred) ∧ yy.cell? ⟨b, off + k * 2 + 1, none⟩ = some (.slice af g.args.length cf) ∧ yy.cell? ⟨b2, off2 + k * 2, none⟩ = some (.int .i64 g.pred) ∧ yy.cell? ⟨b2, off2 + k * 2 + 1, none⟩ = some (.slice ag g.args.length cg) ∧ Below wr.heap.size wr yy) (go_keep) (
        (go_at_call 21; refine Calls.mono (HN.out _ ?_) ?_; (simp [*]); rintro e w2 ⟨rfl, hb2, hz2, hz3, hz4, hz5⟩))
      clear HGA HGD HGR HN hz2 hz3 hz4 hz5
      have hb3 := hbw.trans (hb2.mono hbw.size)
      clear a0 a1 c0 c1 hb2 hbw
      go_wp2_with fail
      go_roundw
      case rel => exact ⟨k + 1, by omega, by go_num, hb3⟩
      case measure => simp [intOf]; omega
    · go_wp2_with fail
      go_ret
      exact ⟨rfl, hbw⟩

end Go.Proofs.Ytgpaleifhcdjnaa

/- Package relation: Match. -/
namespace Go.Proofs.Ytgpaleifhcdjnaa
open Go.RowKit

def Rl.boolD (l : List Bool) (i : Nat) : Bool := l.getD i false
def BoolsAt (w : World) (ao : Option Addr) (l : List Bool) : Prop :=
  l = [] ∨ ∃ b off, ao = some ⟨b, off, none⟩ ∧ ∀ i, i < l.length → w.cell? ⟨b, off + i, none⟩ = some (.bool (Rl.boolD l i))
def BoolsV (w : World) (v : Value) (l : List Bool) : Prop := ∃ ao cap, v = .slice ao l.length cap ∧ (l.length ≤ cap ∧ (ao = none → cap = 0)) ∧ BoolsAt w ao l
theorem boolsAt_below {w w' : World} {ao : Option Addr} {l : List Bool} (h : BoolsAt w ao l) (hb : Below w.heap.size w w') : BoolsAt w' ao l := by
  rcases h with h | ⟨b, off, rfl, h⟩
  · exact .inl h
  · exact .inr ⟨b, off, rfl, fun i hi => cell_below hb (h i hi)⟩
theorem intsAt_below9 {w w' : World} {ao : Option Addr} {l : List Int} (h : IntsAt w ao l) (hb : Below w.heap.size w w') : IntsAt w' ao l := by
  obtain ⟨_, _, he, h⟩ := intsV_below (⟨ao, 0, rfl, h⟩ : IntsV w (.slice ao l.length 0) l) hb
  injection he with he
  rw [he]
  exact h
theorem intsV_at {w : World} {ao : Option Addr} {n cap : Nat} {l : List Int} (h : IntsV w (.slice ao n cap) l) : IntsAt w ao l := by
  obtain ⟨_, _, he, h⟩ := h
  injection he with he
  rw [he]
  exact h
theorem bools_at {w : World} {ao : Option Addr} {l : List Bool} (h : BoolsAt w ao l) (i : Nat) (hi : i < l.length) : ∃ b off, ao = some ⟨b, off, none⟩ ∧ w.cell? ⟨b, off + i, none⟩ = some (.bool (Rl.boolD l i)) := by
  rcases h with rfl | ⟨b, off, rfl, h⟩
  · exact absurd hi (Nat.not_lt_zero _)
  · exact ⟨b, off, rfl, h i hi⟩
theorem boolsAt_take {w : World} {ao : Option Addr} {l : List Bool} (h : BoolsAt w ao l) (n : Nat) : BoolsAt w ao (l.take n) := by
  rcases h with rfl | ⟨b, off, rfl, h⟩
  · exact .inl (by simp)
  · refine .inr ⟨b, off, rfl, fun i hi => ?_⟩
    rw [List.length_take] at hi
    rw [h i (by omega)]
    simp [Rl.boolD, List.getD_eq_getElem?_getD, show i < n by omega]
theorem agree_drop (x y : List Int) (z : List Bool) (k : Nat) (hx : k < x.length) (hy : k < y.length) (hz : k < z.length) : Rl.agree (x.drop k) (y.drop k) (z.drop k) = ((!Rl.boolD z k || Sc.intD x k == Sc.intD y k) && Rl.agree (x.drop (k + 1)) (y.drop (k + 1)) (z.drop (k + 1))) := by
  have h1 : x.drop k = Sc.intD x k :: x.drop (k + 1) := by rw [List.drop_eq_getElem_cons hx]; simp [Sc.intD, List.getD_eq_getElem?_getD, hx]
  have h2 : y.drop k = Sc.intD y k :: y.drop (k + 1) := by rw [List.drop_eq_getElem_cons hy]; simp [Sc.intD, List.getD_eq_getElem?_getD, hy]
  have h3 : z.drop k = Rl.boolD z k :: z.drop (k + 1) := by rw [List.drop_eq_getElem_cons hz]; simp [Rl.boolD, List.getD_eq_getElem?_getD, hz]
  rw [h1, h2, h3]
  rfl
theorem agree_nil (x y : List Int) : Rl.agree x y [] = true := by cases x <;> cases y <;> rfl
theorem agree_take (x y : List Int) (z : List Bool) (n : Nat) (h : y.length ≤ n) : Rl.agree x y (z.take n) = Rl.agree x y z := by
  induction y generalizing x z n with
  | nil => cases x <;> simp [Rl.agree]
  | cons b y ih =>
    cases x with
    | nil => simp [Rl.agree]
    | cons a x =>
      cases z with
      | nil => simp
      | cons c z =>
        cases n with
        | zero => simp at h
        | succ n =>
          simp only [List.take_succ_cons, Rl.agree]
          rw [ih x z n (by simpa using h)]

set_option maxRecDepth 100000 in
set_option maxHeartbeats 1000000 in
theorem agree_any (x y : List Int) (z : List Bool) (ao bo zo : Option Addr) (cap cbp czp : Nat) (w : World) (hA : IntsAt w ao x) (hB : IntsAt w bo y) (hZ : BoolsAt w zo z) (hx : z.length ≤ x.length) (hy : z.length ≤ y.length) (hlx : x.length ≤ 9223372036854775807) :
    Calls Try.prog 57 #[.slice ao x.length cap, .slice bo y.length cbp, .slice zo z.length czp] w fun e w' => e = .returned (.bool (Rl.agree x y z)) ∧ Below w.heap.size w w' := by
  have HA : Hid (IntsAt w ao x) := hA
  have HB : Hid (IntsAt w bo y) := hB
  have HZ : Hid (BoolsAt w zo z) := hZ
  clear hA hB hZ
  go_enter Try.func57, Try.ntmps57
  go_wp2_with fail
  go_loopw [11] (fun i wr => ∃ k : Nat, k ≤ z.length ∧ i = .int .i64 k ∧ Rl.agree (x.drop k) (y.drop k) (z.drop k) = Rl.agree x y z ∧ Below w.heap.size w wr) (fun i _ => z.length - (intOf i).toNat)
  case atStart => exact ⟨0, Nat.zero_le _, rfl, rfl, Below.refl _ _⟩
  case round =>
    obtain ⟨wo, hwo⟩ : ∃ wo, wo = wr := ⟨_, rfl⟩
    subst hwo
    obtain ⟨k, hk, rfl, hq, hb⟩ := hrel
    have HQ : Hid _ := hq
    clear hq
    by_cases hlt : k < z.length
    · obtain ⟨b1, off1, rfl, p1⟩ := ints_at HA.out k (by omega)
      obtain ⟨b2, off2, rfl, p2⟩ := ints_at HB.out k (by omega)
      obtain ⟨b3, off3, rfl, p3⟩ := bools_at HZ.out k hlt
      have a1 := cell_below hb p1
      have a2 := cell_below hb p2
      have a3 := cell_below hb p3
      have HD : Hid (Rl.agree x y z = ((!Rl.boolD z k || Sc.intD x k == Sc.intD y k) && Rl.agree (x.drop (k + 1)) (y.drop (k + 1)) (z.drop (k + 1)))) := by show _ = _; rw [← HQ.out]; exact agree_drop x y z k (by omega) (by omega) hlt
      clear p1 p2 p3
      have hx1 : k < x.length := by omega
      have hy1 : k < y.length := by omega
      have hbd : Below w.heap.size w wo.drew := ⟨hb.os, hb.tape, hb.output, hb.size, hb.block⟩
      generalize Sc.intD x k = a at *
      generalize Sc.intD y k = b' at *
      generalize Rl.boolD z k = c at *
      cases c
      · rw [Bool.not_false, Bool.true_or, Bool.true_and] at HD
        go_upto_region 4 with fail
        go_region
        go_wp2_with fail
        go_roundw
        case rel => exact ⟨k + 1, hlt, by go_num, HD.out.symm, hbd⟩
        case measure => simp [intOf]; omega
      · rw [Bool.not_true, Bool.false_or] at HD
        go_upto_region 4 with fail
        go_region
        by_cases hab : a = b'
        · have HE : Hid (Rl.agree x y z = Rl.agree (x.drop (k + 1)) (y.drop (k + 1)) (z.drop (k + 1))) := by show _ = _; rw [HD.out, hab]; simp
          go_wp2_with fail
          go_roundw
          case rel => exact ⟨k + 1, hlt, by go_num, HE.out.symm, hbd⟩
          case measure => simp [intOf]; omega
        · have HE : Hid (Rl.agree x y z = false) := by show _ = _; rw [HD.out]; simp [hab]
          go_wp2_with fail
          go_ret
          exact ⟨by rw [HE.out]; rfl, hbd⟩
    · have HE : Hid (Rl.agree x y z = true) := by show _ = _; rw [← HQ.out, show z.drop k = [] from List.drop_of_length_le (by omega), agree_nil]
      have hk : k = z.length := by omega
      subst hk
      go_wp2_with fail
      go_ret
      exact ⟨by rw [HE.out]; rfl, hb⟩

set_option maxRecDepth 100000 in
set_option maxHeartbeats 1000000 in
theorem match1_any (w : World) (B : Nat) (p : Int) (y : List Int) (z : List Bool) (bo zo : Option Addr) (cbp czp : Nat) (h0 : w.cell? ⟨B, 0, none⟩ = some (.int .i64 p)) (h1 : w.cell? ⟨B + 1, 0, none⟩ = some (.slice bo y.length cbp)) (h2 : w.cell? ⟨B + 2, 0, none⟩ = some (.slice zo z.length czp)) (hB : IntsAt w bo y) (hZ : BoolsAt w zo z) (hy : z.length ≤ y.length) :
    Keeps1 56 #[.pointer (some ⟨B, 0, none⟩), .pointer (some ⟨B + 1, 0, none⟩), .pointer (some ⟨B + 2, 0, none⟩)] w (Rl.fits p y z) := by
  intro v g ao cap hv hIg hFg
  show Calls Try.prog 56 #[fcVal g.pred (.slice ao g.args.length cap), .pointer (some ⟨B, 0, none⟩), .pointer (some ⟨B + 1, 0, none⟩), .pointer (some ⟨B + 2, 0, none⟩)] v _
  obtain ⟨q, x⟩ := g
  have hba : Below v.heap.size v (v.alloc (.cells #[.int .i64 q, .slice ao x.length cap] 49)) := (Below.refl _ _).alloc (Nat.le_refl _) _
  have c0 := cell_below hba (cell_below hv h0)
  have c1 := cell_below hba (cell_below hv h1)
  have c2 := cell_below hba (cell_below hv h2)
  have hGa := rl_new v (.cells #[.int .i64 q, .slice ao x.length cap] 49)
  have d0 : (v.alloc (.cells #[.int .i64 q, .slice ao x.length cap] 49)).cell? ⟨v.heap.size, 0, none⟩ = some (.int .i64 q) := by rw [Lib.cell_of_heap hGa]; rfl
  have d1 : (v.alloc (.cells #[.int .i64 q, .slice ao x.length cap] 49)).cell? ⟨v.heap.size, 1, none⟩ = some (.slice ao x.length cap) := by rw [Lib.cell_of_heap hGa]; rfl
  have hFg : x.length ≤ 9223372036854775807 := hFg
  have HI : Hid (IntsAt (v.alloc (.cells #[.int .i64 q, .slice ao x.length cap] 49)) ao x ∧ IntsAt (v.alloc (.cells #[.int .i64 q, .slice ao x.length cap] 49)) bo y ∧ BoolsAt (v.alloc (.cells #[.int .i64 q, .slice ao x.length cap] 49)) zo z) := ⟨intsAt_below9 (intsV_at hIg) hba, intsAt_below9 (intsAt_below9 hB hv) hba, boolsAt_below (boolsAt_below hZ hv) hba⟩
  clear h0 h1 h2 hIg hB hZ hv hGa
  by_cases hqp : q = p
  · subst hqp
    by_cases hxy : x.length = y.length
    · have HC : Hid _ := agree_any x y z ao bo zo cap cbp czp _ HI.out.1 HI.out.2.1 HI.out.2.2 (by omega) hy hFg
      have HR : Hid (Rl.fits q y z ⟨q, x⟩ = Rl.agree x y z) := by show _ = _; simp [Rl.fits, hxy]
      have hxc : ((x.length : Int) == (y.length : Int)) = true := by simp [hxy]
      clear HI hxy
      go_enter Try.func56, Try.ntmps56
      go_wp2_with fail
      refine Calls.mono HC.out ?_
      rintro e w1 ⟨rfl, hb1⟩
      have hb := hba.trans (hb1.mono hba.size)
      clear hb1 hba c0 c1 c2 d0 d1 HC
      go_wp2_with fail
      go_ret
      exact ⟨by rw [HR.out]; rfl, hb⟩
    · have HR : Hid (Rl.fits q y z ⟨q, x⟩ = false) := by show _ = _; simp [Rl.fits, hxy]
      have hxc : ((x.length : Int) == (y.length : Int)) = false := by simp; omega
      clear HI
      go_enter Try.func56, Try.ntmps56
      go_wp2_with fail
      go_ret
      exact ⟨by rw [HR.out]; rfl, hba⟩
  · have HR : Hid (Rl.fits p y z ⟨q, x⟩ = false) := by show _ = _; simp [Rl.fits, hqp]
    clear HI
    go_enter Try.func56, Try.ntmps56
    go_wp2_with fail
    go_ret
    exact ⟨by rw [HR.out]; rfl, hba⟩
theorem rl_enters56 : ∀ args w, (callFunc 56 args).run Try.prog w = .ok (.enter 56 args) w := enters_of Try.func56 (by kernel_rfl) rfl

theorem three_new (w : World) (a b c : Obj) : (((w.alloc a).alloc b).alloc c).heap[w.heap.size]? = some a ∧ (((w.alloc a).alloc b).alloc c).heap[w.heap.size + 1]? = some b ∧ (((w.alloc a).alloc b).alloc c).heap[w.heap.size + 2]? = some c := by
  show (((w.heap.push a).push b).push c)[w.heap.size]? = some a ∧ (((w.heap.push a).push b).push c)[w.heap.size + 1]? = some b ∧ (((w.heap.push a).push b).push c)[w.heap.size + 2]? = some c
  refine ⟨?_, ?_, ?_⟩
  · rw [Array.getElem?_push, if_neg (by simp; omega), Array.getElem?_push, if_neg (by simp), Array.getElem?_push, if_pos rfl]
  · rw [Array.getElem?_push, if_neg (by simp), Array.getElem?_push, if_pos (by simp)]
  · rw [Array.getElem?_push, if_pos (by simp)]

set_option maxRecDepth 100000 in
set_option maxHeartbeats 1000000 in
theorem Match_any (l : List Rl.Fc) (p : Int) (y : List Int) (z : List Bool) (v u t : Value) (w : World) (hV : FactsV w v l) (hU : IntsV w u y) (hT : BoolsV w t z) (hl : l.length ≤ 1048576) (hf : ∀ f, f ∈ l → f.args.length ≤ 1048576) (hy : y.length ≤ 1048576) (hz : z.length ≤ 1048576) :
    Calls Try.prog 31 #[v, .int .i64 p, u, t] w fun e w' => ∃ v', e = .returned v' ∧ FactsV w' v' (Rl.matchL l p y z) ∧ Below w.heap.size w w' := by
  have hmf : ∀ (fn : Fn) (first cap : Array Value) (w : World), (Instr.makeFunc fn first cap).run Try.prog w = .ok (.func fn first cap) w := fun _ _ _ _ => rfl
  obtain ⟨ao, cap, rfl, hc1, hA⟩ := id hV
  obtain ⟨bo, cbp, rfl, hB⟩ := hU
  obtain ⟨zo, czp, rfl, hc3, hZ⟩ := hT
  have HV : Hid (FactsV w (.slice ao l.length cap) l) := hV
  have HB : Hid (IntsAt w bo y) := hB
  have HZ : Hid (BoolsAt w zo z) := hZ
  obtain ⟨hc3, hc4⟩ := hc3
  clear hV hB hZ hc1 hA
  go_enter Try.func31, Try.ntmps31
  go_wp2_with fail
  have hn : (min (z.length : Int) (y.length : Int)).toNat = (z.take y.length).length := by rw [List.length_take]; omega
  rw [hn]
  have hb1 : Below w.heap.size w (w.alloc (Obj.cells #[Value.int IntKind.i64 p] 3)) := (Below.refl _ _).alloc (Nat.le_refl _) _
  have hb2 := hb1.alloc hb1.size (Obj.cells #[Value.slice bo y.length cbp] 22)
  have hb3 := hb2.alloc hb2.size (Obj.cells #[Value.slice zo (z.take y.length).length czp] 30)
  have e0 : (((w.alloc (Obj.cells #[Value.int IntKind.i64 p] 3)).alloc (Obj.cells #[Value.slice bo y.length cbp] 22)).alloc (Obj.cells #[Value.slice zo (z.take y.length).length czp] 30)).cell? ⟨w.heap.size, 0, none⟩ = some (.int .i64 p) := by rw [Lib.cell_of_heap (three_new w _ _ _).1]; rfl
  have e1 : (((w.alloc (Obj.cells #[Value.int IntKind.i64 p] 3)).alloc (Obj.cells #[Value.slice bo y.length cbp] 22)).alloc (Obj.cells #[Value.slice zo (z.take y.length).length czp] 30)).cell? ⟨w.heap.size + 1, 0, none⟩ = some (.slice bo y.length cbp) := by rw [Lib.cell_of_heap (three_new w _ _ _).2.1]; rfl
  have e2 : (((w.alloc (Obj.cells #[Value.int IntKind.i64 p] 3)).alloc (Obj.cells #[Value.slice bo y.length cbp] 22)).alloc (Obj.cells #[Value.slice zo (z.take y.length).length czp] 30)).cell? ⟨w.heap.size + 2, 0, none⟩ = some (.slice zo (z.take y.length).length czp) := by rw [Lib.cell_of_heap (three_new w _ _ _).2.2]; rfl
  refine Calls.mono (keep_any l _ _ 56 _ (Rl.fits p y (z.take y.length)) (factsV_below HV.out hb3) (by omega) hf rl_enters56 (match1_any _ w.heap.size p y (z.take y.length) bo zo cbp czp e0 e1 e2 (intsAt_below9 HB.out hb3) (boolsAt_take (boolsAt_below HZ.out hb3) _) (by rw [List.length_take]; omega))) ?_
  rintro e w3 ⟨v3, rfl, hS, hbk⟩
  have HS : Hid (FactsV w3 v3 (Rl.matchL l p y z)) := by
    have h := hS.toV
    rw [show Rl.fits p y (z.take y.length) = Rl.fits p y z from funext fun f => by unfold Rl.fits; rw [agree_take _ _ _ _ (Nat.le_refl _)]] at h
    exact h
  obtain ⟨q3, _, hown3, _⟩ := id hS
  obtain ⟨a3, c3, rfl⟩ := own_slice hown3
  have hb4 := hb3.trans (hbk.mono hb3.size)
  clear hown3 hS hbk hb1 hb2 hb3 e0 e1 e2 hn HV HB HZ hc3 hc4
  go_wp2_with fail
  go_ret
  exact ⟨_, rfl, HS.out, hb4⟩

end Go.Proofs.Ytgpaleifhcdjnaa

/- Package strata: Needs. -/
namespace Go.Proofs.Ytgpaleifhcdjnaa
open Go.RowKit

namespace St
theorem niter_add (E : List Fx.Edge) : ∀ (j k : Nat) (s : List Bool), niter E (j + k) s = niter E k (niter E j s)
  | 0, k, s => by rw [Nat.zero_add]; rfl
  | j + 1, k, s => by rw [Nat.add_right_comm]; exact niter_add E j k (nround E s)
theorem niter_fix {E : List Fx.Edge} {s : List Bool} (h : nround E s = s) : ∀ k, niter E k s = s
  | 0 => rfl
  | k + 1 => by rw [niter_succ, niter_fix h k, h]
theorem needs_early {p : Sc.Prog} {q k : Nat} (hi : Fx.In (back p) p.arity.length) (h : nround (back p) (niter (back p) k (only p.arity.length q)) = niter (back p) k (only p.arity.length q)) : needs p q = niter (back p) k (only p.arity.length q) := by
  have h2 := needs_fix (p := p) q hi
  unfold needs at h2 ⊢
  rcases Nat.le_total k p.arity.length with hk | hk
  · obtain ⟨d, hd⟩ : ∃ d, p.arity.length = k + d := ⟨p.arity.length - k, by omega⟩
    have h3 : niter (back p) (k + d) (only p.arity.length q) = niter (back p) k (only p.arity.length q) := by rw [niter_add, niter_fix h]
    rw [← hd] at h3
    exact h3
  · obtain ⟨d, hd⟩ : ∃ d, k = p.arity.length + d := ⟨k - p.arity.length, by omega⟩
    rw [hd, niter_add, niter_fix h2]
def falses : List Bool → Nat
  | [] => 0
  | b :: l => (if b then 0 else 1) + falses l
theorem falses_le : ∀ {s t : List Bool}, s.length = t.length → (∀ i : Nat, s.getD i false = true → t.getD i false = true) → falses t ≤ falses s
  | [], [], _, _ => Nat.le_refl _
  | [], _ :: _, h, _ => absurd h (by simp)
  | _ :: _, [], h, _ => absurd h (by simp)
  | x :: s, y :: t, h, hk => by
    have ih := falses_le (s := s) (t := t) (by simpa using h) (fun i hi => by have := hk (i + 1); simpa using this (by simpa using hi))
    have h0 := hk 0
    simp only [List.getD_cons_zero] at h0
    unfold falses
    cases x
    · cases y <;> simp <;> omega
    · rw [h0 rfl]; simp; exact ih
theorem falses_lt : ∀ {s t : List Bool}, s.length = t.length → (∀ i : Nat, s.getD i false = true → t.getD i false = true) → s ≠ t → falses t < falses s
  | [], [], _, _, hn => absurd rfl hn
  | [], _ :: _, h, _, _ => absurd h (by simp)
  | _ :: _, [], h, _, _ => absurd h (by simp)
  | x :: s, y :: t, h, hk, hn => by
    have hl : s.length = t.length := by simpa using h
    have hks : ∀ i : Nat, s.getD i false = true → t.getD i false = true := fun i hi => by have := hk (i + 1); simpa using this (by simpa using hi)
    have h0 := hk 0
    simp only [List.getD_cons_zero] at h0
    by_cases hst : s = t
    · have hxy : x ≠ y := fun e => hn (by rw [e, hst])
      unfold falses
      cases x
      · cases y
        · exact absurd rfl hxy
        · rw [hst]; simp
      · exact absurd (h0 rfl).symm hxy
    · have ih := falses_lt hl hks hst
      unfold falses
      cases x
      · cases y <;> simp <;> omega
      · rw [h0 rfl]; simp; exact ih
/-- How much is not yet needed, read off a row. -/
def lacks : Option Obj → Nat
  | some (.cells a _) => falses (a.toList.map fun v => match v with | .bool b => b | _ => false)
  | _ => 0
theorem lacks_row (l : List Bool) : lacks (some (.cells (boolRow l) 4)) = falses l := by
  unfold lacks boolRow
  simp only [List.map_map]
  congr 1
  induction l with
  | nil => rfl
  | cons b l ih => simp only [List.map_cons, Function.comp, ih]
/-- What Needs answers. -/
def isIn (p : Sc.Prog) (k : Int) : Bool := decide (0 ≤ k) && decide (k < (p.arity.length : Int))
def needErr (p : Sc.Prog) (k : Int) : Int := if Sc.check p = 0 then (if isIn p k then 0 else 5) else Sc.check p
def needOut (p : Sc.Prog) (k : Int) : List Bool := if Sc.check p = 0 ∧ isIn p k = true then needs p k.toNat else []
theorem needErr_bad {p : Sc.Prog} {k : Int} (h : ¬ Sc.check p = 0) : needErr p k = Sc.check p ∧ needOut p k = [] := by
  unfold needErr needOut
  rw [if_neg h, if_neg (fun k => h k.1)]
  exact ⟨rfl, rfl⟩
theorem needErr_in {p : Sc.Prog} {k : Int} (h : Sc.check p = 0) (hf : isIn p k = true) : needErr p k = 0 ∧ needOut p k = needs p k.toNat := by
  unfold needErr needOut
  rw [if_pos h, if_pos hf, if_pos ⟨h, hf⟩]
  exact ⟨rfl, rfl⟩
theorem needErr_out {p : Sc.Prog} {k : Int} (h : Sc.check p = 0) (hf : isIn p k = false) : needErr p k = 5 ∧ needOut p k = [] := by
  unfold needErr needOut
  rw [if_pos h, if_neg (by simp [hf]), if_neg (by simp [hf])]
  exact ⟨rfl, rfl⟩
end St

theorem boolRow_setIf (l : List Bool) (q : Nat) (v : Bool) : (boolRow l).setIfInBounds q (.bool v) = boolRow (l.set q v) := by
  unfold boolRow
  rw [List.setIfInBounds_toArray, List.map_set]
theorem made_boolRow (n : Nat) : madeCells #[Value.bool false] n = boolRow (List.replicate n false) := made_bools n
theorem boolRow_bools {w : World} {b : Nat} {l : List Bool} (cap : Nat) (hc : l.length ≤ cap) (h : w.heap[b]? = some (.cells (boolRow l) 4)) : BoolsV w (.slice (some ⟨b, 0, none⟩) l.length cap) l := by
  refine ⟨_, _, rfl, ⟨hc, fun h => by cases h⟩, .inr ⟨b, 0, rfl, fun i hi => ?_⟩⟩
  rw [Nat.zero_add]
  exact boolRow_cell h hi

set_option maxRecDepth 100000 in
set_option maxHeartbeats 1000000 in
theorem Needs_any (p : Sc.Prog) (pd : Int) (va vn vr : Value) (w : World) (hP : ProgV w va vn vr p) (hF : ProgFit p) :
    Calls Try.prog 8 #[progVal va vn vr, .int .i64 pd] w fun e w' => ∃ v, e = .returned (.tuple #[v, .int .i64 (St.needErr p pd)]) ∧ BoolsV w' v (St.needOut p pd) ∧ Below w.heap.size w w' := by
  obtain ⟨a0, n0, rfl, _⟩ := id hP.ar
  obtain ⟨a1, n1, rfl, _⟩ := id hP.nm
  obtain ⟨a2, n2, rfl, _⟩ := id hP.rl
  have hb0 : Below w.heap.size w (w.alloc (.cells #[.slice a0 p.arity.length n0, .slice a1 p.names.length n1, .slice a2 p.rules.length n2] 26)) := (Below.refl _ _).alloc (Nat.le_refl _) _
  have hX := heap_alloc_new w (.cells #[.slice a0 p.arity.length n0, .slice a1 p.names.length n1, .slice a2 p.rules.length n2] 26)
  have hnil : ∀ u : World, BoolsV u (.slice none 0 0) [] := fun u => ⟨none, 0, rfl, ⟨Nat.le_refl _, fun _ => rfl⟩, .inl rfl⟩
  have HN : Hid _ := hnil
  have HP : Hid _ := hP
  have HF : Hid _ := hF
  clear hP hF hnil
  go_enter Try.func8, Try.ntmps8
  go_wp2_with fail
  generalize w.alloc (.cells #[.slice a0 p.arity.length n0, .slice a1 p.names.length n1, .slice a2 p.rules.length n2] 26) = w1 at *
  refine (ScCheck_any p _ _ _ w1 (HP.out.below hb0) HF.out).mono ?_
  rintro e w2 ⟨rfl, hb2⟩
  have hX2 := (hb2.block _ (Array.getElem?_eq_some_iff.mp hX).1).trans hX
  have hbw := hb0.trans (hb2.mono hb0.size)
  clear hX hb0 hb2
  by_cases hc : Sc.check p = 0
  · obtain ⟨hn, hr, hR⟩ := St.check_in hc
    have HC : Hid (Sc.check p = 0) := hc
    have HR : Hid _ := hR
    rw [hc]
    clear hc hR
    have c0 : w2.cell? ⟨w.heap.size, 0, none⟩ = some (.slice a0 p.arity.length n0) := by rw [Lib.cell_of_heap hX2]; rfl
    by_cases h0 : pd < 0
    · have HE : Hid _ := St.needErr_out (k := pd) HC.out (by simp [St.isIn]; omega)
      have hd : decide (pd < 0) = true := decide_eq_true h0
      clear h0
      go_wp2_with fail
      refine bodyPost_ret (results_tmp2 rfl _ _ _) rfl ?_
      exact ⟨_, by rw [HE.out.1]; rfl, by rw [HE.out.2]; exact HN.out _, hbw⟩
    · have hd : decide (pd < 0) = false := decide_eq_false h0
      by_cases h1 : (p.arity.length : Int) ≤ pd
      · have HE : Hid _ := St.needErr_out (k := pd) HC.out (by simp [St.isIn]; omega)
        have hd1 : decide ((p.arity.length : Int) ≤ pd) = true := decide_eq_true h1
        clear h0 h1
        go_wp2_with fail
        refine bodyPost_ret (results_tmp2 rfl _ _ _) rfl ?_
        exact ⟨_, by rw [HE.out.1]; rfl, by rw [HE.out.2]; exact HN.out _, hbw⟩
      · have HE : Hid _ := St.needErr_in (k := pd) HC.out (by simp [St.isIn]; omega)
        obtain ⟨q, rfl⟩ : ∃ q : Nat, pd = q := ⟨pd.toNat, by omega⟩
        have hq : q < p.arity.length := by omega
        have hd1 : decide ((p.arity.length : Int) ≤ (q : Int)) = false := decide_eq_false h1
        have hd1n : decide (p.arity.length ≤ q) = false := decide_eq_false (by omega)
        clear h0 h1
        have hmk := run_make_row' (P := Try.prog) 30 4 (.bool false) 1 Try.underlying30 (by kernel_rfl) rfl .i64 .i64 p.arity.length (by omega) (by omega)
        have b3 := (Below.refl w2.heap.size w2).alloc (Nat.le_refl _) (.cells (madeCells #[Value.bool false] p.arity.length) 4)
        have hrow := heap_alloc_new w2 (.cells (madeCells #[Value.bool false] p.arity.length) 4)
        have hX3 := (b3.block _ (Array.getElem?_eq_some_iff.mp hX2).1).trans hX2
        have hb3 := hbw.trans (b3.mono hbw.size)
        have hlw : w.heap.size < w2.heap.size := (Array.getElem?_eq_some_iff.mp hX2).1
        rw [made_boolRow] at hmk hrow hX3 hb3
        clear b3
        have f3 := Lib.frozen_of_heap hrow q
        have c4 := boolRow_cell hrow (i := q) (by simpa using hq)
        clear hrow
        have b4 := (Below.refl w2.heap.size w2).alloc (Nat.le_refl _) (.cells ((boolRow (List.replicate p.arity.length false)).setIfInBounds q (.bool true)) 4)
        have hX4 := (b4.block _ (Array.getElem?_eq_some_iff.mp hX2).1).trans hX2
        have hb4 := hbw.trans (b4.mono hbw.size)
        have HRW : Hid ((w2.alloc (.cells ((boolRow (List.replicate p.arity.length false)).setIfInBounds q (.bool true)) 4)).heap[w2.heap.size]? = some (.cells (boolRow (St.only p.arity.length q)) 4)) := by
          show _ = _
          rw [heap_alloc_new, boolRow_setIf]
          rfl
        clear b4
        have HX4 : Hid _ := hX4
        have HB4 : Hid _ := hb4
        clear hX3 hb3 hX4 hb4
        go_wp2_with fail
        generalize w2.alloc (.cells ((boolRow (List.replicate p.arity.length false)).setIfInBounds q (.bool true)) 4) = w3 at *
        generalize w2.heap.size = LB at *
        clear hmk c0 hX2 hbw f3 c4
        go_loopw [29] (fun _ wr => ∃ k : Nat, wr.heap[LB]? = some (.cells (boolRow (St.niter (St.back p) k (St.only p.arity.length q))) 4) ∧ w3.grownBy wr (some LB)) (fun _ wr => St.lacks wr.heap[LB]?)
        case atStart => exact ⟨0, HRW.out, ⟨rfl, rfl, rfl, Nat.le_refl _, fun _ _ _ => rfl⟩⟩
        case round =>
          clear HRW
          obtain ⟨k, hrow, hg⟩ := hrel
          have hXr : wr.heap[w.heap.size]? = some (.cells #[.slice a0 p.arity.length n0, .slice a1 p.names.length n1, .slice a2 p.rules.length n2] 26) := (hg.block _ (Array.getElem?_eq_some_iff.mp HX4.out).1 (fun e => by injection e with e; omega)).trans HX4.out
          have c2 : wr.cell? ⟨w.heap.size, 2, none⟩ = some (.slice a2 p.rules.length n2) := by rw [Lib.cell_of_heap hXr]; rfl
          have hbr : Below w.heap.size w wr := below_row HB4.out hg (by omega)
          have HROW : Hid _ := hrow
          have HG : Hid _ := hg
          have HBR : Hid _ := hbr
          clear hXr hbr hrow hg
          have hlen : (St.niter (St.back p) k (St.only p.arity.length q)).length = p.arity.length := by rw [St.niter_length]; simp [St.only]
          have HSA := spread_any w wr p.rules (.slice a2 p.rules.length n2) (St.niter (St.back p) k (St.only p.arity.length q)) LB p.arity.length HP.out.rl HBR.out (by omega) HROW.out (by rw [hlen]; exact HR.out) hr
          rw [hlen] at HSA
          have HSA : Hid _ := HSA
          have HLN : Hid _ := hlen
          clear hlen
          go_wp2_with fail
          refine Calls.mono HSA.out ?_
          rintro e w5 ⟨rfl, hrow5, hg5⟩
          have HR5 : Hid _ := hrow5
          have HG5 : Hid _ := hg5
          clear HSA hrow5 hg5
          by_cases hfx : St.nround (St.backOf p.rules) (St.niter (St.back p) k (St.only p.arity.length q)) = St.niter (St.back p) k (St.only p.arity.length q)
          · have hfd : decide (St.nround (St.backOf p.rules) (St.niter (St.back p) k (St.only p.arity.length q)) ≠ St.niter (St.back p) k (St.only p.arity.length q)) = false := decide_eq_false (fun h => h hfx)
            have HL : Hid _ := St.needs_early (St.back_in HR.out) hfx
            rw [hfd]
            rw [hfx] at HR5
            clear hfx hfd
            go_wp2_with fail
            refine bodyPost_ret (results_tmp2 rfl _ _ _) rfl ⟨_, by rw [HE.out.1]; rfl, ?_, ?_⟩
            · rw [HE.out.2, Int.toNat_natCast, HL.out]
              have h9 := boolRow_bools p.arity.length (by rw [HLN.out]; exact Nat.le_refl _) HR5.out
              rw [HLN.out] at h9
              exact h9
            · exact below_row HBR.out HG5.out (by omega)
          · have hfd : decide (St.nround (St.backOf p.rules) (St.niter (St.back p) k (St.only p.arity.length q)) ≠ St.niter (St.back p) k (St.only p.arity.length q)) = true := decide_eq_true hfx
            have HFX : Hid _ := hfx
            rw [hfd]
            clear hfx hfd
            go_wp2_with fail
            go_roundw
            case rel => exact ⟨k + 1, by rw [St.niter_succ]; exact HR5.out, HG.out.trans_row HG5.out⟩
            case measure =>
              rw [HR5.out, HROW.out, St.lacks_row, St.lacks_row]
              exact St.falses_lt (St.nround_length _ _).symm (fun i h => St.nround_keeps _ h) (fun e => HFX.out e.symm)
  · have hcd : (Sc.check p == 0) = false := by simp [hc]
    have HE : Hid _ := St.needErr_bad (k := pd) hc
    clear hc
    go_wp2_with fail
    refine bodyPost_ret (results_tmp2 rfl _ _ _) rfl ?_
    exact ⟨_, by rw [HE.out.1]; rfl, by rw [HE.out.2]; exact HN.out _, hbw⟩

end Go.Proofs.Ytgpaleifhcdjnaa

/- The document's LevelsOf. -/
namespace Go.Proofs.Ytgpaleifhcdjnaa
open Go.RowKit

namespace St
/-- Kinds and folds of what passes Check. -/
theorem check_kinds {p : Sc.Prog} (h : Sc.check p = 0) : ∀ r, r ∈ p.rules → 0 ≤ r.fold ∧ ∀ x, x ∈ r.body → 1 ≤ x.kind := by
  unfold Sc.check at h
  split at h
  · omega
  · split at h
    · omega
    · intro r hr
      have h2 := first_zero (thn_zero_iff h).2 r hr
      unfold Sc.ruleErr at h2
      split at h2
      · obtain ⟨_, h2⟩ := thn_zero_iff h2
        obtain ⟨_, h2⟩ := thn_zero_iff h2
        obtain ⟨_, h2⟩ := thn_zero_iff h2
        obtain ⟨hf, h2⟩ := thn_zero_iff h2
        obtain ⟨_, h2⟩ := thn_zero_iff h2
        obtain ⟨_, h2⟩ := thn_zero_iff h2
        obtain ⟨h5, _⟩ := thn_zero_iff h2
        refine ⟨?_, fun x hx => ?_⟩
        · split at hf
          · rename_i h9
            unfold Tr.between at h9
            have h8 : 0 ≤ r.fold ∧ r.fold ≤ 4 := by simpa using h9
            exact h8.1
          · omega
        · have h6 := (thn_zero_iff (first_zero h5 x hx)).1
          unfold Sc.litErr at h6
          split at h6
          · omega
          · split at h6
            · omega
            · split at h6
              · omega
              · omega
      · omega
def litE (r : Sc.Rule) (l : List Sc.Lit) : List Fx.Edge := (l.filter hang).map fun x => (r.pred.toNat, x.pred.toNat, strict r x)
theorem litE_all (r : Sc.Rule) : litE r r.body = ruleE r := rfl
theorem litE_yes (r : Sc.Rule) (l : List Sc.Lit) {x : Sc.Lit} (h : hang x = true) : litE r (l ++ [x]) = litE r l ++ [(r.pred.toNat, x.pred.toNat, strict r x)] := by
  unfold litE
  rw [List.filter_append, List.map_append, List.filter_cons, if_pos h]
  rfl
theorem litE_no (r : Sc.Rule) (l : List Sc.Lit) {x : Sc.Lit} (h : ¬ hang x = true) : litE r (l ++ [x]) = litE r l := by
  unfold litE
  rw [List.filter_append, List.map_append, List.filter_cons, if_neg h]
  simp
theorem litE_length (r : Sc.Rule) (l : List Sc.Lit) : (litE r l).length ≤ l.length := by unfold litE; rw [List.length_map]; exact List.length_filter_le _ _
theorem litE_one (r : Sc.Rule) (l : List Sc.Lit) : ∀ e, e ∈ litE r l → e.2.2 ≤ 1 := fun e he => by
  obtain ⟨x, _, rfl⟩ := List.mem_map.mp he
  rcases strict01 r x with h | h <;> simp [h]
end St

theorem take_lit {l : List Sc.Lit} {k : Nat} (h : k < l.length) : l.take (k + 1) = l.take k ++ [Sc.litD l k] := by
  rw [List.take_add_one]
  congr 1
  unfold Sc.litD
  rw [List.getD_eq_getElem?_getD, List.getElem?_eq_getElem h]
  rfl
theorem take_rule {l : List Sc.Rule} {k : Nat} (h : k < l.length) : l.take (k + 1) = l.take k ++ [Sc.ruleD l k] := by
  rw [List.take_add_one]
  congr 1
  unfold Sc.ruleD
  rw [List.getD_eq_getElem?_getD, List.getElem?_eq_getElem h]
  rfl
theorem ruleD_mem {l : List Sc.Rule} {k : Nat} (h : k < l.length) : Sc.ruleD l k ∈ l := by unfold Sc.ruleD; rw [List.getD_eq_getElem?_getD, List.getElem?_eq_getElem h]; exact List.getElem_mem h
theorem step_zero_yes {cur : List Int} {pr q : Nat} (h : cur.getD pr 0 < cur.getD q 0) : Fx.step cur (pr, q, 0) = cur.set pr (cur.getD q 0) := by
  unfold Fx.step
  simp only [Int.add_zero]
  exact if_pos h
theorem step_zero_no {cur : List Int} {pr q : Nat} (h : ¬ cur.getD pr 0 < cur.getD q 0) : Fx.step cur (pr, q, 0) = cur := by
  unfold Fx.step
  simp only [Int.add_zero]
  exact if_neg h
/-- The row, and all else as it was. -/
structure LRow (w : World) (LB : Nat) (W : World) (cur : List Int) : Prop where
  row : W.heap[LB]? = some (.cells (intRow cur) 3)
  gr : w.grownBy W (some LB)
theorem LRow.below {w W W' : World} {LB : Nat} {cur : List Int} (h : LRow w LB W cur) (hb : Below W.heap.size W W') : LRow w LB W' cur :=
  ⟨(hb.block _ (Array.getElem?_eq_some_iff.mp h.row).1).trans h.row, ⟨hb.os.trans h.gr.os, hb.tape.trans h.gr.tape, hb.output.trans h.gr.output, Nat.le_trans h.gr.size hb.size, fun j hj hn => (hb.block j (Nat.lt_of_lt_of_le hj h.gr.size)).trans (h.gr.block j hj hn)⟩⟩
theorem LRow.set {w W : World} {LB : Nat} {cur : List Int} (h : LRow w LB W cur) (i : Nat) (v : Int) : LRow w LB (W.setCell ⟨LB, i, none⟩ (.int .i64 v)) (cur.set i v) := by
  refine ⟨intRow_set h.row i v, ⟨h.gr.os, h.gr.tape, h.gr.output, by have := h.gr.size; simpa using this, fun j hj hn => ?_⟩⟩
  have hjl : ¬ j = LB := fun e => hn (by rw [e])
  exact (heap_set_other hjl).trans (h.gr.block j hj hn)
theorem LRow.re {w w' W : World} {LB : Nat} {cur cur' : List Int} (h : LRow w LB w' cur) (k : LRow w' LB W cur') : LRow w LB W cur' := ⟨k.row, h.gr.trans_row k.gr⟩
theorem LRow.here {w W : World} {LB : Nat} {cur : List Int} (h : LRow w LB W cur) : LRow W LB W cur := ⟨h.row, ⟨rfl, rfl, rfl, Nat.le_refl _, fun _ _ _ => rfl⟩⟩

theorem grown_new {W : World} {LB : Nat} (o : Obj) : W.grownBy (W.alloc o) (some LB) :=
  World.grownBy_alloc W o (some LB)
theorem grown_box {W : World} {LB : Nat} (o : Obj) (i : Nat) (v : Value) : W.grownBy ((W.alloc o).setCell ⟨LB, i, none⟩ v) (some LB) := by
  have hg := World.grownBy_alloc W o (some LB)
  refine ⟨hg.os, hg.tape, hg.output, by simp, fun j hj hn => ?_⟩
  have hjl : ¬ j = LB := fun e => hn (by rw [e])
  exact (heap_set_other hjl).trans (hg.block j hj hn)

set_option maxRecDepth 100000 in
set_option maxHeartbeats 4000000 in
theorem LevelsOf_any (p : Sc.Prog) (va vn vr : Value) (w : World) (hP : ProgV w va vn vr p) (hc : Sc.check p = 0) :
    Calls Try.prog 11 #[progVal va vn vr] w fun e w' => ∃ v l, e = .returned (.tuple #[v, .bool (St.flat p)]) ∧ IntsV w' v l ∧ (St.flat p = true → l = St.level p) ∧ Below w.heap.size w w' := by
  obtain ⟨a0, n0, rfl, _⟩ := id hP.ar
  obtain ⟨a1, n1, rfl, _⟩ := id hP.nm
  obtain ⟨a2, n2, rfl, hA2⟩ := id hP.rl
  obtain ⟨hn, hr, hR⟩ := St.check_in hc
  have HK : Hid _ := St.check_kinds hc
  have HR : Hid _ := hR
  have HA2 : Hid _ := hA2
  have hel : (St.edges p).length ≤ 48 := by have := edgesOf_length p.rules (fun r hr => (hR r hr).hl); show (St.edgesOf p.rules).length ≤ 48; omega
  have b0 := (Below.refl w.heap.size w).alloc (Nat.le_refl _) (.cells #[.slice a0 p.arity.length n0, .slice a1 p.names.length n1, .slice a2 p.rules.length n2] 26)
  have hX := heap_alloc_new w (.cells #[.slice a0 p.arity.length n0, .slice a1 p.names.length n1, .slice a2 p.rules.length n2] 26)
  have s1 : (w.alloc (.cells #[.slice a0 p.arity.length n0, .slice a1 p.names.length n1, .slice a2 p.rules.length n2] 26)).heap.size = w.heap.size + 1 := by simp
  have b3 := (Below.refl (w.alloc (.cells #[.slice a0 p.arity.length n0, .slice a1 p.names.length n1, .slice a2 p.rules.length n2] 26)).heap.size (w.alloc (.cells #[.slice a0 p.arity.length n0, .slice a1 p.names.length n1, .slice a2 p.rules.length n2] 26))).alloc (Nat.le_refl _) (.cells (intRow (St.zeros p.arity.length)) 3)
  have hrow := heap_alloc_new (w.alloc (.cells #[.slice a0 p.arity.length n0, .slice a1 p.names.length n1, .slice a2 p.rules.length n2] 26)) (.cells (intRow (St.zeros p.arity.length)) 3)
  have hX3 := (b3.block _ (Array.getElem?_eq_some_iff.mp hX).1).trans hX
  have hb3 := b0.trans (b3.mono b0.size)
  rw [s1] at hrow
  have hmk := run_make_row' (P := Try.prog) 22 3 (.int .i64 0) 8 Try.underlying22 (by kernel_rfl) rfl .i64 .i64 p.arity.length (by omega) (by omega)
  simp only [made_ints] at hmk
  have HX3 : Hid _ := hX3
  have HB3 : Hid _ := hb3
  have HROW : Hid _ := hrow
  clear b0 hX b3 hX3 hb3 hrow s1 hP hR hA2 hc
  go_enter Try.func11, Try.ntmps11
  go_wp2_with fail
  generalize (w.alloc (.cells #[.slice a0 p.arity.length n0, .slice a1 p.names.length n1, .slice a2 p.rules.length n2] 26)).alloc (.cells (intRow (St.zeros p.arity.length)) 3) = w3 at *
  generalize hLB : w.heap.size + 1 = LB at *
  have hlw : w.heap.size < LB := by omega
  clear hmk hLB
  have HPB : Hid (∀ wr : World, w3.grownBy wr (some LB) → wr.heap[w.heap.size]? = some (.cells #[.slice a0 p.arity.length n0, .slice a1 p.names.length n1, .slice a2 p.rules.length n2] 26) ∧ Below w.heap.size w wr) := fun wr hg => ⟨(hg.block _ (Array.getElem?_eq_some_iff.mp HX3.out).1 (fun e => by injection e with e; omega)).trans HX3.out, below_row HB3.out hg (by omega)⟩
  go_loopw [5, 6] (fun ro i6 wr => ∃ k : Nat, k ≤ p.arity.length + 1 ∧ ro = .bool (if k = 0 then false else decide (Fx.iter (St.edges p) k (St.zeros p.arity.length) ≠ Fx.iter (St.edges p) (k - 1) (St.zeros p.arity.length))) ∧ i6 = .int .i64 k ∧ LRow w3 LB wr (Fx.iter (St.edges p) k (St.zeros p.arity.length))) (fun _ i6 _ => p.arity.length + 1 - (intOf i6).toNat)
  case atStart => exact ⟨0, Nat.zero_le _, rfl, rfl, HROW.out, ⟨rfl, rfl, rfl, Nat.le_refl _, fun _ _ _ => rfl⟩⟩
  case round =>
    clear HROW
    obtain ⟨wk, hwk⟩ : ∃ wk, wk = wr := ⟨_, rfl⟩
    subst hwk
    obtain ⟨k, hk, rfl, rfl, hL⟩ := hrel
    have HL : Hid _ := hL
    have c0 : wk.cell? ⟨w.heap.size, 0, none⟩ = some (.slice a0 p.arity.length n0) := by rw [Lib.cell_of_heap (HPB.out wk hL.gr).1]; rfl
    clear hL
    by_cases hkn : k ≤ p.arity.length
    · have hkd : decide (k ≤ p.arity.length) = true := decide_eq_true hkn
      generalize (if k = 0 then false else decide (Fx.iter (St.edges p) k (St.zeros p.arity.length) ≠ Fx.iter (St.edges p) (k - 1) (St.zeros p.arity.length))) = ro0 at *
      go_wp2_with fail
      clear c0
      go_loopw [5, 7] (fun ro i7 wr => ∃ i : Nat, i ≤ p.rules.length ∧ ro = .bool (decide (Fx.round (St.edgesOf (p.rules.take i)) (Fx.iter (St.edges p) k (St.zeros p.arity.length)) ≠ (Fx.iter (St.edges p) k (St.zeros p.arity.length)))) ∧ i7 = .int .i64 i ∧ LRow wk LB wr (Fx.round (St.edgesOf (p.rules.take i)) (Fx.iter (St.edges p) k (St.zeros p.arity.length)))) (fun _ i7 _ => p.rules.length - (intOf i7).toNat)
      case atStart => exact ⟨0, Nat.zero_le _, by simp [St.edgesOf, Fx.round], rfl, HL.out.here⟩
      case round =>
        obtain ⟨wi, hwi⟩ : ∃ wi, wi = wr := ⟨_, rfl⟩
        subst hwi
        obtain ⟨i, hi, rfl, rfl, hL2⟩ := hrel
        have HL2 : Hid _ := hL2
        have hPX := HPB.out wi (HL.out.gr.trans_row hL2.gr)
        have c2 : wi.cell? ⟨w.heap.size, 2, none⟩ = some (.slice a2 p.rules.length n2) := by rw [Lib.cell_of_heap hPX.1]; rfl
        have HBI : Hid _ := hPX.2
        clear hL2 hPX
        by_cases hil : i < p.rules.length
        · obtain ⟨b, off, rfl, p0, ⟨vt, p1, hT⟩, p2, ⟨vb, p3, hLL⟩, p4⟩ := prules_at HA2.out i hil
          obtain ⟨at_, ct, rfl, _⟩ := hT
          obtain ⟨ab, cb, rfl, hLL⟩ := hLL
          have HLL : Hid _ := hLL
          have HRI : Hid (St.RuleIn p.arity.length (Sc.ruleD p.rules i)) := HR.out _ (ruleD_mem hil)
          have HKI : Hid _ := HK.out _ (ruleD_mem hil)
          have HTK : Hid _ := take_rule hil
          have q0 := cell_below HBI.out p0
          have q1 := cell_below HBI.out p1
          have q2 := cell_below HBI.out p2
          have q3 := cell_below HBI.out p3
          have q4 := cell_below HBI.out p4
          clear p0 p1 p2 p3 p4 hLL
          generalize Sc.ruleD p.rules i = r at *
          obtain ⟨pd, ts, fo, bd, vs⟩ := r
          obtain ⟨pr, rfl⟩ : ∃ pr : Nat, pd = pr := ⟨pd.toNat, by have := HRI.out.h0; dsimp only at this; omega⟩
          dsimp only at *
          have hpn : pr < p.arity.length := by have := HRI.out.h1; dsimp only at this; omega
          have hfo : 0 ≤ fo := HKI.out.1
          have hbd : bd.length ≤ 4 := HRI.out.hl
          obtain ⟨rosei, hrosei⟩ : ∃ rosei, rosei = decide (Fx.round (St.edgesOf (p.rules.take i)) (Fx.iter (St.edges p) k (St.zeros p.arity.length)) ≠ (Fx.iter (St.edges p) k (St.zeros p.arity.length))) := ⟨_, rfl⟩
          rw [← hrosei]
          have HRO : Hid _ := hrosei
          clear hrosei
          go_wp2_with fail
          have b5 := (Below.refl wi.heap.size wi).alloc (Nat.le_refl _) (.cells #[.int .i64 pr, .slice at_ ts.length ct, .int .i64 fo, .slice ab bd.length cb, .int .i64 vs] 65)
          have hQ := heap_alloc_new wi (.cells #[.int .i64 pr, .slice at_ ts.length ct, .int .i64 fo, .slice ab bd.length cb, .int .i64 vs] 65)
          have HL5 : Hid _ := HL2.out.below b5
          have HB5 : Hid _ := HBI.out.trans (b5.mono HBI.out.size)
          clear q0 q1 q2 q3 q4 c2 b5
          have HQ : Hid _ := hQ
          clear hQ
          generalize wi.alloc (.cells #[.int .i64 pr, .slice at_ ts.length ct, .int .i64 fo, .slice ab bd.length cb, .int .i64 vs] 65) = wq at *
          have hqlb : ¬ wi.heap.size = LB := by have := (Array.getElem?_eq_some_iff.mp HL2.out.row).1; omega
          generalize wi.heap.size = QB at *
          go_loopw [5, 9] (fun ro i9 wr => ∃ j : Nat, j ≤ bd.length ∧ ro = .bool (decide ((Fx.round (St.edgesOf (p.rules.take i) ++ St.litE (⟨pr, ts, fo, bd, vs⟩ : Sc.Rule) (bd.take j)) (Fx.iter (St.edges p) k (St.zeros p.arity.length))) ≠ (Fx.iter (St.edges p) k (St.zeros p.arity.length)))) ∧ i9 = .int .i64 j ∧ LRow wk LB wr (Fx.round (St.edgesOf (p.rules.take i) ++ St.litE (⟨pr, ts, fo, bd, vs⟩ : Sc.Rule) (bd.take j)) (Fx.iter (St.edges p) k (St.zeros p.arity.length))) ∧ wq.grownBy wr (some LB)) (fun _ i9 _ => bd.length - (intOf i9).toNat)
          case atStart => exact ⟨0, Nat.zero_le _, by rw [HRO.out]; simp [St.litE], rfl, by simpa [St.litE] using HL5.out, ⟨rfl, rfl, rfl, Nat.le_refl _, fun _ _ _ => rfl⟩⟩
          case round =>
            clear HL5
            obtain ⟨j, hj, rfl, rfl, hL3, hgq⟩ := hrel
            have hQr := (hgq.block _ (Array.getElem?_eq_some_iff.mp HQ.out).1 (fun e => by injection e with e; exact hqlb e)).trans HQ.out
            have e0 : wr.cell? ⟨QB, 0, none⟩ = some (.int .i64 pr) := by rw [Lib.cell_of_heap hQr]; rfl
            have e2 : wr.cell? ⟨QB, 2, none⟩ = some (.int .i64 fo) := by rw [Lib.cell_of_heap hQr]; rfl
            have e3 : wr.cell? ⟨QB, 3, none⟩ = some (.slice ab bd.length cb) := by rw [Lib.cell_of_heap hQr]; rfl
            have HL3 : Hid _ := hL3
            have HGQ : Hid _ := hgq
            have HBR : Hid _ := below_row HB5.out hgq (by omega)
            clear hL3 hgq hQr
            by_cases hjl : j < bd.length
            · obtain ⟨b', off', rfl, p0, p1, p2, lv, p3, hT⟩ := plits_at HLL.out j hjl
              obtain ⟨al, cl, rfl, _, _⟩ := hT
              have q0 := cell_below HBR.out p0
              have q1 := cell_below HBR.out p1
              have q2 := cell_below HBR.out p2
              have q3 := cell_below HBR.out p3
              have HTL : Hid _ := take_lit hjl
              have HKL : Hid _ := HKI.out.2 _ (litD_mem hjl)
              have HBX : Hid _ := HRI.out.hb _ (litD_mem hjl)
              clear p0 p1 p2 p3
              dsimp only at *
              generalize Sc.litD bd j = x at *
              obtain ⟨kd, op, xp, lt⟩ := x
              dsimp only at *
              by_cases h2 : 2 < kd
              · have h2d : decide (2 < kd) = true := decide_eq_true h2
                have HES : Hid (St.litE (⟨pr, ts, fo, bd, vs⟩ : Sc.Rule) (bd.take (j + 1)) = St.litE (⟨pr, ts, fo, bd, vs⟩ : Sc.Rule) (bd.take j)) := by
                  show _ = _
                  rw [HTL.out]
                  exact St.litE_no _ _ (fun hc => by have h9 : kd = 1 ∨ kd = 2 := of_decide_eq_true hc; omega)
                have HG9 : Hid _ := HGQ.out.trans_row (grown_new (.cells #[.int .i64 kd, .int .i64 op, .int .i64 xp, .slice al lt.length cl] 71))
                clear h2
                go_wp2_with fail
                go_roundw
                case rel => exact ⟨j + 1, hjl, by rw [HES.out], by go_num, by rw [HES.out]; exact HL3.out.below ((Below.refl _ _).alloc (Nat.le_refl _) _), HG9.out⟩
                case measure => simp [intOf]; omega
              · have h2d : decide (2 < kd) = false := decide_eq_false h2
                have hk1 : 1 ≤ kd := HKL.out
                have hh : St.hang ⟨kd, op, xp, lt⟩ = true := decide_eq_true (by show kd = 1 ∨ kd = 2; omega)
                have hxp := HBX.out hh
                obtain ⟨q, rfl⟩ : ∃ q : Nat, xp = q := ⟨xp.toNat, by have h9 : 0 ≤ xp := hxp.1; omega⟩
                have hqn : q < p.arity.length := by have h9 : (q : Int) < (p.arity.length : Int) := hxp.2; omega
                have hcl : (Fx.round (St.edgesOf (p.rules.take i) ++ St.litE (⟨pr, ts, fo, bd, vs⟩ : Sc.Rule) (bd.take j)) (Fx.iter (St.edges p) k (St.zeros p.arity.length))).length = p.arity.length := by rw [Fx.round_length, Fx.iter_length]; simp [St.zeros]
                have HCL : Hid ((Fx.iter (St.edges p) k (St.zeros p.arity.length)).length = p.arity.length) := by show _ = _; rw [Fx.iter_length]; simp [St.zeros]
                have HL6 := HL3.out.below ((Below.refl _ _).alloc (Nat.le_refl _) (.cells #[.int .i64 kd, .int .i64 op, .int .i64 q, .slice al lt.length cl] 71))
                have c5 := intRow_cell HL6.row (i := q) (by omega)
                have c6 := intRow_cell HL6.row (i := pr) (by omega)
                have f6 := Lib.frozen_of_heap HL6.row pr
                have b6 := (Below.refl wr.heap.size wr).alloc (Nat.le_refl _) (.cells #[.int .i64 kd, .int .i64 op, .int .i64 q, .slice al lt.length cl] 71)
                have e0' := cell_below b6 e0
                have e2' := cell_below b6 e2
                clear b6 HL6
                have hlo : ∀ t : Nat, 0 ≤ (Fx.round (St.edgesOf (p.rules.take i) ++ St.litE (⟨pr, ts, fo, bd, vs⟩ : Sc.Rule) (bd.take j)) (Fx.iter (St.edges p) k (St.zeros p.arity.length))).getD t 0 := fun t => Int.le_trans (St.iter_nonneg (St.edges p) p.arity.length k t) ((Fx.round_le _ _).2 t)
                have hhi : ∀ t : Nat, (Fx.round (St.edgesOf (p.rules.take i) ++ St.litE (⟨pr, ts, fo, bd, vs⟩ : Sc.Rule) (bd.take j)) (Fx.iter (St.edges p) k (St.zeros p.arity.length))).getD t 0 ≤ 1000 := fun t => by
                  have h9 := Fx.round_bound (St.edgesOf (p.rules.take i) ++ St.litE (⟨pr, ts, fo, bd, vs⟩ : Sc.Rule) (bd.take j)) (l := (Fx.iter (St.edges p) k (St.zeros p.arity.length))) (St.iter_bound (St.edges p) (edgesOf_one p.rules) p.arity.length k) (fun e he => by
                    rcases List.mem_append.mp he with h | h
                    · exact edgesOf_one _ e h
                    · exact St.litE_one _ _ e h) t
                  have h8 : (k * (St.edges p).length : Nat) ≤ 11 * 48 := Nat.mul_le_mul (by omega) hel
                  have h7 := edgesOf_length (p.rules.take i) (fun r hr => (HR.out r (List.mem_of_mem_take hr)).hl)
                  have h6 := St.litE_length (⟨pr, ts, fo, bd, vs⟩ : Sc.Rule) (bd.take j)
                  have h5 : bd.length ≤ 4 := HRI.out.hl
                  rw [List.length_take] at h7 h6
                  rw [List.length_append] at h9
                  omega
                have hA0 := hlo q
                have hA1 := hhi q
                clear hlo hhi hcl hxp
                obtain ⟨A, hA⟩ : ∃ A : Int, A = (Fx.round (St.edgesOf (p.rules.take i) ++ St.litE (⟨pr, ts, fo, bd, vs⟩ : Sc.Rule) (bd.take j)) (Fx.iter (St.edges p) k (St.zeros p.arity.length))).getD q 0 := ⟨_, rfl⟩
                obtain ⟨Bv, hBv⟩ : ∃ Bv : Int, Bv = (Fx.round (St.edgesOf (p.rules.take i) ++ St.litE (⟨pr, ts, fo, bd, vs⟩ : Sc.Rule) (bd.take j)) (Fx.iter (St.edges p) k (St.zeros p.arity.length))).getD pr 0 := ⟨_, rfl⟩
                rw [← hA] at c5 hA0 hA1
                rw [← hBv] at c6
                have HA : Hid _ := hA
                have HBV : Hid _ := hBv
                clear hA hBv
                obtain ⟨rf, hrf⟩ : ∃ rf, rf = decide ((Fx.round (St.edgesOf (p.rules.take i) ++ St.litE (⟨pr, ts, fo, bd, vs⟩ : Sc.Rule) (bd.take j)) (Fx.iter (St.edges p) k (St.zeros p.arity.length))) ≠ (Fx.iter (St.edges p) k (St.zeros p.arity.length))) := ⟨_, rfl⟩
                rw [← hrf]
                have HRF : Hid _ := hrf
                clear hrf
                by_cases hkk : kd = 2
                · have hk2d : (kd == 2) = true := by simp [hkk]
                  have hff : True := trivial
                  have HES : Hid (St.litE (⟨pr, ts, fo, bd, vs⟩ : Sc.Rule) (bd.take (j + 1)) = St.litE (⟨pr, ts, fo, bd, vs⟩ : Sc.Rule) (bd.take j) ++ [(pr, q, 1)]) := by
                    show _ = _
                    rw [HTL.out, St.litE_yes _ _ hh]
                    simp [St.strict, hkk]
                  by_cases hy : Bv < A + 1
                  · have hyd : decide (Bv < A + 1) = true := decide_eq_true hy
                    have HNX : Hid (LRow wk LB ((wr.alloc (.cells #[.int .i64 kd, .int .i64 op, .int .i64 q, .slice al lt.length cl] 71)).setCell ⟨LB, pr, none⟩ (.int .i64 (A + 1))) (Fx.round (St.edgesOf (p.rules.take i) ++ St.litE (⟨pr, ts, fo, bd, vs⟩ : Sc.Rule) (bd.take (j + 1))) (Fx.iter (St.edges p) k (St.zeros p.arity.length)))) := by
                      have h9 := (HL3.out.below ((Below.refl _ _).alloc (Nat.le_refl _) (.cells #[.int .i64 kd, .int .i64 op, .int .i64 q, .slice al lt.length cl] 71))).set pr (A + 1)
                      rw [HES.out, ← List.append_assoc, Fx.round_snoc]
                      have h8 : Fx.step (Fx.round (St.edgesOf (p.rules.take i) ++ St.litE (⟨pr, ts, fo, bd, vs⟩ : Sc.Rule) (bd.take j)) (Fx.iter (St.edges p) k (St.zeros p.arity.length))) (pr, q, 1) = (Fx.round (St.edgesOf (p.rules.take i) ++ St.litE (⟨pr, ts, fo, bd, vs⟩ : Sc.Rule) (bd.take j)) (Fx.iter (St.edges p) k (St.zeros p.arity.length))).set pr (A + 1) := by
                        rw [HA.out]
                        unfold Fx.step
                        exact if_pos (by rw [HA.out, HBV.out] at hy; exact hy)
                      rw [h8]
                      exact h9
                    have HFN : Hid (decide (Fx.round (St.edgesOf (p.rules.take i) ++ St.litE (⟨pr, ts, fo, bd, vs⟩ : Sc.Rule) (bd.take (j + 1))) (Fx.iter (St.edges p) k (St.zeros p.arity.length)) ≠ (Fx.iter (St.edges p) k (St.zeros p.arity.length))) = true) := by
                      show _ = _
                      rw [HES.out, ← List.append_assoc, Fx.rose_snoc _ _ _ (by rw [HCL.out]; exact hpn)]
                      have h7 : decide ((Fx.round (St.edgesOf (p.rules.take i) ++ St.litE (⟨pr, ts, fo, bd, vs⟩ : Sc.Rule) (bd.take j)) (Fx.iter (St.edges p) k (St.zeros p.arity.length))).getD pr 0 < (Fx.round (St.edgesOf (p.rules.take i) ++ St.litE (⟨pr, ts, fo, bd, vs⟩ : Sc.Rule) (bd.take j)) (Fx.iter (St.edges p) k (St.zeros p.arity.length))).getD q 0 + 1) = true := decide_eq_true (by rw [HA.out, HBV.out] at hy; exact hy)
                      show (_ || decide ((Fx.round (St.edgesOf (p.rules.take i) ++ St.litE (⟨pr, ts, fo, bd, vs⟩ : Sc.Rule) (bd.take j)) (Fx.iter (St.edges p) k (St.zeros p.arity.length))).getD pr 0 < (Fx.round (St.edgesOf (p.rules.take i) ++ St.litE (⟨pr, ts, fo, bd, vs⟩ : Sc.Rule) (bd.take j)) (Fx.iter (St.edges p) k (St.zeros p.arity.length))).getD q 0 + 1)) = true
                      rw [h7, Bool.or_true]
                    have HG9 : Hid _ := HGQ.out.trans_row (grown_box (.cells #[.int .i64 kd, .int .i64 op, .int .i64 q, .slice al lt.length cl] 71) pr (.int .i64 (A + 1)))
                    clear hy hh hff hkk
                    go_wp2_with fail
                    go_roundw
                    case rel => exact ⟨j + 1, hjl, by rw [HFN.out], by go_num, HNX.out, HG9.out⟩
                    case measure => simp [intOf]; omega
                  · have hyd : decide (Bv < A + 1) = false := decide_eq_false hy
                    have HNX : Hid (Fx.round (St.edgesOf (p.rules.take i) ++ St.litE (⟨pr, ts, fo, bd, vs⟩ : Sc.Rule) (bd.take (j + 1))) (Fx.iter (St.edges p) k (St.zeros p.arity.length)) = (Fx.round (St.edgesOf (p.rules.take i) ++ St.litE (⟨pr, ts, fo, bd, vs⟩ : Sc.Rule) (bd.take j)) (Fx.iter (St.edges p) k (St.zeros p.arity.length)))) := by
                      show _ = _
                      rw [HES.out, ← List.append_assoc, Fx.round_snoc]
                      unfold Fx.step
                      exact if_neg (by rw [HA.out, HBV.out] at hy; exact hy)
                    have HG9 : Hid _ := HGQ.out.trans_row (grown_new (.cells #[.int .i64 kd, .int .i64 op, .int .i64 q, .slice al lt.length cl] 71))
                    clear hy hh hff hkk
                    go_wp2_with fail
                    go_roundw
                    case rel => exact ⟨j + 1, hjl, by rw [HNX.out, HRF.out], by go_num, by rw [HNX.out]; exact HL3.out.below ((Below.refl _ _).alloc (Nat.le_refl _) _), HG9.out⟩
                    case measure => simp [intOf]; omega
                · have hk2d : (kd == 2) = false := by simp [hkk]
                  by_cases hff : fo = 0
                  · have hfd : decide (0 < fo) = false := decide_eq_false (by omega)
                    have HES : Hid (St.litE (⟨pr, ts, fo, bd, vs⟩ : Sc.Rule) (bd.take (j + 1)) = St.litE (⟨pr, ts, fo, bd, vs⟩ : Sc.Rule) (bd.take j) ++ [(pr, q, 0)]) := by
                      show _ = _
                      rw [HTL.out, St.litE_yes _ _ hh]
                      simp [St.strict, hff, hkk]
                    by_cases hy : Bv < A
                    · have hyd : decide (Bv < A) = true := decide_eq_true hy
                      have HNX : Hid (LRow wk LB ((wr.alloc (.cells #[.int .i64 kd, .int .i64 op, .int .i64 q, .slice al lt.length cl] 71)).setCell ⟨LB, pr, none⟩ (.int .i64 (A))) (Fx.round (St.edgesOf (p.rules.take i) ++ St.litE (⟨pr, ts, fo, bd, vs⟩ : Sc.Rule) (bd.take (j + 1))) (Fx.iter (St.edges p) k (St.zeros p.arity.length)))) := by
                        have h9 := (HL3.out.below ((Below.refl _ _).alloc (Nat.le_refl _) (.cells #[.int .i64 kd, .int .i64 op, .int .i64 q, .slice al lt.length cl] 71))).set pr (A)
                        rw [HES.out, ← List.append_assoc, Fx.round_snoc]
                        have h8 : Fx.step (Fx.round (St.edgesOf (p.rules.take i) ++ St.litE (⟨pr, ts, fo, bd, vs⟩ : Sc.Rule) (bd.take j)) (Fx.iter (St.edges p) k (St.zeros p.arity.length))) (pr, q, 0) = (Fx.round (St.edgesOf (p.rules.take i) ++ St.litE (⟨pr, ts, fo, bd, vs⟩ : Sc.Rule) (bd.take j)) (Fx.iter (St.edges p) k (St.zeros p.arity.length))).set pr (A) := by
                          rw [HA.out]
                          exact step_zero_yes (by rw [HA.out, HBV.out] at hy; exact hy)
                        rw [h8]
                        exact h9
                      have HFN : Hid (decide (Fx.round (St.edgesOf (p.rules.take i) ++ St.litE (⟨pr, ts, fo, bd, vs⟩ : Sc.Rule) (bd.take (j + 1))) (Fx.iter (St.edges p) k (St.zeros p.arity.length)) ≠ (Fx.iter (St.edges p) k (St.zeros p.arity.length))) = true) := by
                        show _ = _
                        rw [HES.out, ← List.append_assoc, Fx.rose_snoc _ _ _ (by rw [HCL.out]; exact hpn)]
                        have h7 : decide ((Fx.round (St.edgesOf (p.rules.take i) ++ St.litE (⟨pr, ts, fo, bd, vs⟩ : Sc.Rule) (bd.take j)) (Fx.iter (St.edges p) k (St.zeros p.arity.length))).getD pr 0 < (Fx.round (St.edgesOf (p.rules.take i) ++ St.litE (⟨pr, ts, fo, bd, vs⟩ : Sc.Rule) (bd.take j)) (Fx.iter (St.edges p) k (St.zeros p.arity.length))).getD q 0 + 0) = true := decide_eq_true (by rw [HA.out, HBV.out] at hy; rw [Int.add_zero]; exact hy)
                        show (_ || decide ((Fx.round (St.edgesOf (p.rules.take i) ++ St.litE (⟨pr, ts, fo, bd, vs⟩ : Sc.Rule) (bd.take j)) (Fx.iter (St.edges p) k (St.zeros p.arity.length))).getD pr 0 < (Fx.round (St.edgesOf (p.rules.take i) ++ St.litE (⟨pr, ts, fo, bd, vs⟩ : Sc.Rule) (bd.take j)) (Fx.iter (St.edges p) k (St.zeros p.arity.length))).getD q 0 + 0)) = true
                        rw [h7, Bool.or_true]
                      have HG9 : Hid _ := HGQ.out.trans_row (grown_box (.cells #[.int .i64 kd, .int .i64 op, .int .i64 q, .slice al lt.length cl] 71) pr (.int .i64 (A)))
                      clear hy hh hff hkk
                      go_wp2_with fail
                      go_roundw
                      case rel => exact ⟨j + 1, hjl, by rw [HFN.out], by go_num, HNX.out, HG9.out⟩
                      case measure => simp [intOf]; omega
                    · have hyd : decide (Bv < A) = false := decide_eq_false hy
                      have HNX : Hid (Fx.round (St.edgesOf (p.rules.take i) ++ St.litE (⟨pr, ts, fo, bd, vs⟩ : Sc.Rule) (bd.take (j + 1))) (Fx.iter (St.edges p) k (St.zeros p.arity.length)) = (Fx.round (St.edgesOf (p.rules.take i) ++ St.litE (⟨pr, ts, fo, bd, vs⟩ : Sc.Rule) (bd.take j)) (Fx.iter (St.edges p) k (St.zeros p.arity.length)))) := by
                        show _ = _
                        rw [HES.out, ← List.append_assoc, Fx.round_snoc]
                        exact step_zero_no (by rw [HA.out, HBV.out] at hy; exact hy)
                      have HG9 : Hid _ := HGQ.out.trans_row (grown_new (.cells #[.int .i64 kd, .int .i64 op, .int .i64 q, .slice al lt.length cl] 71))
                      clear hy hh hff hkk
                      go_wp2_with fail
                      go_roundw
                      case rel => exact ⟨j + 1, hjl, by rw [HNX.out, HRF.out], by go_num, by rw [HNX.out]; exact HL3.out.below ((Below.refl _ _).alloc (Nat.le_refl _) _), HG9.out⟩
                      case measure => simp [intOf]; omega
                  · have hfd : decide (0 < fo) = true := decide_eq_true (by omega)
                    have HES : Hid (St.litE (⟨pr, ts, fo, bd, vs⟩ : Sc.Rule) (bd.take (j + 1)) = St.litE (⟨pr, ts, fo, bd, vs⟩ : Sc.Rule) (bd.take j) ++ [(pr, q, 1)]) := by
                      show _ = _
                      rw [HTL.out, St.litE_yes _ _ hh]
                      simp [St.strict, hff, hkk]
                    by_cases hy : Bv < A + 1
                    · have hyd : decide (Bv < A + 1) = true := decide_eq_true hy
                      have HNX : Hid (LRow wk LB ((wr.alloc (.cells #[.int .i64 kd, .int .i64 op, .int .i64 q, .slice al lt.length cl] 71)).setCell ⟨LB, pr, none⟩ (.int .i64 (A + 1))) (Fx.round (St.edgesOf (p.rules.take i) ++ St.litE (⟨pr, ts, fo, bd, vs⟩ : Sc.Rule) (bd.take (j + 1))) (Fx.iter (St.edges p) k (St.zeros p.arity.length)))) := by
                        have h9 := (HL3.out.below ((Below.refl _ _).alloc (Nat.le_refl _) (.cells #[.int .i64 kd, .int .i64 op, .int .i64 q, .slice al lt.length cl] 71))).set pr (A + 1)
                        rw [HES.out, ← List.append_assoc, Fx.round_snoc]
                        have h8 : Fx.step (Fx.round (St.edgesOf (p.rules.take i) ++ St.litE (⟨pr, ts, fo, bd, vs⟩ : Sc.Rule) (bd.take j)) (Fx.iter (St.edges p) k (St.zeros p.arity.length))) (pr, q, 1) = (Fx.round (St.edgesOf (p.rules.take i) ++ St.litE (⟨pr, ts, fo, bd, vs⟩ : Sc.Rule) (bd.take j)) (Fx.iter (St.edges p) k (St.zeros p.arity.length))).set pr (A + 1) := by
                          rw [HA.out]
                          unfold Fx.step
                          exact if_pos (by rw [HA.out, HBV.out] at hy; exact hy)
                        rw [h8]
                        exact h9
                      have HFN : Hid (decide (Fx.round (St.edgesOf (p.rules.take i) ++ St.litE (⟨pr, ts, fo, bd, vs⟩ : Sc.Rule) (bd.take (j + 1))) (Fx.iter (St.edges p) k (St.zeros p.arity.length)) ≠ (Fx.iter (St.edges p) k (St.zeros p.arity.length))) = true) := by
                        show _ = _
                        rw [HES.out, ← List.append_assoc, Fx.rose_snoc _ _ _ (by rw [HCL.out]; exact hpn)]
                        have h7 : decide ((Fx.round (St.edgesOf (p.rules.take i) ++ St.litE (⟨pr, ts, fo, bd, vs⟩ : Sc.Rule) (bd.take j)) (Fx.iter (St.edges p) k (St.zeros p.arity.length))).getD pr 0 < (Fx.round (St.edgesOf (p.rules.take i) ++ St.litE (⟨pr, ts, fo, bd, vs⟩ : Sc.Rule) (bd.take j)) (Fx.iter (St.edges p) k (St.zeros p.arity.length))).getD q 0 + 1) = true := decide_eq_true (by rw [HA.out, HBV.out] at hy; exact hy)
                        show (_ || decide ((Fx.round (St.edgesOf (p.rules.take i) ++ St.litE (⟨pr, ts, fo, bd, vs⟩ : Sc.Rule) (bd.take j)) (Fx.iter (St.edges p) k (St.zeros p.arity.length))).getD pr 0 < (Fx.round (St.edgesOf (p.rules.take i) ++ St.litE (⟨pr, ts, fo, bd, vs⟩ : Sc.Rule) (bd.take j)) (Fx.iter (St.edges p) k (St.zeros p.arity.length))).getD q 0 + 1)) = true
                        rw [h7, Bool.or_true]
                      have HG9 : Hid _ := HGQ.out.trans_row (grown_box (.cells #[.int .i64 kd, .int .i64 op, .int .i64 q, .slice al lt.length cl] 71) pr (.int .i64 (A + 1)))
                      clear hy hh hff hkk
                      go_wp2_with fail
                      go_roundw
                      case rel => exact ⟨j + 1, hjl, by rw [HFN.out], by go_num, HNX.out, HG9.out⟩
                      case measure => simp [intOf]; omega
                    · have hyd : decide (Bv < A + 1) = false := decide_eq_false hy
                      have HNX : Hid (Fx.round (St.edgesOf (p.rules.take i) ++ St.litE (⟨pr, ts, fo, bd, vs⟩ : Sc.Rule) (bd.take (j + 1))) (Fx.iter (St.edges p) k (St.zeros p.arity.length)) = (Fx.round (St.edgesOf (p.rules.take i) ++ St.litE (⟨pr, ts, fo, bd, vs⟩ : Sc.Rule) (bd.take j)) (Fx.iter (St.edges p) k (St.zeros p.arity.length)))) := by
                        show _ = _
                        rw [HES.out, ← List.append_assoc, Fx.round_snoc]
                        unfold Fx.step
                        exact if_neg (by rw [HA.out, HBV.out] at hy; exact hy)
                      have HG9 : Hid _ := HGQ.out.trans_row (grown_new (.cells #[.int .i64 kd, .int .i64 op, .int .i64 q, .slice al lt.length cl] 71))
                      clear hy hh hff hkk
                      go_wp2_with fail
                      go_roundw
                      case rel => exact ⟨j + 1, hjl, by rw [HNX.out, HRF.out], by go_num, by rw [HNX.out]; exact HL3.out.below ((Below.refl _ _).alloc (Nat.le_refl _) _), HG9.out⟩
                      case measure => simp [intOf]; omega
            · obtain rfl : j = bd.length := by omega
              have HEN : Hid (Fx.round (St.edgesOf (p.rules.take (i + 1))) (Fx.iter (St.edges p) k (St.zeros p.arity.length)) = Fx.round (St.edgesOf (p.rules.take i) ++ St.litE (⟨pr, ts, fo, bd, vs⟩ : Sc.Rule) (bd.take bd.length)) (Fx.iter (St.edges p) k (St.zeros p.arity.length))) := by
                show _ = _
                rw [HTK.out, St.edgesOf_snoc, List.take_length]
                rfl
              obtain ⟨rf, hrf⟩ : ∃ rf, rf = decide (Fx.round (St.edgesOf (p.rules.take i) ++ St.litE (⟨pr, ts, fo, bd, vs⟩ : Sc.Rule) (bd.take bd.length)) (Fx.iter (St.edges p) k (St.zeros p.arity.length)) ≠ (Fx.iter (St.edges p) k (St.zeros p.arity.length))) := ⟨_, rfl⟩
              rw [← hrf]
              have HRF : Hid _ := hrf
              clear hrf
              go_wp2_with fail
              go_roundw
              case rel => exact ⟨i + 1, hil, by rw [HEN.out, HRF.out], by go_num, by rw [HEN.out]; exact HL3.out⟩
              case measure => simp [intOf]; omega
        · obtain rfl : i = p.rules.length := by omega
          have HEN : Hid (Fx.iter (St.edges p) (k + 1) (St.zeros p.arity.length) = Fx.round (St.edgesOf (p.rules.take p.rules.length)) (Fx.iter (St.edges p) k (St.zeros p.arity.length))) := by
            show _ = _
            rw [Fx.iter_succ, List.take_length]
            rfl
          obtain ⟨rf, hrf⟩ : ∃ rf, rf = decide (Fx.round (St.edgesOf (p.rules.take p.rules.length)) (Fx.iter (St.edges p) k (St.zeros p.arity.length)) ≠ (Fx.iter (St.edges p) k (St.zeros p.arity.length))) := ⟨_, rfl⟩
          rw [← hrf]
          have HRF : Hid _ := hrf
          clear hrf
          go_wp2_with fail
          go_roundw
          case rel => exact ⟨k + 1, by omega, by rw [if_neg (Nat.succ_ne_zero k), Nat.add_sub_cancel, HEN.out, HRF.out], by go_num, by rw [HEN.out]; exact HL.out.re HL2.out⟩
          case measure => simp [intOf]; omega
    · have hkd : decide (k ≤ p.arity.length) = false := decide_eq_false hkn
      obtain rfl : k = p.arity.length + 1 := by omega
      have HFL : Hid (St.flat p = !(if p.arity.length + 1 = 0 then false else decide (Fx.iter (St.edges p) (p.arity.length + 1) (St.zeros p.arity.length) ≠ Fx.iter (St.edges p) (p.arity.length + 1 - 1) (St.zeros p.arity.length)))) := by
        show _ = _
        rw [if_neg (Nat.succ_ne_zero _), Nat.add_sub_cancel, Fx.iter_succ]
        unfold St.flat St.level
        simp
      generalize (if p.arity.length + 1 = 0 then false else decide (Fx.iter (St.edges p) (p.arity.length + 1) (St.zeros p.arity.length) ≠ Fx.iter (St.edges p) (p.arity.length + 1 - 1) (St.zeros p.arity.length))) = ro at *
      go_wp2_with fail
      refine bodyPost_ret (results_tmp2 rfl _ _ _) rfl ⟨_, Fx.iter (St.edges p) (p.arity.length + 1) (St.zeros p.arity.length), by rw [HFL.out]; rfl, ?_, fun hf => ?_, (HPB.out wk HL.out.gr).2⟩
      · have h9 := intRow_ints p.arity.length HL.out.row
        rw [Fx.iter_length, show (St.zeros p.arity.length).length = p.arity.length by simp [St.zeros]] at h9
        exact h9
      · rw [Fx.iter_succ]
        exact of_decide_eq_true hf

end Go.Proofs.Ytgpaleifhcdjnaa

/- The document's NeedsOf. -/
namespace Go.Proofs.Ytgpaleifhcdjnaa
open Go.RowKit

namespace St
def litN (r : Sc.Rule) (l : List Sc.Lit) : List Fx.Edge := (l.filter hang).map fun x => (x.pred.toNat, r.pred.toNat, 0)
theorem litN_yes (r : Sc.Rule) (l : List Sc.Lit) {x : Sc.Lit} (h : hang x = true) : litN r (l ++ [x]) = litN r l ++ [(x.pred.toNat, r.pred.toNat, 0)] := by
  unfold litN
  rw [List.filter_append, List.map_append, List.filter_cons, if_pos h]
  rfl
theorem litN_no (r : Sc.Rule) (l : List Sc.Lit) {x : Sc.Lit} (h : ¬ hang x = true) : litN r (l ++ [x]) = litN r l := by
  unfold litN
  rw [List.filter_append, List.map_append, List.filter_cons, if_neg h]
  simp
theorem litN_none (r : Sc.Rule) (l : List Sc.Lit) {s : List Bool} (h : s.getD r.pred.toNat false = false) : nround (litN r l) s = s := by
  unfold litN
  induction l.filter hang with
  | nil => rfl
  | cons x l ih =>
    rw [List.map_cons]
    show nround _ (nstep s _) = s
    have h1 : nstep s (x.pred.toNat, r.pred.toNat, 0) = s := by unfold nstep; rw [if_neg (by rw [h]; simp)]
    rw [h1]
    exact ih
end St
/-- The row of truths, and all else as it was. -/
structure BRow (w : World) (LB : Nat) (W : World) (cur : List Bool) : Prop where
  row : W.heap[LB]? = some (.cells (boolRow cur) 4)
  gr : w.grownBy W (some LB)
theorem BRow.below {w W W' : World} {LB : Nat} {cur : List Bool} (h : BRow w LB W cur) (hb : Below W.heap.size W W') : BRow w LB W' cur :=
  ⟨(hb.block _ (Array.getElem?_eq_some_iff.mp h.row).1).trans h.row, ⟨hb.os.trans h.gr.os, hb.tape.trans h.gr.tape, hb.output.trans h.gr.output, Nat.le_trans h.gr.size hb.size, fun j hj hn => (hb.block j (Nat.lt_of_lt_of_le hj h.gr.size)).trans (h.gr.block j hj hn)⟩⟩
theorem BRow.set {w W : World} {LB : Nat} {cur : List Bool} (h : BRow w LB W cur) (i : Nat) (v : Bool) : BRow w LB (W.setCell ⟨LB, i, none⟩ (.bool v)) (cur.set i v) := by
  refine ⟨boolRow_set h.row i v, ⟨h.gr.os, h.gr.tape, h.gr.output, by have := h.gr.size; simpa using this, fun j hj hn => ?_⟩⟩
  have hjl : ¬ j = LB := fun e => hn (by rw [e])
  exact (heap_set_other hjl).trans (h.gr.block j hj hn)
theorem BRow.re {w w' W : World} {LB : Nat} {cur cur' : List Bool} (h : BRow w LB w' cur) (k : BRow w' LB W cur') : BRow w LB W cur' := ⟨k.row, h.gr.trans_row k.gr⟩
theorem BRow.here {w W : World} {LB : Nat} {cur : List Bool} (h : BRow w LB W cur) : BRow W LB W cur := ⟨h.row, ⟨rfl, rfl, rfl, Nat.le_refl _, fun _ _ _ => rfl⟩⟩
theorem grown_set {W : World} {LB : Nat} (i : Nat) (v : Value) : W.grownBy (W.setCell ⟨LB, i, none⟩ v) (some LB) := by
  refine ⟨rfl, rfl, rfl, by simp, fun j hj hn => ?_⟩
  have hjl : ¬ j = LB := fun e => hn (by rw [e])
  exact heap_set_other hjl

set_option maxRecDepth 100000 in
set_option maxHeartbeats 4000000 in
theorem NeedsOf_any (p : Sc.Prog) (q0 : Nat) (va vn vr : Value) (w : World) (hP : ProgV w va vn vr p) (hc : Sc.check p = 0) (hq0 : q0 < p.arity.length) :
    Calls Try.prog 12 #[progVal va vn vr, .int .i64 q0] w fun e w' => ∃ v, e = .returned v ∧ BoolsV w' v (St.needs p q0) ∧ Below w.heap.size w w' := by
  obtain ⟨a0, n0, rfl, _⟩ := id hP.ar
  obtain ⟨a1, n1, rfl, _⟩ := id hP.nm
  obtain ⟨a2, n2, rfl, hA2⟩ := id hP.rl
  obtain ⟨hn, hr, hR⟩ := St.check_in hc
  have HK : Hid _ := St.check_kinds hc
  have HR : Hid _ := hR
  have HA2 : Hid _ := hA2
  have b0 := (Below.refl w.heap.size w).alloc (Nat.le_refl _) (.cells #[.slice a0 p.arity.length n0, .slice a1 p.names.length n1, .slice a2 p.rules.length n2] 26)
  have hX := heap_alloc_new w (.cells #[.slice a0 p.arity.length n0, .slice a1 p.names.length n1, .slice a2 p.rules.length n2] 26)
  have s1 : (w.alloc (.cells #[.slice a0 p.arity.length n0, .slice a1 p.names.length n1, .slice a2 p.rules.length n2] 26)).heap.size = w.heap.size + 1 := by simp
  have b3 := (Below.refl (w.alloc (.cells #[.slice a0 p.arity.length n0, .slice a1 p.names.length n1, .slice a2 p.rules.length n2] 26)).heap.size (w.alloc (.cells #[.slice a0 p.arity.length n0, .slice a1 p.names.length n1, .slice a2 p.rules.length n2] 26))).alloc (Nat.le_refl _) (.cells ((boolRow (List.replicate p.arity.length false)).setIfInBounds q0 (.bool true)) 4)
  have hrow := heap_alloc_new (w.alloc (.cells #[.slice a0 p.arity.length n0, .slice a1 p.names.length n1, .slice a2 p.rules.length n2] 26)) (.cells ((boolRow (List.replicate p.arity.length false)).setIfInBounds q0 (.bool true)) 4)
  have hX3 := (b3.block _ (Array.getElem?_eq_some_iff.mp hX).1).trans hX
  have hb3 := b0.trans (b3.mono b0.size)
  rw [s1] at hrow
  have HROW : Hid (((w.alloc (.cells #[.slice a0 p.arity.length n0, .slice a1 p.names.length n1, .slice a2 p.rules.length n2] 26)).alloc (.cells ((boolRow (List.replicate p.arity.length false)).setIfInBounds q0 (.bool true)) 4)).heap[w.heap.size + 1]? = some (.cells (boolRow (St.only p.arity.length q0)) 4)) := by
    show _ = _
    rw [hrow, boolRow_setIf]
    rfl
  have b4 := (Below.refl (w.alloc (.cells #[.slice a0 p.arity.length n0, .slice a1 p.names.length n1, .slice a2 p.rules.length n2] 26)).heap.size (w.alloc (.cells #[.slice a0 p.arity.length n0, .slice a1 p.names.length n1, .slice a2 p.rules.length n2] 26))).alloc (Nat.le_refl _) (.cells (boolRow (List.replicate p.arity.length false)) 4)
  have hr4 := heap_alloc_new (w.alloc (.cells #[.slice a0 p.arity.length n0, .slice a1 p.names.length n1, .slice a2 p.rules.length n2] 26)) (.cells (boolRow (List.replicate p.arity.length false)) 4)
  rw [s1] at hr4
  have c4 := boolRow_cell hr4 (i := q0) (by simpa using hq0)
  have f4 := Lib.frozen_of_heap hr4 q0
  have hmk := run_make_row' (P := Try.prog) 30 4 (.bool false) 1 Try.underlying30 (by kernel_rfl) rfl .i64 .i64 p.arity.length (by omega) (by omega)
  simp only [made_boolRow] at hmk
  have HX3 : Hid _ := hX3
  have HB3 : Hid _ := hb3
  clear b0 hX b3 b4 hX3 hb3 hrow hr4 s1 hP hR hA2 hc
  go_enter Try.func12, Try.ntmps12
  go_wp2_with fail
  generalize (w.alloc (.cells #[.slice a0 p.arity.length n0, .slice a1 p.names.length n1, .slice a2 p.rules.length n2] 26)).alloc (.cells ((boolRow (List.replicate p.arity.length false)).setIfInBounds q0 (.bool true)) 4) = w3 at *
  generalize hLB : w.heap.size + 1 = LB at *
  have hlw : w.heap.size < LB := by omega
  clear hmk hLB c4 f4
  have HPB : Hid (∀ wr : World, w3.grownBy wr (some LB) → wr.heap[w.heap.size]? = some (.cells #[.slice a0 p.arity.length n0, .slice a1 p.names.length n1, .slice a2 p.rules.length n2] 26) ∧ Below w.heap.size w wr) := fun wr hg => ⟨(hg.block _ (Array.getElem?_eq_some_iff.mp HX3.out).1 (fun e => by injection e with e; omega)).trans HX3.out, below_row HB3.out hg (by omega)⟩
  go_loopw [6] (fun i6 wr => ∃ k : Nat, k ≤ p.arity.length ∧ i6 = .int .i64 k ∧ BRow w3 LB wr (St.niter (St.back p) k (St.only p.arity.length q0))) (fun i6 _ => p.arity.length - (intOf i6).toNat)
  case atStart => exact ⟨0, Nat.zero_le _, rfl, HROW.out, ⟨rfl, rfl, rfl, Nat.le_refl _, fun _ _ _ => rfl⟩⟩
  case round =>
    clear HROW
    obtain ⟨wk, hwk⟩ : ∃ wk, wk = wr := ⟨_, rfl⟩
    subst hwk
    obtain ⟨k, hk, rfl, hL⟩ := hrel
    have HL : Hid _ := hL
    clear hL
    by_cases hkn : k < p.arity.length
    · go_wp2_with fail
      go_loopw [7] (fun i7 wr => ∃ i : Nat, i ≤ p.rules.length ∧ i7 = .int .i64 i ∧ BRow wk LB wr (St.nround (St.backOf (p.rules.take i)) (St.niter (St.back p) k (St.only p.arity.length q0)))) (fun i7 _ => p.rules.length - (intOf i7).toNat)
      case atStart => exact ⟨0, Nat.zero_le _, rfl, HL.out.here⟩
      case round =>
        obtain ⟨wi, hwi⟩ : ∃ wi, wi = wr := ⟨_, rfl⟩
        subst hwi
        obtain ⟨i, hi, rfl, hL2⟩ := hrel
        have HL2 : Hid _ := hL2
        have hPX := HPB.out wi (HL.out.gr.trans_row hL2.gr)
        have c2 : wi.cell? ⟨w.heap.size, 2, none⟩ = some (.slice a2 p.rules.length n2) := by rw [Lib.cell_of_heap hPX.1]; rfl
        have HBI : Hid _ := hPX.2
        clear hL2 hPX
        by_cases hil : i < p.rules.length
        · obtain ⟨b, off, rfl, p0, ⟨vt, p1, hT⟩, p2, ⟨vb, p3, hLL⟩, p4⟩ := prules_at HA2.out i hil
          obtain ⟨at_, ct, rfl, _⟩ := hT
          obtain ⟨ab, cb, rfl, hLL⟩ := hLL
          have HLL : Hid _ := hLL
          have HRI : Hid (St.RuleIn p.arity.length (Sc.ruleD p.rules i)) := HR.out _ (ruleD_mem hil)
          have HKI : Hid _ := HK.out _ (ruleD_mem hil)
          have HTK : Hid _ := take_rule hil
          have q0' := cell_below HBI.out p0
          have q1 := cell_below HBI.out p1
          have q2 := cell_below HBI.out p2
          have q3 := cell_below HBI.out p3
          have q4 := cell_below HBI.out p4
          clear p0 p1 p2 p3 p4 hLL
          generalize Sc.ruleD p.rules i = r at *
          obtain ⟨pd, ts, fo, bd, vs⟩ := r
          obtain ⟨pr, rfl⟩ : ∃ pr : Nat, pd = pr := ⟨pd.toNat, by have := HRI.out.h0; dsimp only at this; omega⟩
          dsimp only at *
          have hpn : pr < p.arity.length := by have := HRI.out.h1; dsimp only at this; omega
          have hbd : bd.length ≤ 4 := HRI.out.hl
          go_wp2_with fail
          have b5 := (Below.refl wi.heap.size wi).alloc (Nat.le_refl _) (.cells #[.int .i64 pr, .slice at_ ts.length ct, .int .i64 fo, .slice ab bd.length cb, .int .i64 vs] 65)
          have hQ := heap_alloc_new wi (.cells #[.int .i64 pr, .slice at_ ts.length ct, .int .i64 fo, .slice ab bd.length cb, .int .i64 vs] 65)
          have HL5 : Hid _ := HL2.out.below b5
          have HB5 : Hid _ := HBI.out.trans (b5.mono HBI.out.size)
          clear q0' q1 q2 q3 q4 c2 b5
          have HQ : Hid _ := hQ
          clear hQ
          generalize wi.alloc (.cells #[.int .i64 pr, .slice at_ ts.length ct, .int .i64 fo, .slice ab bd.length cb, .int .i64 vs] 65) = wq at *
          have hqlb : ¬ wi.heap.size = LB := by have := (Array.getElem?_eq_some_iff.mp HL2.out.row).1; omega
          generalize wi.heap.size = QB at *
          go_loopw [9] (fun i9 wr => ∃ j : Nat, j ≤ bd.length ∧ i9 = .int .i64 j ∧ BRow wk LB wr (St.nround (St.backOf (p.rules.take i) ++ St.litN (⟨pr, ts, fo, bd, vs⟩ : Sc.Rule) (bd.take j)) (St.niter (St.back p) k (St.only p.arity.length q0))) ∧ wq.grownBy wr (some LB)) (fun i9 _ => bd.length - (intOf i9).toNat)
          case atStart => exact ⟨0, Nat.zero_le _, rfl, by simpa [St.litN] using HL5.out, ⟨rfl, rfl, rfl, Nat.le_refl _, fun _ _ _ => rfl⟩⟩
          case round =>
            clear HL5
            obtain ⟨j, hj, rfl, hL3, hgq⟩ := hrel
            have hQr := (hgq.block _ (Array.getElem?_eq_some_iff.mp HQ.out).1 (fun e => by injection e with e; exact hqlb e)).trans HQ.out
            have e0 : wr.cell? ⟨QB, 0, none⟩ = some (.int .i64 pr) := by rw [Lib.cell_of_heap hQr]; rfl
            have e3 : wr.cell? ⟨QB, 3, none⟩ = some (.slice ab bd.length cb) := by rw [Lib.cell_of_heap hQr]; rfl
            have HL3 : Hid _ := hL3
            have HGQ : Hid _ := hgq
            have HBR : Hid _ := below_row HB5.out hgq (by omega)
            have hcl : (St.nround (St.backOf (p.rules.take i) ++ St.litN (⟨pr, ts, fo, bd, vs⟩ : Sc.Rule) (bd.take j)) (St.niter (St.back p) k (St.only p.arity.length q0))).length = p.arity.length := by rw [St.nround_length, St.niter_length]; simp [St.only]
            have c6 := boolRow_cell hL3.row (i := pr) (by omega)
            clear hL3 hgq hQr
            by_cases hjl : j < bd.length
            · cases hcp : (St.nround (St.backOf (p.rules.take i) ++ St.litN (⟨pr, ts, fo, bd, vs⟩ : Sc.Rule) (bd.take j)) (St.niter (St.back p) k (St.only p.arity.length q0))).getD pr false
              · rw [hcp] at c6
                have HEN : Hid (St.nround (St.backOf (p.rules.take (i + 1))) (St.niter (St.back p) k (St.only p.arity.length q0)) = (St.nround (St.backOf (p.rules.take i) ++ St.litN (⟨pr, ts, fo, bd, vs⟩ : Sc.Rule) (bd.take j)) (St.niter (St.back p) k (St.only p.arity.length q0)))) := by
                  have h1 : (St.nround (St.backOf (p.rules.take i)) (St.niter (St.back p) k (St.only p.arity.length q0))).getD pr false = false := by
                    cases h9 : (St.nround (St.backOf (p.rules.take i)) (St.niter (St.back p) k (St.only p.arity.length q0))).getD pr false
                    · rfl
                    · have h8 : (St.nround (St.backOf (p.rules.take i) ++ St.litN (⟨pr, ts, fo, bd, vs⟩ : Sc.Rule) (bd.take j)) (St.niter (St.back p) k (St.only p.arity.length q0))).getD pr false = true := by rw [St.nround_app]; exact St.nround_keeps _ h9
                      rw [hcp] at h8
                      cases h8
                  show _ = _
                  rw [HTK.out, St.backOf_snoc, St.nround_app, St.nround_app, St.litN_none (⟨pr, ts, fo, bd, vs⟩ : Sc.Rule) _ h1]
                  exact St.nround_none h1
                clear hcp hcl
                go_wp2_with fail
                go_roundw
                case rel => exact ⟨i + 1, hil, by go_num, by rw [HEN.out]; exact HL3.out⟩
                case measure => simp [intOf]; omega
              · rw [hcp] at c6
                obtain ⟨b', off', rfl, p0, p1, p2, lv, p3, hT⟩ := plits_at HLL.out j hjl
                obtain ⟨al, cl, rfl, _, _⟩ := hT
                have r0 := cell_below HBR.out p0
                have r2 := cell_below HBR.out p2
                have HTL : Hid _ := take_lit hjl
                have HKL : Hid _ := HKI.out.2 _ (litD_mem hjl)
                have HBX : Hid _ := HRI.out.hb _ (litD_mem hjl)
                have HCP : Hid _ := hcp
                clear p0 p1 p2 p3 hcp
                dsimp only at *
                generalize Sc.litD bd j = x at *
                obtain ⟨kd, op, xp, lt⟩ := x
                dsimp only at *
                by_cases h2 : kd ≤ 2
                · have h2d : decide (kd ≤ 2) = true := decide_eq_true h2
                  have hk1 : 1 ≤ kd := HKL.out
                  have hh : St.hang ⟨kd, op, xp, lt⟩ = true := decide_eq_true (by show kd = 1 ∨ kd = 2; omega)
                  have hxp := HBX.out hh
                  obtain ⟨q, rfl⟩ : ∃ q : Nat, xp = q := ⟨xp.toNat, by have h9 : 0 ≤ xp := hxp.1; omega⟩
                  have hqn : q < p.arity.length := by have h9 : (q : Int) < (p.arity.length : Int) := hxp.2; omega
                  have f5 := Lib.frozen_of_heap HL3.out.row q
                  have c5 := boolRow_cell HL3.out.row (i := q) (by omega)
                  have HNX : Hid (BRow wk LB (wr.setCell ⟨LB, q, none⟩ (.bool true)) (St.nround (St.backOf (p.rules.take i) ++ St.litN (⟨pr, ts, fo, bd, vs⟩ : Sc.Rule) (bd.take (j + 1))) (St.niter (St.back p) k (St.only p.arity.length q0)))) := by
                    have h9 := HL3.out.set q true
                    rw [HTL.out, St.litN_yes _ _ hh, ← List.append_assoc, St.nround_snoc]
                    have h8 : St.nstep (St.nround (St.backOf (p.rules.take i) ++ St.litN (⟨pr, ts, fo, bd, vs⟩ : Sc.Rule) (bd.take j)) (St.niter (St.back p) k (St.only p.arity.length q0))) (q, pr, 0) = (St.nround (St.backOf (p.rules.take i) ++ St.litN (⟨pr, ts, fo, bd, vs⟩ : Sc.Rule) (bd.take j)) (St.niter (St.back p) k (St.only p.arity.length q0))).set q true := by unfold St.nstep; exact if_pos HCP.out
                    exact h8 ▸ h9
                  have HG9 : Hid _ := HGQ.out.trans_row (grown_set (W := wr) (LB := LB) q (.bool true))
                  clear h2 hh hxp hcl
                  go_wp2_with fail
                  go_roundw
                  case rel => exact ⟨j + 1, hjl, by go_num, HNX.out, HG9.out⟩
                  case measure => simp [intOf]; omega
                · have h2d : decide (kd ≤ 2) = false := decide_eq_false h2
                  have HES : Hid (St.litN (⟨pr, ts, fo, bd, vs⟩ : Sc.Rule) (bd.take (j + 1)) = St.litN (⟨pr, ts, fo, bd, vs⟩ : Sc.Rule) (bd.take j)) := by
                    show _ = _
                    rw [HTL.out]
                    exact St.litN_no _ _ (fun hc => by have h9 : kd = 1 ∨ kd = 2 := of_decide_eq_true hc; omega)
                  clear h2 hcl
                  go_wp2_with fail
                  go_roundw
                  case rel => exact ⟨j + 1, hjl, by go_num, by rw [HES.out]; exact HL3.out, HGQ.out⟩
                  case measure => simp [intOf]; omega
            · obtain rfl : j = bd.length := by omega
              have HEN : Hid (St.nround (St.backOf (p.rules.take (i + 1))) (St.niter (St.back p) k (St.only p.arity.length q0)) = St.nround (St.backOf (p.rules.take i) ++ St.litN (⟨pr, ts, fo, bd, vs⟩ : Sc.Rule) (bd.take bd.length)) (St.niter (St.back p) k (St.only p.arity.length q0))) := by
                show _ = _
                rw [HTK.out, St.backOf_snoc, List.take_length]
                rfl
              clear hcl c6
              go_wp2_with fail
              go_roundw
              case rel => exact ⟨i + 1, hil, by go_num, by rw [HEN.out]; exact HL3.out⟩
              case measure => simp [intOf]; omega
        · obtain rfl : i = p.rules.length := by omega
          have HEN : Hid (St.niter (St.back p) (k + 1) (St.only p.arity.length q0) = St.nround (St.backOf (p.rules.take p.rules.length)) (St.niter (St.back p) k (St.only p.arity.length q0))) := by
            show _ = _
            rw [St.niter_succ, List.take_length]
            rfl
          go_wp2_with fail
          go_roundw
          case rel => exact ⟨k + 1, hkn, by go_num, by rw [HEN.out]; exact HL.out.re HL2.out⟩
          case measure => simp [intOf]; omega
    · obtain rfl : k = p.arity.length := by omega
      go_wp2_with fail
      go_ret
      refine ⟨_, rfl, ?_, (HPB.out wk HL.out.gr).2⟩
      have hlen : (St.niter (St.back p) p.arity.length (St.only p.arity.length q0)).length = p.arity.length := by rw [St.niter_length]; simp [St.only]
      have h9 := boolRow_bools p.arity.length (by rw [hlen]; exact Nat.le_refl _) HL.out.row
      rw [hlen] at h9
      exact h9

end Go.Proofs.Ytgpaleifhcdjnaa

/- A region by a table whose last operations come one behind the other, behind all others, and may change anything (append, then a store). -/
namespace Go.Proofs.Ytgpaleifhcdjnaa
open Go.RowKit

/-- Does operation i wait for j, by some steps? -/
def reach (ops : Array Oper) : Nat → Nat → Nat → Bool
  | 0, _, _ => false
  | f + 1, i, j => ((ops[i]?).map fun o => o.after.toList.any fun e => Region.binds .any e && (e.on == j || reach ops f e.on j)).getD false
def Closed (ops : Array Oper) (s : Array Bool) : Prop := ∀ (i : Nat) (o : Oper), s[i]? = some true → ops[i]? = some o → ∀ e, e ∈ o.after → Region.binds .any e = true → s[e.on]? = some true
theorem reach_done {ops : Array Oper} {s : Array Bool} (hC : Closed ops s) : ∀ (f i j : Nat) (o : Oper), ops[i]? = some o → (∀ e, e ∈ o.after → Region.binds .any e = true → s[e.on]? = some true) → reach ops f i j = true → s[j]? = some true
  | 0, _, _, _, _, _, h => by cases h
  | f + 1, i, j, o, ho, hd, h => by
    unfold reach at h
    rw [ho, Option.map_some, Option.getD_some] at h
    obtain ⟨e, he, h2⟩ := List.any_eq_true.mp h
    rw [Bool.and_eq_true, Bool.or_eq_true] at h2
    have hse := hd e (by simpa using he) h2.1
    rcases h2.2 with h3 | h3
    · have h3 : e.on = j := by simpa using h3
      rw [← h3]; exact hse
    · cases hoe : ops[e.on]? with
      | none =>
        cases f with
        | zero => cases h3
        | succ f => unfold reach at h3; rw [hoe] at h3; cases h3
      | some oe => exact reach_done hC f e.on j oe hoe (fun e' he' hb' => hC e.on oe hse hoe e' he' hb') h3
/-- The tail waits for all ahead of it, one by one. -/
def tailFine (ops : Array Oper) (L : Nat) : Bool := (List.range L).all (fun j => reach ops 12 L j) && (List.range ops.size).all fun i => !decide (L < i) || reach ops 12 i (i - 1)
structure OpInT (ops : Array Oper) (T : Nat → Value → World → Prop) (a0 : Act) (w0 : World) (L : Nat) (a : Act) (w : World) : Prop where
  below : Below w0.heap.size w0 w
  defers : a.defers = a0.defers
  size : a.tmps.size = a0.tmps.size
  still : ∀ t, t ∉ ops.toList.filterMap (·.dst) → a.tmps.getD t undef = a0.tmps.getD t undef
  all : ∀ (i : Nat) (o : Oper) (t : Nat), i < L → ops[i]? = some o → o.dst = some t → T t (a.tmps.getD t undef) w

section
variable {P : Program} {ops : Array Oper} {Q : Exit → Act → World → Prop}
theorem wp_region_tail (T : Nat → Value → World → Prop) (L : Nat) {id : Nat} {a0 : Act} {w0 : World} (hL : L < ops.size) (htf : tailFine ops L = true) (hm : P.follows .mixedOrders = true)
    (hf : tabFine ops a0.tmps.size = true)
    (hmono : ∀ t v w w', Below w.heap.size w w' → T t v w → T t v w')
    (hop : AllOps (fun o => ∀ a w, OpIn ops T a0 w0 o a w → OpOk P ops Q T o a w) (ops.toList.take L))
    (htail : ∀ a w, OpInT ops T a0 w0 L a w → wpOps P ops Q (List.range' L (ops.size - L)) a w) :
    (Code.region id ops true).wp P Q a0 w0 := by
  unfold tailFine at htf
  rw [Bool.and_eq_true] at htf
  have ht1 : ∀ j, j < L → reach ops 12 L j = true := fun j hj => List.all_eq_true.mp htf.1 j (List.mem_range.mpr hj)
  have ht2 : ∀ i, i < ops.size → L < i → reach ops 12 i (i - 1) = true := fun i hi hLi => by
    have h := List.all_eq_true.mp htf.2 i (List.mem_range.mpr hi)
    rw [decide_eq_true hLi] at h
    simpa using h
  unfold tabFine at hf
  rw [Bool.and_eq_true, Bool.and_eq_true] at hf
  obtain ⟨⟨hnd, hlt⟩, hah⟩ := hf
  have hnd := of_decide_eq_true hnd
  have hlt' : ∀ t, t ∈ ops.toList.filterMap (·.dst) → t < a0.tmps.size := fun t ht => of_decide_eq_true (List.all_eq_true.mp hlt t ht)
  have hah' : ∀ (i : Nat) (o : Oper), ops[i]? = some o → ∀ e, e ∈ o.after → e.on < i := fun i o ho e he => by
    have hi : i < ops.size := (Array.getElem?_eq_some_iff.mp ho).1
    have h := List.all_eq_true.mp hah i (List.mem_range.mpr hi)
    rw [ho, Option.map_some, Option.getD_some] at h
    exact of_decide_eq_true (List.all_eq_true.mp h e (by simpa using he))
  refine wp_region_inv (fun s a w => (s.size = ops.size ∧ Closed ops s) ∧ (((∀ i, L ≤ i → i < ops.size → s[i]? = some false) ∧ Tabbed ops T a0 w0 s a w) ∨
    (∃ m, L ≤ m ∧ m ≤ ops.size ∧ (∀ i, i < m → s[i]? = some true) ∧ (∀ i, m ≤ i → i < ops.size → s[i]? = some false) ∧ wpOps P ops Q (List.range' m (ops.size - m)) a w))) hm ?_ ?_ ?_
  · rintro s a w hr ⟨⟨hs, hC⟩, hI⟩
    have hall : ∀ n : Nat, n ≤ ops.size → ∀ i : Nat, i < n → s[i]? = some true := by
      intro n
      induction n with
      | zero => intro _ i hi; exact absurd hi (Nat.not_lt_zero _)
      | succ n ih =>
        intro hn i hi
        have ih := ih (by omega)
        by_cases hin : i < n
        · exact ih i hin
        · have hin : i = n := by omega
          subst hin
          cases hsi : s[i]? with
          | none => rw [Array.getElem?_eq_none_iff] at hsi; omega
          | some b =>
            cases b with
            | true => rfl
            | false =>
              exfalso
              have hio : i < ops.size := by omega
              have : i ∈ Region.ready .any ops s := by
                unfold Region.ready
                refine List.mem_filter.mpr ⟨List.mem_range.mpr hio, ?_⟩
                rw [Bool.and_eq_true]
                refine ⟨by simp [Array.getD_eq_getD_getElem?, hsi], ?_⟩
                have ho : ops[i]? = some ops[i] := Array.getElem?_eq_getElem hio
                rw [ho, Option.map_some, Option.getD_some, Array.all_eq_true_iff_forall_mem]
                intro e he
                have h1 := ih e.on (hah' i _ ho e he)
                simp [Array.getD_eq_getD_getElem?, h1]
              rw [hr] at this
              exact absurd this (by simp)
    have hd := hall ops.size (Nat.le_refl _)
    rcases hI with ⟨hF, _⟩ | ⟨m, _, hm1, _, hF, hW⟩
    · have h1 := hF L (Nat.le_refl _) hL
      rw [hd L hL] at h1
      cases h1
    · by_cases hme : m = ops.size
      · subst hme
        rw [Nat.sub_self] at hW
        exact hW
      · have h1 := hF m (Nat.le_refl _) (by omega)
        rw [hd m (by omega)] at h1
        cases h1
  · rintro s a w i hi ⟨⟨hs, hC⟩, hI⟩
    obtain ⟨hsi, o, ho, haf⟩ := ready_mem hi
    have his : i < ops.size := (Array.getElem?_eq_some_iff.mp ho).1
    have hup : ∀ j, s[j]? = some true → (s.setIfInBounds i true)[j]? = some true := fun j hj => by
      rw [Array.getElem?_setIfInBounds]
      by_cases hij : i = j
      · rw [if_pos hij, if_pos (by omega)]
      · rw [if_neg hij]; exact hj
    have hss : (s.setIfInBounds i true).size = ops.size ∧ Closed ops (s.setIfInBounds i true) := by
      refine ⟨by simp [hs], fun i' o' hi' ho' e he hb => ?_⟩
      by_cases hii : i = i'
      · subst hii
        rw [ho] at ho'
        cases ho'
        exact hup _ (haf e he hb)
      · rw [Array.getElem?_setIfInBounds, if_neg hii] at hi'
        exact hup _ (hC i' o' hi' ho' e he hb)
    have go : ∀ m, L ≤ m → m < ops.size → i = m → (∀ j, j < m → s[j]? = some true) → (∀ j, m ≤ j → j < ops.size → s[j]? = some false) → wpOps P ops Q (List.range' m (ops.size - m)) a w →
        wpOp P ops Q i (fun a' w' => ((s.setIfInBounds i true).size = ops.size ∧ Closed ops (s.setIfInBounds i true)) ∧ (((∀ j, L ≤ j → j < ops.size → (s.setIfInBounds i true)[j]? = some false) ∧ Tabbed ops T a0 w0 (s.setIfInBounds i true) a' w') ∨
          (∃ m, L ≤ m ∧ m ≤ ops.size ∧ (∀ j, j < m → (s.setIfInBounds i true)[j]? = some true) ∧ (∀ j, m ≤ j → j < ops.size → (s.setIfInBounds i true)[j]? = some false) ∧ wpOps P ops Q (List.range' m (ops.size - m)) a' w'))) a w := by
      intro m hLm hms him hT hF hW
      subst him
      obtain ⟨d, hd⟩ : ∃ d, ops.size - i = d + 1 := ⟨ops.size - i - 1, by omega⟩
      rw [hd, List.range'_succ, wpOps_cons] at hW
      refine wpOp_mono (fun a' w' h' => ⟨hss, .inr ⟨i + 1, by omega, by omega, fun j hj => ?_, fun j hj hjs => ?_, ?_⟩⟩) hW
      · by_cases hji : j = i
        · subst hji
          rw [Array.getElem?_setIfInBounds, if_pos rfl, if_pos (by omega)]
        · exact hup j (hT j (by omega))
      · rw [Array.getElem?_setIfInBounds, if_neg (by omega)]
        exact hF j (by omega) hjs
      · rw [show ops.size - (i + 1) = d by omega]
        exact h'
    rcases hI with ⟨hF, hI⟩ | ⟨m, hLm, hm1, hT, hF, hW⟩
    · by_cases hiL : L ≤ i
      · have hiL2 : i = L := by
          rcases Nat.lt_or_ge L i with h | h
          · have h1 := reach_done hC 12 i (i - 1) o ho haf (ht2 i his h)
            rw [hF (i - 1) (by omega) (by omega)] at h1
            cases h1
          · omega
        subst hiL2
        have hdn : ∀ j, j < i → s[j]? = some true := fun j hj => reach_done hC 12 i j o ho haf (ht1 j hj)
        exact go i (Nat.le_refl _) his rfl hdn (fun j hj hjs => hF j hj hjs) (htail a w ⟨hI.below, hI.defers, hI.size, hI.still, fun j oj t hj hoj hd => hI.done j oj t (hdn j hj) hoj hd⟩)
      · have hop' : OpOk P ops Q T o a w := by
          refine AllOps.mem _ hop o ?_ a w ⟨hI.below, hI.still, fun e he hb o' t ho' hd => hI.done e.on o' t (haf e he hb) ho' hd⟩
          rw [← Array.getElem?_toList] at ho
          refine List.mem_of_getElem? (i := i) ?_
          rw [List.getElem?_take, if_pos (by omega)]
          exact ho
        have hset : ∀ {v : Value} {w' : World}, (∀ t, o.dst = some t → T t v w') → Below w.heap.size w w' → Tabbed ops T a0 w0 (s.setIfInBounds i true) (a.put o.dst v) w' := by
          intro v w' hv hb
          refine ⟨hI.below.trans (hb.mono hI.below.size), by rw [put_defers]; exact hI.defers, by rw [put_size]; exact hI.size, fun t ht => ?_, fun j oj t hj hoj hd => ?_⟩
          · cases hd : o.dst with
            | none => exact hI.still t ht
            | some u =>
              have hne : t ≠ u := fun h => ht (h ▸ dst_mem ho hd)
              rw [put_get_ne hne]
              exact hI.still t ht
          · by_cases hij : j = i
            · subst hij
              rw [ho] at hoj
              cases hoj
              rw [hd, put_get_self (by rw [hI.size]; exact hlt' t (dst_mem ho hd))]
              exact hv t hd
            · have hj' : s[j]? = some true := by
                rw [Array.getElem?_setIfInBounds, if_neg (fun h => hij h.symm)] at hj
                exact hj
              have h1 := hmono t _ w w' hb (hI.done j oj t hj' hoj hd)
              cases hd2 : o.dst with
              | none => exact h1
              | some u =>
                have hne : t ≠ u := fun h => hij (dst_inj ops.toList hnd j i oj o t (by rw [Array.getElem?_toList]; exact hoj) (by rw [Array.getElem?_toList]; exact ho) hd (h ▸ hd2))
                rw [put_get_ne hne]
                exact h1
        have hF' : ∀ j, L ≤ j → j < ops.size → (s.setIfInBounds i true)[j]? = some false := fun j hj hjs => by
          rw [Array.getElem?_setIfInBounds, if_neg (by omega)]
          exact hF j hj hjs
        unfold OpOk at hop'
        unfold wpOp
        rw [ho]
        dsimp only
        by_cases hw : Region.wanted o (yielded ops a.tmps) = true
        · rw [if_pos hw] at hop' ⊢
          refine hop'.imp (Oper.wp_mono ?_) (fun h => h)
          rintro a' w' ⟨v, rfl, hv, hb⟩
          exact ⟨hss, .inl ⟨hF', hset hv hb⟩⟩
        · rw [if_neg hw] at hop' ⊢
          exact ⟨hss, .inl ⟨hF', hset hop' (Below.refl _ _)⟩⟩
    · have him : m ≤ i := by
        rcases Nat.lt_or_ge i m with h | h
        · have h1 := hT i h
          rw [hsi] at h1
          cases h1
        · exact h
      have him2 : i = m := by
        rcases Nat.lt_or_ge m i with h | h
        · have h1 := reach_done hC 12 i (i - 1) o ho haf (ht2 i his (by omega))
          rw [hF (i - 1) (by omega) (by omega)] at h1
          cases h1
        · omega
      exact go m hLm (by omega) him2 hT hF hW
  · refine ⟨⟨by simp, fun i o h => ?_⟩, .inl ⟨fun i _ hi => ?_, ⟨⟨rfl, rfl, rfl, Nat.le_refl _, fun _ _ => rfl⟩, rfl, rfl, fun _ _ => rfl, fun i o t h _ _ => ?_⟩⟩⟩
    · rw [Array.getElem?_replicate] at h
      split at h <;> simp at h
    · rw [Array.getElem?_replicate, if_pos hi]
    · rw [Array.getElem?_replicate] at h
      split at h <;> simp at h
end

end Go.Proofs.Ytgpaleifhcdjnaa

/- Rules in a row of one's own; sameBools; single operations behind a region. -/
namespace Go.Proofs.Ytgpaleifhcdjnaa
open Go.RowKit

abbrev Rv := Sc.Rule × Value × Value
def rvCells (p : Rv) : List Value := [.int .i64 p.1.pred, p.2.1, .int .i64 p.1.fold, p.2.2, .int .i64 p.1.vars]
def rCells (q : List Rv) : List Value := (q.map rvCells).flatten
theorem rules_toV {W : World} {B : Nat} {v : Value} {q : List Rv} (h : W.ownsRow B 65 5 v q.length (rCells q)) (hq : ∀ p, p ∈ q → PTermsV W p.2.1 p.1.terms ∧ PLitsV W p.2.2 p.1.body) : PRulesV W v (q.map (·.1)) := by
  obtain ⟨ao, cap, rfl, hle, hc⟩ := own_cells h
  refine ⟨ao, cap, by rw [List.length_map], ?_⟩
  rcases hc with h0 | ⟨g, rfl, hc⟩
  · exact .inl (by rw [List.length_eq_zero_iff.mp h0]; rfl)
  · refine .inr ⟨g, 0, rfl, fun i hi => ?_⟩
    rw [List.length_map] at hi
    have hl : q[i]? = some q[i] := List.getElem?_eq_getElem hi
    have hd : Sc.ruleD (q.map (·.1)) i = q[i].1 := by unfold Sc.ruleD; simp [hi]
    rw [hd]
    have hat := fun t ht => flat_at rvCells 5 (fun _ => rfl) q i _ t hl ht
    have hm := hq _ (List.getElem_mem hi)
    have each : ∀ t u, t < 5 → (rvCells q[i])[t]? = some u → W.cell? ⟨g, 0 + i * 5 + t, none⟩ = some u := fun t u ht hu => by
      have := hc (i * 5 + t) (by omega)
      rw [Nat.zero_add]
      exact (this.trans (hat t ht)).trans hu
    exact ⟨each 0 _ (by decide) rfl, ⟨q[i].2.1, each 1 _ (by decide) rfl, hm.1⟩, each 2 _ (by decide) rfl, ⟨q[i].2.2, each 3 _ (by decide) rfl, hm.2⟩, each 4 _ (by decide) rfl⟩

section
variable {P : Program} {ops : Array Oper} {Q : Exit → Act → World → Prop} {i : Nat} {o : Oper} {K : Act → World → Prop} {a : Act} {w w' : World}
theorem wpOp_val {v : Value} (ho : ops[i]? = some o) (hw : Region.wanted o (yielded ops a.tmps) = true) (hr : (execOp a.eval o).run P w = .ok (.value v) w') (h : K (a.put o.dst v) w') : wpOp P ops Q i K a w := by
  unfold wpOp
  rw [ho]
  dsimp only
  rw [if_pos hw]
  left
  unfold Oper.wp
  rw [hr, Oper.upon_value]
  exact h
theorem wpOp_void (ho : ops[i]? = some o) (hw : Region.wanted o (yielded ops a.tmps) = true) (hd : o.dst = none) (hr : (execOp a.eval o).run P w = .ok .skip w') (h : K a w') : wpOp P ops Q i K a w := by
  unfold wpOp
  rw [ho]
  dsimp only
  rw [if_pos hw]
  left
  unfold Oper.wp
  rw [hr, Oper.upon_skip, hd]
  exact h
theorem wpOp_wp (ho : ops[i]? = some o) (hw : Region.wanted o (yielded ops a.tmps) = true) (h : o.wp P a w K Q) : wpOp P ops Q i K a w := by
  unfold wpOp
  rw [ho]
  dsimp only
  rw [if_pos hw]
  exact .inl h
end

set_option maxRecDepth 100000 in
set_option maxHeartbeats 1000000 in
theorem sameBools_some (l : List Bool) (w : World) (n ca cb ba oa bb ob : Nat) (hmax : n ≤ 9223372036854775807)
    (hA : ∀ i, i < n → w.cell? ⟨ba, oa + i, none⟩ = some (.bool (Rl.boolD l i))) (hB : ∀ i, i < n → w.cell? ⟨bb, ob + i, none⟩ = some (.bool (Rl.boolD l i))) :
    Calls Try.prog 16 #[.slice (some ⟨ba, oa, none⟩) n ca, .slice (some ⟨bb, ob, none⟩) n cb] w fun e w' => e = .returned (.bool true) ∧ Below w.heap.size w w' := by
  have hne : ((n : Int) != (n : Int)) = false := by simp
  go_enter Try.func16, Try.ntmps16
  go_wp2_with fail
  go_loopw [5] (fun i wr => ∃ k nq : Nat, k ≤ n ∧ i = .int .i64 k ∧ wr = w.drewN nq) (fun i _ => n - (intOf i).toNat)
  case atStart => exact ⟨0, 0, Nat.zero_le _, rfl, rfl⟩
  case round =>
    obtain ⟨k, nq, hk, rfl, rfl⟩ := hrel
    by_cases hlt : k < n
    · have a0 := hA k hlt; have b0 := hB k hlt
      clear hA hB
      generalize Rl.boolD l k = x at *
      go_wp2_with fail
      go_quiet (fail)
      go_wp2_with fail
      go_roundw
      case rel => exact ⟨k + 1, _, by omega, by go_num, rfl⟩
      case measure => simp [intOf]; omega
    · clear hA hB
      go_wp2_with fail
      go_ret
      exact ⟨rfl, below_drewN (Below.refl _ _) _⟩
set_option maxRecDepth 100000 in
set_option maxHeartbeats 400000 in
theorem sameBools_none (w : World) (a b : Option Addr) (ca cb : Nat) : Calls Try.prog 16 #[.slice a 0 ca, .slice b 0 cb] w fun e w' => e = .returned (.bool true) ∧ Below w.heap.size w w' := by
  go_enter Try.func16, Try.ntmps16
  go_wp2_with fail
  refine wp_loop_rounds 1 ?_
  rw [rounds_succ]
  go_wp2_with fail
  go_ret
  exact ⟨rfl, Below.refl _ _⟩
theorem sameBools_refl (l : List Bool) (w : World) (va vb : Value) (hmax : l.length ≤ 9223372036854775807) (hA : BoolsV w va l) (hB : BoolsV w vb l) :
    Calls Try.prog 16 #[va, vb] w fun e w' => e = .returned (.bool true) ∧ Below w.heap.size w w' := by
  obtain ⟨ao, ca, rfl, _, hA⟩ := hA
  obtain ⟨bo, cb, rfl, _, hB⟩ := hB
  rcases hA with rfl | ⟨ba, oa, rfl, hA⟩
  · exact sameBools_none w ao bo ca cb
  · rcases hB with rfl | ⟨bb, ob, rfl, hB⟩
    · exact sameBools_none w _ bo ca cb
    · exact sameBools_some l w l.length ca cb ba oa bb ob hmax hA hB

end Go.Proofs.Ytgpaleifhcdjnaa

