/- Own texts, one behind the other (part 5). -/
import Derived.Test.YtgpaleifhcdjnaaBundleD
import Derived.Test.YtgpaleifhcdjnaaRows
import Derived.ProofKit
import Derived.Deep.Slices
/- The document's MatchOf. -/
namespace Go.Proofs.Ytgpaleifhcdjnaa
open Go.RowKit

/-- The loop over the numbers of one fact. -/
def MkI (f : Rl.Fc) (y : List Int) (z : List Bool) (Pf : Bool) (wo : World) (ok kv : Value) (wr : World) : Prop :=
  ∃ (c : Bool) (n : Nat), n ≤ y.length ∧ ok = .bool c ∧ kv = .int .i64 n ∧ (c && Rl.agree (f.args.drop n) (y.drop n) (z.drop n)) = Pf ∧ (c = true → f.args.length = y.length) ∧ Below wo.heap.size wo wr

set_option maxRecDepth 100000 in
set_option maxHeartbeats 2000000 in
theorem MatchOf_any (l : List Rl.Fc) (pp : Int) (y : List Int) (z : List Bool) (v u t : Value) (w : World) (hV : FactsV w v l) (hU : IntsV w u y) (hT : BoolsV w t z) (hl : l.length ≤ 1048576) (hf : ∀ f, f ∈ l → FFit f) (hy : y.length ≤ 1048576) :
    Calls Try.prog 32 #[v, .int .i64 pp, u, t] w fun e w' => ∃ v', e = .returned v' ∧ FactsV w' v' (Rl.matchL l pp y z) ∧ Below w.heap.size w w' := by
  obtain ⟨i0, hi, hz0, hz1, hz2⟩ := info_parts rl_info49
  obtain ⟨ao, cap, rfl, _, hA⟩ := hV
  obtain ⟨bo, cbp, rfl, hB⟩ := hU
  obtain ⟨zo, czp, rfl, _, hZ⟩ := hT
  have HA : Hid (FactsAt w ao l) := hA
  have HB : Hid (IntsAt w bo y ∧ BoolsAt w zo z) := ⟨hB, hZ⟩
  have HF : Hid (∀ f, f ∈ l → FFit f) := hf
  obtain ⟨P, hP⟩ : ∃ P : Rl.Fc → Bool, P = Rl.fits pp y z := ⟨_, rfl⟩
  have HPE : Hid (P = Rl.fits pp y z) := hP
  clear hA hf hB hZ hP
  go_enter Try.func32, Try.ntmps32
  go_wp2_with fail
  go_loopw [9, 10] (fun vs i wr => ∃ (k : Nat) (q : List Fv), k ≤ l.length ∧ i = .int .i64 k ∧ wr.ownsRow w.heap.size 49 2 vs q.length (q.map fcCells).flatten ∧ q.map (·.1) = (l.take k).filter P ∧ (∀ p, p ∈ q → FvOk w p) ∧ Below w.heap.size w wr ∧ q.length ≤ k) (fun _ i _ => l.length - (intOf i).toNat)
  case atStart => exact ⟨0, [], Nat.zero_le _, rfl, World.ownsRow_nil _ _ _ _, rfl, fun _ hp => absurd hp (by simp), Below.refl _ _, Nat.le_refl _⟩
  case round =>
    obtain ⟨wo, hwo⟩ : ∃ wo, wo = wr := ⟨_, rfl⟩
    subst hwo
    obtain ⟨k, q, hk, rfl, hown, hqf, hqo, hb, hqk⟩ := hrel
    have HQF : Hid _ := hqf
    have HQO : Hid _ := hqo
    clear hqf hqo
    obtain ⟨aos, caps, rfl⟩ := own_slice hown
    by_cases hlt : k < l.length
    · obtain ⟨b, off, rfl, p0, fv, p1, hIv⟩ := facts_at HA.out k hlt
      have hmem := factD_mem l k hlt
      have HTK : Hid ((l.take (k + 1)).filter P = (l.take k).filter P ++ if P (Rl.factD l k) then [Rl.factD l k] else []) := by
        show _ = _
        rw [List.take_add_one, factD_get l k hlt, List.filter_append]
        simp only [Option.toList_some, List.filter_cons, List.filter_nil]
      have HIV : Hid (IntsV w fv (Rl.factD l k).args) := hIv
      have HFF : Hid (FFit (Rl.factD l k)) := HF.out _ hmem
      have HPF : Hid (P (Rl.factD l k) = Rl.fits pp y z (Rl.factD l k)) := by show _ = _; rw [HPE.out]
      obtain ⟨af, cf, rfl, _⟩ := hIv
      have a0 := cell_below hb p0
      have a1 := cell_below hb p1
      have HP0 : Hid (w.cell? ⟨b, off + k * 2, none⟩ = some (.int .i64 (Rl.factD l k).pred) ∧ w.cell? ⟨b, off + k * 2 + 1, none⟩ = some (.slice af (Rl.factD l k).args.length cf)) := ⟨p0, p1⟩
      clear p0 p1 hmem
      generalize Rl.factD l k = f at *
      by_cases hpq : f.pred = pp
      · have hpd : (f.pred == pp) = true := by simp [hpq]
        by_cases hxy : f.args.length = y.length
        · have hxd : ((f.args.length : Int) == (y.length : Int)) = true := by simp [hxy]
          have HX : Hid (f.args.length = y.length ∧ f.pred = pp) := ⟨hxy, hpq⟩
          clear hxy hpq
          go_wp2_with fail
          go_loopw [11, 12] (fun ok kv wr => MkI f y z (P f) wo ok kv wr) (fun _ kv _ => y.length - (intOf kv).toNat)
          case atStart => exact ⟨true, 0, Nat.zero_le _, rfl, rfl, by rw [HPF.out]; unfold Rl.fits; rw [HX.out.1, HX.out.2]; simp, (fun _ => HX.out.1), Below.refl _ _⟩
          case round =>
            obtain ⟨w5, hw5⟩ : ∃ w5, w5 = wr := ⟨_, rfl⟩
            subst hw5
            obtain ⟨c, n, hn, rfl, rfl, hc, hcx, hb5⟩ := hrel
            have HC : Hid _ := hc
            have HCX : Hid _ := hcx
            clear hc hcx
            have hbw1 := hb.trans (hb5.mono hb.size)
            cases c
            · have hp : P f = false := by have h9 := HC.out; rw [Bool.false_and] at h9; exact h9.symm
              have hown1 := ownsRow_below hown hb5
              clear hown hb hb5 HC HCX
              by_cases hny : n < y.length
              · clear hn
                rw [hp, if_neg (by simp)] at HTK
                have HT2 : Hid (q.map (·.1) = (l.take (k + 1)).filter P) := by show _ = _; rw [HTK.out, HQF.out]; simp
                clear HTK HQF hp
                go_wp2_with fail
                go_roundw
                case rel => exact ⟨k + 1, q, by omega, by go_num, hown1, HT2.out, HQO.out, hbw1, by omega⟩
                case measure => simp [intOf]; omega
              · clear hn
                rw [hp, if_neg (by simp)] at HTK
                have HT2 : Hid (q.map (·.1) = (l.take (k + 1)).filter P) := by show _ = _; rw [HTK.out, HQF.out]; simp
                clear HTK HQF hp
                go_wp2_with fail
                go_roundw
                case rel => exact ⟨k + 1, q, by omega, by go_num, hown1, HT2.out, HQO.out, hbw1, by omega⟩
                case measure => simp [intOf]; omega
            · by_cases hny : n < y.length
              · have hnx : n < f.args.length := by rw [HCX.out rfl]; exact hny
                obtain ⟨bx, ox, rfl, p1⟩ := ints_at (intsV_at HIV.out) n hnx
                obtain ⟨by2, oy, rfl, p2⟩ := ints_at HB.out.1 n hny
                have b0 := cell_below hbw1 HP0.out.1
                have b1 := cell_below hbw1 HP0.out.2
                have b2 := cell_below hbw1 p1
                have b3 := cell_below hbw1 p2
                have hbd : Below wo.heap.size wo w5.drew := ⟨hb5.os, hb5.tape, hb5.output, hb5.size, hb5.block⟩
                have hn1 : n + 1 ≤ y.length := hny
                by_cases hnz : n < z.length
                · obtain ⟨bz, oz, rfl, p3⟩ := bools_at HB.out.2 n hnz
                  have b4 := cell_below hbw1 p3
                  have HD := agree_drop f.args y z n hnx hny hnz
                  have HE : Hid (((!Rl.boolD z n || Sc.intD f.args n == Sc.intD y n) && Rl.agree (f.args.drop (n + 1)) (y.drop (n + 1)) (z.drop (n + 1))) = P f) := by
                    have h9 := HC.out
                    rw [Bool.true_and, HD] at h9
                    exact h9
                  have hzd : decide (z.length ≤ n) = false := by simp; omega
                  clear HD p1 p2 p3 HC
                  generalize Sc.intD f.args n = a at *
                  generalize Sc.intD y n = b' at *
                  generalize Rl.boolD z n = c at *
                  cases c
                  · go_upto_region 9 with fail
                    go_region
                    go_wp2_with fail
                    go_roundw
                    case rel => exact ⟨true, n + 1, hn1, rfl, by go_num, HE.out, HCX.out, hbd⟩
                    case measure => simp [intOf]; omega
                  · go_upto_region 9 with fail
                    go_region
                    go_wp2_with fail
                    go_roundw
                    case rel => exact ⟨a == b', n + 1, hn1, rfl, by go_num, HE.out, fun _ => HCX.out rfl, hbd⟩
                    case measure => simp [intOf]; omega
                · have HE : Hid (Rl.agree (f.args.drop (n + 1)) (y.drop (n + 1)) (z.drop (n + 1)) = P f) := by
                    have h9 := HC.out
                    rw [Bool.true_and, show z.drop n = [] from List.drop_of_length_le (by omega), agree_nil] at h9
                    show _ = _
                    rw [show z.drop (n + 1) = [] from List.drop_of_length_le (by omega), agree_nil]
                    exact h9
                  have hzd : decide (z.length ≤ n) = true := by simp; omega
                  clear p1 p2 HC
                  go_upto_region 9 with fail
                  go_region
                  go_wp2_with fail
                  go_roundw
                  case rel => exact ⟨true, n + 1, hn1, rfl, by go_num, by rw [Bool.true_and]; exact HE.out, HCX.out, hbd⟩
                  case measure => simp [intOf]; omega
              · have hp : P f = true := by
                  have h9 := HC.out
                  rw [Bool.true_and, show f.args.drop n = [] from List.drop_of_length_le (by rw [HCX.out rfl]; omega)] at h9
                  rw [← h9]
                  rfl
                have hown1 := ownsRow_below hown hb5
                have hny2 : n = y.length := by omega
                subst hny2
                clear hown hb hb5 HC HCX
                rw [hp, if_pos rfl] at HTK
                have HT2 : Hid ((q ++ [(f, Value.slice af f.args.length cf)]).map (·.1) = (l.take (k + 1)).filter P) := by show _ = _; rw [HTK.out, ← HQF.out]; simp
                have HO2 : Hid (∀ p, p ∈ q ++ [(f, Value.slice af f.args.length cf)] → FvOk w p) := by
                  intro p hp
                  rcases List.mem_append.mp hp with hp | hp
                  · exact HQO.out p hp
                  · obtain rfl : p = (f, Value.slice af f.args.length cf) := by simpa using hp
                    exact ⟨HIV.out, HFF.out⟩
                clear HTK HQF HQO hp
                have b0 := cell_below hbw1 HP0.out.1
                have b1 := cell_below hbw1 HP0.out.2
                have hbsz := hbw1.size
                go_wp2_with (at_builtin; refine wpList_append_own _ rfl _ _ 47 rfl w.heap.size 49 i0 _ 2 32 Try.underlying47 hi hz0 hz1 hz2 rfl (by decide) _ _ _ rfl (hown1.alloc _) ⟨w5.heap.size, 0, none⟩ 1 1 (fcCells (f, .slice af f.args.length cf)) rfl rfl ?c1 ?c2 ?c3 ?c4 ?c5 ?_)
                case c1 => exact news2 w5 _ _ 49
                case c2 => intro u hu; simp [fcCells] at hu; rcases hu with rfl | rfl <;> rfl
                case c3 => unfold maxLen; omega
                case c4 => omega
                case c5 => simp; omega
                intro vs2 w4 hown4 hgrow4 _
                obtain ⟨ao9, cap9, rfl⟩ := own_slice hown4
                have hb5 : Below w.heap.size w w4 := (hbw1.alloc hbw1.size _).grown hgrow4 (by simp; omega) (fun k hk => (hown1.lt k hk).1)
                have hown5 : w4.ownsRow w.heap.size 49 2 (.slice ao9 (q.length + 1) cap9) (q ++ [(f, Value.slice af f.args.length cf)]).length ((q ++ [(f, Value.slice af f.args.length cf)]).map fcCells).flatten := by
                  rw [List.length_append, List.map_append, List.flatten_append]
                  simpa using hown4
                clear hown4 hgrow4 hown1 hbw1 b0 b1
                go_wp2_with fail
                go_roundw
                case rel => exact ⟨k + 1, _, by omega, by go_num, hown5, HT2.out, HO2.out, hb5, by rw [List.length_append]; simp; omega⟩
                case measure => simp [intOf]; omega
        · have hxd : ((f.args.length : Int) == (y.length : Int)) = false := by simp; omega
          have HX : Hid (¬ f.args.length = y.length ∧ f.pred = pp) := ⟨hxy, hpq⟩
          clear hxy hpq
          go_wp2_with fail
          go_loopw [11, 12] (fun ok kv wr => MkI f y z (P f) wo ok kv wr) (fun _ kv _ => y.length - (intOf kv).toNat)
          case atStart => exact ⟨false, 0, Nat.zero_le _, rfl, rfl, by rw [HPF.out]; unfold Rl.fits; rw [beq_false_of_ne HX.out.1]; simp, (fun h => by cases h), Below.refl _ _⟩
          case round =>
            obtain ⟨w5, hw5⟩ : ∃ w5, w5 = wr := ⟨_, rfl⟩
            subst hw5
            obtain ⟨c, n, hn, rfl, rfl, hc, hcx, hb5⟩ := hrel
            have HC : Hid _ := hc
            have HCX : Hid _ := hcx
            clear hc hcx
            have hbw1 := hb.trans (hb5.mono hb.size)
            cases c
            · have hp : P f = false := by have h9 := HC.out; rw [Bool.false_and] at h9; exact h9.symm
              have hown1 := ownsRow_below hown hb5
              clear hown hb hb5 HC HCX
              by_cases hny : n < y.length
              · clear hn
                rw [hp, if_neg (by simp)] at HTK
                have HT2 : Hid (q.map (·.1) = (l.take (k + 1)).filter P) := by show _ = _; rw [HTK.out, HQF.out]; simp
                clear HTK HQF hp
                go_wp2_with fail
                go_roundw
                case rel => exact ⟨k + 1, q, by omega, by go_num, hown1, HT2.out, HQO.out, hbw1, by omega⟩
                case measure => simp [intOf]; omega
              · clear hn
                rw [hp, if_neg (by simp)] at HTK
                have HT2 : Hid (q.map (·.1) = (l.take (k + 1)).filter P) := by show _ = _; rw [HTK.out, HQF.out]; simp
                clear HTK HQF hp
                go_wp2_with fail
                go_roundw
                case rel => exact ⟨k + 1, q, by omega, by go_num, hown1, HT2.out, HQO.out, hbw1, by omega⟩
                case measure => simp [intOf]; omega
            · by_cases hny : n < y.length
              · have hnx : n < f.args.length := by rw [HCX.out rfl]; exact hny
                obtain ⟨bx, ox, rfl, p1⟩ := ints_at (intsV_at HIV.out) n hnx
                obtain ⟨by2, oy, rfl, p2⟩ := ints_at HB.out.1 n hny
                have b0 := cell_below hbw1 HP0.out.1
                have b1 := cell_below hbw1 HP0.out.2
                have b2 := cell_below hbw1 p1
                have b3 := cell_below hbw1 p2
                have hbd : Below wo.heap.size wo w5.drew := ⟨hb5.os, hb5.tape, hb5.output, hb5.size, hb5.block⟩
                have hn1 : n + 1 ≤ y.length := hny
                by_cases hnz : n < z.length
                · obtain ⟨bz, oz, rfl, p3⟩ := bools_at HB.out.2 n hnz
                  have b4 := cell_below hbw1 p3
                  have HD := agree_drop f.args y z n hnx hny hnz
                  have HE : Hid (((!Rl.boolD z n || Sc.intD f.args n == Sc.intD y n) && Rl.agree (f.args.drop (n + 1)) (y.drop (n + 1)) (z.drop (n + 1))) = P f) := by
                    have h9 := HC.out
                    rw [Bool.true_and, HD] at h9
                    exact h9
                  have hzd : decide (z.length ≤ n) = false := by simp; omega
                  clear HD p1 p2 p3 HC
                  generalize Sc.intD f.args n = a at *
                  generalize Sc.intD y n = b' at *
                  generalize Rl.boolD z n = c at *
                  cases c
                  · go_upto_region 9 with fail
                    go_region
                    go_wp2_with fail
                    go_roundw
                    case rel => exact ⟨true, n + 1, hn1, rfl, by go_num, HE.out, HCX.out, hbd⟩
                    case measure => simp [intOf]; omega
                  · go_upto_region 9 with fail
                    go_region
                    go_wp2_with fail
                    go_roundw
                    case rel => exact ⟨a == b', n + 1, hn1, rfl, by go_num, HE.out, fun _ => HCX.out rfl, hbd⟩
                    case measure => simp [intOf]; omega
                · have HE : Hid (Rl.agree (f.args.drop (n + 1)) (y.drop (n + 1)) (z.drop (n + 1)) = P f) := by
                    have h9 := HC.out
                    rw [Bool.true_and, show z.drop n = [] from List.drop_of_length_le (by omega), agree_nil] at h9
                    show _ = _
                    rw [show z.drop (n + 1) = [] from List.drop_of_length_le (by omega), agree_nil]
                    exact h9
                  have hzd : decide (z.length ≤ n) = true := by simp; omega
                  clear p1 p2 HC
                  go_upto_region 9 with fail
                  go_region
                  go_wp2_with fail
                  go_roundw
                  case rel => exact ⟨true, n + 1, hn1, rfl, by go_num, by rw [Bool.true_and]; exact HE.out, HCX.out, hbd⟩
                  case measure => simp [intOf]; omega
              · have hp : P f = true := by
                  have h9 := HC.out
                  rw [Bool.true_and, show f.args.drop n = [] from List.drop_of_length_le (by rw [HCX.out rfl]; omega)] at h9
                  rw [← h9]
                  rfl
                have hown1 := ownsRow_below hown hb5
                have hny2 : n = y.length := by omega
                subst hny2
                clear hown hb hb5 HC HCX
                rw [hp, if_pos rfl] at HTK
                have HT2 : Hid ((q ++ [(f, Value.slice af f.args.length cf)]).map (·.1) = (l.take (k + 1)).filter P) := by show _ = _; rw [HTK.out, ← HQF.out]; simp
                have HO2 : Hid (∀ p, p ∈ q ++ [(f, Value.slice af f.args.length cf)] → FvOk w p) := by
                  intro p hp
                  rcases List.mem_append.mp hp with hp | hp
                  · exact HQO.out p hp
                  · obtain rfl : p = (f, Value.slice af f.args.length cf) := by simpa using hp
                    exact ⟨HIV.out, HFF.out⟩
                clear HTK HQF HQO hp
                have b0 := cell_below hbw1 HP0.out.1
                have b1 := cell_below hbw1 HP0.out.2
                have hbsz := hbw1.size
                go_wp2_with (at_builtin; refine wpList_append_own _ rfl _ _ 47 rfl w.heap.size 49 i0 _ 2 32 Try.underlying47 hi hz0 hz1 hz2 rfl (by decide) _ _ _ rfl (hown1.alloc _) ⟨w5.heap.size, 0, none⟩ 1 1 (fcCells (f, .slice af f.args.length cf)) rfl rfl ?c1 ?c2 ?c3 ?c4 ?c5 ?_)
                case c1 => exact news2 w5 _ _ 49
                case c2 => intro u hu; simp [fcCells] at hu; rcases hu with rfl | rfl <;> rfl
                case c3 => unfold maxLen; omega
                case c4 => omega
                case c5 => simp; omega
                intro vs2 w4 hown4 hgrow4 _
                obtain ⟨ao9, cap9, rfl⟩ := own_slice hown4
                have hb5 : Below w.heap.size w w4 := (hbw1.alloc hbw1.size _).grown hgrow4 (by simp; omega) (fun k hk => (hown1.lt k hk).1)
                have hown5 : w4.ownsRow w.heap.size 49 2 (.slice ao9 (q.length + 1) cap9) (q ++ [(f, Value.slice af f.args.length cf)]).length ((q ++ [(f, Value.slice af f.args.length cf)]).map fcCells).flatten := by
                  rw [List.length_append, List.map_append, List.flatten_append]
                  simpa using hown4
                clear hown4 hgrow4 hown1 hbw1 b0 b1
                go_wp2_with fail
                go_roundw
                case rel => exact ⟨k + 1, _, by omega, by go_num, hown5, HT2.out, HO2.out, hb5, by rw [List.length_append]; simp; omega⟩
                case measure => simp [intOf]; omega
      · have hpd : (f.pred == pp) = false := by simp [hpq]
        have HX : Hid (¬ f.pred = pp) := hpq
        clear hpq
        go_wp2_with fail
        go_loopw [11, 12] (fun ok kv wr => MkI f y z (P f) wo ok kv wr) (fun _ kv _ => y.length - (intOf kv).toNat)
        case atStart => exact ⟨false, 0, Nat.zero_le _, rfl, rfl, by rw [HPF.out]; unfold Rl.fits; rw [beq_false_of_ne HX.out]; simp, (fun h => by cases h), Below.refl _ _⟩
        case round =>
          obtain ⟨w5, hw5⟩ : ∃ w5, w5 = wr := ⟨_, rfl⟩
          subst hw5
          obtain ⟨c, n, hn, rfl, rfl, hc, hcx, hb5⟩ := hrel
          have HC : Hid _ := hc
          have HCX : Hid _ := hcx
          clear hc hcx
          have hbw1 := hb.trans (hb5.mono hb.size)
          cases c
          · have hp : P f = false := by have h9 := HC.out; rw [Bool.false_and] at h9; exact h9.symm
            have hown1 := ownsRow_below hown hb5
            clear hown hb hb5 HC HCX
            by_cases hny : n < y.length
            · clear hn
              rw [hp, if_neg (by simp)] at HTK
              have HT2 : Hid (q.map (·.1) = (l.take (k + 1)).filter P) := by show _ = _; rw [HTK.out, HQF.out]; simp
              clear HTK HQF hp
              go_wp2_with fail
              go_roundw
              case rel => exact ⟨k + 1, q, by omega, by go_num, hown1, HT2.out, HQO.out, hbw1, by omega⟩
              case measure => simp [intOf]; omega
            · clear hn
              rw [hp, if_neg (by simp)] at HTK
              have HT2 : Hid (q.map (·.1) = (l.take (k + 1)).filter P) := by show _ = _; rw [HTK.out, HQF.out]; simp
              clear HTK HQF hp
              go_wp2_with fail
              go_roundw
              case rel => exact ⟨k + 1, q, by omega, by go_num, hown1, HT2.out, HQO.out, hbw1, by omega⟩
              case measure => simp [intOf]; omega
          · by_cases hny : n < y.length
            · have hnx : n < f.args.length := by rw [HCX.out rfl]; exact hny
              obtain ⟨bx, ox, rfl, p1⟩ := ints_at (intsV_at HIV.out) n hnx
              obtain ⟨by2, oy, rfl, p2⟩ := ints_at HB.out.1 n hny
              have b0 := cell_below hbw1 HP0.out.1
              have b1 := cell_below hbw1 HP0.out.2
              have b2 := cell_below hbw1 p1
              have b3 := cell_below hbw1 p2
              have hbd : Below wo.heap.size wo w5.drew := ⟨hb5.os, hb5.tape, hb5.output, hb5.size, hb5.block⟩
              have hn1 : n + 1 ≤ y.length := hny
              by_cases hnz : n < z.length
              · obtain ⟨bz, oz, rfl, p3⟩ := bools_at HB.out.2 n hnz
                have b4 := cell_below hbw1 p3
                have HD := agree_drop f.args y z n hnx hny hnz
                have HE : Hid (((!Rl.boolD z n || Sc.intD f.args n == Sc.intD y n) && Rl.agree (f.args.drop (n + 1)) (y.drop (n + 1)) (z.drop (n + 1))) = P f) := by
                  have h9 := HC.out
                  rw [Bool.true_and, HD] at h9
                  exact h9
                have hzd : decide (z.length ≤ n) = false := by simp; omega
                clear HD p1 p2 p3 HC
                generalize Sc.intD f.args n = a at *
                generalize Sc.intD y n = b' at *
                generalize Rl.boolD z n = c at *
                cases c
                · go_upto_region 9 with fail
                  go_region
                  go_wp2_with fail
                  go_roundw
                  case rel => exact ⟨true, n + 1, hn1, rfl, by go_num, HE.out, HCX.out, hbd⟩
                  case measure => simp [intOf]; omega
                · go_upto_region 9 with fail
                  go_region
                  go_wp2_with fail
                  go_roundw
                  case rel => exact ⟨a == b', n + 1, hn1, rfl, by go_num, HE.out, fun _ => HCX.out rfl, hbd⟩
                  case measure => simp [intOf]; omega
              · have HE : Hid (Rl.agree (f.args.drop (n + 1)) (y.drop (n + 1)) (z.drop (n + 1)) = P f) := by
                  have h9 := HC.out
                  rw [Bool.true_and, show z.drop n = [] from List.drop_of_length_le (by omega), agree_nil] at h9
                  show _ = _
                  rw [show z.drop (n + 1) = [] from List.drop_of_length_le (by omega), agree_nil]
                  exact h9
                have hzd : decide (z.length ≤ n) = true := by simp; omega
                clear p1 p2 HC
                go_upto_region 9 with fail
                go_region
                go_wp2_with fail
                go_roundw
                case rel => exact ⟨true, n + 1, hn1, rfl, by go_num, by rw [Bool.true_and]; exact HE.out, HCX.out, hbd⟩
                case measure => simp [intOf]; omega
            · have hp : P f = true := by
                have h9 := HC.out
                rw [Bool.true_and, show f.args.drop n = [] from List.drop_of_length_le (by rw [HCX.out rfl]; omega)] at h9
                rw [← h9]
                rfl
              have hown1 := ownsRow_below hown hb5
              have hny2 : n = y.length := by omega
              subst hny2
              clear hown hb hb5 HC HCX
              rw [hp, if_pos rfl] at HTK
              have HT2 : Hid ((q ++ [(f, Value.slice af f.args.length cf)]).map (·.1) = (l.take (k + 1)).filter P) := by show _ = _; rw [HTK.out, ← HQF.out]; simp
              have HO2 : Hid (∀ p, p ∈ q ++ [(f, Value.slice af f.args.length cf)] → FvOk w p) := by
                intro p hp
                rcases List.mem_append.mp hp with hp | hp
                · exact HQO.out p hp
                · obtain rfl : p = (f, Value.slice af f.args.length cf) := by simpa using hp
                  exact ⟨HIV.out, HFF.out⟩
              clear HTK HQF HQO hp
              have b0 := cell_below hbw1 HP0.out.1
              have b1 := cell_below hbw1 HP0.out.2
              have hbsz := hbw1.size
              go_wp2_with (at_builtin; refine wpList_append_own _ rfl _ _ 47 rfl w.heap.size 49 i0 _ 2 32 Try.underlying47 hi hz0 hz1 hz2 rfl (by decide) _ _ _ rfl (hown1.alloc _) ⟨w5.heap.size, 0, none⟩ 1 1 (fcCells (f, .slice af f.args.length cf)) rfl rfl ?c1 ?c2 ?c3 ?c4 ?c5 ?_)
              case c1 => exact news2 w5 _ _ 49
              case c2 => intro u hu; simp [fcCells] at hu; rcases hu with rfl | rfl <;> rfl
              case c3 => unfold maxLen; omega
              case c4 => omega
              case c5 => simp; omega
              intro vs2 w4 hown4 hgrow4 _
              obtain ⟨ao9, cap9, rfl⟩ := own_slice hown4
              have hb5 : Below w.heap.size w w4 := (hbw1.alloc hbw1.size _).grown hgrow4 (by simp; omega) (fun k hk => (hown1.lt k hk).1)
              have hown5 : w4.ownsRow w.heap.size 49 2 (.slice ao9 (q.length + 1) cap9) (q ++ [(f, Value.slice af f.args.length cf)]).length ((q ++ [(f, Value.slice af f.args.length cf)]).map fcCells).flatten := by
                rw [List.length_append, List.map_append, List.flatten_append]
                simpa using hown4
              clear hown4 hgrow4 hown1 hbw1 b0 b1
              go_wp2_with fail
              go_roundw
              case rel => exact ⟨k + 1, _, by omega, by go_num, hown5, HT2.out, HO2.out, hb5, by rw [List.length_append]; simp; omega⟩
              case measure => simp [intOf]; omega
    · have HQF2 : Hid (q.map (·.1) = l.filter P) := by show _ = _; rw [HQF.out, List.take_of_length_le (by omega)]
      have HFV : Hid (FactsV wo (.slice aos q.length caps) (l.filter P) ∧ (l.filter P).length ≤ 2097152 ∧ ∀ f, f ∈ l.filter P → FFit f) := by
        refine ⟨?_, by have := List.length_filter_le P l; omega, fun f hf => HF.out f (List.mem_filter.mp hf).1⟩
        rw [← HQF2.out]
        exact own_factsV hown HQO.out hb
      have HM : Hid (Rl.set (l.filter P) = Rl.matchL l pp y z) := by show _ = _; rw [HPE.out]; rfl
      clear HQF HQF2 hown HQO
      go_wp2_with fail
      refine Calls.mono (SetOf_any (l.filter P) _ _ HFV.out.1 HFV.out.2.1 HFV.out.2.2) ?_
      rintro e w3 ⟨v3, rfl, hS, hb3⟩
      obtain ⟨q3, _, hown3, _⟩ := id hS
      obtain ⟨a3, c3, rfl⟩ := own_slice hown3
      have HS : Hid (FactsV w3 (.slice a3 q3.length c3) (Rl.matchL l pp y z)) := by rw [← HM.out]; exact hS.toV hb3
      have hb4 := hb.trans (hb3.mono hb.size)
      clear hown3 hS hb3 HFV HM
      go_wp2_with fail
      go_ret
      exact ⟨_, rfl, HS.out, hb4⟩

end Go.Proofs.Ytgpaleifhcdjnaa

/- The law RelationTells, walked. -/
namespace Go.Proofs.Ytgpaleifhcdjnaa
open Go.RowKit

theorem union_length (l m : List Rl.Fc) : (Rl.union l m).length ≤ l.length + m.length := by
  have := set_length (l ++ m)
  rw [List.length_append] at this
  exact this
theorem minus_length (l m : List Rl.Fc) : (Rl.minus l m).length ≤ l.length := Nat.le_trans (set_length _) (List.length_filter_le _ _)
theorem match_length (l : List Rl.Fc) (p : Int) (y : List Int) (z : List Bool) : (Rl.matchL l p y z).length ≤ l.length := Nat.le_trans (set_length _) (List.length_filter_le _ _)
theorem mem_union {l m : List Rl.Fc} {x : Rl.Fc} : x ∈ Rl.union l m ↔ x ∈ l ∨ x ∈ m := by unfold Rl.union; rw [Rl.mem_set, List.mem_append]
theorem mem_minus {l m : List Rl.Fc} {x : Rl.Fc} : x ∈ Rl.minus l m ↔ x ∈ l ∧ x ∉ m := by
  unfold Rl.minus
  rw [Rl.mem_set, List.mem_filter]
  refine and_congr_right fun _ => ?_
  rw [← Rl.has_iff]
  simp
theorem mem_match {l : List Rl.Fc} {p : Int} {y : List Int} {z : List Bool} {x : Rl.Fc} (h : x ∈ Rl.matchL l p y z) : x ∈ l := by
  unfold Rl.matchL at h
  rw [Rl.mem_set, List.mem_filter] at h
  exact h.1

/-- What came in, and how much of it. -/
structure TellsIn (w : World) (VL VM Sf VY VZ : Value) (l m : List Rl.Fc) (f : Rl.Fc) (pp : Int) (y0 : List Int) (z0 : List Bool) : Prop where
  hL : FactsV w VL l
  hM : FactsV w VM m
  hF : IntsV w Sf f.args
  hY : IntsV w VY y0
  hZ : BoolsV w VZ z0
  ll : l.length ≤ 1048576
  lm : m.length ≤ 1048576
  ly : y0.length ≤ 1048576
  lz : z0.length ≤ 1048576
  fl : ∀ f, f ∈ l → f.args.length ≤ 1048576
  fm : ∀ f, f ∈ m → f.args.length ≤ 1048576
  lf : f.args.length ≤ 1048576
namespace TellsIn
variable {w : World} {VL VM Sf VY VZ : Value} {l m : List Rl.Fc} {f : Rl.Fc} {pp : Int} {y0 : List Int} {z0 : List Bool}
theorem ff (h : TellsIn w VL VM Sf VY VZ l m f pp y0 z0) : FFit f := Nat.le_trans h.lf (by decide)
theorem fy (h : TellsIn w VL VM Sf VY VZ l m f pp y0 z0) : FFit ⟨pp, y0⟩ := Nat.le_trans h.ly (by decide)
theorem gl (h : TellsIn w VL VM Sf VY VZ l m f pp y0 z0) : ∀ f, f ∈ l → FFit f := fun f hf => Nat.le_trans (h.fl f hf) (by decide)
theorem gm (h : TellsIn w VL VM Sf VY VZ l m f pp y0 z0) : ∀ f, f ∈ m → FFit f := fun f hf => Nat.le_trans (h.fm f hf) (by decide)
theorem s1 (h : TellsIn w VL VM Sf VY VZ l m f pp y0 z0) : (Rl.set l).length ≤ 9223372036854775807 := by have := set_length l; have := h.ll; omega
theorem s2 (h : TellsIn w VL VM Sf VY VZ l m f pp y0 z0) : (Rl.union l m).length ≤ 9223372036854775807 := by have := union_length l m; have := h.ll; have := h.lm; omega
theorem s3 (h : TellsIn w VL VM Sf VY VZ l m f pp y0 z0) : (Rl.minus l m).length ≤ 9223372036854775807 := by have := minus_length l m; have := h.ll; omega
theorem s4 (h : TellsIn w VL VM Sf VY VZ l m f pp y0 z0) : (Rl.matchL l pp y0 z0).length ≤ 9223372036854775807 := by have := match_length l pp y0 z0; have := h.ll; omega
theorem g1 (h : TellsIn w VL VM Sf VY VZ l m f pp y0 z0) : ∀ f, f ∈ Rl.set l → FFit f := fun f hf => h.gl f (Rl.mem_set.mp hf)
theorem g2 (h : TellsIn w VL VM Sf VY VZ l m f pp y0 z0) : ∀ f, f ∈ Rl.union l m → FFit f := fun f hf => (mem_union.mp hf).elim (h.gl f) (h.gm f)
theorem g3 (h : TellsIn w VL VM Sf VY VZ l m f pp y0 z0) : ∀ f, f ∈ Rl.minus l m → FFit f := fun f hf => h.gl f (mem_minus.mp hf).1
theorem g4 (h : TellsIn w VL VM Sf VY VZ l m f pp y0 z0) : ∀ f, f ∈ Rl.matchL l pp y0 z0 → FFit f := fun f hf => h.gl f (mem_match hf)
theorem go {w' : World} (h : TellsIn w VL VM Sf VY VZ l m f pp y0 z0) (hb : Below w.heap.size w w') : TellsIn w' VL VM Sf VY VZ l m f pp y0 z0 :=
  ⟨factsV_below h.hL hb, factsV_below h.hM hb, intsV_below h.hF hb, intsV_below h.hY hb, boolsV_below h.hZ hb, h.ll, h.lm, h.ly, h.lz, h.fl, h.fm, h.lf⟩
end TellsIn

/-- What the temporaries hold. -/
def tellsKd (VL VM Sf VY VZ : Value) (l m : List Rl.Fc) (f : Rl.Fc) (pp : Int) (y0 : List Int) (z0 : List Bool) : Nat → Kd
  | 19 => .val (fcVal f.pred Sf)
  | 20 => .val (fcVal pp VY)
  | 21 => .val (Value.int .i64 (Rl.ord f ⟨pp, y0⟩))
  | 22 => .val (fcVal f.pred Sf)
  | 23 => .val (fcVal pp VY)
  | 24 => .val (Value.int .i64 (Rl.ord f ⟨pp, y0⟩))
  | 28 => .val VL
  | 29 => .facts (Rl.set l)
  | 30 => .val VL
  | 31 => .facts (Rl.set l)
  | 35 => .val VL
  | 36 => .val (fcVal f.pred Sf)
  | 37 => .val (Value.bool (Rl.has l f))
  | 38 => .val VL
  | 39 => .val (fcVal f.pred Sf)
  | 40 => .val (Value.bool (Rl.has l f))
  | 44 => .val VL
  | 45 => .val VM
  | 46 => .facts (Rl.union l m)
  | 47 => .val VL
  | 48 => .val VM
  | 49 => .facts (Rl.union l m)
  | 53 => .val VL
  | 54 => .val VM
  | 55 => .facts (Rl.minus l m)
  | 56 => .val VL
  | 57 => .val VM
  | 58 => .facts (Rl.minus l m)
  | 62 => .val VL
  | 63 => .val (Value.int .i64 pp)
  | 64 => .val VY
  | 65 => .val VZ
  | 66 => .facts (Rl.matchL l pp y0 z0)
  | 67 => .val VL
  | 68 => .val (Value.int .i64 pp)
  | 69 => .val VY
  | 70 => .val VZ
  | 71 => .facts (Rl.matchL l pp y0 z0)
  | _ => .val (.bool true)

set_option maxRecDepth 100000 in
set_option maxHeartbeats 4000000 in
theorem relationTells_walk (VL VM Sf VY VZ : Value) (l m : List Rl.Fc) (f : Rl.Fc) (pp : Int) (y0 : List Int) (z0 : List Bool) (w : World) (H : TellsIn w VL VM Sf VY VZ l m f pp y0 z0) :
    Calls Try.prog 5 #[VL, VM, fcVal f.pred Sf, .int .i64 pp, VY, VZ] w fun e w' => e = .returned (.bool true) ∧ Below w.heap.size w w' := by
  obtain ⟨ya, yc, hVY, _⟩ := H.hY
  obtain ⟨sa, sc, hSf, _⟩ := H.hF
  subst hVY hSf
  have hb1 := new_below w (.cells #[.int .i64 f.pred, .slice sa f.args.length sc] 49)
  have hb2 := new_below (w.alloc (.cells #[.int .i64 f.pred, .slice sa f.args.length sc] 49)) (.cells #[.int .i64 pp, .slice ya y0.length yc] 49)
  have d0 : ((w.alloc (.cells #[.int .i64 f.pred, .slice sa f.args.length sc] 49)).alloc (.cells #[.int .i64 pp, .slice ya y0.length yc] 49)).cell? ⟨w.heap.size, 0, none⟩ = some (.int .i64 f.pred) := cell_below hb2 (by rw [Lib.cell_of_heap (rl_new w _)]; rfl)
  have d1 : ((w.alloc (.cells #[.int .i64 f.pred, .slice sa f.args.length sc] 49)).alloc (.cells #[.int .i64 pp, .slice ya y0.length yc] 49)).cell? ⟨w.heap.size, 1, none⟩ = some (.slice sa f.args.length sc) := cell_below hb2 (by rw [Lib.cell_of_heap (rl_new w _)]; rfl)
  have hs1 : (w.alloc (.cells #[.int .i64 f.pred, .slice sa f.args.length sc] 49)).heap.size = w.heap.size + 1 := by show (w.heap.push _).size = _; simp
  have d2 : ((w.alloc (.cells #[.int .i64 f.pred, .slice sa f.args.length sc] 49)).alloc (.cells #[.int .i64 pp, .slice ya y0.length yc] 49)).cell? ⟨w.heap.size + 1, 0, none⟩ = some (.int .i64 pp) := by rw [← hs1, Lib.cell_of_heap (rl_new _ _)]; rfl
  have d3 : ((w.alloc (.cells #[.int .i64 f.pred, .slice sa f.args.length sc] 49)).alloc (.cells #[.int .i64 pp, .slice ya y0.length yc] 49)).cell? ⟨w.heap.size + 1, 1, none⟩ = some (.slice ya y0.length yc) := by rw [← hs1, Lib.cell_of_heap (rl_new _ _)]; rfl
  have HV0 : Hid (TellsIn ((w.alloc (.cells #[.int .i64 f.pred, .slice sa f.args.length sc] 49)).alloc (.cells #[.int .i64 pp, .slice ya y0.length yc] 49)) VL VM (.slice sa f.args.length sc) (.slice ya y0.length yc) VZ l m f pp y0 z0) := (H.go hb1).go hb2
  have HB : Hid (Below w.heap.size w ((w.alloc (.cells #[.int .i64 f.pred, .slice sa f.args.length sc] 49)).alloc (.cells #[.int .i64 pp, .slice ya y0.length yc] 49))) := hb1.trans (hb2.mono hb1.size)
  obtain ⟨D, hD⟩ : ∃ D : Prop, D = (((w.alloc (.cells #[.int .i64 f.pred, .slice sa f.args.length sc] 49)).alloc (.cells #[.int .i64 pp, .slice ya y0.length yc] 49)).cell? ⟨w.heap.size, 0, none⟩ = some (.int .i64 f.pred) ∧ ((w.alloc (.cells #[.int .i64 f.pred, .slice sa f.args.length sc] 49)).alloc (.cells #[.int .i64 pp, .slice ya y0.length yc] 49)).cell? ⟨w.heap.size, 1, none⟩ = some (.slice sa f.args.length sc) ∧ ((w.alloc (.cells #[.int .i64 f.pred, .slice sa f.args.length sc] 49)).alloc (.cells #[.int .i64 pp, .slice ya y0.length yc] 49)).cell? ⟨w.heap.size + 1, 0, none⟩ = some (.int .i64 pp) ∧ ((w.alloc (.cells #[.int .i64 f.pred, .slice sa f.args.length sc] 49)).alloc (.cells #[.int .i64 pp, .slice ya y0.length yc] 49)).cell? ⟨w.heap.size + 1, 1, none⟩ = some (.slice ya y0.length yc)) := ⟨_, rfl⟩
  have HD : Hid D := by show D; rw [hD]; exact ⟨d0, d1, d2, d3⟩
  clear d0 d1 d2 d3 hb1 hb2 hs1 H
  go_enter Try.func5, Try.ntmps5
  go_upto_region 2 with fail
  rw [hD] at HD
  clear hD
  obtain ⟨d0, d1, d2, d3⟩ := HD.out
  have HV := HV0.out
  clear HV0 HD
  generalize ((w.alloc (.cells #[.int .i64 f.pred, .slice sa f.args.length sc] 49)).alloc (.cells #[.int .i64 pp, .slice ya y0.length yc] 49)) = w3 at *
  generalize Value.slice sa f.args.length sc = Sf at *
  generalize Value.slice ya y0.length yc = VY at *
  obtain ⟨k, hk⟩ : ∃ k, k = w.heap.size := ⟨_, rfl⟩
  rw [← hk] at d0 d1 d2 d3
  refine wp_region_tabA (fun t v y => (tellsKd VL VM Sf VY VZ l m f pp y0 z0 t).ok v y) (by kernel_rfl) (by kernel_rfl) (fun t v y y' hb h => Kd.mono _ v y y' hb h) ?hop ?hend
  case hend =>
    intro a y hb hd hs hst hT
    have h0 : a.tmps.getD 12 undef = .bool true := ends_at (t := 12) hT (by kernel_rfl)
    simp only [Exit.then]
    refine (by assumption : ∀ (a : Act) (w : World), Code.wp Try.prog Code.ret _ a w → _) _ _ ?_
    refine wp_ret ?_
    rw [Array.getD_eq_getD_getElem?] at h0
    refine bodyPost_ret (v := .bool true) (by simp [results, Try.results5, go_sem, h0]) (by rw [hd]) ⟨rfl, HB.out.trans (hb.mono HB.out.size)⟩
  clear HB
  subst hk
  refine AllOps.cons (fun a y h => ?_) ?_
  · refine opOk_call (f := 19) (args := #[]) (wanted_none rfl) ?_ ?_
    · have ec : ∀ v, a.eval (.const v) = v := fun _ => rfl
      have ef : ∀ f, a.eval (.func f) = .func (.func f) #[] #[] := fun _ => rfl
      generalize a.eval = ev at *
      clear h
      go_simp
    · refine (relationBegun_any y).mono ?_
      rintro e y2 ⟨rfl, hg⟩
      exact ⟨_, rfl, fun t ht => by cases ht; exact rfl, hg⟩
  refine AllOps.cons (fun a y h => ?_) ?_
  · have e17 : a.eval (.tmp 17) = (Value.bool true) := h.of 17 (by kernel_rfl)
    refine opOk_val (v := (Value.bool true)) (w' := y) (wanted_none rfl) ?_ (fun t ht => by cases ht; exact rfl) (Below.refl _ _)
    have ec : ∀ v, a.eval (.const v) = v := fun _ => rfl
    generalize a.eval = ev at *
    clear h
    go_simp
  refine AllOps.cons (fun a y h => ?_) ?_
  · have e8 : a.eval (.tmp 8) = (Value.pointer (some ⟨w.heap.size, 0, none⟩)) := h.old 8 (by kernel_rfl)
    have c0 := cell_below h.below d0
    have c1 := cell_below h.below d1
    refine opOk_val (v := (fcVal f.pred Sf)) (w' := y) (wanted_some (j := 1) (t := 18) (b := true) rfl rfl rfl (h.of 18 (by kernel_rfl))) ?_ (fun t ht => by cases ht; exact rfl) (Below.refl _ _)
    have ec : ∀ v, a.eval (.const v) = v := fun _ => rfl
    generalize a.eval = ev at *
    clear h
    go_simp
  refine AllOps.cons (fun a y h => ?_) ?_
  · have e13 : a.eval (.tmp 13) = (Value.pointer (some ⟨w.heap.size + 1, 0, none⟩)) := h.old 13 (by kernel_rfl)
    have c0 := cell_below h.below d2
    have c1 := cell_below h.below d3
    refine opOk_val (v := (fcVal pp VY)) (w' := y) (wanted_some (j := 1) (t := 18) (b := true) rfl rfl rfl (h.of 18 (by kernel_rfl))) ?_ (fun t ht => by cases ht; exact rfl) (Below.refl _ _)
    have ec : ∀ v, a.eval (.const v) = v := fun _ => rfl
    generalize a.eval = ev at *
    clear h
    go_simp
  refine AllOps.cons (fun a y h => ?_) ?_
  · have e19 : a.eval (.tmp 19) = (fcVal f.pred Sf) := h.of 19 (by kernel_rfl)
    have e20 : a.eval (.tmp 20) = (fcVal pp VY) := h.of 20 (by kernel_rfl)
    refine opOk_call (f := 20) (args := #[(fcVal f.pred Sf), (fcVal pp VY)]) (wanted_some (j := 1) (t := 18) (b := true) rfl rfl rfl (h.of 18 (by kernel_rfl))) ?_ ?_
    · have ec : ∀ v, a.eval (.const v) = v := fun _ => rfl
      have ef : ∀ f, a.eval (.func f) = .func (.func f) #[] #[] := fun _ => rfl
      generalize a.eval = ev at *
      clear h
      go_simp
    · refine (Order_any f ⟨pp, y0⟩ _ _ y (intsV_below HV.hF h.below) (intsV_below HV.hY h.below) HV.ff HV.fy).mono ?_
      rintro e y2 ⟨rfl, hg⟩
      exact ⟨_, rfl, fun t ht => by cases ht; exact rfl, hg.below⟩
  refine AllOps.cons (fun a y h => ?_) ?_
  · have e8 : a.eval (.tmp 8) = (Value.pointer (some ⟨w.heap.size, 0, none⟩)) := h.old 8 (by kernel_rfl)
    have c0 := cell_below h.below d0
    have c1 := cell_below h.below d1
    refine opOk_val (v := (fcVal f.pred Sf)) (w' := y) (wanted_some (j := 1) (t := 18) (b := true) rfl rfl rfl (h.of 18 (by kernel_rfl))) ?_ (fun t ht => by cases ht; exact rfl) (Below.refl _ _)
    have ec : ∀ v, a.eval (.const v) = v := fun _ => rfl
    generalize a.eval = ev at *
    clear h
    go_simp
  refine AllOps.cons (fun a y h => ?_) ?_
  · have e13 : a.eval (.tmp 13) = (Value.pointer (some ⟨w.heap.size + 1, 0, none⟩)) := h.old 13 (by kernel_rfl)
    have c0 := cell_below h.below d2
    have c1 := cell_below h.below d3
    refine opOk_val (v := (fcVal pp VY)) (w' := y) (wanted_some (j := 1) (t := 18) (b := true) rfl rfl rfl (h.of 18 (by kernel_rfl))) ?_ (fun t ht => by cases ht; exact rfl) (Below.refl _ _)
    have ec : ∀ v, a.eval (.const v) = v := fun _ => rfl
    generalize a.eval = ev at *
    clear h
    go_simp
  refine AllOps.cons (fun a y h => ?_) ?_
  · have e22 : a.eval (.tmp 22) = (fcVal f.pred Sf) := h.of 22 (by kernel_rfl)
    have e23 : a.eval (.tmp 23) = (fcVal pp VY) := h.of 23 (by kernel_rfl)
    refine opOk_call (f := 21) (args := #[(fcVal f.pred Sf), (fcVal pp VY)]) (wanted_some (j := 1) (t := 18) (b := true) rfl rfl rfl (h.of 18 (by kernel_rfl))) ?_ ?_
    · have ec : ∀ v, a.eval (.const v) = v := fun _ => rfl
      have ef : ∀ f, a.eval (.func f) = .func (.func f) #[] #[] := fun _ => rfl
      generalize a.eval = ev at *
      clear h
      go_simp
    · refine (OrderOf_any f ⟨pp, y0⟩ _ _ y (intsV_below HV.hF h.below) (intsV_below HV.hY h.below) HV.ff HV.fy).mono ?_
      rintro e y2 ⟨rfl, hg⟩
      exact ⟨_, rfl, fun t ht => by cases ht; exact rfl, hg⟩
  refine AllOps.cons (fun a y h => ?_) ?_
  · have e21 : a.eval (.tmp 21) = (Value.int .i64 (Rl.ord f ⟨pp, y0⟩)) := h.of 21 (by kernel_rfl)
    have e24 : a.eval (.tmp 24) = (Value.int .i64 (Rl.ord f ⟨pp, y0⟩)) := h.of 24 (by kernel_rfl)
    refine opOk_val (v := (Value.bool true)) (w' := y) (wanted_some (j := 1) (t := 18) (b := true) rfl rfl rfl (h.of 18 (by kernel_rfl))) ?_ (fun t ht => by cases ht; exact rfl) (Below.refl _ _)
    have ec : ∀ v, a.eval (.const v) = v := fun _ => rfl
    generalize a.eval = ev at *
    clear h
    go_simp
  refine AllOps.cons (fun a y h => ?_) ?_
  · have e18 : a.eval (.tmp 18) = (Value.bool true) := h.of 18 (by kernel_rfl)
    have e25 : a.eval (.tmp 25) = (Value.bool true) := h.of 25 (by kernel_rfl)
    refine opOk_val (v := (Value.bool true)) (w' := y) (wanted_none rfl) ?_ (fun t ht => by cases ht; exact rfl) (Below.refl _ _)
    have ec : ∀ v, a.eval (.const v) = v := fun _ => rfl
    generalize a.eval = ev at *
    clear h
    go_simp
  refine AllOps.cons (fun a y h => ?_) ?_
  · have e26 : a.eval (.tmp 26) = (Value.bool true) := h.of 26 (by kernel_rfl)
    refine opOk_val (v := (Value.bool true)) (w' := y) (wanted_none rfl) ?_ (fun t ht => by cases ht; exact rfl) (Below.refl _ _)
    have ec : ∀ v, a.eval (.const v) = v := fun _ => rfl
    generalize a.eval = ev at *
    clear h
    go_simp
  refine AllOps.cons (fun a y h => ?_) ?_
  · have e0 : a.eval (.tmp 0) = VL := h.old 0 (by kernel_rfl)
    refine opOk_val (v := VL) (w' := y) (wanted_some (j := 10) (t := 27) (b := true) rfl rfl rfl (h.of 27 (by kernel_rfl))) ?_ (fun t ht => by cases ht; exact rfl) (Below.refl _ _)
    have ec : ∀ v, a.eval (.const v) = v := fun _ => rfl
    generalize a.eval = ev at *
    clear h
    go_simp
  refine AllOps.cons (fun a y h => ?_) ?_
  · have e28 : a.eval (.tmp 28) = VL := h.of 28 (by kernel_rfl)
    refine opOk_call (f := 23) (args := #[VL]) (wanted_some (j := 10) (t := 27) (b := true) rfl rfl rfl (h.of 27 (by kernel_rfl))) ?_ ?_
    · have ec : ∀ v, a.eval (.const v) = v := fun _ => rfl
      have ef : ∀ f, a.eval (.func f) = .func (.func f) #[] #[] := fun _ => rfl
      generalize a.eval = ev at *
      clear h
      go_simp
    · refine (Set_any l VL y (factsV_below HV.hL h.below) (Nat.le_trans HV.ll (by decide)) HV.fl).mono ?_
      rintro e y2 ⟨v, rfl, hv, hg⟩
      exact ⟨v, rfl, fun t ht => by cases ht; exact hv.toV, hg⟩
  refine AllOps.cons (fun a y h => ?_) ?_
  · have e0 : a.eval (.tmp 0) = VL := h.old 0 (by kernel_rfl)
    refine opOk_val (v := VL) (w' := y) (wanted_some (j := 10) (t := 27) (b := true) rfl rfl rfl (h.of 27 (by kernel_rfl))) ?_ (fun t ht => by cases ht; exact rfl) (Below.refl _ _)
    have ec : ∀ v, a.eval (.const v) = v := fun _ => rfl
    generalize a.eval = ev at *
    clear h
    go_simp
  refine AllOps.cons (fun a y h => ?_) ?_
  · have e30 : a.eval (.tmp 30) = VL := h.of 30 (by kernel_rfl)
    refine opOk_call (f := 24) (args := #[VL]) (wanted_some (j := 10) (t := 27) (b := true) rfl rfl rfl (h.of 27 (by kernel_rfl))) ?_ ?_
    · have ec : ∀ v, a.eval (.const v) = v := fun _ => rfl
      have ef : ∀ f, a.eval (.func f) = .func (.func f) #[] #[] := fun _ => rfl
      generalize a.eval = ev at *
      clear h
      go_simp
    · refine (SetOf_any l VL y (factsV_below HV.hL h.below) (Nat.le_trans HV.ll (by decide)) HV.gl).mono ?_
      rintro e y2 ⟨v, rfl, hv, hg⟩
      exact ⟨v, rfl, fun t ht => by cases ht; exact hv.toV hg, hg⟩
  refine AllOps.cons (fun a y h => ?_) ?_
  · have t29 : FactsV y (a.eval (.tmp 29)) (Rl.set l) := h.of 29 (by kernel_rfl)
    obtain ⟨u29, e29⟩ : ∃ u, a.eval (.tmp 29) = u := ⟨_, rfl⟩
    rw [e29] at t29
    have t31 : FactsV y (a.eval (.tmp 31)) (Rl.set l) := h.of 31 (by kernel_rfl)
    obtain ⟨u31, e31⟩ : ∃ u, a.eval (.tmp 31) = u := ⟨_, rfl⟩
    rw [e31] at t31
    refine opOk_call (f := 22) (args := #[u29, u31]) (wanted_some (j := 10) (t := 27) (b := true) rfl rfl rfl (h.of 27 (by kernel_rfl))) ?_ ?_
    · have ec : ∀ v, a.eval (.const v) = v := fun _ => rfl
      have ef : ∀ f, a.eval (.func f) = .func (.func f) #[] #[] := fun _ => rfl
      generalize a.eval = ev at *
      clear h
      go_simp
    · refine (SameFacts_refl (Rl.set l) _ _ y t29 t31 HV.s1 HV.g1).mono ?_
      rintro e y2 ⟨rfl, hg⟩
      exact ⟨_, rfl, fun t ht => by cases ht; exact rfl, hg⟩
  refine AllOps.cons (fun a y h => ?_) ?_
  · have e27 : a.eval (.tmp 27) = (Value.bool true) := h.of 27 (by kernel_rfl)
    have e32 : a.eval (.tmp 32) = (Value.bool true) := h.of 32 (by kernel_rfl)
    refine opOk_val (v := (Value.bool true)) (w' := y) (wanted_none rfl) ?_ (fun t ht => by cases ht; exact rfl) (Below.refl _ _)
    have ec : ∀ v, a.eval (.const v) = v := fun _ => rfl
    generalize a.eval = ev at *
    clear h
    go_simp
  refine AllOps.cons (fun a y h => ?_) ?_
  · have e33 : a.eval (.tmp 33) = (Value.bool true) := h.of 33 (by kernel_rfl)
    refine opOk_val (v := (Value.bool true)) (w' := y) (wanted_none rfl) ?_ (fun t ht => by cases ht; exact rfl) (Below.refl _ _)
    have ec : ∀ v, a.eval (.const v) = v := fun _ => rfl
    generalize a.eval = ev at *
    clear h
    go_simp
  refine AllOps.cons (fun a y h => ?_) ?_
  · have e0 : a.eval (.tmp 0) = VL := h.old 0 (by kernel_rfl)
    refine opOk_val (v := VL) (w' := y) (wanted_some (j := 17) (t := 34) (b := true) rfl rfl rfl (h.of 34 (by kernel_rfl))) ?_ (fun t ht => by cases ht; exact rfl) (Below.refl _ _)
    have ec : ∀ v, a.eval (.const v) = v := fun _ => rfl
    generalize a.eval = ev at *
    clear h
    go_simp
  refine AllOps.cons (fun a y h => ?_) ?_
  · have e8 : a.eval (.tmp 8) = (Value.pointer (some ⟨w.heap.size, 0, none⟩)) := h.old 8 (by kernel_rfl)
    have c0 := cell_below h.below d0
    have c1 := cell_below h.below d1
    refine opOk_val (v := (fcVal f.pred Sf)) (w' := y) (wanted_some (j := 17) (t := 34) (b := true) rfl rfl rfl (h.of 34 (by kernel_rfl))) ?_ (fun t ht => by cases ht; exact rfl) (Below.refl _ _)
    have ec : ∀ v, a.eval (.const v) = v := fun _ => rfl
    generalize a.eval = ev at *
    clear h
    go_simp
  refine AllOps.cons (fun a y h => ?_) ?_
  · have e35 : a.eval (.tmp 35) = VL := h.of 35 (by kernel_rfl)
    have e36 : a.eval (.tmp 36) = (fcVal f.pred Sf) := h.of 36 (by kernel_rfl)
    refine opOk_call (f := 25) (args := #[VL, (fcVal f.pred Sf)]) (wanted_some (j := 17) (t := 34) (b := true) rfl rfl rfl (h.of 34 (by kernel_rfl))) ?_ ?_
    · have ec : ∀ v, a.eval (.const v) = v := fun _ => rfl
      have ef : ∀ f, a.eval (.func f) = .func (.func f) #[] #[] := fun _ => rfl
      generalize a.eval = ev at *
      clear h
      go_simp
    · refine (Has_any l f VL _ y (factsV_below HV.hL h.below) (intsV_below HV.hF h.below) (Nat.le_trans HV.ll (by decide)) HV.gl HV.ff).mono ?_
      rintro e y2 ⟨rfl, hg⟩
      exact ⟨_, rfl, fun t ht => by cases ht; exact rfl, hg⟩
  refine AllOps.cons (fun a y h => ?_) ?_
  · have e0 : a.eval (.tmp 0) = VL := h.old 0 (by kernel_rfl)
    refine opOk_val (v := VL) (w' := y) (wanted_some (j := 17) (t := 34) (b := true) rfl rfl rfl (h.of 34 (by kernel_rfl))) ?_ (fun t ht => by cases ht; exact rfl) (Below.refl _ _)
    have ec : ∀ v, a.eval (.const v) = v := fun _ => rfl
    generalize a.eval = ev at *
    clear h
    go_simp
  refine AllOps.cons (fun a y h => ?_) ?_
  · have e8 : a.eval (.tmp 8) = (Value.pointer (some ⟨w.heap.size, 0, none⟩)) := h.old 8 (by kernel_rfl)
    have c0 := cell_below h.below d0
    have c1 := cell_below h.below d1
    refine opOk_val (v := (fcVal f.pred Sf)) (w' := y) (wanted_some (j := 17) (t := 34) (b := true) rfl rfl rfl (h.of 34 (by kernel_rfl))) ?_ (fun t ht => by cases ht; exact rfl) (Below.refl _ _)
    have ec : ∀ v, a.eval (.const v) = v := fun _ => rfl
    generalize a.eval = ev at *
    clear h
    go_simp
  refine AllOps.cons (fun a y h => ?_) ?_
  · have e38 : a.eval (.tmp 38) = VL := h.of 38 (by kernel_rfl)
    have e39 : a.eval (.tmp 39) = (fcVal f.pred Sf) := h.of 39 (by kernel_rfl)
    refine opOk_call (f := 26) (args := #[VL, (fcVal f.pred Sf)]) (wanted_some (j := 17) (t := 34) (b := true) rfl rfl rfl (h.of 34 (by kernel_rfl))) ?_ ?_
    · have ec : ∀ v, a.eval (.const v) = v := fun _ => rfl
      have ef : ∀ f, a.eval (.func f) = .func (.func f) #[] #[] := fun _ => rfl
      generalize a.eval = ev at *
      clear h
      go_simp
    · refine (HasFact_any l f VL _ y (factsV_below HV.hL h.below) (intsV_below HV.hF h.below) (Nat.le_trans HV.ll (by decide)) HV.gl HV.ff).mono ?_
      rintro e y2 ⟨rfl, hg⟩
      exact ⟨_, rfl, fun t ht => by cases ht; exact rfl, hg⟩
  refine AllOps.cons (fun a y h => ?_) ?_
  · have e37 : a.eval (.tmp 37) = (Value.bool (Rl.has l f)) := h.of 37 (by kernel_rfl)
    have e40 : a.eval (.tmp 40) = (Value.bool (Rl.has l f)) := h.of 40 (by kernel_rfl)
    refine opOk_val (v := (Value.bool true)) (w' := y) (wanted_some (j := 17) (t := 34) (b := true) rfl rfl rfl (h.of 34 (by kernel_rfl))) ?_ (fun t ht => by cases ht; exact rfl) (Below.refl _ _)
    have ec : ∀ v, a.eval (.const v) = v := fun _ => rfl
    generalize a.eval = ev at *
    clear h
    go_simp
  refine AllOps.cons (fun a y h => ?_) ?_
  · have e34 : a.eval (.tmp 34) = (Value.bool true) := h.of 34 (by kernel_rfl)
    have e41 : a.eval (.tmp 41) = (Value.bool true) := h.of 41 (by kernel_rfl)
    refine opOk_val (v := (Value.bool true)) (w' := y) (wanted_none rfl) ?_ (fun t ht => by cases ht; exact rfl) (Below.refl _ _)
    have ec : ∀ v, a.eval (.const v) = v := fun _ => rfl
    generalize a.eval = ev at *
    clear h
    go_simp
  refine AllOps.cons (fun a y h => ?_) ?_
  · have e42 : a.eval (.tmp 42) = (Value.bool true) := h.of 42 (by kernel_rfl)
    refine opOk_val (v := (Value.bool true)) (w' := y) (wanted_none rfl) ?_ (fun t ht => by cases ht; exact rfl) (Below.refl _ _)
    have ec : ∀ v, a.eval (.const v) = v := fun _ => rfl
    generalize a.eval = ev at *
    clear h
    go_simp
  refine AllOps.cons (fun a y h => ?_) ?_
  · have e0 : a.eval (.tmp 0) = VL := h.old 0 (by kernel_rfl)
    refine opOk_val (v := VL) (w' := y) (wanted_some (j := 26) (t := 43) (b := true) rfl rfl rfl (h.of 43 (by kernel_rfl))) ?_ (fun t ht => by cases ht; exact rfl) (Below.refl _ _)
    have ec : ∀ v, a.eval (.const v) = v := fun _ => rfl
    generalize a.eval = ev at *
    clear h
    go_simp
  refine AllOps.cons (fun a y h => ?_) ?_
  · have e1 : a.eval (.tmp 1) = VM := h.old 1 (by kernel_rfl)
    refine opOk_val (v := VM) (w' := y) (wanted_some (j := 26) (t := 43) (b := true) rfl rfl rfl (h.of 43 (by kernel_rfl))) ?_ (fun t ht => by cases ht; exact rfl) (Below.refl _ _)
    have ec : ∀ v, a.eval (.const v) = v := fun _ => rfl
    generalize a.eval = ev at *
    clear h
    go_simp
  refine AllOps.cons (fun a y h => ?_) ?_
  · have e44 : a.eval (.tmp 44) = VL := h.of 44 (by kernel_rfl)
    have e45 : a.eval (.tmp 45) = VM := h.of 45 (by kernel_rfl)
    refine opOk_call (f := 27) (args := #[VL, VM]) (wanted_some (j := 26) (t := 43) (b := true) rfl rfl rfl (h.of 43 (by kernel_rfl))) ?_ ?_
    · have ec : ∀ v, a.eval (.const v) = v := fun _ => rfl
      have ef : ∀ f, a.eval (.func f) = .func (.func f) #[] #[] := fun _ => rfl
      generalize a.eval = ev at *
      clear h
      go_simp
    · refine (Union_any l m VL VM y (factsV_below HV.hL h.below) (factsV_below HV.hM h.below) HV.ll HV.lm HV.fl HV.fm).mono ?_
      rintro e y2 ⟨v, rfl, hv, hg⟩
      exact ⟨v, rfl, fun t ht => by cases ht; exact hv, hg⟩
  refine AllOps.cons (fun a y h => ?_) ?_
  · have e0 : a.eval (.tmp 0) = VL := h.old 0 (by kernel_rfl)
    refine opOk_val (v := VL) (w' := y) (wanted_some (j := 26) (t := 43) (b := true) rfl rfl rfl (h.of 43 (by kernel_rfl))) ?_ (fun t ht => by cases ht; exact rfl) (Below.refl _ _)
    have ec : ∀ v, a.eval (.const v) = v := fun _ => rfl
    generalize a.eval = ev at *
    clear h
    go_simp
  refine AllOps.cons (fun a y h => ?_) ?_
  · have e1 : a.eval (.tmp 1) = VM := h.old 1 (by kernel_rfl)
    refine opOk_val (v := VM) (w' := y) (wanted_some (j := 26) (t := 43) (b := true) rfl rfl rfl (h.of 43 (by kernel_rfl))) ?_ (fun t ht => by cases ht; exact rfl) (Below.refl _ _)
    have ec : ∀ v, a.eval (.const v) = v := fun _ => rfl
    generalize a.eval = ev at *
    clear h
    go_simp
  refine AllOps.cons (fun a y h => ?_) ?_
  · have e47 : a.eval (.tmp 47) = VL := h.of 47 (by kernel_rfl)
    have e48 : a.eval (.tmp 48) = VM := h.of 48 (by kernel_rfl)
    refine opOk_call (f := 28) (args := #[VL, VM]) (wanted_some (j := 26) (t := 43) (b := true) rfl rfl rfl (h.of 43 (by kernel_rfl))) ?_ ?_
    · have ec : ∀ v, a.eval (.const v) = v := fun _ => rfl
      have ef : ∀ f, a.eval (.func f) = .func (.func f) #[] #[] := fun _ => rfl
      generalize a.eval = ev at *
      clear h
      go_simp
    · refine (UnionOf_any l m VL VM y (factsV_below HV.hL h.below) (factsV_below HV.hM h.below) HV.ll HV.lm HV.gl HV.gm).mono ?_
      rintro e y2 ⟨v, rfl, hv, hg⟩
      exact ⟨v, rfl, fun t ht => by cases ht; exact hv, hg⟩
  refine AllOps.cons (fun a y h => ?_) ?_
  · have t46 : FactsV y (a.eval (.tmp 46)) (Rl.union l m) := h.of 46 (by kernel_rfl)
    obtain ⟨u46, e46⟩ : ∃ u, a.eval (.tmp 46) = u := ⟨_, rfl⟩
    rw [e46] at t46
    have t49 : FactsV y (a.eval (.tmp 49)) (Rl.union l m) := h.of 49 (by kernel_rfl)
    obtain ⟨u49, e49⟩ : ∃ u, a.eval (.tmp 49) = u := ⟨_, rfl⟩
    rw [e49] at t49
    refine opOk_call (f := 22) (args := #[u46, u49]) (wanted_some (j := 26) (t := 43) (b := true) rfl rfl rfl (h.of 43 (by kernel_rfl))) ?_ ?_
    · have ec : ∀ v, a.eval (.const v) = v := fun _ => rfl
      have ef : ∀ f, a.eval (.func f) = .func (.func f) #[] #[] := fun _ => rfl
      generalize a.eval = ev at *
      clear h
      go_simp
    · refine (SameFacts_refl (Rl.union l m) _ _ y t46 t49 HV.s2 HV.g2).mono ?_
      rintro e y2 ⟨rfl, hg⟩
      exact ⟨_, rfl, fun t ht => by cases ht; exact rfl, hg⟩
  refine AllOps.cons (fun a y h => ?_) ?_
  · have e43 : a.eval (.tmp 43) = (Value.bool true) := h.of 43 (by kernel_rfl)
    have e50 : a.eval (.tmp 50) = (Value.bool true) := h.of 50 (by kernel_rfl)
    refine opOk_val (v := (Value.bool true)) (w' := y) (wanted_none rfl) ?_ (fun t ht => by cases ht; exact rfl) (Below.refl _ _)
    have ec : ∀ v, a.eval (.const v) = v := fun _ => rfl
    generalize a.eval = ev at *
    clear h
    go_simp
  refine AllOps.cons (fun a y h => ?_) ?_
  · have e51 : a.eval (.tmp 51) = (Value.bool true) := h.of 51 (by kernel_rfl)
    refine opOk_val (v := (Value.bool true)) (w' := y) (wanted_none rfl) ?_ (fun t ht => by cases ht; exact rfl) (Below.refl _ _)
    have ec : ∀ v, a.eval (.const v) = v := fun _ => rfl
    generalize a.eval = ev at *
    clear h
    go_simp
  refine AllOps.cons (fun a y h => ?_) ?_
  · have e0 : a.eval (.tmp 0) = VL := h.old 0 (by kernel_rfl)
    refine opOk_val (v := VL) (w' := y) (wanted_some (j := 35) (t := 52) (b := true) rfl rfl rfl (h.of 52 (by kernel_rfl))) ?_ (fun t ht => by cases ht; exact rfl) (Below.refl _ _)
    have ec : ∀ v, a.eval (.const v) = v := fun _ => rfl
    generalize a.eval = ev at *
    clear h
    go_simp
  refine AllOps.cons (fun a y h => ?_) ?_
  · have e1 : a.eval (.tmp 1) = VM := h.old 1 (by kernel_rfl)
    refine opOk_val (v := VM) (w' := y) (wanted_some (j := 35) (t := 52) (b := true) rfl rfl rfl (h.of 52 (by kernel_rfl))) ?_ (fun t ht => by cases ht; exact rfl) (Below.refl _ _)
    have ec : ∀ v, a.eval (.const v) = v := fun _ => rfl
    generalize a.eval = ev at *
    clear h
    go_simp
  refine AllOps.cons (fun a y h => ?_) ?_
  · have e53 : a.eval (.tmp 53) = VL := h.of 53 (by kernel_rfl)
    have e54 : a.eval (.tmp 54) = VM := h.of 54 (by kernel_rfl)
    refine opOk_call (f := 29) (args := #[VL, VM]) (wanted_some (j := 35) (t := 52) (b := true) rfl rfl rfl (h.of 52 (by kernel_rfl))) ?_ ?_
    · have ec : ∀ v, a.eval (.const v) = v := fun _ => rfl
      have ef : ∀ f, a.eval (.func f) = .func (.func f) #[] #[] := fun _ => rfl
      generalize a.eval = ev at *
      clear h
      go_simp
    · refine (Minus_any l m VL VM y (factsV_below HV.hL h.below) (factsV_below HV.hM h.below) HV.ll HV.lm HV.fl HV.fm).mono ?_
      rintro e y2 ⟨v, rfl, hv, hg⟩
      exact ⟨v, rfl, fun t ht => by cases ht; exact hv, hg⟩
  refine AllOps.cons (fun a y h => ?_) ?_
  · have e0 : a.eval (.tmp 0) = VL := h.old 0 (by kernel_rfl)
    refine opOk_val (v := VL) (w' := y) (wanted_some (j := 35) (t := 52) (b := true) rfl rfl rfl (h.of 52 (by kernel_rfl))) ?_ (fun t ht => by cases ht; exact rfl) (Below.refl _ _)
    have ec : ∀ v, a.eval (.const v) = v := fun _ => rfl
    generalize a.eval = ev at *
    clear h
    go_simp
  refine AllOps.cons (fun a y h => ?_) ?_
  · have e1 : a.eval (.tmp 1) = VM := h.old 1 (by kernel_rfl)
    refine opOk_val (v := VM) (w' := y) (wanted_some (j := 35) (t := 52) (b := true) rfl rfl rfl (h.of 52 (by kernel_rfl))) ?_ (fun t ht => by cases ht; exact rfl) (Below.refl _ _)
    have ec : ∀ v, a.eval (.const v) = v := fun _ => rfl
    generalize a.eval = ev at *
    clear h
    go_simp
  refine AllOps.cons (fun a y h => ?_) ?_
  · have e56 : a.eval (.tmp 56) = VL := h.of 56 (by kernel_rfl)
    have e57 : a.eval (.tmp 57) = VM := h.of 57 (by kernel_rfl)
    refine opOk_call (f := 30) (args := #[VL, VM]) (wanted_some (j := 35) (t := 52) (b := true) rfl rfl rfl (h.of 52 (by kernel_rfl))) ?_ ?_
    · have ec : ∀ v, a.eval (.const v) = v := fun _ => rfl
      have ef : ∀ f, a.eval (.func f) = .func (.func f) #[] #[] := fun _ => rfl
      generalize a.eval = ev at *
      clear h
      go_simp
    · refine (MinusOf_any l m VL VM y (factsV_below HV.hL h.below) (factsV_below HV.hM h.below) HV.ll HV.lm HV.gl HV.gm).mono ?_
      rintro e y2 ⟨v, rfl, hv, hg⟩
      exact ⟨v, rfl, fun t ht => by cases ht; exact hv, hg⟩
  refine AllOps.cons (fun a y h => ?_) ?_
  · have t55 : FactsV y (a.eval (.tmp 55)) (Rl.minus l m) := h.of 55 (by kernel_rfl)
    obtain ⟨u55, e55⟩ : ∃ u, a.eval (.tmp 55) = u := ⟨_, rfl⟩
    rw [e55] at t55
    have t58 : FactsV y (a.eval (.tmp 58)) (Rl.minus l m) := h.of 58 (by kernel_rfl)
    obtain ⟨u58, e58⟩ : ∃ u, a.eval (.tmp 58) = u := ⟨_, rfl⟩
    rw [e58] at t58
    refine opOk_call (f := 22) (args := #[u55, u58]) (wanted_some (j := 35) (t := 52) (b := true) rfl rfl rfl (h.of 52 (by kernel_rfl))) ?_ ?_
    · have ec : ∀ v, a.eval (.const v) = v := fun _ => rfl
      have ef : ∀ f, a.eval (.func f) = .func (.func f) #[] #[] := fun _ => rfl
      generalize a.eval = ev at *
      clear h
      go_simp
    · refine (SameFacts_refl (Rl.minus l m) _ _ y t55 t58 HV.s3 HV.g3).mono ?_
      rintro e y2 ⟨rfl, hg⟩
      exact ⟨_, rfl, fun t ht => by cases ht; exact rfl, hg⟩
  refine AllOps.cons (fun a y h => ?_) ?_
  · have e52 : a.eval (.tmp 52) = (Value.bool true) := h.of 52 (by kernel_rfl)
    have e59 : a.eval (.tmp 59) = (Value.bool true) := h.of 59 (by kernel_rfl)
    refine opOk_val (v := (Value.bool true)) (w' := y) (wanted_none rfl) ?_ (fun t ht => by cases ht; exact rfl) (Below.refl _ _)
    have ec : ∀ v, a.eval (.const v) = v := fun _ => rfl
    generalize a.eval = ev at *
    clear h
    go_simp
  refine AllOps.cons (fun a y h => ?_) ?_
  · have e60 : a.eval (.tmp 60) = (Value.bool true) := h.of 60 (by kernel_rfl)
    refine opOk_val (v := (Value.bool true)) (w' := y) (wanted_none rfl) ?_ (fun t ht => by cases ht; exact rfl) (Below.refl _ _)
    have ec : ∀ v, a.eval (.const v) = v := fun _ => rfl
    generalize a.eval = ev at *
    clear h
    go_simp
  refine AllOps.cons (fun a y h => ?_) ?_
  · have e0 : a.eval (.tmp 0) = VL := h.old 0 (by kernel_rfl)
    refine opOk_val (v := VL) (w' := y) (wanted_some (j := 44) (t := 61) (b := true) rfl rfl rfl (h.of 61 (by kernel_rfl))) ?_ (fun t ht => by cases ht; exact rfl) (Below.refl _ _)
    have ec : ∀ v, a.eval (.const v) = v := fun _ => rfl
    generalize a.eval = ev at *
    clear h
    go_simp
  refine AllOps.cons (fun a y h => ?_) ?_
  · have e3 : a.eval (.tmp 3) = (Value.int .i64 pp) := h.old 3 (by kernel_rfl)
    refine opOk_val (v := (Value.int .i64 pp)) (w' := y) (wanted_some (j := 44) (t := 61) (b := true) rfl rfl rfl (h.of 61 (by kernel_rfl))) ?_ (fun t ht => by cases ht; exact rfl) (Below.refl _ _)
    have ec : ∀ v, a.eval (.const v) = v := fun _ => rfl
    generalize a.eval = ev at *
    clear h
    go_simp
  refine AllOps.cons (fun a y h => ?_) ?_
  · have e4 : a.eval (.tmp 4) = VY := h.old 4 (by kernel_rfl)
    refine opOk_val (v := VY) (w' := y) (wanted_some (j := 44) (t := 61) (b := true) rfl rfl rfl (h.of 61 (by kernel_rfl))) ?_ (fun t ht => by cases ht; exact rfl) (Below.refl _ _)
    have ec : ∀ v, a.eval (.const v) = v := fun _ => rfl
    generalize a.eval = ev at *
    clear h
    go_simp
  refine AllOps.cons (fun a y h => ?_) ?_
  · have e5 : a.eval (.tmp 5) = VZ := h.old 5 (by kernel_rfl)
    refine opOk_val (v := VZ) (w' := y) (wanted_some (j := 44) (t := 61) (b := true) rfl rfl rfl (h.of 61 (by kernel_rfl))) ?_ (fun t ht => by cases ht; exact rfl) (Below.refl _ _)
    have ec : ∀ v, a.eval (.const v) = v := fun _ => rfl
    generalize a.eval = ev at *
    clear h
    go_simp
  refine AllOps.cons (fun a y h => ?_) ?_
  · have e62 : a.eval (.tmp 62) = VL := h.of 62 (by kernel_rfl)
    have e63 : a.eval (.tmp 63) = (Value.int .i64 pp) := h.of 63 (by kernel_rfl)
    have e64 : a.eval (.tmp 64) = VY := h.of 64 (by kernel_rfl)
    have e65 : a.eval (.tmp 65) = VZ := h.of 65 (by kernel_rfl)
    refine opOk_call (f := 31) (args := #[VL, (Value.int .i64 pp), VY, VZ]) (wanted_some (j := 44) (t := 61) (b := true) rfl rfl rfl (h.of 61 (by kernel_rfl))) ?_ ?_
    · have ec : ∀ v, a.eval (.const v) = v := fun _ => rfl
      have ef : ∀ f, a.eval (.func f) = .func (.func f) #[] #[] := fun _ => rfl
      generalize a.eval = ev at *
      clear h
      go_simp
    · refine (Match_any l pp y0 z0 VL _ _ y (factsV_below HV.hL h.below) (intsV_below HV.hY h.below) (boolsV_below HV.hZ h.below) HV.ll HV.fl HV.ly HV.lz).mono ?_
      rintro e y2 ⟨v, rfl, hv, hg⟩
      exact ⟨v, rfl, fun t ht => by cases ht; exact hv, hg⟩
  refine AllOps.cons (fun a y h => ?_) ?_
  · have e0 : a.eval (.tmp 0) = VL := h.old 0 (by kernel_rfl)
    refine opOk_val (v := VL) (w' := y) (wanted_some (j := 44) (t := 61) (b := true) rfl rfl rfl (h.of 61 (by kernel_rfl))) ?_ (fun t ht => by cases ht; exact rfl) (Below.refl _ _)
    have ec : ∀ v, a.eval (.const v) = v := fun _ => rfl
    generalize a.eval = ev at *
    clear h
    go_simp
  refine AllOps.cons (fun a y h => ?_) ?_
  · have e3 : a.eval (.tmp 3) = (Value.int .i64 pp) := h.old 3 (by kernel_rfl)
    refine opOk_val (v := (Value.int .i64 pp)) (w' := y) (wanted_some (j := 44) (t := 61) (b := true) rfl rfl rfl (h.of 61 (by kernel_rfl))) ?_ (fun t ht => by cases ht; exact rfl) (Below.refl _ _)
    have ec : ∀ v, a.eval (.const v) = v := fun _ => rfl
    generalize a.eval = ev at *
    clear h
    go_simp
  refine AllOps.cons (fun a y h => ?_) ?_
  · have e4 : a.eval (.tmp 4) = VY := h.old 4 (by kernel_rfl)
    refine opOk_val (v := VY) (w' := y) (wanted_some (j := 44) (t := 61) (b := true) rfl rfl rfl (h.of 61 (by kernel_rfl))) ?_ (fun t ht => by cases ht; exact rfl) (Below.refl _ _)
    have ec : ∀ v, a.eval (.const v) = v := fun _ => rfl
    generalize a.eval = ev at *
    clear h
    go_simp
  refine AllOps.cons (fun a y h => ?_) ?_
  · have e5 : a.eval (.tmp 5) = VZ := h.old 5 (by kernel_rfl)
    refine opOk_val (v := VZ) (w' := y) (wanted_some (j := 44) (t := 61) (b := true) rfl rfl rfl (h.of 61 (by kernel_rfl))) ?_ (fun t ht => by cases ht; exact rfl) (Below.refl _ _)
    have ec : ∀ v, a.eval (.const v) = v := fun _ => rfl
    generalize a.eval = ev at *
    clear h
    go_simp
  refine AllOps.cons (fun a y h => ?_) ?_
  · have e67 : a.eval (.tmp 67) = VL := h.of 67 (by kernel_rfl)
    have e68 : a.eval (.tmp 68) = (Value.int .i64 pp) := h.of 68 (by kernel_rfl)
    have e69 : a.eval (.tmp 69) = VY := h.of 69 (by kernel_rfl)
    have e70 : a.eval (.tmp 70) = VZ := h.of 70 (by kernel_rfl)
    refine opOk_call (f := 32) (args := #[VL, (Value.int .i64 pp), VY, VZ]) (wanted_some (j := 44) (t := 61) (b := true) rfl rfl rfl (h.of 61 (by kernel_rfl))) ?_ ?_
    · have ec : ∀ v, a.eval (.const v) = v := fun _ => rfl
      have ef : ∀ f, a.eval (.func f) = .func (.func f) #[] #[] := fun _ => rfl
      generalize a.eval = ev at *
      clear h
      go_simp
    · refine (MatchOf_any l pp y0 z0 VL _ _ y (factsV_below HV.hL h.below) (intsV_below HV.hY h.below) (boolsV_below HV.hZ h.below) HV.ll HV.gl HV.ly).mono ?_
      rintro e y2 ⟨v, rfl, hv, hg⟩
      exact ⟨v, rfl, fun t ht => by cases ht; exact hv, hg⟩
  refine AllOps.cons (fun a y h => ?_) ?_
  · have t66 : FactsV y (a.eval (.tmp 66)) (Rl.matchL l pp y0 z0) := h.of 66 (by kernel_rfl)
    obtain ⟨u66, e66⟩ : ∃ u, a.eval (.tmp 66) = u := ⟨_, rfl⟩
    rw [e66] at t66
    have t71 : FactsV y (a.eval (.tmp 71)) (Rl.matchL l pp y0 z0) := h.of 71 (by kernel_rfl)
    obtain ⟨u71, e71⟩ : ∃ u, a.eval (.tmp 71) = u := ⟨_, rfl⟩
    rw [e71] at t71
    refine opOk_call (f := 22) (args := #[u66, u71]) (wanted_some (j := 44) (t := 61) (b := true) rfl rfl rfl (h.of 61 (by kernel_rfl))) ?_ ?_
    · have ec : ∀ v, a.eval (.const v) = v := fun _ => rfl
      have ef : ∀ f, a.eval (.func f) = .func (.func f) #[] #[] := fun _ => rfl
      generalize a.eval = ev at *
      clear h
      go_simp
    · refine (SameFacts_refl (Rl.matchL l pp y0 z0) _ _ y t66 t71 HV.s4 HV.g4).mono ?_
      rintro e y2 ⟨rfl, hg⟩
      exact ⟨_, rfl, fun t ht => by cases ht; exact rfl, hg⟩
  refine AllOps.cons (fun a y h => ?_) ?_
  · have e61 : a.eval (.tmp 61) = (Value.bool true) := h.of 61 (by kernel_rfl)
    have e72 : a.eval (.tmp 72) = (Value.bool true) := h.of 72 (by kernel_rfl)
    refine opOk_val (v := (Value.bool true)) (w' := y) (wanted_none rfl) ?_ (fun t ht => by cases ht; exact rfl) (Below.refl _ _)
    have ec : ∀ v, a.eval (.const v) = v := fun _ => rfl
    generalize a.eval = ev at *
    clear h
    go_simp
  refine AllOps.cons (fun a y h => ?_) ?_
  · have e73 : a.eval (.tmp 73) = (Value.bool true) := h.of 73 (by kernel_rfl)
    refine opOk_val (v := (Value.bool true)) (w' := y) (wanted_none rfl) ?_ (fun t ht => by cases ht; exact rfl) (Below.refl _ _)
    have ec : ∀ v, a.eval (.const v) = v := fun _ => rfl
    generalize a.eval = ev at *
    clear h
    go_simp
  exact AllOps.nil

end Go.Proofs.Ytgpaleifhcdjnaa

/- Behind a region by a table: the frame, written out. -/
namespace Go.Proofs.Ytgpaleifhcdjnaa
open Go.RowKit

theorem tmps_fold : ∀ (D : List Nat) (x y : Array Value), x.size = y.size → (∀ t, t ∉ D → x.getD t undef = y.getD t undef) → x = D.foldl (fun arr t => arr.setIfInBounds t (x.getD t undef)) y
  | [], x, y, hs, h => by
    show x = y
    refine Array.ext hs fun i h1 h2 => ?_
    have := h i (by simp)
    rw [Array.getD_eq_getD_getElem?, Array.getD_eq_getD_getElem?, Array.getElem?_eq_getElem h1, Array.getElem?_eq_getElem h2] at this
    exact this
  | t :: D, x, y, hs, h => by
    show x = D.foldl (fun arr t => arr.setIfInBounds t (x.getD t undef)) (y.setIfInBounds t (x.getD t undef))
    refine tmps_fold D x _ (by simp [hs]) fun s hsD => ?_
    by_cases hst : s = t
    · subst hst
      by_cases hl : s < y.size
      · simp [Array.getD_eq_getD_getElem?, hl]
      · have h1 : x[s]? = none := by rw [Array.getElem?_eq_none_iff]; omega
        have h2 : ∀ v, (y.setIfInBounds s v)[s]? = none := fun v => by rw [Array.getElem?_eq_none_iff]; simp; omega
        rw [Array.getD_eq_getD_getElem?, Array.getD_eq_getD_getElem?, h1, h2]
    · rw [h s (by simp [hst, hsD])]
      simp [Array.getD_eq_getD_getElem?, Ne.symm hst]

/-- The region by itself, then what follows. -/
theorem wp_mid {P : Program} {c : Code} {Q : Exit → Act → World → Prop} {a0 : Act} {w : World} (R : Act → Act → World → Prop) (first : c.wp P (fun e a w => e = .normal ∧ R a0 a w) a0 w) (rest : ∀ a w, R a0 a w → Q .normal a w) : c.wp P Q a0 w :=
  Code.wp_mono (fun e a w h => by obtain ⟨rfl, h⟩ := h; exact rest a w h) first

section
variable {P : Program} {ops : Array Oper} {Q : Exit → Act → World → Prop} {T : Nat → Value → World → Prop} {a : Act} {w : World} {o : Oper}
/-- An operation that is not wanted. -/
theorem opOk_skip {j t : Nat} {b c : Bool} {oj : Oper} (hg : o.guard = some (j, b)) (hj : ops[j]? = some oj) (hd : oj.dst = some t) (hv : a.tmps.getD t undef = .bool c) (hbc : c ≠ b) (hT : ∀ t, o.dst = some t → T t undef w) : OpOk P ops Q T o a w := by
  have ht : a.tmps[t]? = some (.bool c) := by
    rw [Array.getD_eq_getD_getElem?] at hv
    cases h : a.tmps[t]? with
    | none => rw [h] at hv; simp [undef] at hv
    | some v => rw [h] at hv; simpa using hv
  have hw : Region.wanted o (yielded ops a.tmps) = false := by
    unfold Region.wanted
    rw [hg]
    dsimp only
    unfold yielded
    rw [hj, Option.bind_some, hd, Option.bind_some, ht]
    simp [hbc]
  unfold OpOk
  rw [hw, if_neg (by simp)]
  exact hT
end

end Go.Proofs.Ytgpaleifhcdjnaa

/- The law RelationHangs, walked. -/
namespace Go.Proofs.Ytgpaleifhcdjnaa
open Go.RowKit

theorem union_comm (l m : List Rl.Fc) : Rl.union m l = Rl.union l m := Rl.set_same fun x => by rw [List.mem_append, List.mem_append]; exact Or.comm
theorem set_union (l m : List Rl.Fc) : Rl.set (Rl.union l m) = Rl.union l m := (Rl.isSet_eq ⟨(Rl.set_isSet (l ++ m)).1, fun _ => Iff.rfl⟩).symm
theorem union_minus (l m : List Rl.Fc) : Rl.union (Rl.minus l m) m = Rl.union l m := Rl.set_same fun x => by
  rw [List.mem_append, List.mem_append, mem_minus]
  constructor
  · rintro (⟨h, _⟩ | h)
    · exact .inl h
    · exact .inr h
  · rintro (h | h)
    · by_cases hm : x ∈ m
      · exact .inr hm
      · exact .inl ⟨h, hm⟩
    · exact .inr h
theorem has_union (l m : List Rl.Fc) (f : Rl.Fc) : Rl.has (Rl.union l m) f = (Rl.has l f || Rl.has m f) := by
  rw [Bool.eq_iff_iff, Bool.or_eq_true, Rl.has_iff, Rl.has_iff, Rl.has_iff, mem_union]
theorem has_minus (l m : List Rl.Fc) (f : Rl.Fc) : Rl.has (Rl.minus l m) f = (Rl.has l f && !Rl.has m f) := by
  rw [Bool.eq_iff_iff, Bool.and_eq_true, Rl.has_iff, Rl.has_iff, mem_minus]
  refine and_congr_right fun _ => ?_
  rw [← Rl.has_iff]
  simp

/-- What came in, and how much of it. -/
structure HangsIn (w : World) (VL VM Sf Sg Sh : Value) (l m : List Rl.Fc) (f g e : Rl.Fc) : Prop where
  hL : FactsV w VL l
  hM : FactsV w VM m
  hF : IntsV w Sf f.args
  hG : IntsV w Sg g.args
  hE : IntsV w Sh e.args
  lm : l.length + m.length ≤ 1048576
  fl : ∀ f, f ∈ l → f.args.length ≤ 1048576
  fm : ∀ f, f ∈ m → f.args.length ≤ 1048576
  lf : FFit f
  lg : FFit g
  le : FFit e
namespace HangsIn
variable {w : World} {VL VM Sf Sg Sh : Value} {l m : List Rl.Fc} {f g e : Rl.Fc}
theorem go {w' : World} (h : HangsIn w VL VM Sf Sg Sh l m f g e) (hb : Below w.heap.size w w') : HangsIn w' VL VM Sf Sg Sh l m f g e :=
  ⟨factsV_below h.hL hb, factsV_below h.hM hb, intsV_below h.hF hb, intsV_below h.hG hb, intsV_below h.hE hb, h.lm, h.fl, h.fm, h.lf, h.lg, h.le⟩
theorem l1 (h : HangsIn w VL VM Sf Sg Sh l m f g e) : l.length ≤ 1048576 := by have := h.lm; omega
theorem m1 (h : HangsIn w VL VM Sf Sg Sh l m f g e) : m.length ≤ 1048576 := by have := h.lm; omega
theorem u1 (h : HangsIn w VL VM Sf Sg Sh l m f g e) : (Rl.union l m).length ≤ 1048576 := by have := union_length l m; have := h.lm; omega
theorem d1 (h : HangsIn w VL VM Sf Sg Sh l m f g e) : (Rl.minus l m).length ≤ 1048576 := by have := minus_length l m; have := h.lm; omega
theorem fu (h : HangsIn w VL VM Sf Sg Sh l m f g e) : ∀ f, f ∈ Rl.union l m → f.args.length ≤ 1048576 := fun f hf => (mem_union.mp hf).elim (h.fl f) (h.fm f)
theorem fd (h : HangsIn w VL VM Sf Sg Sh l m f g e) : ∀ f, f ∈ Rl.minus l m → f.args.length ≤ 1048576 := fun f hf => h.fl f (mem_minus.mp hf).1
theorem gl (h : HangsIn w VL VM Sf Sg Sh l m f g e) : ∀ f, f ∈ l → FFit f := fun f hf => Nat.le_trans (h.fl f hf) (by decide)
theorem gm (h : HangsIn w VL VM Sf Sg Sh l m f g e) : ∀ f, f ∈ m → FFit f := fun f hf => Nat.le_trans (h.fm f hf) (by decide)
theorem gu (h : HangsIn w VL VM Sf Sg Sh l m f g e) : ∀ f, f ∈ Rl.union l m → FFit f := fun f hf => Nat.le_trans (h.fu f hf) (by decide)
theorem gd (h : HangsIn w VL VM Sf Sg Sh l m f g e) : ∀ f, f ∈ Rl.minus l m → FFit f := fun f hf => Nat.le_trans (h.fd f hf) (by decide)
end HangsIn

theorem ord_three (f g e : Rl.Fc) : (Rl.ord f g = -1 ∨ Rl.ord f g = 0 ∨ Rl.ord f g = 1) ∧ (Rl.ord g e = -1 ∨ Rl.ord g e = 0 ∨ Rl.ord g e = 1) ∧ (Rl.ord f e = -1 ∨ Rl.ord f e = 0 ∨ Rl.ord f e = 1) ∧ Rl.ord g f = - Rl.ord f g ∧
    (Rl.ord f g ≤ 0 → Rl.ord g e ≤ 0 → Rl.ord f e ≤ 0) ∧ (Rl.ord f g < 0 → Rl.ord g e ≤ 0 → Rl.ord f e < 0) := by
  have key : Rl.ord f g < 0 → Rl.ord g e ≤ 0 → Rl.ord f e < 0 := fun h1 h2 => by
    by_cases h0 : Rl.ord g e = 0
    · rw [← Rl.ord_zero.mp h0]; exact h1
    · exact Rl.ord_trans h1 (by omega)
  refine ⟨Rl.ord_vals _ _, Rl.ord_vals _ _, Rl.ord_vals _ _, Rl.ord_flip _ _, fun h1 h2 => ?_, key⟩
  by_cases h0 : Rl.ord f g = 0
  · rw [Rl.ord_zero.mp h0]; exact h2
  · have := key (by omega) h2; omega

/-- Where the walk stands: what came in, the boxes, the union and the difference. -/
structure HangsS (w y : World) (VL VM VU VD Sf Sg Sh : Value) (l m : List Rl.Fc) (f g e : Rl.Fc) : Prop where
  bel : Below w.heap.size w y
  inn : HangsIn y VL VM Sf Sg Sh l m f g e
  d0 : y.cell? ⟨w.heap.size, 0, none⟩ = some (.int .i64 f.pred)
  d1 : y.cell? ⟨w.heap.size, 1, none⟩ = some Sf
  d2 : y.cell? ⟨w.heap.size + 1, 0, none⟩ = some (.int .i64 g.pred)
  d3 : y.cell? ⟨w.heap.size + 1, 1, none⟩ = some Sg
  d4 : y.cell? ⟨w.heap.size + 1 + 1, 0, none⟩ = some (.int .i64 e.pred)
  d5 : y.cell? ⟨w.heap.size + 1 + 1, 1, none⟩ = some Sh
  uu : VU = undef ∨ FactsV y VU (Rl.union l m)
  dd : VD = undef ∨ FactsV y VD (Rl.minus l m)
namespace HangsS
variable {w y y' : World} {VL VM VU VD Sf Sg Sh : Value} {l m : List Rl.Fc} {f g e : Rl.Fc}
theorem go (h : HangsS w y VL VM VU VD Sf Sg Sh l m f g e) (hb : Below y.heap.size y y') : HangsS w y' VL VM VU VD Sf Sg Sh l m f g e :=
  ⟨h.bel.trans (hb.mono h.bel.size), h.inn.go hb, cell_below hb h.d0, cell_below hb h.d1, cell_below hb h.d2, cell_below hb h.d3, cell_below hb h.d4, cell_below hb h.d5, h.uu.imp id fun h => factsV_below h hb, h.dd.imp id fun h => factsV_below h hb⟩
theorem u (h : HangsS w y VL VM VU VD Sf Sg Sh l m f g e) (hn : VU ≠ undef) : FactsV y VU (Rl.union l m) := h.uu.resolve_left hn
theorem union (h : HangsS w y VL VM undef undef Sf Sg Sh l m f g e) (hb : Below y.heap.size y y') (hU : FactsV y' VU (Rl.union l m)) : HangsS w y' VL VM VU undef Sf Sg Sh l m f g e :=
  { h.go hb with uu := .inr hU }
theorem minus (h : HangsS w y VL VM VU undef Sf Sg Sh l m f g e) (hb : Below y.heap.size y y') (hD : FactsV y' VD (Rl.minus l m)) : HangsS w y' VL VM VU VD Sf Sg Sh l m f g e :=
  { h.go hb with dd := .inr hD }
theorem U (h : HangsS w y VL VM VU VD Sf Sg Sh l m f g e) (hn : VU = undef → False) : FactsV y VU (Rl.union l m) := h.uu.resolve_left hn
theorem D (h : HangsS w y VL VM VU VD Sf Sg Sh l m f g e) (hn : VD = undef → False) : FactsV y VD (Rl.minus l m) := h.dd.resolve_left hn
end HangsS
theorem facts_ne {w : World} {v : Value} {l : List Rl.Fc} (h : FactsV w v l) : v = undef → False := by
  obtain ⟨ao, cap, rfl, _⟩ := h
  intro h
  simp [undef] at h

theorem hangs_mem {VL VM Sf Sg Sh : Value} {l m : List Rl.Fc} {f g e : Rl.Fc} (w w3 : World) (H : HangsIn w VL VM Sf Sg Sh l m f g e)
    (hw3 : w3 = ((w.alloc (.cells #[.int .i64 f.pred, Sf] 49)).alloc (.cells #[.int .i64 g.pred, Sg] 49)).alloc (.cells #[.int .i64 e.pred, Sh] 49)) :
    Below w.heap.size w w3 ∧ HangsIn w3 VL VM Sf Sg Sh l m f g e ∧ w3.cell? ⟨w.heap.size, 0, none⟩ = some (.int .i64 f.pred) ∧ w3.cell? ⟨w.heap.size, 1, none⟩ = some Sf ∧
      w3.cell? ⟨w.heap.size + 1, 0, none⟩ = some (.int .i64 g.pred) ∧ w3.cell? ⟨w.heap.size + 1, 1, none⟩ = some Sg ∧
      w3.cell? ⟨w.heap.size + 1 + 1, 0, none⟩ = some (.int .i64 e.pred) ∧ w3.cell? ⟨w.heap.size + 1 + 1, 1, none⟩ = some Sh := by
  subst hw3
  have b1 := new_below w (.cells #[.int .i64 f.pred, Sf] 49)
  have p1 := rl_new w (.cells #[.int .i64 f.pred, Sf] 49)
  have s1 : (w.alloc (.cells #[.int .i64 f.pred, Sf] 49)).heap.size = w.heap.size + 1 := by show (w.heap.push _).size = _; simp
  generalize w.alloc (.cells #[.int .i64 f.pred, Sf] 49) = x1 at *
  have b2 := new_below x1 (.cells #[.int .i64 g.pred, Sg] 49)
  have p2 := rl_new x1 (.cells #[.int .i64 g.pred, Sg] 49)
  have s2 : (x1.alloc (.cells #[.int .i64 g.pred, Sg] 49)).heap.size = w.heap.size + 1 + 1 := by rw [← s1]; show (x1.heap.push _).size = _; simp
  generalize x1.alloc (.cells #[.int .i64 g.pred, Sg] 49) = x2 at *
  have b3 := new_below x2 (.cells #[.int .i64 e.pred, Sh] 49)
  have p3 := rl_new x2 (.cells #[.int .i64 e.pred, Sh] 49)
  have h1 := b1.trans (b2.mono b1.size)
  refine ⟨h1.trans (b3.mono h1.size), ((H.go b1).go b2).go b3, ?_, ?_, ?_, ?_, ?_, ?_⟩
  · exact cell_below b3 (cell_below b2 (by rw [Lib.cell_of_heap p1]; rfl))
  · exact cell_below b3 (cell_below b2 (by rw [Lib.cell_of_heap p1]; rfl))
  · exact cell_below b3 (by rw [← s1, Lib.cell_of_heap p2]; rfl)
  · exact cell_below b3 (by rw [← s1, Lib.cell_of_heap p2]; rfl)
  · rw [← s2, Lib.cell_of_heap p3]; rfl
  · rw [← s2, Lib.cell_of_heap p3]; rfl

def hangsKdT (VL VM VU VD Sf : Value) (m : List Rl.Fc) (f : Rl.Fc) : Nat → Kd
  | 45 => .val VU
  | 46 => .val (fcVal f.pred Sf)
  | 47 => .val (Value.bool true)
  | 48 => .val VL
  | 49 => .val (fcVal f.pred Sf)
  | 50 => .val (Value.bool true)
  | 51 => .val (Value.bool true)
  | 52 => .free 
  | 53 => .free 
  | 54 => .free 
  | 55 => .val (Value.bool true)
  | 56 => .val (Value.bool false)
  | 57 => .val (Value.bool false)
  | 58 => .val VD
  | 59 => .val (fcVal f.pred Sf)
  | 60 => .val (Value.bool (!Rl.has m f))
  | 61 => .val VL
  | 62 => .val (fcVal f.pred Sf)
  | 63 => .val (Value.bool true)
  | 64 => .val (Value.bool true)
  | 65 => .val VM
  | 66 => .val (fcVal f.pred Sf)
  | 67 => .val (Value.bool (Rl.has m f))
  | 68 => .val (Value.bool (!Rl.has m f))
  | 69 => .val (Value.bool (!Rl.has m f))
  | 70 => .val (Value.bool false)
  | 71 => .val (Value.bool false)
  | _ => .free
def hangsKdF (VL VM VU VD Sf : Value) (m : List Rl.Fc) (f : Rl.Fc) : Nat → Kd
  | 45 => .val VU
  | 46 => .val (fcVal f.pred Sf)
  | 47 => .val (Value.bool (Rl.has m f))
  | 48 => .val VL
  | 49 => .val (fcVal f.pred Sf)
  | 50 => .val (Value.bool false)
  | 51 => .val (Value.bool false)
  | 52 => .val VM
  | 53 => .val (fcVal f.pred Sf)
  | 54 => .val (Value.bool (Rl.has m f))
  | 55 => .val (Value.bool (Rl.has m f))
  | 56 => .val (Value.bool false)
  | 57 => .val (Value.bool false)
  | 58 => .val VD
  | 59 => .val (fcVal f.pred Sf)
  | 60 => .val (Value.bool false)
  | 61 => .val VL
  | 62 => .val (fcVal f.pred Sf)
  | 63 => .val (Value.bool false)
  | 64 => .val (Value.bool false)
  | 65 => .free 
  | 66 => .free 
  | 67 => .free 
  | 68 => .free 
  | 69 => .val (Value.bool false)
  | 70 => .val (Value.bool false)
  | 71 => .val (Value.bool false)
  | _ => .free
def hangsKd8 (Sf Sg Sh : Value) (f g e : Rl.Fc) : Nat → Kd
  | 13 => .val (Value.int .i64 (Rl.ord f g))
  | 14 => .val (Value.int .i64 (Rl.ord g e))
  | 15 => .val (Value.int .i64 (Rl.ord f e))
  | 72 => .val (fcVal f.pred Sf)
  | 73 => .val (fcVal g.pred Sg)
  | 74 => .val (Value.int .i64 (Rl.ord f g))
  | 75 => .val (fcVal g.pred Sg)
  | 76 => .val (fcVal e.pred Sh)
  | 77 => .val (Value.int .i64 (Rl.ord g e))
  | 78 => .val (fcVal f.pred Sf)
  | 79 => .val (fcVal e.pred Sh)
  | 80 => .val (Value.int .i64 (Rl.ord f e))
  | _ => .free
set_option maxRecDepth 100000 in
set_option maxHeartbeats 4000000 in
theorem relationHangs_walk (VL VM Sf Sg Sh : Value) (l m : List Rl.Fc) (f g e : Rl.Fc) (w : World) (H : HangsIn w VL VM Sf Sg Sh l m f g e) :
    Calls Try.prog 6 #[VL, VM, fcVal f.pred Sf, fcVal g.pred Sg, fcVal e.pred Sh] w fun e w' => e = .returned (.bool true) ∧ Below w.heap.size w w' := by
  obtain ⟨sa, sc, hSf, _⟩ := H.hF
  obtain ⟨ga, gc, hSg, _⟩ := H.hG
  obtain ⟨ea, ec, hSh, _⟩ := H.hE
  obtain ⟨w3, hw3⟩ : ∃ w3, w3 = ((w.alloc (.cells #[.int .i64 f.pred, Sf] 49)).alloc (.cells #[.int .i64 g.pred, Sg] 49)).alloc (.cells #[.int .i64 e.pred, Sh] 49) := ⟨_, rfl⟩
  have HS : Hid (HangsS w w3 VL VM undef undef Sf Sg Sh l m f g e) := by
    obtain ⟨HB, HV, d0, d1, d2, d3, d4, d5⟩ := hangs_mem w w3 H hw3
    exact ⟨HB, HV, d0, d1, d2, d3, d4, d5, .inl rfl, .inl rfl⟩
  have HW : Hid _ := hw3
  clear hw3 H
  subst hSf hSg hSh
  go_enter Try.func6, Try.ntmps6
  go_wp2_with fail
  rw [← HW.out]
  clear HW
  generalize Value.slice sa f.args.length sc = Sf at *
  generalize Value.slice ga g.args.length gc = Sg at *
  generalize Value.slice ea e.args.length ec = Sh at *
  refine (relationBegun_any _).mono ?_
  rintro _ w4 ⟨rfl, hb4⟩
  replace HS : Hid _ := HS.out.go hb4
  clear hb4
  go_wp2_with fail
  refine (Union_any l m VL VM w4 HS.out.inn.hL HS.out.inn.hM HS.out.inn.l1 HS.out.inn.m1 HS.out.inn.fl HS.out.inn.fm).mono ?_
  rintro _ w5 ⟨VU, rfl, hU, hb5⟩
  have HU : Hid (VU = undef → False) := facts_ne hU
  replace HS : Hid _ := HS.out.union hb5 hU
  clear hb5 hU
  go_wp2_with fail
  refine (Minus_any l m VL VM w5 HS.out.inn.hL HS.out.inn.hM HS.out.inn.l1 HS.out.inn.m1 HS.out.inn.fl HS.out.inn.fm).mono ?_
  rintro _ w6 ⟨VD, rfl, hD, hb6⟩
  have HE : Hid (VD = undef → False) := facts_ne hD
  replace HS : Hid _ := HS.out.minus hb6 hD
  clear hb6 hD
  go_wp2_with fail
  refine (Union_any m l VM VL w6 HS.out.inn.hM HS.out.inn.hL HS.out.inn.m1 HS.out.inn.l1 HS.out.inn.fm HS.out.inn.fl).mono ?_
  rintro _ w7 ⟨v7, rfl, h7, hb7⟩
  rw [union_comm] at h7
  have H7 : Hid _ := h7
  replace HS : Hid _ := HS.out.go hb7
  clear hb7 h7
  go_wp2_with fail
  refine (SameFacts_refl (Rl.union l m) VU v7 w7 (HS.out.U HU.out) H7.out (Nat.le_trans HS.out.inn.u1 (by decide)) HS.out.inn.gu).mono ?_
  rintro _ w8 ⟨rfl, hb8⟩
  replace HS : Hid _ := HS.out.go hb8
  clear hb8 H7
  go_wp2_with fail
  refine (Set_any (Rl.union l m) VU w8 (HS.out.U HU.out) (Nat.le_trans HS.out.inn.u1 (by decide)) HS.out.inn.fu).mono ?_
  rintro _ w9 ⟨v9, rfl, h9, hb9⟩
  rw [set_union] at h9
  have H9 : Hid _ := h9.toV
  replace HS : Hid _ := HS.out.go hb9
  clear hb9 h9
  go_wp2_with fail
  refine (SameFacts_refl (Rl.union l m) VU v9 w9 (HS.out.U HU.out) H9.out (Nat.le_trans HS.out.inn.u1 (by decide)) HS.out.inn.gu).mono ?_
  rintro _ w10 ⟨rfl, hb10⟩
  replace HS : Hid _ := HS.out.go hb10
  clear hb10 H9
  go_wp2_with fail
  refine (Union_any (Rl.minus l m) m VD VM w10 (HS.out.D HE.out) HS.out.inn.hM HS.out.inn.d1 HS.out.inn.m1 HS.out.inn.fd HS.out.inn.fm).mono ?_
  rintro _ w11 ⟨v11, rfl, h11, hb11⟩
  rw [union_minus] at h11
  have H11 : Hid _ := h11
  replace HS : Hid _ := HS.out.go hb11
  clear hb11 h11
  go_wp2_with fail
  refine (SameFacts_refl (Rl.union l m) VU v11 w11 (HS.out.U HU.out) H11.out (Nat.le_trans HS.out.inn.u1 (by decide)) HS.out.inn.gu).mono ?_
  rintro _ w12 ⟨rfl, hb12⟩
  replace HS : Hid _ := HS.out.go hb12
  clear hb12 H11
  go_upto_region 6 with fail
  refine wp_mid (fun a0 a y => HangsS w y VL VM VU VD Sf Sg Sh l m f g e ∧ a.defers = [] ∧ a.tmps.size = a0.tmps.size ∧ (∀ t, t ∉ [45, 46, 47, 48, 49, 50, 51, 52, 53, 54, 55, 56, 57, 58, 59, 60, 61, 62, 63, 64, 65, 66, 67, 68, 69, 70, 71] → a.tmps.getD t undef = a0.tmps.getD t undef) ∧ a.tmps.getD 71 undef = .bool false) ?first6 ?rest6
  case first6 =>
    cases hl : Rl.has l f
    · have X1 : Hid (Rl.has l f = false) := hl
      have X2 : Hid (Rl.has (Rl.union l m) f = Rl.has m f) := by show _ = _; rw [has_union, hl, Bool.false_or]
      have X3 : Hid (Rl.has (Rl.minus l m) f = false) := by show _ = _; rw [has_minus, hl, Bool.false_and]
      clear hl
      refine wp_region_tabA (fun t v y => (hangsKdF VL VM VU VD Sf m f t).ok v y) (by kernel_rfl) (by kernel_rfl) (fun t v y y' hb h => Kd.mono _ v y y' hb h) ?hop ?hend
      case hend =>
        intro a y hb hd hs hst hT
        exact ⟨rfl, HS.out.go hb, hd, hs, hst, ends_at (t := 71) hT (by kernel_rfl)⟩
      refine AllOps.cons (fun a y h => ?_) ?_
      · have e11 : a.eval (.tmp 11) = VU := h.old 11 (by kernel_rfl)
        refine opOk_val (v := VU) (w' := y) (wanted_none rfl) ?_ (fun t ht => by cases ht; exact rfl) (Below.refl _ _)
        have ec : ∀ v, a.eval (.const v) = v := fun _ => rfl
        generalize a.eval = ev at *
        clear h
        go_simp
      refine AllOps.cons (fun a y h => ?_) ?_
      · have e7 : a.eval (.tmp 7) = (Value.pointer (some ⟨w.heap.size, 0, none⟩)) := h.old 7 (by kernel_rfl)
        have c0 := cell_below h.below HS.out.d0
        have c1 := cell_below h.below HS.out.d1
        refine opOk_val (v := (fcVal f.pred Sf)) (w' := y) (wanted_none rfl) ?_ (fun t ht => by cases ht; exact rfl) (Below.refl _ _)
        have ec : ∀ v, a.eval (.const v) = v := fun _ => rfl
        generalize a.eval = ev at *
        clear h
        go_simp
      refine AllOps.cons (fun a y h => ?_) ?_
      · have e45 : a.eval (.tmp 45) = VU := h.of 45 (by kernel_rfl)
        have e46 : a.eval (.tmp 46) = (fcVal f.pred Sf) := h.of 46 (by kernel_rfl)
        refine opOk_call (f := 25) (args := #[VU, (fcVal f.pred Sf)]) (wanted_none rfl) ?_ ?_
        · have ec : ∀ v, a.eval (.const v) = v := fun _ => rfl
          have ef : ∀ f, a.eval (.func f) = .func (.func f) #[] #[] := fun _ => rfl
          generalize a.eval = ev at *
          clear h
          go_simp
        · refine (Has_any (Rl.union l m) f VU _ y ((HS.out.go h.below).U HU.out) (HS.out.go h.below).inn.hF (Nat.le_trans HS.out.inn.u1 (by decide)) HS.out.inn.gu HS.out.inn.lf).mono ?_
          rintro _ y2 ⟨rfl, hg⟩
          exact ⟨_, rfl, fun t ht => by cases ht; exact congrArg Value.bool X2.out, hg⟩
      refine AllOps.cons (fun a y h => ?_) ?_
      · have e0 : a.eval (.tmp 0) = VL := h.old 0 (by kernel_rfl)
        refine opOk_val (v := VL) (w' := y) (wanted_none rfl) ?_ (fun t ht => by cases ht; exact rfl) (Below.refl _ _)
        have ec : ∀ v, a.eval (.const v) = v := fun _ => rfl
        generalize a.eval = ev at *
        clear h
        go_simp
      refine AllOps.cons (fun a y h => ?_) ?_
      · have e7 : a.eval (.tmp 7) = (Value.pointer (some ⟨w.heap.size, 0, none⟩)) := h.old 7 (by kernel_rfl)
        have c0 := cell_below h.below HS.out.d0
        have c1 := cell_below h.below HS.out.d1
        refine opOk_val (v := (fcVal f.pred Sf)) (w' := y) (wanted_none rfl) ?_ (fun t ht => by cases ht; exact rfl) (Below.refl _ _)
        have ec : ∀ v, a.eval (.const v) = v := fun _ => rfl
        generalize a.eval = ev at *
        clear h
        go_simp
      refine AllOps.cons (fun a y h => ?_) ?_
      · have e48 : a.eval (.tmp 48) = VL := h.of 48 (by kernel_rfl)
        have e49 : a.eval (.tmp 49) = (fcVal f.pred Sf) := h.of 49 (by kernel_rfl)
        refine opOk_call (f := 25) (args := #[VL, (fcVal f.pred Sf)]) (wanted_none rfl) ?_ ?_
        · have ec : ∀ v, a.eval (.const v) = v := fun _ => rfl
          have ef : ∀ f, a.eval (.func f) = .func (.func f) #[] #[] := fun _ => rfl
          generalize a.eval = ev at *
          clear h
          go_simp
        · refine (Has_any l f VL _ y (HS.out.go h.below).inn.hL (HS.out.go h.below).inn.hF (Nat.le_trans HS.out.inn.l1 (by decide)) HS.out.inn.gl HS.out.inn.lf).mono ?_
          rintro _ y2 ⟨rfl, hg⟩
          exact ⟨_, rfl, fun t ht => by cases ht; exact congrArg Value.bool X1.out, hg⟩
      refine AllOps.cons (fun a y h => ?_) ?_
      · have e50 : a.eval (.tmp 50) = (Value.bool false) := h.of 50 (by kernel_rfl)
        refine opOk_val (v := (Value.bool false)) (w' := y) (wanted_none rfl) ?_ (fun t ht => by cases ht; exact rfl) (Below.refl _ _)
        have ec : ∀ v, a.eval (.const v) = v := fun _ => rfl
        generalize a.eval = ev at *
        clear h
        go_simp
      refine AllOps.cons (fun a y h => ?_) ?_
      · have e1 : a.eval (.tmp 1) = VM := h.old 1 (by kernel_rfl)
        refine opOk_val (v := VM) (w' := y) (wanted_some (j := 6) (t := 51) (b := false) rfl rfl rfl (h.of 51 (by kernel_rfl))) ?_ (fun t ht => by cases ht; exact rfl) (Below.refl _ _)
        have ec : ∀ v, a.eval (.const v) = v := fun _ => rfl
        generalize a.eval = ev at *
        clear h
        go_simp
      refine AllOps.cons (fun a y h => ?_) ?_
      · have e7 : a.eval (.tmp 7) = (Value.pointer (some ⟨w.heap.size, 0, none⟩)) := h.old 7 (by kernel_rfl)
        have c0 := cell_below h.below HS.out.d0
        have c1 := cell_below h.below HS.out.d1
        refine opOk_val (v := (fcVal f.pred Sf)) (w' := y) (wanted_some (j := 6) (t := 51) (b := false) rfl rfl rfl (h.of 51 (by kernel_rfl))) ?_ (fun t ht => by cases ht; exact rfl) (Below.refl _ _)
        have ec : ∀ v, a.eval (.const v) = v := fun _ => rfl
        generalize a.eval = ev at *
        clear h
        go_simp
      refine AllOps.cons (fun a y h => ?_) ?_
      · have e52 : a.eval (.tmp 52) = VM := h.of 52 (by kernel_rfl)
        have e53 : a.eval (.tmp 53) = (fcVal f.pred Sf) := h.of 53 (by kernel_rfl)
        refine opOk_call (f := 25) (args := #[VM, (fcVal f.pred Sf)]) (wanted_some (j := 6) (t := 51) (b := false) rfl rfl rfl (h.of 51 (by kernel_rfl))) ?_ ?_
        · have ec : ∀ v, a.eval (.const v) = v := fun _ => rfl
          have ef : ∀ f, a.eval (.func f) = .func (.func f) #[] #[] := fun _ => rfl
          generalize a.eval = ev at *
          clear h
          go_simp
        · refine (Has_any m f VM _ y (HS.out.go h.below).inn.hM (HS.out.go h.below).inn.hF (Nat.le_trans HS.out.inn.m1 (by decide)) HS.out.inn.gm HS.out.inn.lf).mono ?_
          rintro _ y2 ⟨rfl, hg⟩
          exact ⟨_, rfl, fun t ht => by cases ht; exact rfl, hg⟩
      refine AllOps.cons (fun a y h => ?_) ?_
      · have e51 : a.eval (.tmp 51) = (Value.bool false) := h.of 51 (by kernel_rfl)
        have e54 : a.eval (.tmp 54) = (Value.bool (Rl.has m f)) := h.of 54 (by kernel_rfl)
        refine opOk_val (v := (Value.bool (Rl.has m f))) (w' := y) (wanted_none rfl) ?_ (fun t ht => by cases ht; exact rfl) (Below.refl _ _)
        have ec : ∀ v, a.eval (.const v) = v := fun _ => rfl
        generalize a.eval = ev at *
        clear h
        go_simp
      refine AllOps.cons (fun a y h => ?_) ?_
      · have e47 : a.eval (.tmp 47) = (Value.bool (Rl.has m f)) := h.of 47 (by kernel_rfl)
        have e55 : a.eval (.tmp 55) = (Value.bool (Rl.has m f)) := h.of 55 (by kernel_rfl)
        refine opOk_val (v := (Value.bool false)) (w' := y) (wanted_none rfl) ?_ (fun t ht => by cases ht; exact rfl) (Below.refl _ _)
        have ec : ∀ v, a.eval (.const v) = v := fun _ => rfl
        generalize a.eval = ev at *
        clear h
        go_simp
      refine AllOps.cons (fun a y h => ?_) ?_
      · have e56 : a.eval (.tmp 56) = (Value.bool false) := h.of 56 (by kernel_rfl)
        refine opOk_val (v := (Value.bool false)) (w' := y) (wanted_none rfl) ?_ (fun t ht => by cases ht; exact rfl) (Below.refl _ _)
        have ec : ∀ v, a.eval (.const v) = v := fun _ => rfl
        generalize a.eval = ev at *
        clear h
        go_simp
      refine AllOps.cons (fun a y h => ?_) ?_
      · have e12 : a.eval (.tmp 12) = VD := h.old 12 (by kernel_rfl)
        refine opOk_val (v := VD) (w' := y) (wanted_some (j := 12) (t := 57) (b := false) rfl rfl rfl (h.of 57 (by kernel_rfl))) ?_ (fun t ht => by cases ht; exact rfl) (Below.refl _ _)
        have ec : ∀ v, a.eval (.const v) = v := fun _ => rfl
        generalize a.eval = ev at *
        clear h
        go_simp
      refine AllOps.cons (fun a y h => ?_) ?_
      · have e7 : a.eval (.tmp 7) = (Value.pointer (some ⟨w.heap.size, 0, none⟩)) := h.old 7 (by kernel_rfl)
        have c0 := cell_below h.below HS.out.d0
        have c1 := cell_below h.below HS.out.d1
        refine opOk_val (v := (fcVal f.pred Sf)) (w' := y) (wanted_some (j := 12) (t := 57) (b := false) rfl rfl rfl (h.of 57 (by kernel_rfl))) ?_ (fun t ht => by cases ht; exact rfl) (Below.refl _ _)
        have ec : ∀ v, a.eval (.const v) = v := fun _ => rfl
        generalize a.eval = ev at *
        clear h
        go_simp
      refine AllOps.cons (fun a y h => ?_) ?_
      · have e58 : a.eval (.tmp 58) = VD := h.of 58 (by kernel_rfl)
        have e59 : a.eval (.tmp 59) = (fcVal f.pred Sf) := h.of 59 (by kernel_rfl)
        refine opOk_call (f := 25) (args := #[VD, (fcVal f.pred Sf)]) (wanted_some (j := 12) (t := 57) (b := false) rfl rfl rfl (h.of 57 (by kernel_rfl))) ?_ ?_
        · have ec : ∀ v, a.eval (.const v) = v := fun _ => rfl
          have ef : ∀ f, a.eval (.func f) = .func (.func f) #[] #[] := fun _ => rfl
          generalize a.eval = ev at *
          clear h
          go_simp
        · refine (Has_any (Rl.minus l m) f VD _ y ((HS.out.go h.below).D HE.out) (HS.out.go h.below).inn.hF (Nat.le_trans HS.out.inn.d1 (by decide)) HS.out.inn.gd HS.out.inn.lf).mono ?_
          rintro _ y2 ⟨rfl, hg⟩
          exact ⟨_, rfl, fun t ht => by cases ht; exact congrArg Value.bool X3.out, hg⟩
      refine AllOps.cons (fun a y h => ?_) ?_
      · have e0 : a.eval (.tmp 0) = VL := h.old 0 (by kernel_rfl)
        refine opOk_val (v := VL) (w' := y) (wanted_some (j := 12) (t := 57) (b := false) rfl rfl rfl (h.of 57 (by kernel_rfl))) ?_ (fun t ht => by cases ht; exact rfl) (Below.refl _ _)
        have ec : ∀ v, a.eval (.const v) = v := fun _ => rfl
        generalize a.eval = ev at *
        clear h
        go_simp
      refine AllOps.cons (fun a y h => ?_) ?_
      · have e7 : a.eval (.tmp 7) = (Value.pointer (some ⟨w.heap.size, 0, none⟩)) := h.old 7 (by kernel_rfl)
        have c0 := cell_below h.below HS.out.d0
        have c1 := cell_below h.below HS.out.d1
        refine opOk_val (v := (fcVal f.pred Sf)) (w' := y) (wanted_some (j := 12) (t := 57) (b := false) rfl rfl rfl (h.of 57 (by kernel_rfl))) ?_ (fun t ht => by cases ht; exact rfl) (Below.refl _ _)
        have ec : ∀ v, a.eval (.const v) = v := fun _ => rfl
        generalize a.eval = ev at *
        clear h
        go_simp
      refine AllOps.cons (fun a y h => ?_) ?_
      · have e61 : a.eval (.tmp 61) = VL := h.of 61 (by kernel_rfl)
        have e62 : a.eval (.tmp 62) = (fcVal f.pred Sf) := h.of 62 (by kernel_rfl)
        refine opOk_call (f := 25) (args := #[VL, (fcVal f.pred Sf)]) (wanted_some (j := 12) (t := 57) (b := false) rfl rfl rfl (h.of 57 (by kernel_rfl))) ?_ ?_
        · have ec : ∀ v, a.eval (.const v) = v := fun _ => rfl
          have ef : ∀ f, a.eval (.func f) = .func (.func f) #[] #[] := fun _ => rfl
          generalize a.eval = ev at *
          clear h
          go_simp
        · refine (Has_any l f VL _ y (HS.out.go h.below).inn.hL (HS.out.go h.below).inn.hF (Nat.le_trans HS.out.inn.l1 (by decide)) HS.out.inn.gl HS.out.inn.lf).mono ?_
          rintro _ y2 ⟨rfl, hg⟩
          exact ⟨_, rfl, fun t ht => by cases ht; exact congrArg Value.bool X1.out, hg⟩
      refine AllOps.cons (fun a y h => ?_) ?_
      · have e63 : a.eval (.tmp 63) = (Value.bool false) := h.of 63 (by kernel_rfl)
        refine opOk_val (v := (Value.bool false)) (w' := y) (wanted_some (j := 12) (t := 57) (b := false) rfl rfl rfl (h.of 57 (by kernel_rfl))) ?_ (fun t ht => by cases ht; exact rfl) (Below.refl _ _)
        have ec : ∀ v, a.eval (.const v) = v := fun _ => rfl
        generalize a.eval = ev at *
        clear h
        go_simp
      refine AllOps.cons (fun a y h => ?_) ?_
      · exact opOk_skip (j := 19) (t := 64) (b := true) (c := false) rfl rfl rfl (h.of 64 (by kernel_rfl)) (by decide) (fun t ht => by cases ht; exact trivial)
      refine AllOps.cons (fun a y h => ?_) ?_
      · exact opOk_skip (j := 19) (t := 64) (b := true) (c := false) rfl rfl rfl (h.of 64 (by kernel_rfl)) (by decide) (fun t ht => by cases ht; exact trivial)
      refine AllOps.cons (fun a y h => ?_) ?_
      · exact opOk_skip (j := 19) (t := 64) (b := true) (c := false) rfl rfl rfl (h.of 64 (by kernel_rfl)) (by decide) (fun t ht => by cases ht; exact trivial)
      refine AllOps.cons (fun a y h => ?_) ?_
      · exact opOk_skip (j := 19) (t := 64) (b := true) (c := false) rfl rfl rfl (h.of 64 (by kernel_rfl)) (by decide) (fun t ht => by cases ht; exact trivial)
      refine AllOps.cons (fun a y h => ?_) ?_
      · have e64 : a.eval (.tmp 64) = (Value.bool false) := h.of 64 (by kernel_rfl)
        refine opOk_val (v := (Value.bool false)) (w' := y) (wanted_some (j := 12) (t := 57) (b := false) rfl rfl rfl (h.of 57 (by kernel_rfl))) ?_ (fun t ht => by cases ht; exact rfl) (Below.refl _ _)
        have ec : ∀ v, a.eval (.const v) = v := fun _ => rfl
        generalize a.eval = ev at *
        clear h
        go_simp
      refine AllOps.cons (fun a y h => ?_) ?_
      · have e60 : a.eval (.tmp 60) = (Value.bool false) := h.of 60 (by kernel_rfl)
        have e69 : a.eval (.tmp 69) = (Value.bool false) := h.of 69 (by kernel_rfl)
        refine opOk_val (v := (Value.bool false)) (w' := y) (wanted_some (j := 12) (t := 57) (b := false) rfl rfl rfl (h.of 57 (by kernel_rfl))) ?_ (fun t ht => by cases ht; exact rfl) (Below.refl _ _)
        have ec : ∀ v, a.eval (.const v) = v := fun _ => rfl
        generalize a.eval = ev at *
        clear h
        go_simp
      refine AllOps.cons (fun a y h => ?_) ?_
      · have e57 : a.eval (.tmp 57) = (Value.bool false) := h.of 57 (by kernel_rfl)
        have e70 : a.eval (.tmp 70) = (Value.bool false) := h.of 70 (by kernel_rfl)
        refine opOk_val (v := (Value.bool false)) (w' := y) (wanted_none rfl) ?_ (fun t ht => by cases ht; exact rfl) (Below.refl _ _)
        have ec : ∀ v, a.eval (.const v) = v := fun _ => rfl
        generalize a.eval = ev at *
        clear h
        go_simp
      exact AllOps.nil
    · have X1 : Hid (Rl.has l f = true) := hl
      have X2 : Hid (Rl.has (Rl.union l m) f = true) := by show _ = _; rw [has_union, hl, Bool.true_or]
      have X3 : Hid (Rl.has (Rl.minus l m) f = !Rl.has m f) := by show _ = _; rw [has_minus, hl, Bool.true_and]
      clear hl
      refine wp_region_tabA (fun t v y => (hangsKdT VL VM VU VD Sf m f t).ok v y) (by kernel_rfl) (by kernel_rfl) (fun t v y y' hb h => Kd.mono _ v y y' hb h) ?hopT ?hendT
      case hendT =>
        intro a y hb hd hs hst hT
        exact ⟨rfl, HS.out.go hb, hd, hs, hst, ends_at (t := 71) hT (by kernel_rfl)⟩
      refine AllOps.cons (fun a y h => ?_) ?_
      · have e11 : a.eval (.tmp 11) = VU := h.old 11 (by kernel_rfl)
        refine opOk_val (v := VU) (w' := y) (wanted_none rfl) ?_ (fun t ht => by cases ht; exact rfl) (Below.refl _ _)
        have ec : ∀ v, a.eval (.const v) = v := fun _ => rfl
        generalize a.eval = ev at *
        clear h
        go_simp
      refine AllOps.cons (fun a y h => ?_) ?_
      · have e7 : a.eval (.tmp 7) = (Value.pointer (some ⟨w.heap.size, 0, none⟩)) := h.old 7 (by kernel_rfl)
        have c0 := cell_below h.below HS.out.d0
        have c1 := cell_below h.below HS.out.d1
        refine opOk_val (v := (fcVal f.pred Sf)) (w' := y) (wanted_none rfl) ?_ (fun t ht => by cases ht; exact rfl) (Below.refl _ _)
        have ec : ∀ v, a.eval (.const v) = v := fun _ => rfl
        generalize a.eval = ev at *
        clear h
        go_simp
      refine AllOps.cons (fun a y h => ?_) ?_
      · have e45 : a.eval (.tmp 45) = VU := h.of 45 (by kernel_rfl)
        have e46 : a.eval (.tmp 46) = (fcVal f.pred Sf) := h.of 46 (by kernel_rfl)
        refine opOk_call (f := 25) (args := #[VU, (fcVal f.pred Sf)]) (wanted_none rfl) ?_ ?_
        · have ec : ∀ v, a.eval (.const v) = v := fun _ => rfl
          have ef : ∀ f, a.eval (.func f) = .func (.func f) #[] #[] := fun _ => rfl
          generalize a.eval = ev at *
          clear h
          go_simp
        · refine (Has_any (Rl.union l m) f VU _ y ((HS.out.go h.below).U HU.out) (HS.out.go h.below).inn.hF (Nat.le_trans HS.out.inn.u1 (by decide)) HS.out.inn.gu HS.out.inn.lf).mono ?_
          rintro _ y2 ⟨rfl, hg⟩
          exact ⟨_, rfl, fun t ht => by cases ht; exact congrArg Value.bool X2.out, hg⟩
      refine AllOps.cons (fun a y h => ?_) ?_
      · have e0 : a.eval (.tmp 0) = VL := h.old 0 (by kernel_rfl)
        refine opOk_val (v := VL) (w' := y) (wanted_none rfl) ?_ (fun t ht => by cases ht; exact rfl) (Below.refl _ _)
        have ec : ∀ v, a.eval (.const v) = v := fun _ => rfl
        generalize a.eval = ev at *
        clear h
        go_simp
      refine AllOps.cons (fun a y h => ?_) ?_
      · have e7 : a.eval (.tmp 7) = (Value.pointer (some ⟨w.heap.size, 0, none⟩)) := h.old 7 (by kernel_rfl)
        have c0 := cell_below h.below HS.out.d0
        have c1 := cell_below h.below HS.out.d1
        refine opOk_val (v := (fcVal f.pred Sf)) (w' := y) (wanted_none rfl) ?_ (fun t ht => by cases ht; exact rfl) (Below.refl _ _)
        have ec : ∀ v, a.eval (.const v) = v := fun _ => rfl
        generalize a.eval = ev at *
        clear h
        go_simp
      refine AllOps.cons (fun a y h => ?_) ?_
      · have e48 : a.eval (.tmp 48) = VL := h.of 48 (by kernel_rfl)
        have e49 : a.eval (.tmp 49) = (fcVal f.pred Sf) := h.of 49 (by kernel_rfl)
        refine opOk_call (f := 25) (args := #[VL, (fcVal f.pred Sf)]) (wanted_none rfl) ?_ ?_
        · have ec : ∀ v, a.eval (.const v) = v := fun _ => rfl
          have ef : ∀ f, a.eval (.func f) = .func (.func f) #[] #[] := fun _ => rfl
          generalize a.eval = ev at *
          clear h
          go_simp
        · refine (Has_any l f VL _ y (HS.out.go h.below).inn.hL (HS.out.go h.below).inn.hF (Nat.le_trans HS.out.inn.l1 (by decide)) HS.out.inn.gl HS.out.inn.lf).mono ?_
          rintro _ y2 ⟨rfl, hg⟩
          exact ⟨_, rfl, fun t ht => by cases ht; exact congrArg Value.bool X1.out, hg⟩
      refine AllOps.cons (fun a y h => ?_) ?_
      · have e50 : a.eval (.tmp 50) = (Value.bool true) := h.of 50 (by kernel_rfl)
        refine opOk_val (v := (Value.bool true)) (w' := y) (wanted_none rfl) ?_ (fun t ht => by cases ht; exact rfl) (Below.refl _ _)
        have ec : ∀ v, a.eval (.const v) = v := fun _ => rfl
        generalize a.eval = ev at *
        clear h
        go_simp
      refine AllOps.cons (fun a y h => ?_) ?_
      · exact opOk_skip (j := 6) (t := 51) (b := false) (c := true) rfl rfl rfl (h.of 51 (by kernel_rfl)) (by decide) (fun t ht => by cases ht; exact trivial)
      refine AllOps.cons (fun a y h => ?_) ?_
      · exact opOk_skip (j := 6) (t := 51) (b := false) (c := true) rfl rfl rfl (h.of 51 (by kernel_rfl)) (by decide) (fun t ht => by cases ht; exact trivial)
      refine AllOps.cons (fun a y h => ?_) ?_
      · exact opOk_skip (j := 6) (t := 51) (b := false) (c := true) rfl rfl rfl (h.of 51 (by kernel_rfl)) (by decide) (fun t ht => by cases ht; exact trivial)
      refine AllOps.cons (fun a y h => ?_) ?_
      · have e51 : a.eval (.tmp 51) = (Value.bool true) := h.of 51 (by kernel_rfl)
        refine opOk_val (v := (Value.bool true)) (w' := y) (wanted_none rfl) ?_ (fun t ht => by cases ht; exact rfl) (Below.refl _ _)
        have ec : ∀ v, a.eval (.const v) = v := fun _ => rfl
        generalize a.eval = ev at *
        clear h
        go_simp
      refine AllOps.cons (fun a y h => ?_) ?_
      · have e47 : a.eval (.tmp 47) = (Value.bool true) := h.of 47 (by kernel_rfl)
        have e55 : a.eval (.tmp 55) = (Value.bool true) := h.of 55 (by kernel_rfl)
        refine opOk_val (v := (Value.bool false)) (w' := y) (wanted_none rfl) ?_ (fun t ht => by cases ht; exact rfl) (Below.refl _ _)
        have ec : ∀ v, a.eval (.const v) = v := fun _ => rfl
        generalize a.eval = ev at *
        clear h
        go_simp
      refine AllOps.cons (fun a y h => ?_) ?_
      · have e56 : a.eval (.tmp 56) = (Value.bool false) := h.of 56 (by kernel_rfl)
        refine opOk_val (v := (Value.bool false)) (w' := y) (wanted_none rfl) ?_ (fun t ht => by cases ht; exact rfl) (Below.refl _ _)
        have ec : ∀ v, a.eval (.const v) = v := fun _ => rfl
        generalize a.eval = ev at *
        clear h
        go_simp
      refine AllOps.cons (fun a y h => ?_) ?_
      · have e12 : a.eval (.tmp 12) = VD := h.old 12 (by kernel_rfl)
        refine opOk_val (v := VD) (w' := y) (wanted_some (j := 12) (t := 57) (b := false) rfl rfl rfl (h.of 57 (by kernel_rfl))) ?_ (fun t ht => by cases ht; exact rfl) (Below.refl _ _)
        have ec : ∀ v, a.eval (.const v) = v := fun _ => rfl
        generalize a.eval = ev at *
        clear h
        go_simp
      refine AllOps.cons (fun a y h => ?_) ?_
      · have e7 : a.eval (.tmp 7) = (Value.pointer (some ⟨w.heap.size, 0, none⟩)) := h.old 7 (by kernel_rfl)
        have c0 := cell_below h.below HS.out.d0
        have c1 := cell_below h.below HS.out.d1
        refine opOk_val (v := (fcVal f.pred Sf)) (w' := y) (wanted_some (j := 12) (t := 57) (b := false) rfl rfl rfl (h.of 57 (by kernel_rfl))) ?_ (fun t ht => by cases ht; exact rfl) (Below.refl _ _)
        have ec : ∀ v, a.eval (.const v) = v := fun _ => rfl
        generalize a.eval = ev at *
        clear h
        go_simp
      refine AllOps.cons (fun a y h => ?_) ?_
      · have e58 : a.eval (.tmp 58) = VD := h.of 58 (by kernel_rfl)
        have e59 : a.eval (.tmp 59) = (fcVal f.pred Sf) := h.of 59 (by kernel_rfl)
        refine opOk_call (f := 25) (args := #[VD, (fcVal f.pred Sf)]) (wanted_some (j := 12) (t := 57) (b := false) rfl rfl rfl (h.of 57 (by kernel_rfl))) ?_ ?_
        · have ec : ∀ v, a.eval (.const v) = v := fun _ => rfl
          have ef : ∀ f, a.eval (.func f) = .func (.func f) #[] #[] := fun _ => rfl
          generalize a.eval = ev at *
          clear h
          go_simp
        · refine (Has_any (Rl.minus l m) f VD _ y ((HS.out.go h.below).D HE.out) (HS.out.go h.below).inn.hF (Nat.le_trans HS.out.inn.d1 (by decide)) HS.out.inn.gd HS.out.inn.lf).mono ?_
          rintro _ y2 ⟨rfl, hg⟩
          exact ⟨_, rfl, fun t ht => by cases ht; exact congrArg Value.bool X3.out, hg⟩
      refine AllOps.cons (fun a y h => ?_) ?_
      · have e0 : a.eval (.tmp 0) = VL := h.old 0 (by kernel_rfl)
        refine opOk_val (v := VL) (w' := y) (wanted_some (j := 12) (t := 57) (b := false) rfl rfl rfl (h.of 57 (by kernel_rfl))) ?_ (fun t ht => by cases ht; exact rfl) (Below.refl _ _)
        have ec : ∀ v, a.eval (.const v) = v := fun _ => rfl
        generalize a.eval = ev at *
        clear h
        go_simp
      refine AllOps.cons (fun a y h => ?_) ?_
      · have e7 : a.eval (.tmp 7) = (Value.pointer (some ⟨w.heap.size, 0, none⟩)) := h.old 7 (by kernel_rfl)
        have c0 := cell_below h.below HS.out.d0
        have c1 := cell_below h.below HS.out.d1
        refine opOk_val (v := (fcVal f.pred Sf)) (w' := y) (wanted_some (j := 12) (t := 57) (b := false) rfl rfl rfl (h.of 57 (by kernel_rfl))) ?_ (fun t ht => by cases ht; exact rfl) (Below.refl _ _)
        have ec : ∀ v, a.eval (.const v) = v := fun _ => rfl
        generalize a.eval = ev at *
        clear h
        go_simp
      refine AllOps.cons (fun a y h => ?_) ?_
      · have e61 : a.eval (.tmp 61) = VL := h.of 61 (by kernel_rfl)
        have e62 : a.eval (.tmp 62) = (fcVal f.pred Sf) := h.of 62 (by kernel_rfl)
        refine opOk_call (f := 25) (args := #[VL, (fcVal f.pred Sf)]) (wanted_some (j := 12) (t := 57) (b := false) rfl rfl rfl (h.of 57 (by kernel_rfl))) ?_ ?_
        · have ec : ∀ v, a.eval (.const v) = v := fun _ => rfl
          have ef : ∀ f, a.eval (.func f) = .func (.func f) #[] #[] := fun _ => rfl
          generalize a.eval = ev at *
          clear h
          go_simp
        · refine (Has_any l f VL _ y (HS.out.go h.below).inn.hL (HS.out.go h.below).inn.hF (Nat.le_trans HS.out.inn.l1 (by decide)) HS.out.inn.gl HS.out.inn.lf).mono ?_
          rintro _ y2 ⟨rfl, hg⟩
          exact ⟨_, rfl, fun t ht => by cases ht; exact congrArg Value.bool X1.out, hg⟩
      refine AllOps.cons (fun a y h => ?_) ?_
      · have e63 : a.eval (.tmp 63) = (Value.bool true) := h.of 63 (by kernel_rfl)
        refine opOk_val (v := (Value.bool true)) (w' := y) (wanted_some (j := 12) (t := 57) (b := false) rfl rfl rfl (h.of 57 (by kernel_rfl))) ?_ (fun t ht => by cases ht; exact rfl) (Below.refl _ _)
        have ec : ∀ v, a.eval (.const v) = v := fun _ => rfl
        generalize a.eval = ev at *
        clear h
        go_simp
      refine AllOps.cons (fun a y h => ?_) ?_
      · have e1 : a.eval (.tmp 1) = VM := h.old 1 (by kernel_rfl)
        refine opOk_val (v := VM) (w' := y) (wanted_some (j := 19) (t := 64) (b := true) rfl rfl rfl (h.of 64 (by kernel_rfl))) ?_ (fun t ht => by cases ht; exact rfl) (Below.refl _ _)
        have ec : ∀ v, a.eval (.const v) = v := fun _ => rfl
        generalize a.eval = ev at *
        clear h
        go_simp
      refine AllOps.cons (fun a y h => ?_) ?_
      · have e7 : a.eval (.tmp 7) = (Value.pointer (some ⟨w.heap.size, 0, none⟩)) := h.old 7 (by kernel_rfl)
        have c0 := cell_below h.below HS.out.d0
        have c1 := cell_below h.below HS.out.d1
        refine opOk_val (v := (fcVal f.pred Sf)) (w' := y) (wanted_some (j := 19) (t := 64) (b := true) rfl rfl rfl (h.of 64 (by kernel_rfl))) ?_ (fun t ht => by cases ht; exact rfl) (Below.refl _ _)
        have ec : ∀ v, a.eval (.const v) = v := fun _ => rfl
        generalize a.eval = ev at *
        clear h
        go_simp
      refine AllOps.cons (fun a y h => ?_) ?_
      · have e65 : a.eval (.tmp 65) = VM := h.of 65 (by kernel_rfl)
        have e66 : a.eval (.tmp 66) = (fcVal f.pred Sf) := h.of 66 (by kernel_rfl)
        refine opOk_call (f := 25) (args := #[VM, (fcVal f.pred Sf)]) (wanted_some (j := 19) (t := 64) (b := true) rfl rfl rfl (h.of 64 (by kernel_rfl))) ?_ ?_
        · have ec : ∀ v, a.eval (.const v) = v := fun _ => rfl
          have ef : ∀ f, a.eval (.func f) = .func (.func f) #[] #[] := fun _ => rfl
          generalize a.eval = ev at *
          clear h
          go_simp
        · refine (Has_any m f VM _ y (HS.out.go h.below).inn.hM (HS.out.go h.below).inn.hF (Nat.le_trans HS.out.inn.m1 (by decide)) HS.out.inn.gm HS.out.inn.lf).mono ?_
          rintro _ y2 ⟨rfl, hg⟩
          exact ⟨_, rfl, fun t ht => by cases ht; exact rfl, hg⟩
      refine AllOps.cons (fun a y h => ?_) ?_
      · have e67 : a.eval (.tmp 67) = (Value.bool (Rl.has m f)) := h.of 67 (by kernel_rfl)
        refine opOk_val (v := (Value.bool (!Rl.has m f))) (w' := y) (wanted_some (j := 19) (t := 64) (b := true) rfl rfl rfl (h.of 64 (by kernel_rfl))) ?_ (fun t ht => by cases ht; exact rfl) (Below.refl _ _)
        have ec : ∀ v, a.eval (.const v) = v := fun _ => rfl
        generalize a.eval = ev at *
        clear h
        go_simp
      refine AllOps.cons (fun a y h => ?_) ?_
      · have e64 : a.eval (.tmp 64) = (Value.bool true) := h.of 64 (by kernel_rfl)
        have e68 : a.eval (.tmp 68) = (Value.bool (!Rl.has m f)) := h.of 68 (by kernel_rfl)
        refine opOk_val (v := (Value.bool (!Rl.has m f))) (w' := y) (wanted_some (j := 12) (t := 57) (b := false) rfl rfl rfl (h.of 57 (by kernel_rfl))) ?_ (fun t ht => by cases ht; exact rfl) (Below.refl _ _)
        have ec : ∀ v, a.eval (.const v) = v := fun _ => rfl
        generalize a.eval = ev at *
        clear h
        go_simp
      refine AllOps.cons (fun a y h => ?_) ?_
      · have e60 : a.eval (.tmp 60) = (Value.bool (!Rl.has m f)) := h.of 60 (by kernel_rfl)
        have e69 : a.eval (.tmp 69) = (Value.bool (!Rl.has m f)) := h.of 69 (by kernel_rfl)
        refine opOk_val (v := (Value.bool false)) (w' := y) (wanted_some (j := 12) (t := 57) (b := false) rfl rfl rfl (h.of 57 (by kernel_rfl))) ?_ (fun t ht => by cases ht; exact rfl) (Below.refl _ _)
        have ec : ∀ v, a.eval (.const v) = v := fun _ => rfl
        generalize a.eval = ev at *
        clear h
        go_simp
      refine AllOps.cons (fun a y h => ?_) ?_
      · have e57 : a.eval (.tmp 57) = (Value.bool false) := h.of 57 (by kernel_rfl)
        have e70 : a.eval (.tmp 70) = (Value.bool false) := h.of 70 (by kernel_rfl)
        refine opOk_val (v := (Value.bool false)) (w' := y) (wanted_none rfl) ?_ (fun t ht => by cases ht; exact rfl) (Below.refl _ _)
        have ec : ∀ v, a.eval (.const v) = v := fun _ => rfl
        generalize a.eval = ev at *
        clear h
        go_simp
      exact AllOps.nil
  case rest6 =>
    clear HS
    rintro ⟨tm, df⟩ w13 ⟨hS, hdf, hs, hst, h71⟩
    have HS : Hid _ := hS
    subst hdf
    have hF := tmps_fold [45, 46, 47, 48, 49, 50, 51, 52, 53, 54, 55, 56, 57, 58, 59, 60, 61, 62, 63, 64, 65, 66, 67, 68, 69, 70, 71] tm _ hs hst
    clear hs hst hS
    simp only [List.foldl_cons, List.foldl_nil, h71] at hF
    clear h71
    generalize tm.getD 45 undef = x45 at hF
    generalize tm.getD 46 undef = x46 at hF
    generalize tm.getD 47 undef = x47 at hF
    generalize tm.getD 48 undef = x48 at hF
    generalize tm.getD 49 undef = x49 at hF
    generalize tm.getD 50 undef = x50 at hF
    generalize tm.getD 51 undef = x51 at hF
    generalize tm.getD 52 undef = x52 at hF
    generalize tm.getD 53 undef = x53 at hF
    generalize tm.getD 54 undef = x54 at hF
    generalize tm.getD 55 undef = x55 at hF
    generalize tm.getD 56 undef = x56 at hF
    generalize tm.getD 57 undef = x57 at hF
    generalize tm.getD 58 undef = x58 at hF
    generalize tm.getD 59 undef = x59 at hF
    generalize tm.getD 60 undef = x60 at hF
    generalize tm.getD 61 undef = x61 at hF
    generalize tm.getD 62 undef = x62 at hF
    generalize tm.getD 63 undef = x63 at hF
    generalize tm.getD 64 undef = x64 at hF
    generalize tm.getD 65 undef = x65 at hF
    generalize tm.getD 66 undef = x66 at hF
    generalize tm.getD 67 undef = x67 at hF
    generalize tm.getD 68 undef = x68 at hF
    generalize tm.getD 69 undef = x69 at hF
    generalize tm.getD 70 undef = x70 at hF
    simp only [List.setIfInBounds_toArray, List.set_cons_zero, List.set_cons_succ] at hF
    subst hF
    go_upto_region 8 with fail
    refine wp_region_tabA (fun t v y => (hangsKd8 Sf Sg Sh f g e t).ok v y) (by kernel_rfl) (by kernel_rfl) (fun t v y y' hb h => Kd.mono _ v y y' hb h) ?hop8 ?hend8
    case hend8 =>
      rintro ⟨tm, df⟩ w14 hb hd hs hst hT
      have h13 : tm.getD 13 undef = .int .i64 (Rl.ord f g) := ends_at (a := ⟨tm, df⟩) (t := 13) hT (by kernel_rfl)
      have h14 : tm.getD 14 undef = .int .i64 (Rl.ord g e) := ends_at (a := ⟨tm, df⟩) (t := 14) hT (by kernel_rfl)
      have h15 : tm.getD 15 undef = .int .i64 (Rl.ord f e) := ends_at (a := ⟨tm, df⟩) (t := 15) hT (by kernel_rfl)
      have HS : Hid _ := HS.out.go hb
      obtain rfl : df = [] := hd
      have hF := tmps_fold [72, 73, 74, 75, 76, 77, 78, 79, 80, 13, 14, 15] tm _ hs hst
      clear hs hst hT hb
      simp only [List.foldl_cons, List.foldl_nil, h13, h14, h15] at hF
      clear h13 h14 h15
      generalize tm.getD 72 undef = x72 at hF
      generalize tm.getD 73 undef = x73 at hF
      generalize tm.getD 74 undef = x74 at hF
      generalize tm.getD 75 undef = x75 at hF
      generalize tm.getD 76 undef = x76 at hF
      generalize tm.getD 77 undef = x77 at hF
      generalize tm.getD 78 undef = x78 at hF
      generalize tm.getD 79 undef = x79 at hF
      generalize tm.getD 80 undef = x80 at hF
      simp only [List.setIfInBounds_toArray, List.set_cons_zero, List.set_cons_succ] at hF
      subst hF
      have c0 := HS.out.d0
      have c1 := HS.out.d1
      have c2 := HS.out.d2
      have c3 := HS.out.d3
      go_wp2_with fail
      clear c0 c1 c2 c3
      refine (Order_any g f _ _ w14 HS.out.inn.hG HS.out.inn.hF HS.out.inn.lg HS.out.inn.lf).mono ?_
      rintro _ w15 ⟨rfl, hb15⟩
      replace HS : Hid _ := HS.out.go hb15.below
      clear hb15
      obtain ⟨va, vb, vc, vd, h1, h2⟩ := ord_three f g e
      generalize Rl.ord f g = oa at *
      generalize Rl.ord g e = ob at *
      generalize Rl.ord f e = oc at *
      generalize Rl.ord g f = od at *
      subst vd
      rcases va with rfl | rfl | rfl <;> rcases vb with rfl | rfl | rfl <;> rcases vc with rfl | rfl | rfl <;> first | (exfalso; revert h1 h2; decide) | skip
      all_goals clear h1 h2
      all_goals go_wp2_with fail
      all_goals go_ret
      all_goals exact ⟨rfl, HS.out.bel⟩
    refine AllOps.cons (fun a y h => ?_) ?_
    · have e7 : a.eval (.tmp 7) = (Value.pointer (some ⟨w.heap.size, 0, none⟩)) := h.old 7 (by kernel_rfl)
      have c0 := cell_below h.below HS.out.d0
      have c1 := cell_below h.below HS.out.d1
      refine opOk_val (v := (fcVal f.pred Sf)) (w' := y) (wanted_none rfl) ?_ (fun t ht => by cases ht; exact rfl) (Below.refl _ _)
      have ec : ∀ v, a.eval (.const v) = v := fun _ => rfl
      generalize a.eval = ev at *
      clear h
      go_simp
    refine AllOps.cons (fun a y h => ?_) ?_
    · have e8 : a.eval (.tmp 8) = (Value.pointer (some ⟨w.heap.size + 1, 0, none⟩)) := h.old 8 (by kernel_rfl)
      have c0 := cell_below h.below HS.out.d2
      have c1 := cell_below h.below HS.out.d3
      refine opOk_val (v := (fcVal g.pred Sg)) (w' := y) (wanted_none rfl) ?_ (fun t ht => by cases ht; exact rfl) (Below.refl _ _)
      have ec : ∀ v, a.eval (.const v) = v := fun _ => rfl
      generalize a.eval = ev at *
      clear h
      go_simp
    refine AllOps.cons (fun a y h => ?_) ?_
    · have e72 : a.eval (.tmp 72) = (fcVal f.pred Sf) := h.of 72 (by kernel_rfl)
      have e73 : a.eval (.tmp 73) = (fcVal g.pred Sg) := h.of 73 (by kernel_rfl)
      refine opOk_call (f := 20) (args := #[(fcVal f.pred Sf), (fcVal g.pred Sg)]) (wanted_none rfl) ?_ ?_
      · have ec : ∀ v, a.eval (.const v) = v := fun _ => rfl
        have ef : ∀ f, a.eval (.func f) = .func (.func f) #[] #[] := fun _ => rfl
        generalize a.eval = ev at *
        clear h
        go_simp
      · refine (Order_any f g _ _ y (HS.out.go h.below).inn.hF (HS.out.go h.below).inn.hG HS.out.inn.lf HS.out.inn.lg).mono ?_
        rintro _ y2 ⟨rfl, hg⟩
        exact ⟨_, rfl, fun t ht => by cases ht; exact rfl, hg.below⟩
    refine AllOps.cons (fun a y h => ?_) ?_
    · have e8 : a.eval (.tmp 8) = (Value.pointer (some ⟨w.heap.size + 1, 0, none⟩)) := h.old 8 (by kernel_rfl)
      have c0 := cell_below h.below HS.out.d2
      have c1 := cell_below h.below HS.out.d3
      refine opOk_val (v := (fcVal g.pred Sg)) (w' := y) (wanted_none rfl) ?_ (fun t ht => by cases ht; exact rfl) (Below.refl _ _)
      have ec : ∀ v, a.eval (.const v) = v := fun _ => rfl
      generalize a.eval = ev at *
      clear h
      go_simp
    refine AllOps.cons (fun a y h => ?_) ?_
    · have e9 : a.eval (.tmp 9) = (Value.pointer (some ⟨w.heap.size + 1 + 1, 0, none⟩)) := h.old 9 (by kernel_rfl)
      have c0 := cell_below h.below HS.out.d4
      have c1 := cell_below h.below HS.out.d5
      refine opOk_val (v := (fcVal e.pred Sh)) (w' := y) (wanted_none rfl) ?_ (fun t ht => by cases ht; exact rfl) (Below.refl _ _)
      have ec : ∀ v, a.eval (.const v) = v := fun _ => rfl
      generalize a.eval = ev at *
      clear h
      go_simp
    refine AllOps.cons (fun a y h => ?_) ?_
    · have e75 : a.eval (.tmp 75) = (fcVal g.pred Sg) := h.of 75 (by kernel_rfl)
      have e76 : a.eval (.tmp 76) = (fcVal e.pred Sh) := h.of 76 (by kernel_rfl)
      refine opOk_call (f := 20) (args := #[(fcVal g.pred Sg), (fcVal e.pred Sh)]) (wanted_none rfl) ?_ ?_
      · have ec : ∀ v, a.eval (.const v) = v := fun _ => rfl
        have ef : ∀ f, a.eval (.func f) = .func (.func f) #[] #[] := fun _ => rfl
        generalize a.eval = ev at *
        clear h
        go_simp
      · refine (Order_any g e _ _ y (HS.out.go h.below).inn.hG (HS.out.go h.below).inn.hE HS.out.inn.lg HS.out.inn.le).mono ?_
        rintro _ y2 ⟨rfl, hg⟩
        exact ⟨_, rfl, fun t ht => by cases ht; exact rfl, hg.below⟩
    refine AllOps.cons (fun a y h => ?_) ?_
    · have e7 : a.eval (.tmp 7) = (Value.pointer (some ⟨w.heap.size, 0, none⟩)) := h.old 7 (by kernel_rfl)
      have c0 := cell_below h.below HS.out.d0
      have c1 := cell_below h.below HS.out.d1
      refine opOk_val (v := (fcVal f.pred Sf)) (w' := y) (wanted_none rfl) ?_ (fun t ht => by cases ht; exact rfl) (Below.refl _ _)
      have ec : ∀ v, a.eval (.const v) = v := fun _ => rfl
      generalize a.eval = ev at *
      clear h
      go_simp
    refine AllOps.cons (fun a y h => ?_) ?_
    · have e9 : a.eval (.tmp 9) = (Value.pointer (some ⟨w.heap.size + 1 + 1, 0, none⟩)) := h.old 9 (by kernel_rfl)
      have c0 := cell_below h.below HS.out.d4
      have c1 := cell_below h.below HS.out.d5
      refine opOk_val (v := (fcVal e.pred Sh)) (w' := y) (wanted_none rfl) ?_ (fun t ht => by cases ht; exact rfl) (Below.refl _ _)
      have ec : ∀ v, a.eval (.const v) = v := fun _ => rfl
      generalize a.eval = ev at *
      clear h
      go_simp
    refine AllOps.cons (fun a y h => ?_) ?_
    · have e78 : a.eval (.tmp 78) = (fcVal f.pred Sf) := h.of 78 (by kernel_rfl)
      have e79 : a.eval (.tmp 79) = (fcVal e.pred Sh) := h.of 79 (by kernel_rfl)
      refine opOk_call (f := 20) (args := #[(fcVal f.pred Sf), (fcVal e.pred Sh)]) (wanted_none rfl) ?_ ?_
      · have ec : ∀ v, a.eval (.const v) = v := fun _ => rfl
        have ef : ∀ f, a.eval (.func f) = .func (.func f) #[] #[] := fun _ => rfl
        generalize a.eval = ev at *
        clear h
        go_simp
      · refine (Order_any f e _ _ y (HS.out.go h.below).inn.hF (HS.out.go h.below).inn.hE HS.out.inn.lf HS.out.inn.le).mono ?_
        rintro _ y2 ⟨rfl, hg⟩
        exact ⟨_, rfl, fun t ht => by cases ht; exact rfl, hg.below⟩
    refine AllOps.cons (fun a y h => ?_) ?_
    · have e74 : a.eval (.tmp 74) = (Value.int .i64 (Rl.ord f g)) := h.of 74 (by kernel_rfl)
      refine opOk_val (v := (Value.int .i64 (Rl.ord f g))) (w' := y) (wanted_none rfl) ?_ (fun t ht => by cases ht; exact rfl) (Below.refl _ _)
      have ec : ∀ v, a.eval (.const v) = v := fun _ => rfl
      generalize a.eval = ev at *
      clear h
      go_simp
    refine AllOps.cons (fun a y h => ?_) ?_
    · have e77 : a.eval (.tmp 77) = (Value.int .i64 (Rl.ord g e)) := h.of 77 (by kernel_rfl)
      refine opOk_val (v := (Value.int .i64 (Rl.ord g e))) (w' := y) (wanted_none rfl) ?_ (fun t ht => by cases ht; exact rfl) (Below.refl _ _)
      have ec : ∀ v, a.eval (.const v) = v := fun _ => rfl
      generalize a.eval = ev at *
      clear h
      go_simp
    refine AllOps.cons (fun a y h => ?_) ?_
    · have e80 : a.eval (.tmp 80) = (Value.int .i64 (Rl.ord f e)) := h.of 80 (by kernel_rfl)
      refine opOk_val (v := (Value.int .i64 (Rl.ord f e))) (w' := y) (wanted_none rfl) ?_ (fun t ht => by cases ht; exact rfl) (Below.refl _ _)
      have ec : ∀ v, a.eval (.const v) = v := fun _ => rfl
      generalize a.eval = ev at *
      clear h
      go_simp
    exact AllOps.nil

end Go.Proofs.Ytgpaleifhcdjnaa

/- Facts, numbers and truths that came in, read out of memory; and how many there are at most. -/
namespace Go.Proofs.Ytgpaleifhcdjnaa
open Go.RowKit

theorem O_cells3 : Try.prog.cellsOf 3 = 1 := by kernel_rfl
theorem O_cells4 : Try.prog.cellsOf 4 = 1 := by kernel_rfl
theorem O_cells22 : Try.prog.cellsOf 22 = 1 := by kernel_rfl
theorem O_cells49 : Try.prog.cellsOf 49 = 2 := by kernel_rfl

theorem bulk_pos {H : Type} (d : DataW H) : 1 ≤ Rows.uptoBulk d := by
  cases d with
  | lit l => cases l <;> simp [Rows.uptoBulk]
  | nil => simp [Rows.uptoBulk]
  | ptr d => simp [Rows.uptoBulk]
  | slice a b => simp [Rows.uptoBulk]
  | agg a => simp [Rows.uptoBulk]
  | iface t d => simp [Rows.uptoBulk]
  | map m => simp [Rows.uptoBulk]
  | held h => simp [Rows.uptoBulk]
theorem bulk_row {H : Type} (D : Nat → DataW H) : ∀ n : Nat, n ≤ Rows.uptoBulkAll ((List.range n).map D) ∧ ∀ i, i < n → Rows.uptoBulk (D i) ≤ Rows.uptoBulkAll ((List.range n).map D) := by
  have happ : ∀ (l r : List (DataW H)), Rows.uptoBulkAll (l ++ r) = Rows.uptoBulkAll l + Rows.uptoBulkAll r := by
    intro l r
    induction l with
    | nil => simp [Rows.uptoBulkAll]
    | cons x l ih => simp only [List.cons_append, Rows.uptoBulkAll, ih]; omega
  intro n
  induction n with
  | zero => exact ⟨Nat.zero_le _, fun i hi => absurd hi (Nat.not_lt_zero _)⟩
  | succ n ih =>
    rw [List.range_succ, List.map_append, happ]
    have h1 := bulk_pos (D n)
    have h2 : Rows.uptoBulkAll (List.map D [n]) = Rows.uptoBulk (D n) := by simp [Rows.uptoBulkAll]
    rw [h2]
    refine ⟨by omega, fun i hi => ?_⟩
    by_cases hin : i = n
    · subst hin; omega
    · have := ih.2 i (by omega); omega

section
variable {H : Type} {enc : TypeId × Value → H} {w : World} {base : Nat} {spare : Nat → Bool} {held : Bool}

/-- A slice whose elements can be read; how many they are, and how great each is. -/
theorem open_rowB {α : Type} {st e : TypeId} {k : Nat} (ht : Try.prog.underlying st = some (.slice e)) (hk : Try.prog.cellsOf e = k) (hk0 : 0 < k) (d : α) (sz : α → Nat) (In : Nat → Nat → α → Prop)
    (el : ∀ n cs' y b off, cs'.length = k → (∀ j, j < k → w.cell? ⟨b, off + j, none⟩ = cs'[j]?) → DataW.trod enc Try.prog w base spare held n e cs' = some y → ∃ a, In b off a ∧ sz a ≤ Rows.uptoBulk y.1)
    {fuel : Nat} {v : Value} {x : DataW H × List MemPlace} (h : DataW.trod enc Try.prog w base spare held fuel st [v] = some x) :
    ∃ (ao : Option Addr) (l : List α) (cap : Nat), v = .slice ao l.length cap ∧ (l.length ≤ cap ∧ (ao = none → cap = 0)) ∧ l.length ≤ Rows.uptoBulk x.1 ∧ (∀ i, i < l.length → sz (l.getD i d) ≤ Rows.uptoBulk x.1) ∧
      (l = [] ∨ ∃ b off, ao = some ⟨b, off, none⟩ ∧ ∀ i, i < l.length → In b (off + i * k) (l.getD i d)) := by
  haveI : Inhabited α := ⟨d⟩
  rcases Deep.open_slice ht h with ⟨hv, _⟩ | ⟨a, len, cap, m, n, D, Pl, hv, hb, hl, hm, hmm, hx, hel⟩
  · have hv' : v = .slice none 0 0 := by simpa using hv
    exact ⟨none, [], 0, hv', ⟨Nat.le_refl _, fun _ => rfl⟩, Nat.zero_le _, fun i hi => absurd hi (Nat.not_lt_zero _), .inl rfl⟩
  · have hv' : v = .slice (some a) len cap := by simpa using hv
    have hlm : len ≤ m := by rw [hmm]; split <;> omega
    by_cases h0 : len = 0
    · subst h0
      exact ⟨some a, [], cap, hv', ⟨Nat.zero_le _, fun h => by cases h⟩, Nat.zero_le _, fun i hi => absurd hi (Nat.not_lt_zero _), .inl rfl⟩
    · obtain ⟨b, off, spot⟩ := a
      have hspot : spot = none := by
        obtain ⟨cs', h1, _⟩ := hel 0 (by omega)
        rw [hk] at h1
        obtain ⟨_, hlen, hcell⟩ := World.cells?_some h1
        have hc := hcell 0 hk0
        cases hcs : cs'[0]? with
        | none => rw [List.getElem?_eq_none_iff] at hcs; omega
        | some u =>
          rw [hcs] at hc
          simpa [Addr.add] using World.cell?_spot hc
      subst hspot
      have each : ∀ i, i < len → ∃ q : α, In b (off + i * k) q ∧ sz q ≤ Rows.uptoBulk (D i) := by
        intro i hi
        obtain ⟨cs', h1, h2⟩ := hel i (by omega)
        rw [hk] at h1
        obtain ⟨_, hlen, hcell⟩ := World.cells?_some h1
        refine el n cs' _ b (off + i * k) hlen (fun j hj => ?_) h2
        have := hcell j hj
        rw [Deep.add_add, WideShapes.add_plain] at this
        rw [← this, Nat.add_assoc]
      obtain ⟨q, hq⟩ := Deep.choose_lt each
      have hbr := bulk_row D len
      have hxb : Rows.uptoBulkAll ((List.range len).map D) ≤ Rows.uptoBulk x.1 := by rw [hx]; simp only [Rows.uptoBulk]; omega
      have htq : ∀ i, i < len → ((List.range len).map q).getD i d = q i := fun i hi => by
        rw [List.getD_eq_getElem?_getD, List.getElem?_map, List.getElem?_range hi]
        rfl
      refine ⟨some ⟨b, off, none⟩, (List.range len).map q, cap, by rw [hv']; simp, ⟨by simpa using hl, fun h => by cases h⟩, by simp; omega, fun i hi => ?_, .inr ⟨b, off, rfl, fun i hi => ?_⟩⟩
      · have hi' : i < len := by simpa using hi
        rw [htq i hi']
        have h1 := (hq i hi').2
        have h2 := hbr.2 i hi'
        omega
      · have hi' : i < len := by simpa using hi
        rw [htq i hi']
        exact (hq i hi').1

theorem open_struct2 {t : TypeId} {f0 f1 : Field} {fuel : Nat} {cs : List Value} {x : DataW H × List MemPlace} (ht : Try.prog.underlying t = some (.struct #[f0, f1])) (h : DataW.trod enc Try.prog w base spare held fuel t cs = some x) :
    ∃ y0 y1 n, cs.length = Try.prog.cellsOf t ∧ DataW.trod enc Try.prog w base spare held n f0.type ((cs.drop f0.offset).take (Try.prog.cellsOf f0.type)) = some y0 ∧
      DataW.trod enc Try.prog w base spare held n f1.type ((cs.drop f1.offset).take (Try.prog.cellsOf f1.type)) = some y1 ∧ Rows.uptoBulk y1.1 ≤ Rows.uptoBulk x.1 := by
  obtain ⟨xs, n, _, rfl, hl, hlen, hf⟩ := DataW.trod_struct ht h
  match xs, hlen with
  | [y0, y1], _ => exact ⟨y0, y1, n, hl, by simpa using hf 0 f0 rfl, by simpa using hf 1 f1 rfl, by simp [Rows.uptoBulk, Rows.uptoBulkAll]; omega⟩

theorem open_ints {fuel : Nat} {v : Value} {x : DataW H × List MemPlace} (h : DataW.trod enc Try.prog w base spare held fuel 22 [v] = some x) : ∃ l, IntsV w v l ∧ l.length ≤ Rows.uptoBulk x.1 := by
  obtain ⟨ao, l, cap, hv, _, hmx, _, hl⟩ := open_rowB Try.underlying22 O_cells3 (by decide) (0 : Int) (fun _ => 0) (fun b off a => w.cell? ⟨b, off, none⟩ = some (.int .i64 a)) (fun n cs' y b off hlen hc h2 => by
    match cs', hlen with
    | [v0], _ =>
      obtain ⟨k0, e0, _, _⟩ := DataW.trod_int Try.underlying3 h2
      simp at e0
      subst e0
      exact ⟨k0, hc 0 (by decide), Nat.zero_le _⟩) h
  refine ⟨l, ⟨ao, cap, hv, ?_⟩, hmx⟩
  rcases hl with h | ⟨b, off, he, hc⟩
  · exact .inl h
  · exact .inr ⟨b, off, he, fun i hi => by have := hc i hi; rw [Nat.mul_one] at this; exact this⟩
theorem open_bools {fuel : Nat} {v : Value} {x : DataW H × List MemPlace} (h : DataW.trod enc Try.prog w base spare held fuel 30 [v] = some x) : ∃ l, BoolsV w v l ∧ l.length ≤ Rows.uptoBulk x.1 := by
  obtain ⟨ao, l, cap, hv, hcap, hmx, _, hl⟩ := open_rowB Try.underlying30 O_cells4 (by decide) false (fun _ => 0) (fun b off a => w.cell? ⟨b, off, none⟩ = some (.bool a)) (fun n cs' y b off hlen hc h2 => by
    match cs', hlen with
    | [v0], _ =>
      obtain ⟨k0, e0, _⟩ := DataW.trod_bool Try.underlying4 h2
      simp at e0
      subst e0
      exact ⟨k0, hc 0 (by decide), Nat.zero_le _⟩) h
  refine ⟨l, ⟨ao, cap, hv, hcap, ?_⟩, hmx⟩
  rcases hl with h | ⟨b, off, he, hc⟩
  · exact .inl h
  · exact .inr ⟨b, off, he, fun i hi => by have := hc i hi; rw [Nat.mul_one] at this; exact this⟩
theorem open_fact {fuel : Nat} {v0 v1 : Value} {x : DataW H × List MemPlace} (h : DataW.trod enc Try.prog w base spare held fuel 49 [v0, v1] = some x) : ∃ f : Rl.Fc, v0 = .int .i64 f.pred ∧ IntsV w v1 f.args ∧ f.args.length ≤ Rows.uptoBulk x.1 := by
  obtain ⟨y0, y1, n, _, g0, g1, hb⟩ := open_struct2 Try.underlying49 h
  simp [O_cells3, O_cells22] at g0 g1
  obtain ⟨k0, e0, _, _⟩ := DataW.trod_int Try.underlying3 g0
  obtain ⟨l1, hl1, hm1⟩ := open_ints g1
  simp at e0
  exact ⟨⟨k0, l1⟩, e0, hl1, Nat.le_trans hm1 hb⟩
theorem open_facts {fuel : Nat} {v : Value} {x : DataW H × List MemPlace} (h : DataW.trod enc Try.prog w base spare held fuel 47 [v] = some x) : ∃ l, FactsV w v l ∧ l.length ≤ Rows.uptoBulk x.1 ∧ ∀ f, f ∈ l → f.args.length ≤ Rows.uptoBulk x.1 := by
  obtain ⟨ao, l, cap, hv, hcap, hmx, hsz, hl⟩ := open_rowB Try.underlying47 O_cells49 (by decide) (⟨0, []⟩ : Rl.Fc) (fun f => f.args.length) (FactIn w) (fun n cs' y b off hlen hc h2 => by
    match cs', hlen with
    | [v0, v1], _ =>
      obtain ⟨f, e0, hI, hm⟩ := open_fact h2
      exact ⟨f, ⟨by rw [← e0]; exact hc 0 (by decide), v1, hc 1 (by decide), hI⟩, hm⟩) h
  refine ⟨l, ⟨ao, cap, hv, hcap, hl⟩, hmx, fun f hf => ?_⟩
  obtain ⟨i, hi, rfl⟩ := List.getElem_of_mem hf
  have := hsz i hi
  rwa [List.getD_eq_getElem?_getD, List.getElem?_eq_getElem hi] at this
end

end Go.Proofs.Ytgpaleifhcdjnaa

