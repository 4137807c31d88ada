/- Own texts, one behind the other (part 5). -/
import Derived.Test.YtgpaleifhcdjnaaBundleD
import Derived.Test.YtgpaleifhcdjnaaRows
import Derived.ProofKit
import Derived.Deep.Slices
/- The document's MatchOf. -/
namespace Go.Proofs.Ytgpaleifhcdjnaa
open Go.RowKit

/-- The loop over the numbers of one fact. -/
def MkI (f : Rl.Fc) (y : List Int) (z : List Bool) (Pf : Bool) (wo : World) (ok kv : Value) (wr : World) : Prop :=
  ∃ (c : Bool) (n : Nat), n ≤ y.length ∧ ok = .bool c ∧ kv = .int .i64 n ∧ (c && Rl.agree (f.args.drop n) (y.drop n) (z.drop n)) = Pf ∧ (c = true → f.args.length = y.length) ∧ Below wo.heap.size wo wr

set_option maxRecDepth 100000 in
set_option maxHeartbeats 2000000 in
theorem MatchOf_any (l : List Rl.Fc) (pp : Int) (y : List Int) (z : List Bool) (v u t : Value) (w : World) (hV : FactsV w v l) (hU : IntsV w u y) (hT : BoolsV w t z) (hl : l.length ≤ 1048576) (hf : ∀ f, f ∈ l → FFit f) (hy : y.length ≤ 1048576) :
    Calls Try.prog 32 #[v, .int .i64 pp, u, t] w fun e w' => ∃ v', e = .returned v' ∧ FactsV w' v' (Rl.matchL l pp y z) ∧ Below w.heap.size w w' := by
  obtain ⟨i0, hi, hz0, hz1, hz2⟩ := info_parts rl_info49
  obtain ⟨ao, cap, rfl, _, hA⟩ := hV
  obtain ⟨bo, cbp, rfl, hB⟩ := hU
  obtain ⟨zo, czp, rfl, _, hZ⟩ := hT
  have HA : Hid (FactsAt w ao l) := hA
  have HB : Hid (IntsAt w bo y ∧ BoolsAt w zo z) := ⟨hB, hZ⟩
  have HF : Hid (∀ f, f ∈ l → FFit f) := hf
  obtain ⟨P, hP⟩ : ∃ P : Rl.Fc → Bool, P = Rl.fits pp y z := ⟨_, rfl⟩
  have HPE : Hid (P = Rl.fits pp y z) := hP
  clear hA hf hB hZ hP
  go_enter Try.func32, Try.ntmps32
  go_wp2_with fail
  go_loopw [9, 10] (fun vs i wr => ∃ (k : Nat) (q : List Fv), k ≤ l.length ∧ i = .int .i64 k ∧ wr.ownsRow w.heap.size 49 2 vs q.length (q.map fcCells).flatten ∧ q.map (·.1) = (l.take k).filter P ∧ (∀ p, p ∈ q → FvOk w p) ∧ Below w.heap.size w wr ∧ q.length ≤ k) (fun _ i _ => l.length - (intOf i).toNat)
  case atStart => exact ⟨0, [], Nat.zero_le _, rfl, World.ownsRow_nil _ _ _ _, rfl, fun _ hp => absurd hp (by simp), Below.refl _ _, Nat.le_refl _⟩
  case round =>
    obtain ⟨wo, hwo⟩ : ∃ wo, wo = wr := ⟨_, rfl⟩
    subst hwo
    obtain ⟨k, q, hk, rfl, hown, hqf, hqo, hb, hqk⟩ := hrel
    have HQF : Hid _ := hqf
    have HQO : Hid _ := hqo
    clear hqf hqo
    obtain ⟨aos, caps, rfl⟩ := own_slice hown
    by_cases hlt : k < l.length
    · obtain ⟨b, off, rfl, p0, fv, p1, hIv⟩ := facts_at HA.out k hlt
      have hmem := factD_mem l k hlt
      have HTK : Hid ((l.take (k + 1)).filter P = (l.take k).filter P ++ if P (Rl.factD l k) then [Rl.factD l k] else []) := by
        show _ = _
        rw [List.take_add_one, factD_get l k hlt, List.filter_append]
        simp only [Option.toList_some, List.filter_cons, List.filter_nil]
      have HIV : Hid (IntsV w fv (Rl.factD l k).args) := hIv
      have HFF : Hid (FFit (Rl.factD l k)) := HF.out _ hmem
      have HPF : Hid (P (Rl.factD l k) = Rl.fits pp y z (Rl.factD l k)) := by show _ = _; rw [HPE.out]
      obtain ⟨af, cf, rfl, _⟩ := hIv
      have a0 := cell_below hb p0
      have a1 := cell_below hb p1
      have HP0 : Hid (w.cell? ⟨b, off + k * 2, none⟩ = some (.int .i64 (Rl.factD l k).pred) ∧ w.cell? ⟨b, off + k * 2 + 1, none⟩ = some (.slice af (Rl.factD l k).args.length cf)) := ⟨p0, p1⟩
      clear p0 p1 hmem
      generalize Rl.factD l k = f at *
      by_cases hpq : f.pred = pp
      · have hpd : (f.pred == pp) = true := by simp [hpq]
        by_cases hxy : f.args.length = y.length
        · have hxd : ((f.args.length : Int) == (y.length : Int)) = true := by simp [hxy]
          have HX : Hid (f.args.length = y.length ∧ f.pred = pp) := ⟨hxy, hpq⟩
          clear hxy hpq
          go_wp2_with fail
          go_loopw [11, 12] (fun ok kv wr => MkI f y z (P f) wo ok kv wr) (fun _ kv _ => y.length - (intOf kv).toNat)
          case atStart => exact ⟨true, 0, Nat.zero_le _, rfl, rfl, by rw [HPF.out]; unfold Rl.fits; rw [HX.out.1, HX.out.2]; simp, (fun _ => HX.out.1), Below.refl _ _⟩
          case round =>
            obtain ⟨w5, hw5⟩ : ∃ w5, w5 = wr := ⟨_, rfl⟩
            subst hw5
            obtain ⟨c, n, hn, rfl, rfl, hc, hcx, hb5⟩ := hrel
            have HC : Hid _ := hc
            have HCX : Hid _ := hcx
            clear hc hcx
            have hbw1 := hb.trans (hb5.mono hb.size)
            cases c
            · have hp : P f = false := by have h9 := HC.out; rw [Bool.false_and] at h9; exact h9.symm
              have hown1 := ownsRow_below hown hb5
              clear hown hb hb5 HC HCX
              by_cases hny : n < y.length
              · clear hn
                rw [hp, if_neg (by simp)] at HTK
                have HT2 : Hid (q.map (·.1) = (l.take (k + 1)).filter P) := by show _ = _; rw [HTK.out, HQF.out]; simp
                clear HTK HQF hp
                go_wp2_with fail
                go_roundw
                case rel => exact ⟨k + 1, q, by omega, by go_num, hown1, HT2.out, HQO.out, hbw1, by omega⟩
                case measure => simp [intOf]; omega
              · clear hn
                rw [hp, if_neg (by simp)] at HTK
                have HT2 : Hid (q.map (·.1) = (l.take (k + 1)).filter P) := by show _ = _; rw [HTK.out, HQF.out]; simp
                clear HTK HQF hp
                go_wp2_with fail
                go_roundw
                case rel => exact ⟨k + 1, q, by omega, by go_num, hown1, HT2.out, HQO.out, hbw1, by omega⟩
                case measure => simp [intOf]; omega
            · by_cases hny : n < y.length
              · have hnx : n < f.args.length := by rw [HCX.out rfl]; exact hny
                obtain ⟨bx, ox, rfl, p1⟩ := ints_at (intsV_at HIV.out) n hnx
                obtain ⟨by2, oy, rfl, p2⟩ := ints_at HB.out.1 n hny
                have b0 := cell_below hbw1 HP0.out.1
                have b1 := cell_below hbw1 HP0.out.2
                have b2 := cell_below hbw1 p1
                have b3 := cell_below hbw1 p2
                have hbd : Below wo.heap.size wo w5.drew := ⟨hb5.os, hb5.tape, hb5.output, hb5.size, hb5.block⟩
                have hn1 : n + 1 ≤ y.length := hny
                by_cases hnz : n < z.length
                · obtain ⟨bz, oz, rfl, p3⟩ := bools_at HB.out.2 n hnz
                  have b4 := cell_below hbw1 p3
                  have HD := agree_drop f.args y z n hnx hny hnz
                  have HE : Hid (((!Rl.boolD z n || Sc.intD f.args n == Sc.intD y n) && Rl.agree (f.args.drop (n + 1)) (y.drop (n + 1)) (z.drop (n + 1))) = P f) := by
                    have h9 := HC.out
                    rw [Bool.true_and, HD] at h9
                    exact h9
                  have hzd : decide (z.length ≤ n) = false := by simp; omega
                  clear HD p1 p2 p3 HC
                  generalize Sc.intD f.args n = a at *
                  generalize Sc.intD y n = b' at *
                  generalize Rl.boolD z n = c at *
                  cases c
                  · go_upto_region 9 with fail
                    go_region
                    go_wp2_with fail
                    go_roundw
                    case rel => exact ⟨true, n + 1, hn1, rfl, by go_num, HE.out, HCX.out, hbd⟩
                    case measure => simp [intOf]; omega
                  · go_upto_region 9 with fail
                    go_region
                    go_wp2_with fail
                    go_roundw
                    case rel => exact ⟨a == b', n + 1, hn1, rfl, by go_num, HE.out, fun _ => HCX.out rfl, hbd⟩
                    case measure => simp [intOf]; omega
                · have HE : Hid (Rl.agree (f.args.drop (n + 1)) (y.drop (n + 1)) (z.drop (n + 1)) = P f) := by
                    have h9 := HC.out
                    rw [Bool.true_and, show z.drop n = [] from List.drop_of_length_le (by omega), agree_nil] at h9
                    show _ = _
                    rw [show z.drop (n + 1) = [] from List.drop_of_length_le (by omega), agree_nil]
                    exact h9
                  have hzd : decide (z.length ≤ n) = true := by simp; omega
                  clear p1 p2 HC
                  go_upto_region 9 with fail
                  go_region
                  go_wp2_with fail
                  go_roundw
                  case rel => exact ⟨true, n + 1, hn1, rfl, by go_num, by rw [Bool.true_and]; exact HE.out, HCX.out, hbd⟩
                  case measure => simp [intOf]; omega
              · have hp : P f = true := by
                  have h9 := HC.out
                  rw [Bool.true_and, show f.args.drop n = [] from List.drop_of_length_le (by rw [HCX.out rfl]; omega)] at h9
                  rw [← h9]
                  rfl
                have hown1 := ownsRow_below hown hb5
                have hny2 : n = y.length := by omega
                subst hny2
                clear hown hb hb5 HC HCX
                rw [hp, if_pos rfl] at HTK
                have HT2 : Hid ((q ++ [(f, Value.slice af f.args.length cf)]).map (·.1) = (l.take (k + 1)).filter P) := by show _ = _; rw [HTK.out, ← HQF.out]; simp
                have HO2 : Hid (∀ p, p ∈ q ++ [(f, Value.slice af f.args.length cf)] → FvOk w p) := by
                  intro p hp
                  rcases List.mem_append.mp hp with hp | hp
                  · exact HQO.out p hp
                  · obtain rfl : p = (f, Value.slice af f.args.length cf) := by simpa using hp
                    exact ⟨HIV.out, HFF.out⟩
                clear HTK HQF HQO hp
                have b0 := cell_below hbw1 HP0.out.1
                have b1 := cell_below hbw1 HP0.out.2
                have hbsz := hbw1.size
                go_wp2_with (at_builtin; refine wpList_append_own _ rfl _ _ 47 rfl w.heap.size 49 i0 _ 2 32 Try.underlying47 hi hz0 hz1 hz2 rfl (by decide) _ _ _ rfl (hown1.alloc _) ⟨w5.heap.size, 0, none⟩ 1 1 (fcCells (f, .slice af f.args.length cf)) rfl rfl ?c1 ?c2 ?c3 ?c4 ?c5 ?_)
                case c1 => exact news2 w5 _ _ 49
                case c2 => intro u hu; simp [fcCells] at hu; rcases hu with rfl | rfl <;> rfl
                case c3 => unfold maxLen; omega
                case c4 => omega
                case c5 => simp; omega
                intro vs2 w4 hown4 hgrow4 _
                obtain ⟨ao9, cap9, rfl⟩ := own_slice hown4
                have hb5 : Below w.heap.size w w4 := (hbw1.alloc hbw1.size _).grown hgrow4 (by simp; omega) (fun k hk => (hown1.lt k hk).1)
                have hown5 : w4.ownsRow w.heap.size 49 2 (.slice ao9 (q.length + 1) cap9) (q ++ [(f, Value.slice af f.args.length cf)]).length ((q ++ [(f, Value.slice af f.args.length cf)]).map fcCells).flatten := by
                  rw [List.length_append, List.map_append, List.flatten_append]
                  simpa using hown4
                clear hown4 hgrow4 hown1 hbw1 b0 b1
                go_wp2_with fail
                go_roundw
                case rel => exact ⟨k + 1, _, by omega, by go_num, hown5, HT2.out, HO2.out, hb5, by rw [List.length_append]; simp; omega⟩
                case measure => simp [intOf]; omega
        · have hxd : ((f.args.length : Int) == (y.length : Int)) = false := by simp; omega
          have HX : Hid (¬ f.args.length = y.length ∧ f.pred = pp) := ⟨hxy, hpq⟩
          clear hxy hpq
          go_wp2_with fail
          go_loopw [11, 12] (fun ok kv wr => MkI f y z (P f) wo ok kv wr) (fun _ kv _ => y.length - (intOf kv).toNat)
          case atStart => exact ⟨false, 0, Nat.zero_le _, rfl, rfl, by rw [HPF.out]; unfold Rl.fits; rw [beq_false_of_ne HX.out.1]; simp, (fun h => by cases h), Below.refl _ _⟩
          case round =>
            obtain ⟨w5, hw5⟩ : ∃ w5, w5 = wr := ⟨_, rfl⟩
            subst hw5
            obtain ⟨c, n, hn, rfl, rfl, hc, hcx, hb5⟩ := hrel
            have HC : Hid _ := hc
            have HCX : Hid _ := hcx
            clear hc hcx
            have hbw1 := hb.trans (hb5.mono hb.size)
            cases c
            · have hp : P f = false := by have h9 := HC.out; rw [Bool.false_and] at h9; exact h9.symm
              have hown1 := ownsRow_below hown hb5
              clear hown hb hb5 HC HCX
              by_cases hny : n < y.length
              · clear hn
                rw [hp, if_neg (by simp)] at HTK
                have HT2 : Hid (q.map (·.1) = (l.take (k + 1)).filter P) := by show _ = _; rw [HTK.out, HQF.out]; simp
                clear HTK HQF hp
                go_wp2_with fail
                go_roundw
                case rel => exact ⟨k + 1, q, by omega, by go_num, hown1, HT2.out, HQO.out, hbw1, by omega⟩
                case measure => simp [intOf]; omega
              · clear hn
                rw [hp, if_neg (by simp)] at HTK
                have HT2 : Hid (q.map (·.1) = (l.take (k + 1)).filter P) := by show _ = _; rw [HTK.out, HQF.out]; simp
                clear HTK HQF hp
                go_wp2_with fail
                go_roundw
                case rel => exact ⟨k + 1, q, by omega, by go_num, hown1, HT2.out, HQO.out, hbw1, by omega⟩
                case measure => simp [intOf]; omega
            · by_cases hny : n < y.length
              · have hnx : n < f.args.length := by rw [HCX.out rfl]; exact hny
                obtain ⟨bx, ox, rfl, p1⟩ := ints_at (intsV_at HIV.out) n hnx
                obtain ⟨by2, oy, rfl, p2⟩ := ints_at HB.out.1 n hny
                have b0 := cell_below hbw1 HP0.out.1
                have b1 := cell_below hbw1 HP0.out.2
                have b2 := cell_below hbw1 p1
                have b3 := cell_below hbw1 p2
                have hbd : Below wo.heap.size wo w5.drew := ⟨hb5.os, hb5.tape, hb5.output, hb5.size, hb5.block⟩
                have hn1 : n + 1 ≤ y.length := hny
                by_cases hnz : n < z.length
                · obtain ⟨bz, oz, rfl, p3⟩ := bools_at HB.out.2 n hnz
                  have b4 := cell_below hbw1 p3
                  have HD := agree_drop f.args y z n hnx hny hnz
                  have HE : Hid (((!Rl.boolD z n || Sc.intD f.args n == Sc.intD y n) && Rl.agree (f.args.drop (n + 1)) (y.drop (n + 1)) (z.drop (n + 1))) = P f) := by
                    have h9 := HC.out
                    rw [Bool.true_and, HD] at h9
                    exact h9
                  have hzd : decide (z.length ≤ n) = false := by simp; omega
                  clear HD p1 p2 p3 HC
                  generalize Sc.intD f.args n = a at *
                  generalize Sc.intD y n = b' at *
                  generalize Rl.boolD z n = c at *
                  cases c
                  · go_upto_region 9 with fail
                    go_region
                    go_wp2_with fail
                    go_roundw
                    case rel => exact ⟨true, n + 1, hn1, rfl, by go_num, HE.out, HCX.out, hbd⟩
                    case measure => simp [intOf]; omega
                  · go_upto_region 9 with fail
                    go_region
                    go_wp2_with fail
                    go_roundw
                    case rel => exact ⟨a == b', n + 1, hn1, rfl, by go_num, HE.out, fun _ => HCX.out rfl, hbd⟩
                    case measure => simp [intOf]; omega
                · have HE : Hid (Rl.agree (f.args.drop (n + 1)) (y.drop (n + 1)) (z.drop (n + 1)) = P f) := by
                    have h9 := HC.out
                    rw [Bool.true_and, show z.drop n = [] from List.drop_of_length_le (by omega), agree_nil] at h9
                    show _ = _
                    rw [show z.drop (n + 1) = [] from List.drop_of_length_le (by omega), agree_nil]
                    exact h9
                  have hzd : decide (z.length ≤ n) = true := by simp; omega
                  clear p1 p2 HC
                  go_upto_region 9 with fail
                  go_region
                  go_wp2_with fail
                  go_roundw
                  case rel => exact ⟨true, n + 1, hn1, rfl, by go_num, by rw [Bool.true_and]; exact HE.out, HCX.out, hbd⟩
                  case measure => simp [intOf]; omega
              · have hp : P f = true := by
                  have h9 := HC.out
                  rw [Bool.true_and, show f.args.drop n = [] from List.drop_of_length_le (by rw [HCX.out rfl]; omega)] at h9
                  rw [← h9]
                  rfl
                have hown1 := ownsRow_below hown hb5
                have hny2 : n = y.length := by omega
                subst hny2
                clear hown hb hb5 HC HCX
                rw [hp, if_pos rfl] at HTK
                have HT2 : Hid ((q ++ [(f, Value.slice af f.args.length cf)]).map (·.1) = (l.take (k + 1)).filter P) := by show _ = _; rw [HTK.out, ← HQF.out]; simp
                have HO2 : Hid (∀ p, p ∈ q ++ [(f, Value.slice af f.args.length cf)] → FvOk w p) := by
                  intro p hp
                  rcases List.mem_append.mp hp with hp | hp
                  · exact HQO.out p hp
                  · obtain rfl : p = (f, Value.slice af f.args.length cf) := by simpa using hp
                    exact ⟨HIV.out, HFF.out⟩
                clear HTK HQF HQO hp
                have b0 := cell_below hbw1 HP0.out.1
                have b1 := cell_below hbw1 HP0.out.2
                have hbsz := hbw1.size
                go_wp2_with (at_builtin; refine wpList_append_own _ rfl _ _ 47 rfl w.heap.size 49 i0 _ 2 32 Try.underlying47 hi hz0 hz1 hz2 rfl (by decide) _ _ _ rfl (hown1.alloc _) ⟨w5.heap.size, 0, none⟩ 1 1 (fcCells (f, .slice af f.args.length cf)) rfl rfl ?c1 ?c2 ?c3 ?c4 ?c5 ?_)
                case c1 => exact news2 w5 _ _ 49
                case c2 => intro u hu; simp [fcCells] at hu; rcases hu with rfl | rfl <;> rfl
                case c3 => unfold maxLen; omega
                case c4 => omega
                case c5 => simp; omega
                intro vs2 w4 hown4 hgrow4 _
                obtain ⟨ao9, cap9, rfl⟩ := own_slice hown4
                have hb5 : Below w.heap.size w w4 := (hbw1.alloc hbw1.size _).grown hgrow4 (by simp; omega) (fun k hk => (hown1.lt k hk).1)
                have hown5 : w4.ownsRow w.heap.size 49 2 (.slice ao9 (q.length + 1) cap9) (q ++ [(f, Value.slice af f.args.length cf)]).length ((q ++ [(f, Value.slice af f.args.length cf)]).map fcCells).flatten := by
                  rw [List.length_append, List.map_append, List.flatten_append]
                  simpa using hown4
                clear hown4 hgrow4 hown1 hbw1 b0 b1
                go_wp2_with fail
                go_roundw
                case rel => exact ⟨k + 1, _, by omega, by go_num, hown5, HT2.out, HO2.out, hb5, by rw [List.length_append]; simp; omega⟩
                case measure => simp [intOf]; omega
      · have hpd : (f.pred == pp) = false := by simp [hpq]
        have HX : Hid (¬ f.pred = pp) := hpq
        clear hpq
        go_wp2_with fail
        go_loopw [11, 12] (fun ok kv wr => MkI f y z (P f) wo ok kv wr) (fun _ kv _ => y.length - (intOf kv).toNat)
        case atStart => exact ⟨false, 0, Nat.zero_le _, rfl, rfl, by rw [HPF.out]; unfold Rl.fits; rw [beq_false_of_ne HX.out]; simp, (fun h => by cases h), Below.refl _ _⟩
        case round =>
          obtain ⟨w5, hw5⟩ : ∃ w5, w5 = wr := ⟨_, rfl⟩
          subst hw5
          obtain ⟨c, n, hn, rfl, rfl, hc, hcx, hb5⟩ := hrel
          have HC : Hid _ := hc
          have HCX : Hid _ := hcx
          clear hc hcx
          have hbw1 := hb.trans (hb5.mono hb.size)
          cases c
          · have hp : P f = false := by have h9 := HC.out; rw [Bool.false_and] at h9; exact h9.symm
            have hown1 := ownsRow_below hown hb5
            clear hown hb hb5 HC HCX
            by_cases hny : n < y.length
            · clear hn
              rw [hp, if_neg (by simp)] at HTK
              have HT2 : Hid (q.map (·.1) = (l.take (k + 1)).filter P) := by show _ = _; rw [HTK.out, HQF.out]; simp
              clear HTK HQF hp
              go_wp2_with fail
              go_roundw
              case rel => exact ⟨k + 1, q, by omega, by go_num, hown1, HT2.out, HQO.out, hbw1, by omega⟩
              case measure => simp [intOf]; omega
            · clear hn
              rw [hp, if_neg (by simp)] at HTK
              have HT2 : Hid (q.map (·.1) = (l.take (k + 1)).filter P) := by show _ = _; rw [HTK.out, HQF.out]; simp
              clear HTK HQF hp
              go_wp2_with fail
              go_roundw
              case rel => exact ⟨k + 1, q, by omega, by go_num, hown1, HT2.out, HQO.out, hbw1, by omega⟩
              case measure => simp [intOf]; omega
          · by_cases hny : n < y.length
            · have hnx : n < f.args.length := by rw [HCX.out rfl]; exact hny
              obtain ⟨bx, ox, rfl, p1⟩ := ints_at (intsV_at HIV.out) n hnx
              obtain ⟨by2, oy, rfl, p2⟩ := ints_at HB.out.1 n hny
              have b0 := cell_below hbw1 HP0.out.1
              have b1 := cell_below hbw1 HP0.out.2
              have b2 := cell_below hbw1 p1
              have b3 := cell_below hbw1 p2
              have hbd : Below wo.heap.size wo w5.drew := ⟨hb5.os, hb5.tape, hb5.output, hb5.size, hb5.block⟩
              have hn1 : n + 1 ≤ y.length := hny
              by_cases hnz : n < z.length
              · obtain ⟨bz, oz, rfl, p3⟩ := bools_at HB.out.2 n hnz
                have b4 := cell_below hbw1 p3
                have HD := agree_drop f.args y z n hnx hny hnz
                have HE : Hid (((!Rl.boolD z n || Sc.intD f.args n == Sc.intD y n) && Rl.agree (f.args.drop (n + 1)) (y.drop (n + 1)) (z.drop (n + 1))) = P f) := by
                  have h9 := HC.out
                  rw [Bool.true_and, HD] at h9
                  exact h9
                have hzd : decide (z.length ≤ n) = false := by simp; omega
                clear HD p1 p2 p3 HC
                generalize Sc.intD f.args n = a at *
                generalize Sc.intD y n = b' at *
                generalize Rl.boolD z n = c at *
                cases c
                · go_upto_region 9 with fail
                  go_region
                  go_wp2_with fail
                  go_roundw
                  case rel => exact ⟨true, n + 1, hn1, rfl, by go_num, HE.out, HCX.out, hbd⟩
                  case measure => simp [intOf]; omega
                · go_upto_region 9 with fail
                  go_region
                  go_wp2_with fail
                  go_roundw
                  case rel => exact ⟨a == b', n + 1, hn1, rfl, by go_num, HE.out, fun _ => HCX.out rfl, hbd⟩
                  case measure => simp [intOf]; omega
              · have HE : Hid (Rl.agree (f.args.drop (n + 1)) (y.drop (n + 1)) (z.drop (n + 1)) = P f) := by
                  have h9 := HC.out
                  rw [Bool.true_and, show z.drop n = [] from List.drop_of_length_le (by omega), agree_nil] at h9
                  show _ = _
                  rw [show z.drop (n + 1) = [] from List.drop_of_length_le (by omega), agree_nil]
                  exact h9
                have hzd : decide (z.length ≤ n) = true := by simp; omega
                clear p1 p2 HC
                go_upto_region 9 with fail
                go_region
                go_wp2_with fail
                go_roundw
                case rel => exact ⟨true, n + 1, hn1, rfl, by go_num, by rw [Bool.true_and]; exact HE.out, HCX.out, hbd⟩
                case measure => simp [intOf]; omega
            · have hp : P f = true := by
                have h9 := HC.out
                rw [Bool.true_and, show f.args.drop n = [] from List.drop_of_length_le (by rw [HCX.out rfl]; omega)] at h9
                rw [← h9]
                rfl
              have hown1 := ownsRow_below hown hb5
              have hny2 : n = y.length := by omega
              subst hny2
              clear hown hb hb5 HC HCX
              rw [hp, if_pos rfl] at HTK
              have HT2 : Hid ((q ++ [(f, Value.slice af f.args.length cf)]).map (·.1) = (l.take (k + 1)).filter P) := by show _ = _; rw [HTK.out, ← HQF.out]; simp
              have HO2 : Hid (∀ p, p ∈ q ++ [(f, Value.slice af f.args.length cf)] → FvOk w p) := by
                intro p hp
                rcases List.mem_append.mp hp with hp | hp
                · exact HQO.out p hp
                · obtain rfl : p = (f, Value.slice af f.args.length cf) := by simpa using hp
                  exact ⟨HIV.out, HFF.out⟩
              clear HTK HQF HQO hp
              have b0 := cell_below hbw1 HP0.out.1
              have b1 := cell_below hbw1 HP0.out.2
              have hbsz := hbw1.size
              go_wp2_with (at_builtin; refine wpList_append_own _ rfl _ _ 47 rfl w.heap.size 49 i0 _ 2 32 Try.underlying47 hi hz0 hz1 hz2 rfl (by decide) _ _ _ rfl (hown1.alloc _) ⟨w5.heap.size, 0, none⟩ 1 1 (fcCells (f, .slice af f.args.length cf)) rfl rfl ?c1 ?c2 ?c3 ?c4 ?c5 ?_)
              case c1 => exact news2 w5 _ _ 49
              case c2 => intro u hu; simp [fcCells] at hu; rcases hu with rfl | rfl <;> rfl
              case c3 => unfold maxLen; omega
              case c4 => omega
              case c5 => simp; omega
              intro vs2 w4 hown4 hgrow4 _
              obtain ⟨ao9, cap9, rfl⟩ := own_slice hown4
              have hb5 : Below w.heap.size w w4 := (hbw1.alloc hbw1.size _).grown hgrow4 (by simp; omega) (fun k hk => (hown1.lt k hk).1)
              have hown5 : w4.ownsRow w.heap.size 49 2 (.slice ao9 (q.length + 1) cap9) (q ++ [(f, Value.slice af f.args.length cf)]).length ((q ++ [(f, Value.slice af f.args.length cf)]).map fcCells).flatten := by
                rw [List.length_append, List.map_append, List.flatten_append]
                simpa using hown4
              clear hown4 hgrow4 hown1 hbw1 b0 b1
              go_wp2_with fail
              go_roundw
              case rel => exact ⟨k + 1, _, by omega, by go_num, hown5, HT2.out, HO2.out, hb5, by rw [List.length_append]; simp; omega⟩
              case measure => simp [intOf]; omega
    · have HQF2 : Hid (q.map (·.1) = l.filter P) := by show _ = _; rw [HQF.out, List.take_of_length_le (by omega)]
      have HFV : Hid (FactsV wo (.slice aos q.length caps) (l.filter P) ∧ (l.filter P).length ≤ 2097152 ∧ ∀ f, f ∈ l.filter P → FFit f) := by
        refine ⟨?_, by have := List.length_filter_le P l; omega, fun f hf => HF.out f (List.mem_filter.mp hf).1⟩
        rw [← HQF2.out]
        exact own_factsV hown HQO.out hb
      have HM : Hid (Rl.set (l.filter P) = Rl.matchL l pp y z) := by show _ = _; rw [HPE.out]; rfl
      clear HQF HQF2 hown HQO
      go_wp2_with fail
      refine Calls.mono (SetOf_any (l.filter P) _ _ HFV.out.1 HFV.out.2.1 HFV.out.2.2) ?_
      rintro e w3 ⟨v3, rfl, hS, hb3⟩
      obtain ⟨q3, _, hown3, _⟩ := id hS
      obtain ⟨a3, c3, rfl⟩ := own_slice hown3
      have HS : Hid (FactsV w3 (.slice a3 q3.length c3) (Rl.matchL l pp y z)) := by rw [← HM.out]; exact hS.toV hb3
      have hb4 := hb.trans (hb3.mono hb.size)
      clear hown3 hS hb3 HFV HM
      go_wp2_with fail
      go_ret
      exact ⟨_, rfl, HS.out, hb4⟩

end Go.Proofs.Ytgpaleifhcdjnaa

/- The law RelationTells, walked. -/
namespace Go.Proofs.Ytgpaleifhcdjnaa
open Go.RowKit

theorem union_length (l m : List Rl.Fc) : (Rl.union l m).length ≤ l.length + m.length := by
  have := set_length (l ++ m)
  rw [List.length_append] at this
  exact this
theorem minus_length (l m : List Rl.Fc) : (Rl.minus l m).length ≤ l.length := Nat.le_trans (set_length _) (List.length_filter_le _ _)
theorem match_length (l : List Rl.Fc) (p : Int) (y : List Int) (z : List Bool) : (Rl.matchL l p y z).length ≤ l.length := Nat.le_trans (set_length _) (List.length_filter_le _ _)
theorem mem_union {l m : List Rl.Fc} {x : Rl.Fc} : x ∈ Rl.union l m ↔ x ∈ l ∨ x ∈ m := by unfold Rl.union; rw [Rl.mem_set, List.mem_append]
theorem mem_minus {l m : List Rl.Fc} {x : Rl.Fc} : x ∈ Rl.minus l m ↔ x ∈ l ∧ x ∉ m := by
  unfold Rl.minus
  rw [Rl.mem_set, List.mem_filter]
  refine and_congr_right fun _ => ?_
  rw [← Rl.has_iff]
  simp
theorem mem_match {l : List Rl.Fc} {p : Int} {y : List Int} {z : List Bool} {x : Rl.Fc} (h : x ∈ Rl.matchL l p y z) : x ∈ l := by
  unfold Rl.matchL at h
  rw [Rl.mem_set, List.mem_filter] at h
  exact h.1

/-- What came in, and how much of it. -/
structure TellsIn (w : World) (VL VM Sf VY VZ : Value) (l m : List Rl.Fc) (f : Rl.Fc) (pp : Int) (y0 : List Int) (z0 : List Bool) : Prop where
  hL : FactsV w VL l
  hM : FactsV w VM m
  hF : IntsV w Sf f.args
  hY : IntsV w VY y0
  hZ : BoolsV w VZ z0
  ll : l.length ≤ 1048576
  lm : m.length ≤ 1048576
  ly : y0.length ≤ 1048576
  lz : z0.length ≤ 1048576
  fl : ∀ f, f ∈ l → f.args.length ≤ 1048576
  fm : ∀ f, f ∈ m → f.args.length ≤ 1048576
  lf : f.args.length ≤ 1048576
namespace TellsIn
variable {w : World} {VL VM Sf VY VZ : Value} {l m : List Rl.Fc} {f : Rl.Fc} {pp : Int} {y0 : List Int} {z0 : List Bool}
theorem ff (h : TellsIn w VL VM Sf VY VZ l m f pp y0 z0) : FFit f := Nat.le_trans h.lf (by decide)
theorem fy (h : TellsIn w VL VM Sf VY VZ l m f pp y0 z0) : FFit ⟨pp, y0⟩ := Nat.le_trans h.ly (by decide)
theorem gl (h : TellsIn w VL VM Sf VY VZ l m f pp y0 z0) : ∀ f, f ∈ l → FFit f := fun f hf => Nat.le_trans (h.fl f hf) (by decide)
theorem gm (h : TellsIn w VL VM Sf VY VZ l m f pp y0 z0) : ∀ f, f ∈ m → FFit f := fun f hf => Nat.le_trans (h.fm f hf) (by decide)
theorem s1 (h : TellsIn w VL VM Sf VY VZ l m f pp y0 z0) : (Rl.set l).length ≤ 9223372036854775807 := by have := set_length l; have := h.ll; omega
theorem s2 (h : TellsIn w VL VM Sf VY VZ l m f pp y0 z0) : (Rl.union l m).length ≤ 9223372036854775807 := by have := union_length l m; have := h.ll; have := h.lm; omega
theorem s3 (h : TellsIn w VL VM Sf VY VZ l m f pp y0 z0) : (Rl.minus l m).length ≤ 9223372036854775807 := by have := minus_length l m; have := h.ll; omega
theorem s4 (h : TellsIn w VL VM Sf VY VZ l m f pp y0 z0) : (Rl.matchL l pp y0 z0).length ≤ 9223372036854775807 := by have := match_length l pp y0 z0; have := h.ll; omega
theorem g1 (h : TellsIn w VL VM Sf VY VZ l m f pp y0 z0) : ∀ f, f ∈ Rl.set l → FFit f := fun f hf => h.gl f (Rl.mem_set.mp hf)
theorem g2 (h : TellsIn w VL VM Sf VY VZ l m f pp y0 z0) : ∀ f, f ∈ Rl.union l m → FFit f := fun f hf => (mem_union.mp hf).elim (h.gl f) (h.gm f)
theorem g3 (h : TellsIn w VL VM Sf VY VZ l m f pp y0 z0) : ∀ f, f ∈ Rl.minus l m → FFit f := fun f hf => h.gl f (mem_minus.mp hf).1
theorem g4 (h : TellsIn w VL VM Sf VY VZ l m f pp y0 z0) : ∀ f, f ∈ Rl.matchL l pp y0 z0 → FFit f := fun f hf => h.gl f (mem_match hf)
theorem go {w' : World} (h : TellsIn w VL VM Sf VY VZ l m f pp y0 z0) (hb : Below w.heap.size w w') : TellsIn w' VL VM Sf VY VZ l m f pp y0 z0 :=
  ⟨factsV_below h.hL hb, factsV_below h.hM hb, intsV_below h.hF hb, intsV_below h.hY hb, boolsV_below h.hZ hb, h.ll, h.lm, h.ly, h.lz, h.fl, h.fm, h.lf⟩
end TellsIn

/-- What the temporaries hold. -/
def tellsKd (VL VM Sf VY VZ : Value) (l m : List Rl.Fc) (f : Rl.Fc) (pp : Int) (y0 : List Int) (z0 : List Bool) : Nat → Kd
  | 19 => .val (fcVal f.pred Sf)
  | 20 => .val (fcVal pp VY)
  | 21 => .val (Value.int .i64 (Rl.ord f ⟨pp, y0⟩))
  | 22 => .val (fcVal f.pred Sf)
  | 23 => .val (fcVal pp VY)
  | 24 => .val (Value.int .i64 (Rl.ord f ⟨pp, y0⟩))
  | 28 => .val VL
  | 29 => .facts (Rl.set l)
  | 30 => .val VL
  | 31 => .facts (Rl.set l)
  | 35 => .val VL
  | 36 => .val (fcVal f.pred Sf)
  | 37 => .val (Value.bool (Rl.has l f))
  | 38 => .val VL
  | 39 => .val (fcVal f.pred Sf)
  | 40 => .val (Value.bool (Rl.has l f))
  | 44 => .val VL
  | 45 => .val VM
  | 46 => .facts (Rl.union l m)
  | 47 => .val VL
  | 48 => .val VM
  | 49 => .facts (Rl.union l m)
  | 53 => .val VL
  | 54 => .val VM
  | 55 => .facts (Rl.minus l m)
  | 56 => .val VL
  | 57 => .val VM
  | 58 => .facts (Rl.minus l m)
  | 62 => .val VL
  | 63 => .val (Value.int .i64 pp)
  | 64 => .val VY
  | 65 => .val VZ
  | 66 => .facts (Rl.matchL l pp y0 z0)
  | 67 => .val VL
  | 68 => .val (Value.int .i64 pp)
  | 69 => .val VY
  | 70 => .val VZ
  | 71 => .facts (Rl.matchL l pp y0 z0)
  | _ => .val (.bool true)

set_option maxRecDepth 100000 in
set_option maxHeartbeats 4000000 in
theorem relationTells_walk (VL VM Sf VY VZ : Value) (l m : List Rl.Fc) (f : Rl.Fc) (pp : Int) (y0 : List Int) (z0 : List Bool) (w : World) (H : TellsIn w VL VM Sf VY VZ l m f pp y0 z0) :
    Calls Try.prog 5 #[VL, VM, fcVal f.pred Sf, .int .i64 pp, VY, VZ] w fun e w' => e = .returned (.bool true) ∧ Below w.heap.size w w' := by
  obtain ⟨ya, yc, hVY, _⟩ := H.hY
  obtain ⟨sa, sc, hSf, _⟩ := H.hF
  subst hVY hSf
  have hb1 := new_below w (.cells #[.int .i64 f.pred, .slice sa f.args.length sc] 49)
  have hb2 := new_below (w.alloc (.cells #[.int .i64 f.pred, .slice sa f.args.length sc] 49)) (.cells #[.int .i64 pp, .slice ya y0.length yc] 49)
  have d0 : ((w.alloc (.cells #[.int .i64 f.pred, .slice sa f.args.length sc] 49)).alloc (.cells #[.int .i64 pp, .slice ya y0.length yc] 49)).cell? ⟨w.heap.size, 0, none⟩ = some (.int .i64 f.pred) := cell_below hb2 (by rw [Lib.cell_of_heap (rl_new w _)]; rfl)
  have d1 : ((w.alloc (.cells #[.int .i64 f.pred, .slice sa f.args.length sc] 49)).alloc (.cells #[.int .i64 pp, .slice ya y0.length yc] 49)).cell? ⟨w.heap.size, 1, none⟩ = some (.slice sa f.args.length sc) := cell_below hb2 (by rw [Lib.cell_of_heap (rl_new w _)]; rfl)
  have hs1 : (w.alloc (.cells #[.int .i64 f.pred, .slice sa f.args.length sc] 49)).heap.size = w.heap.size + 1 := by show (w.heap.push _).size = _; simp
  have d2 : ((w.alloc (.cells #[.int .i64 f.pred, .slice sa f.args.length sc] 49)).alloc (.cells #[.int .i64 pp, .slice ya y0.length yc] 49)).cell? ⟨w.heap.size + 1, 0, none⟩ = some (.int .i64 pp) := by rw [← hs1, Lib.cell_of_heap (rl_new _ _)]; rfl
  have d3 : ((w.alloc (.cells #[.int .i64 f.pred, .slice sa f.args.length sc] 49)).alloc (.cells #[.int .i64 pp, .slice ya y0.length yc] 49)).cell? ⟨w.heap.size + 1, 1, none⟩ = some (.slice ya y0.length yc) := by rw [← hs1, Lib.cell_of_heap (rl_new _ _)]; rfl
  have HV0 : Hid (TellsIn ((w.alloc (.cells #[.int .i64 f.pred, .slice sa f.args.length sc] 49)).alloc (.cells #[.int .i64 pp, .slice ya y0.length yc] 49)) VL VM (.slice sa f.args.length sc) (.slice ya y0.length yc) VZ l m f pp y0 z0) := (H.go hb1).go hb2
  have HB : Hid (Below w.heap.size w ((w.alloc (.cells #[.int .i64 f.pred, .slice sa f.args.length sc] 49)).alloc (.cells #[.int .i64 pp, .slice ya y0.length yc] 49))) := hb1.trans (hb2.mono hb1.size)
  obtain ⟨D, hD⟩ : ∃ D : Prop, D = (((w.alloc (.cells #[.int .i64 f.pred, .slice sa f.args.length sc] 49)).alloc (.cells #[.int .i64 pp, .slice ya y0.length yc] 49)).cell? ⟨w.heap.size, 0, none⟩ = some (.int .i64 f.pred) ∧ ((w.alloc (.cells #[.int .i64 f.pred, .slice sa f.args.length sc] 49)).alloc (.cells #[.int .i64 pp, .slice ya y0.length yc] 49)).cell? ⟨w.heap.size, 1, none⟩ = some (.slice sa f.args.length sc) ∧ ((w.alloc (.cells #[.int .i64 f.pred, .slice sa f.args.length sc] 49)).alloc (.cells #[.int .i64 pp, .slice ya y0.length yc] 49)).cell? ⟨w.heap.size + 1, 0, none⟩ = some (.int .i64 pp) ∧ ((w.alloc (.cells #[.int .i64 f.pred, .slice sa f.args.length sc] 49)).alloc (.cells #[.int .i64 pp, .slice ya y0.length yc] 49)).cell? ⟨w.heap.size + 1, 1, none⟩ = some (.slice ya y0.length yc)) := ⟨_, rfl⟩
  have HD : Hid D := by show D; rw [hD]; exact ⟨d0, d1, d2, d3⟩
  clear d0 d1 d2 d3 hb1 hb2 hs1 H
  go_enter Try.func5, Try.ntmps5
  go_upto_region 2 with fail
  rw [hD] at HD
  clear hD
  obtain ⟨d0, d1, d2, d3⟩ := HD.out
  have HV := HV0.out
  clear HV0 HD
  generalize ((w.alloc (.cells #[.int .i64 f.pred, .slice sa f.args.length sc] 49)).alloc (.cells #[.int .i64 pp, .slice ya y0.length yc] 49)) = w3 at *
  generalize Value.slice sa f.args.length sc = Sf at *
  generalize Value.slice ya y0.length yc = VY at *
  obtain ⟨k, hk⟩ : ∃ k, k = w.heap.size := ⟨_, rfl⟩
  rw [← hk] at d0 d1 d2 d3
  refine wp_region_tabA (fun t v y => (tellsKd VL VM Sf VY VZ l m f pp y0 z0 t).ok v y) (by kernel_rfl) (by kernel_rfl) (fun t v y y' hb h => Kd.mono _ v y y' hb h) ?hop ?hend
  case hend =>
    intro a y hb hd hs hst hT
    have h0 : a.tmps.getD 12 undef = .bool true := ends_at (t := 12) hT (by kernel_rfl)
    simp only [Exit.then]
    refine (by assumption : ∀ (a : Act) (w : World), Code.wp Try.prog Code.ret _ a w → _) _ _ ?_
    refine wp_ret ?_
    rw [Array.getD_eq_getD_getElem?] at h0
    refine bodyPost_ret (v := .bool true) (by simp [results, Try.results5, go_sem, h0]) (by rw [hd]) ⟨rfl, HB.out.trans (hb.mono HB.out.size)⟩
  clear HB
  subst hk
  refine AllOps.cons (fun a y h => ?_) ?_
  · refine opOk_call (f := 19) (args := #[]) (wanted_none rfl) ?_ ?_
    · have ec : ∀ v, a.eval (.const v) = v := fun _ => rfl
      have ef : ∀ f, a.eval (.func f) = .func (.func f) #[] #[] := fun _ => rfl
      generalize a.eval = ev at *
      clear h
      go_simp
    · refine (relationBegun_any y).mono ?_
      rintro e y2 ⟨rfl, hg⟩
      exact ⟨_, rfl, fun t ht => by cases ht; exact rfl, hg⟩
  refine AllOps.cons (fun a y h => ?_) ?_
  · have e17 : a.eval (.tmp 17) = (Value.bool true) := h.of 17 (by kernel_rfl)
    refine opOk_val (v := (Value.bool true)) (w' := y) (wanted_none rfl) ?_ (fun t ht => by cases ht; exact rfl) (Below.refl _ _)
    have ec : ∀ v, a.eval (.const v) = v := fun _ => rfl
    generalize a.eval = ev at *
    clear h
    go_simp
  refine AllOps.cons (fun a y h => ?_) ?_
  · have e8 : a.eval (.tmp 8) = (Value.pointer (some ⟨w.heap.size, 0, none⟩)) := h.old 8 (by kernel_rfl)
    have c0 := cell_below h.below d0
    have c1 := cell_below h.below d1
    refine opOk_val (v := (fcVal f.pred Sf)) (w' := y) (wanted_some (j := 1) (t := 18) (b := true) rfl rfl rfl (h.of 18 (by kernel_rfl))) ?_ (fun t ht => by cases ht; exact rfl) (Below.refl _ _)
    have ec : ∀ v, a.eval (.const v) = v := fun _ => rfl
    generalize a.eval = ev at *
    clear h
    go_simp
  refine AllOps.cons (fun a y h => ?_) ?_
  · have e13 : a.eval (.tmp 13) = (Value.pointer (some ⟨w.heap.size + 1, 0, none⟩)) := h.old 13 (by kernel_rfl)
    have c0 := cell_below h.below d2
    have c1 := cell_below h.below d3
    refine opOk_val (v := (fcVal pp VY)) (w' := y) (wanted_some (j := 1) (t := 18) (b := true) rfl rfl rfl (h.of 18 (by kernel_rfl))) ?_ (fun t ht => by cases ht; exact rfl) (Below.refl _ _)
    have ec : ∀ v, a.eval (.const v) = v := fun _ => rfl
    generalize a.eval = ev at *
    clear h
    go_simp
  refine AllOps.cons (fun a y h => ?_) ?_
  · have e19 : a.eval (.tmp 19) = (fcVal f.pred Sf) := h.of 19 (by kernel_rfl)
    have e20 : a.eval (.tmp 20) = (fcVal pp VY) := h.of 20 (by kernel_rfl)
    refine opOk_call (f := 20) (args := #[(fcVal f.pred Sf), (fcVal pp VY)]) (wanted_some (j := 1) (t := 18) (b := true) rfl rfl rfl (h.of 18 (by kernel_rfl))) ?_ ?_
    · have ec : ∀ v, a.eval (.const v) = v := fun _ => rfl
      have ef : ∀ f, a.eval (.func f) = .func (.func f) #[] #[] := fun _ => rfl
      generalize a.eval = ev at *
      clear h
      go_simp
    · refine (Order_any f ⟨pp, y0⟩ _ _ y (intsV_below HV.hF h.below) (intsV_below HV.hY h.below) HV.ff HV.fy).mono ?_
      rintro e y2 ⟨rfl, hg⟩
      exact ⟨_, rfl, fun t ht => by cases ht; exact rfl, hg.below⟩
  refine AllOps.cons (fun a y h => ?_) ?_
  · have e8 : a.eval (.tmp 8) = (Value.pointer (some ⟨w.heap.size, 0, none⟩)) := h.old 8 (by kernel_rfl)
    have c0 := cell_below h.below d0
    have c1 := cell_below h.below d1
    refine opOk_val (v := (fcVal f.pred Sf)) (w' := y) (wanted_some (j := 1) (t := 18) (b := true) rfl rfl rfl (h.of 18 (by kernel_rfl))) ?_ (fun t ht => by cases ht; exact rfl) (Below.refl _ _)
    have ec : ∀ v, a.eval (.const v) = v := fun _ => rfl
    generalize a.eval = ev at *
    clear h
    go_simp
  refine AllOps.cons (fun a y h => ?_) ?_
  · have e13 : a.eval (.tmp 13) = (Value.pointer (some ⟨w.heap.size + 1, 0, none⟩)) := h.old 13 (by kernel_rfl)
    have c0 := cell_below h.below d2
    have c1 := cell_below h.below d3
    refine opOk_val (v := (fcVal pp VY)) (w' := y) (wanted_some (j := 1) (t := 18) (b := true) rfl rfl rfl (h.of 18 (by kernel_rfl))) ?_ (fun t ht => by cases ht; exact rfl) (Below.refl _ _)
    have ec : ∀ v, a.eval (.const v) = v := fun _ => rfl
    generalize a.eval = ev at *
    clear h
    go_simp
  refine AllOps.cons (fun a y h => ?_) ?_
  · have e22 : a.eval (.tmp 22) = (fcVal f.pred Sf) := h.of 22 (by kernel_rfl)
    have e23 : a.eval (.tmp 23) = (fcVal pp VY) := h.of 23 (by kernel_rfl)
    refine opOk_call (f := 21) (args := #[(fcVal f.pred Sf), (fcVal pp VY)]) (wanted_some (j := 1) (t := 18) (b := true) rfl rfl rfl (h.of 18 (by kernel_rfl))) ?_ ?_
    · have ec : ∀ v, a.eval (.const v) = v := fun _ => rfl
      have ef : ∀ f, a.eval (.func f) = .func (.func f) #[] #[] := fun _ => rfl
      generalize a.eval = ev at *
      clear h
      go_simp
    · refine (OrderOf_any f ⟨pp, y0⟩ _ _ y (intsV_below HV.hF h.below) (intsV_below HV.hY h.below) HV.ff HV.fy).mono ?_
      rintro e y2 ⟨rfl, hg⟩
      exact ⟨_, rfl, fun t ht => by cases ht; exact rfl, hg⟩
  refine AllOps.cons (fun a y h => ?_) ?_
  · have e21 : a.eval (.tmp 21) = (Value.int .i64 (Rl.ord f ⟨pp, y0⟩)) := h.of 21 (by kernel_rfl)
    have e24 : a.eval (.tmp 24) = (Value.int .i64 (Rl.ord f ⟨pp, y0⟩)) := h.of 24 (by kernel_rfl)
    refine opOk_val (v := (Value.bool true)) (w' := y) (wanted_some (j := 1) (t := 18) (b := true) rfl rfl rfl (h.of 18 (by kernel_rfl))) ?_ (fun t ht => by cases ht; exact rfl) (Below.refl _ _)
    have ec : ∀ v, a.eval (.const v) = v := fun _ => rfl
    generalize a.eval = ev at *
    clear h
    go_simp
  refine AllOps.cons (fun a y h => ?_) ?_
  · have e18 : a.eval (.tmp 18) = (Value.bool true) := h.of 18 (by kernel_rfl)
    have e25 : a.eval (.tmp 25) = (Value.bool true) := h.of 25 (by kernel_rfl)
    refine opOk_val (v := (Value.bool true)) (w' := y) (wanted_none rfl) ?_ (fun t ht => by cases ht; exact rfl) (Below.refl _ _)
    have ec : ∀ v, a.eval (.const v) = v := fun _ => rfl
    generalize a.eval = ev at *
    clear h
    go_simp
  refine AllOps.cons (fun a y h => ?_) ?_
  · have e26 : a.eval (.tmp 26) = (Value.bool true) := h.of 26 (by kernel_rfl)
    refine opOk_val (v := (Value.bool true)) (w' := y) (wanted_none rfl) ?_ (fun t ht => by cases ht; exact rfl) (Below.refl _ _)
    have ec : ∀ v, a.eval (.const v) = v := fun _ => rfl
    generalize a.eval = ev at *
    clear h
    go_simp
  refine AllOps.cons (fun a y h => ?_) ?_
  · have e0 : a.eval (.tmp 0) = VL := h.old 0 (by kernel_rfl)
    refine opOk_val (v := VL) (w' := y) (wanted_some (j := 10) (t := 27) (b := true) rfl rfl rfl (h.of 27 (by kernel_rfl))) ?_ (fun t ht => by cases ht; exact rfl) (Below.refl _ _)
    have ec : ∀ v, a.eval (.const v) = v := fun _ => rfl
    generalize a.eval = ev at *
    clear h
    go_simp
  refine AllOps.cons (fun a y h => ?_) ?_
  · have e28 : a.eval (.tmp 28) = VL := h.of 28 (by kernel_rfl)
    refine opOk_call (f := 23) (args := #[VL]) (wanted_some (j := 10) (t := 27) (b := true) rfl rfl rfl (h.of 27 (by kernel_rfl))) ?_ ?_
    · have ec : ∀ v, a.eval (.const v) = v := fun _ => rfl
      have ef : ∀ f, a.eval (.func f) = .func (.func f) #[] #[] := fun _ => rfl
      generalize a.eval = ev at *
      clear h
      go_simp
    · refine (Set_any l VL y (factsV_below HV.hL h.below) (Nat.le_trans HV.ll (by decide)) HV.fl).mono ?_
      rintro e y2 ⟨v, rfl, hv, hg⟩
      exact ⟨v, rfl, fun t ht => by cases ht; exact hv.toV, hg⟩
  refine AllOps.cons (fun a y h => ?_) ?_
  · have e0 : a.eval (.tmp 0) = VL := h.old 0 (by kernel_rfl)
    refine opOk_val (v := VL) (w' := y) (wanted_some (j := 10) (t := 27) (b := true) rfl rfl rfl (h.of 27 (by kernel_rfl))) ?_ (fun t ht => by cases ht; exact rfl) (Below.refl _ _)
    have ec : ∀ v, a.eval (.const v) = v := fun _ => rfl
    generalize a.eval = ev at *
    clear h
    go_simp
  refine AllOps.cons (fun a y h => ?_) ?_
  · have e30 : a.eval (.tmp 30) = VL := h.of 30 (by kernel_rfl)
    refine opOk_call (f := 24) (args := #[VL]) (wanted_some (j := 10) (t := 27) (b := true) rfl rfl rfl (h.of 27 (by kernel_rfl))) ?_ ?_
    · have ec : ∀ v, a.eval (.const v) = v := fun _ => rfl
      have ef : ∀ f, a.eval (.func f) = .func (.func f) #[] #[] := fun _ => rfl
      generalize a.eval = ev at *
      clear h
      go_simp
    · refine (SetOf_any l VL y (factsV_below HV.hL h.below) (Nat.le_trans HV.ll (by decide)) HV.gl).mono ?_
      rintro e y2 ⟨v, rfl, hv, hg⟩
      exact ⟨v, rfl, fun t ht => by cases ht; exact hv.toV hg, hg⟩
  refine AllOps.cons (fun a y h => ?_) ?_
  · have t29 : FactsV y (a.eval (.tmp 29)) (Rl.set l) := h.of 29 (by kernel_rfl)
    obtain ⟨u29, e29⟩ : ∃ u, a.eval (.tmp 29) = u := ⟨_, rfl⟩
    rw [e29] at t29
    have t31 : FactsV y (a.eval (.tmp 31)) (Rl.set l) := h.of 31 (by kernel_rfl)
    obtain ⟨u31, e31⟩ : ∃ u, a.eval (.tmp 31) = u := ⟨_, rfl⟩
    rw [e31] at t31
    refine opOk_call (f := 22) (args := #[u29, u31]) (wanted_some (j := 10) (t := 27) (b := true) rfl rfl rfl (h.of 27 (by kernel_rfl))) ?_ ?_
    · have ec : ∀ v, a.eval (.const v) = v := fun _ => rfl
      have ef : ∀ f, a.eval (.func f) = .func (.func f) #[] #[] := fun _ => rfl
      generalize a.eval = ev at *
      clear h
      go_simp
    · refine (SameFacts_refl (Rl.set l) _ _ y t29 t31 HV.s1 HV.g1).mono ?_
      rintro e y2 ⟨rfl, hg⟩
      exact ⟨_, rfl, fun t ht => by cases ht; exact rfl, hg⟩
  refine AllOps.cons (fun a y h => ?_) ?_
  · have e27 : a.eval (.tmp 27) = (Value.bool true) := h.of 27 (by kernel_rfl)
    have e32 : a.eval (.tmp 32) = (Value.bool true) := h.of 32 (by kernel_rfl)
    refine opOk_val (v := (Value.bool true)) (w' := y) (wanted_none rfl) ?_ (fun t ht => by cases ht; exact rfl) (Below.refl _ _)
    have ec : ∀ v, a.eval (.const v) = v := fun _ => rfl
    generalize a.eval = ev at *
    clear h
    go_simp
  refine AllOps.cons (fun a y h => ?_) ?_
  · have e33 : a.eval (.tmp 33) = (Value.bool true) := h.of 33 (by kernel_rfl)
    refine opOk_val (v := (Value.bool true)) (w' := y) (wanted_none rfl) ?_ (fun t ht => by cases ht; exact rfl) (Below.refl _ _)
    have ec : ∀ v, a.eval (.const v) = v := fun _ => rfl
    generalize a.eval = ev at *
    clear h
    go_simp
  refine AllOps.cons (fun a y h => ?_) ?_
  · have e0 : a.eval (.tmp 0) = VL := h.old 0 (by kernel_rfl)
    refine opOk_val (v := VL) (w' := y) (wanted_some (j := 17) (t := 34) (b := true) rfl rfl rfl (h.of 34 (by kernel_rfl))) ?_ (fun t ht => by cases ht; exact rfl) (Below.refl _ _)
    have ec : ∀ v, a.eval (.const v) = v := fun _ => rfl
    generalize a.eval = ev at *
    clear h
    go_simp
  refine AllOps.cons (fun a y h => ?_) ?_
  · have e8 : a.eval (.tmp 8) = (Value.pointer (some ⟨w.heap.size, 0, none⟩)) := h.old 8 (by kernel_rfl)
    have c0 := cell_below h.below d0
    have c1 := cell_below h.below d1
    refine opOk_val (v := (fcVal f.pred Sf)) (w' := y) (wanted_some (j := 17) (t := 34) (b := true) rfl rfl rfl (h.of 34 (by kernel_rfl))) ?_ (fun t ht => by cases ht; exact rfl) (Below.refl _ _)
    have ec : ∀ v, a.eval (.const v) = v := fun _ => rfl
    generalize a.eval = ev at *
    clear h
    go_simp
  refine AllOps.cons (fun a y h => ?_) ?_
  · have e35 : a.eval (.tmp 35) = VL := h.of 35 (by kernel_rfl)
    have e36 : a.eval (.tmp 36) = (fcVal f.pred Sf) := h.of 36 (by kernel_rfl)
    refine opOk_call (f := 25) (args := #[VL, (fcVal f.pred Sf)]) (wanted_some (j := 17) (t := 34) (b := true) rfl rfl rfl (h.of 34 (by kernel_rfl))) ?_ ?_
    · have ec : ∀ v, a.eval (.const v) = v := fun _ => rfl
      have ef : ∀ f, a.eval (.func f) = .func (.func f) #[] #[] := fun _ => rfl
      generalize a.eval = ev at *
      clear h
      go_simp
    · refine (Has_any l f VL _ y (factsV_below HV.hL h.below) (intsV_below HV.hF h.below) (Nat.le_trans HV.ll (by decide)) HV.gl HV.ff).mono ?_
      rintro e y2 ⟨rfl, hg⟩
      exact ⟨_, rfl, fun t ht => by cases ht; exact rfl, hg⟩
  refine AllOps.cons (fun a y h => ?_) ?_
  · have e0 : a.eval (.tmp 0) = VL := h.old 0 (by kernel_rfl)
    refine opOk_val (v := VL) (w' := y) (wanted_some (j := 17) (t := 34) (b := true) rfl rfl rfl (h.of 34 (by kernel_rfl))) ?_ (fun t ht => by cases ht; exact rfl) (Below.refl _ _)
    have ec : ∀ v, a.eval (.const v) = v := fun _ => rfl
    generalize a.eval = ev at *
    clear h
    go_simp
  refine AllOps.cons (fun a y h => ?_) ?_
  · have e8 : a.eval (.tmp 8) = (Value.pointer (some ⟨w.heap.size, 0, none⟩)) := h.old 8 (by kernel_rfl)
    have c0 := cell_below h.below d0
    have c1 := cell_below h.below d1
    refine opOk_val (v := (fcVal f.pred Sf)) (w' := y) (wanted_some (j := 17) (t := 34) (b := true) rfl rfl rfl (h.of 34 (by kernel_rfl))) ?_ (fun t ht => by cases ht; exact rfl) (Below.refl _ _)
    have ec : ∀ v, a.eval (.const v) = v := fun _ => rfl
    generalize a.eval = ev at *
    clear h
    go_simp
  refine AllOps.cons (fun a y h => ?_) ?_
  · have e38 : a.eval (.tmp 38) = VL := h.of 38 (by kernel_rfl)
    have e39 : a.eval (.tmp 39) = (fcVal f.pred Sf) := h.of 39 (by kernel_rfl)
    refine opOk_call (f := 26) (args := #[VL, (fcVal f.pred Sf)]) (wanted_some (j := 17) (t := 34) (b := true) rfl rfl rfl (h.of 34 (by kernel_rfl))) ?_ ?_
    · have ec : ∀ v, a.eval (.const v) = v := fun _ => rfl
      have ef : ∀ f, a.eval (.func f) = .func (.func f) #[] #[] := fun _ => rfl
      generalize a.eval = ev at *
      clear h
      go_simp
    · refine (HasFact_any l f VL _ y (factsV_below HV.hL h.below) (intsV_below HV.hF h.below) (Nat.le_trans HV.ll (by decide)) HV.gl HV.ff).mono ?_
      rintro e y2 ⟨rfl, hg⟩
      exact ⟨_, rfl, fun t ht => by cases ht; exact rfl, hg⟩
  refine AllOps.cons (fun a y h => ?_) ?_
  · have e37 : a.eval (.tmp 37) = (Value.bool (Rl.has l f)) := h.of 37 (by kernel_rfl)
    have e40 : a.eval (.tmp 40) = (Value.bool (Rl.has l f)) := h.of 40 (by kernel_rfl)
    refine opOk_val (v := (Value.bool true)) (w' := y) (wanted_some (j := 17) (t := 34) (b := true) rfl rfl rfl (h.of 34 (by kernel_rfl))) ?_ (fun t ht => by cases ht; exact rfl) (Below.refl _ _)
    have ec : ∀ v, a.eval (.const v) = v := fun _ => rfl
    generalize a.eval = ev at *
    clear h
    go_simp
  refine AllOps.cons (fun a y h => ?_) ?_
  · have e34 : a.eval (.tmp 34) = (Value.bool true) := h.of 34 (by kernel_rfl)
    have e41 : a.eval (.tmp 41) = (Value.bool true) := h.of 41 (by kernel_rfl)
    refine opOk_val (v := (Value.bool true)) (w' := y) (wanted_none rfl) ?_ (fun t ht => by cases ht; exact rfl) (Below.refl _ _)
    have ec : ∀ v, a.eval (.const v) = v := fun _ => rfl
    generalize a.eval = ev at *
    clear h
    go_simp
  refine AllOps.cons (fun a y h => ?_) ?_
  · have e42 : a.eval (.tmp 42) = (Value.bool true) := h.of 42 (by kernel_rfl)
    refine opOk_val (v := (Value.bool true)) (w' := y) (wanted_none rfl) ?_ (fun t ht => by cases ht; exact rfl) (Below.refl _ _)
    have ec : ∀ v, a.eval (.const v) = v := fun _ => rfl
    generalize a.eval = ev at *
    clear h
    go_simp
  refine AllOps.cons (fun a y h => ?_) ?_
  · have e0 : a.eval (.tmp 0) = VL := h.old 0 (by kernel_rfl)
    refine opOk_val (v := VL) (w' := y) (wanted_some (j := 26) (t := 43) (b := true) rfl rfl rfl (h.of 43 (by kernel_rfl))) ?_ (fun t ht => by cases ht; exact rfl) (Below.refl _ _)
    have ec : ∀ v, a.eval (.const v) = v := fun _ => rfl
    generalize a.eval = ev at *
    clear h
    go_simp
  refine AllOps.cons (fun a y h => ?_) ?_
  · have e1 : a.eval (.tmp 1) = VM := h.old 1 (by kernel_rfl)
    refine opOk_val (v := VM) (w' := y) (wanted_some (j := 26) (t := 43) (b := true) rfl rfl rfl (h.of 43 (by kernel_rfl))) ?_ (fun t ht => by cases ht; exact rfl) (Below.refl _ _)
    have ec : ∀ v, a.eval (.const v) = v := fun _ => rfl
    generalize a.eval = ev at *
    clear h
    go_simp
  refine AllOps.cons (fun a y h => ?_) ?_
  · have e44 : a.eval (.tmp 44) = VL := h.of 44 (by kernel_rfl)
    have e45 : a.eval (.tmp 45) = VM := h.of 45 (by kernel_rfl)
    refine opOk_call (f := 27) (args := #[VL, VM]) (wanted_some (j := 26) (t := 43) (b := true) rfl rfl rfl (h.of 43 (by kernel_rfl))) ?_ ?_
    · have ec : ∀ v, a.eval (.const v) = v := fun _ => rfl
      have ef : ∀ f, a.eval (.func f) = .func (.func f) #[] #[] := fun _ => rfl
      generalize a.eval = ev at *
      clear h
      go_simp
    · refine (Union_any l m VL VM y (factsV_below HV.hL h.below) (factsV_below HV.hM h.below) HV.ll HV.lm HV.fl HV.fm).mono ?_
      rintro e y2 ⟨v, rfl, hv, hg⟩
      exact ⟨v, rfl, fun t ht => by cases ht; exact hv, hg⟩
  refine AllOps.cons (fun a y h => ?_) ?_
  · have e0 : a.eval (.tmp 0) = VL := h.old 0 (by kernel_rfl)
    refine opOk_val (v := VL) (w' := y) (wanted_some (j := 26) (t := 43) (b := true) rfl rfl rfl (h.of 43 (by kernel_rfl))) ?_ (fun t ht => by cases ht; exact rfl) (Below.refl _ _)
    have ec : ∀ v, a.eval (.const v) = v := fun _ => rfl
    generalize a.eval = ev at *
    clear h
    go_simp
  refine AllOps.cons (fun a y h => ?_) ?_
  · have e1 : a.eval (.tmp 1) = VM := h.old 1 (by kernel_rfl)
    refine opOk_val (v := VM) (w' := y) (wanted_some (j := 26) (t := 43) (b := true) rfl rfl rfl (h.of 43 (by kernel_rfl))) ?_ (fun t ht => by cases ht; exact rfl) (Below.refl _ _)
    have ec : ∀ v, a.eval (.const v) = v := fun _ => rfl
    generalize a.eval = ev at *
    clear h
    go_simp
  refine AllOps.cons (fun a y h => ?_) ?_
  · have e47 : a.eval (.tmp 47) = VL := h.of 47 (by kernel_rfl)
    have e48 : a.eval (.tmp 48) = VM := h.of 48 (by kernel_rfl)
    refine opOk_call (f := 28) (args := #[VL, VM]) (wanted_some (j := 26) (t := 43) (b := true) rfl rfl rfl (h.of 43 (by kernel_rfl))) ?_ ?_
    · have ec : ∀ v, a.eval (.const v) = v := fun _ => rfl
      have ef : ∀ f, a.eval (.func f) = .func (.func f) #[] #[] := fun _ => rfl
      generalize a.eval = ev at *
      clear h
      go_simp
    · refine (UnionOf_any l m VL VM y (factsV_below HV.hL h.below) (factsV_below HV.hM h.below) HV.ll HV.lm HV.gl HV.gm).mono ?_
      rintro e y2 ⟨v, rfl, hv, hg⟩
      exact ⟨v, rfl, fun t ht => by cases ht; exact hv, hg⟩
  refine AllOps.cons (fun a y h => ?_) ?_
  · have t46 : FactsV y (a.eval (.tmp 46)) (Rl.union l m) := h.of 46 (by kernel_rfl)
    obtain ⟨u46, e46⟩ : ∃ u, a.eval (.tmp 46) = u := ⟨_, rfl⟩
    rw [e46] at t46
    have t49 : FactsV y (a.eval (.tmp 49)) (Rl.union l m) := h.of 49 (by kernel_rfl)
    obtain ⟨u49, e49⟩ : ∃ u, a.eval (.tmp 49) = u := ⟨_, rfl⟩
    rw [e49] at t49
    refine opOk_call (f := 22) (args := #[u46, u49]) (wanted_some (j := 26) (t := 43) (b := true) rfl rfl rfl (h.of 43 (by kernel_rfl))) ?_ ?_
    · have ec : ∀ v, a.eval (.const v) = v := fun _ => rfl
      have ef : ∀ f, a.eval (.func f) = .func (.func f) #[] #[] := fun _ => rfl
      generalize a.eval = ev at *
      clear h
      go_simp
    · refine (SameFacts_refl (Rl.union l m) _ _ y t46 t49 HV.s2 HV.g2).mono ?_
      rintro e y2 ⟨rfl, hg⟩
      exact ⟨_, rfl, fun t ht => by cases ht; exact rfl, hg⟩
  refine AllOps.cons (fun a y h => ?_) ?_
  · have e43 : a.eval (.tmp 43) = (Value.bool true) := h.of 43 (by kernel_rfl)
    have e50 : a.eval (.tmp 50) = (Value.bool true) := h.of 50 (by kernel_rfl)
    refine opOk_val (v := (Value.bool true)) (w' := y) (wanted_none rfl) ?_ (fun t ht => by cases ht; exact rfl) (Below.refl _ _)
    have ec : ∀ v, a.eval (.const v) = v := fun _ => rfl
    generalize a.eval = ev at *
    clear h
    go_simp
  refine AllOps.cons (fun a y h => ?_) ?_
  · have e51 : a.eval (.tmp 51) = (Value.bool true) := h.of 51 (by kernel_rfl)
    refine opOk_val (v := (Value.bool true)) (w' := y) (wanted_none rfl) ?_ (fun t ht => by cases ht; exact rfl) (Below.refl _ _)
    have ec : ∀ v, a.eval (.const v) = v := fun _ => rfl
    generalize a.eval = ev at *
    clear h
    go_simp
  refine AllOps.cons (fun a y h => ?_) ?_
  · have e0 : a.eval (.tmp 0) = VL := h.old 0 (by kernel_rfl)
    refine opOk_val (v := VL) (w' := y) (wanted_some (j := 35) (t := 52) (b := true) rfl rfl rfl (h.of 52 (by kernel_rfl))) ?_ (fun t ht => by cases ht; exact rfl) (Below.refl _ _)
    have ec : ∀ v, a.eval (.const v) = v := fun _ => rfl
    generalize a.eval = ev at *
    clear h
    go_simp
  refine AllOps.cons (fun a y h => ?_) ?_
  · have e1 : a.eval (.tmp 1) = VM := h.old 1 (by kernel_rfl)
    refine opOk_val (v := VM) (w' := y) (wanted_some (j := 35) (t := 52) (b := true) rfl rfl rfl (h.of 52 (by kernel_rfl))) ?_ (fun t ht => by cases ht; exact rfl) (Below.refl _ _)
    have ec : ∀ v, a.eval (.const v) = v := fun _ => rfl
    generalize a.eval = ev at *
    clear h
    go_simp
  refine AllOps.cons (fun a y h => ?_) ?_
  · have e53 : a.eval (.tmp 53) = VL := h.of 53 (by kernel_rfl)
    have e54 : a.eval (.tmp 54) = VM := h.of 54 (by kernel_rfl)
    refine opOk_call (f := 29) (args := #[VL, VM]) (wanted_some (j := 35) (t := 52) (b := true) rfl rfl rfl (h.of 52 (by kernel_rfl))) ?_ ?_
    · have ec : ∀ v, a.eval (.const v) = v := fun _ => rfl
      have ef : ∀ f, a.eval (.func f) = .func (.func f) #[] #[] := fun _ => rfl
      generalize a.eval = ev at *
      clear h
      go_simp
    · refine (Minus_any l m VL VM y (factsV_below HV.hL h.below) (factsV_below HV.hM h.below) HV.ll HV.lm HV.fl HV.fm).mono ?_
      rintro e y2 ⟨v, rfl, hv, hg⟩
      exact ⟨v, rfl, fun t ht => by cases ht; exact hv, hg⟩
  refine AllOps.cons (fun a y h => ?_) ?_
  · have e0 : a.eval (.tmp 0) = VL := h.old 0 (by kernel_rfl)
    refine opOk_val (v := VL) (w' := y) (wanted_some (j := 35) (t := 52) (b := true) rfl rfl rfl (h.of 52 (by kernel_rfl))) ?_ (fun t ht => by cases ht; exact rfl) (Below.refl _ _)
    have ec : ∀ v, a.eval (.const v) = v := fun _ => rfl
    generalize a.eval = ev at *
    clear h
    go_simp
  refine AllOps.cons (fun a y h => ?_) ?_
  · have e1 : a.eval (.tmp 1) = VM := h.old 1 (by kernel_rfl)
    refine opOk_val (v := VM) (w' := y) (wanted_some (j := 35) (t := 52) (b := true) rfl rfl rfl (h.of 52 (by kernel_rfl))) ?_ (fun t ht => by cases ht; exact rfl) (Below.refl _ _)
    have ec : ∀ v, a.eval (.const v) = v := fun _ => rfl
    generalize a.eval = ev at *
    clear h
    go_simp
  refine AllOps.cons (fun a y h => ?_) ?_
  · have e56 : a.eval (.tmp 56) = VL := h.of 56 (by kernel_rfl)
    have e57 : a.eval (.tmp 57) = VM := h.of 57 (by kernel_rfl)
    refine opOk_call (f := 30) (args := #[VL, VM]) (wanted_some (j := 35) (t := 52) (b := true) rfl rfl rfl (h.of 52 (by kernel_rfl))) ?_ ?_
    · have ec : ∀ v, a.eval (.const v) = v := fun _ => rfl
      have ef : ∀ f, a.eval (.func f) = .func (.func f) #[] #[] := fun _ => rfl
      generalize a.eval = ev at *
      clear h
      go_simp
    · refine (MinusOf_any l m VL VM y (factsV_below HV.hL h.below) (factsV_below HV.hM h.below) HV.ll HV.lm HV.gl HV.gm).mono ?_
      rintro e y2 ⟨v, rfl, hv, hg⟩
      exact ⟨v, rfl, fun t ht => by cases ht; exact hv, hg⟩
  refine AllOps.cons (fun a y h => ?_) ?_
  · have t55 : FactsV y (a.eval (.tmp 55)) (Rl.minus l m) := h.of 55 (by kernel_rfl)
    obtain ⟨u55, e55⟩ : ∃ u, a.eval (.tmp 55) = u := ⟨_, rfl⟩
    rw [e55] at t55
    have t58 : FactsV y (a.eval (.tmp 58)) (Rl.minus l m) := h.of 58 (by kernel_rfl)
    obtain ⟨u58, e58⟩ : ∃ u, a.eval (.tmp 58) = u := ⟨_, rfl⟩
    rw [e58] at t58
    refine opOk_call (f := 22) (args := #[u55, u58]) (wanted_some (j := 35) (t := 52) (b := true) rfl rfl rfl (h.of 52 (by kernel_rfl))) ?_ ?_
    · have ec : ∀ v, a.eval (.const v) = v := fun _ => rfl
      have ef : ∀ f, a.eval (.func f) = .func (.func f) #[] #[] := fun _ => rfl
      generalize a.eval = ev at *
      clear h
      go_simp
    · refine (SameFacts_refl (Rl.minus l m) _ _ y t55 t58 HV.s3 HV.g3).mono ?_
      rintro e y2 ⟨rfl, hg⟩
      exact ⟨_, rfl, fun t ht => by cases ht; exact rfl, hg⟩
  refine AllOps.cons (fun a y h => ?_) ?_
  · have e52 : a.eval (.tmp 52) = (Value.bool true) := h.of 52 (by kernel_rfl)
    have e59 : a.eval (.tmp 59) = (Value.bool true) := h.of 59 (by kernel_rfl)
    refine opOk_val (v := (Value.bool true)) (w' := y) (wanted_none rfl) ?_ (fun t ht => by cases ht; exact rfl) (Below.refl _ _)
    have ec : ∀ v, a.eval (.const v) = v := fun _ => rfl
    generalize a.eval = ev at *
    clear h
    go_simp
  refine AllOps.cons (fun a y h => ?_) ?_
  · have e60 : a.eval (.tmp 60) = (Value.bool true) := h.of 60 (by kernel_rfl)
    refine opOk_val (v := (Value.bool true)) (w' := y) (wanted_none rfl) ?_ (fun t ht => by cases ht; exact rfl) (Below.refl _ _)
    have ec : ∀ v, a.eval (.const v) = v := fun _ => rfl
    generalize a.eval = ev at *
    clear h
    go_simp
  refine AllOps.cons (fun a y h => ?_) ?_
  · have e0 : a.eval (.tmp 0) = VL := h.old 0 (by kernel_rfl)
    refine opOk_val (v := VL) (w' := y) (wanted_some (j := 44) (t := 61) (b := true) rfl rfl rfl (h.of 61 (by kernel_rfl))) ?_ (fun t ht => by cases ht; exact rfl) (Below.refl _ _)
    have ec : ∀ v, a.eval (.const v) = v := fun _ => rfl
    generalize a.eval = ev at *
    clear h
    go_simp
  refine AllOps.cons (fun a y h => ?_) ?_
  · have e3 : a.eval (.tmp 3) = (Value.int .i64 pp) := h.old 3 (by kernel_rfl)
    refine opOk_val (v := (Value.int .i64 pp)) (w' := y) (wanted_some (j := 44) (t := 61) (b := true) rfl rfl rfl (h.of 61 (by kernel_rfl))) ?_ (fun t ht => by cases ht; exact rfl) (Below.refl _ _)
    have ec : ∀ v, a.eval (.const v) = v := fun _ => rfl
    generalize a.eval = ev at *
    clear h
    go_simp
  refine AllOps.cons (fun a y h => ?_) ?_
  · have e4 : a.eval (.tmp 4) = VY := h.old 4 (by kernel_rfl)
    refine opOk_val (v := VY) (w' := y) (wanted_some (j := 44) (t := 61) (b := true) rfl rfl rfl (h.of 61 (by kernel_rfl))) ?_ (fun t ht => by cases ht; exact rfl) (Below.refl _ _)
    have ec : ∀ v, a.eval (.const v) = v := fun _ => rfl
    generalize a.eval = ev at *
    clear h
    go_simp
  refine AllOps.cons (fun a y h => ?_) ?_
  · have e5 : a.eval (.tmp 5) = VZ := h.old 5 (by kernel_rfl)
    refine opOk_val (v := VZ) (w' := y) (wanted_some (j := 44) (t := 61) (b := true) rfl rfl rfl (h.of 61 (by kernel_rfl))) ?_ (fun t ht => by cases ht; exact rfl) (Below.refl _ _)
    have ec : ∀ v, a.eval (.const v) = v := fun _ => rfl
    generalize a.eval = ev at *
    clear h
    go_simp
  refine AllOps.cons (fun a y h => ?_) ?_
  · have e62 : a.eval (.tmp 62) = VL := h.of 62 (by kernel_rfl)
    have e63 : a.eval (.tmp 63) = (Value.int .i64 pp) := h.of 63 (by kernel_rfl)
    have e64 : a.eval (.tmp 64) = VY := h.of 64 (by kernel_rfl)
    have e65 : a.eval (.tmp 65) = VZ := h.of 65 (by kernel_rfl)
    refine opOk_call (f := 31) (args := #[VL, (Value.int .i64 pp), VY, VZ]) (wanted_some (j := 44) (t := 61) (b := true) rfl rfl rfl (h.of 61 (by kernel_rfl))) ?_ ?_
    · have ec : ∀ v, a.eval (.const v) = v := fun _ => rfl
      have ef : ∀ f, a.eval (.func f) = .func (.func f) #[] #[] := fun _ => rfl
      generalize a.eval = ev at *
      clear h
      go_simp
    · refine (Match_any l pp y0 z0 VL _ _ y (factsV_below HV.hL h.below) (intsV_below HV.hY h.below) (boolsV_below HV.hZ h.below) HV.ll HV.fl HV.ly HV.lz).mono ?_
      rintro e y2 ⟨v, rfl, hv, hg⟩
      exact ⟨v, rfl, fun t ht => by cases ht; exact hv, hg⟩
  refine AllOps.cons (fun a y h => ?_) ?_
  · have e0 : a.eval (.tmp 0) = VL := h.old 0 (by kernel_rfl)
    refine opOk_val (v := VL) (w' := y) (wanted_some (j := 44) (t := 61) (b := true) rfl rfl rfl (h.of 61 (by kernel_rfl))) ?_ (fun t ht => by cases ht; exact rfl) (Below.refl _ _)
    have ec : ∀ v, a.eval (.const v) = v := fun _ => rfl
    generalize a.eval = ev at *
    clear h
    go_simp
  refine AllOps.cons (fun a y h => ?_) ?_
  · have e3 : a.eval (.tmp 3) = (Value.int .i64 pp) := h.old 3 (by kernel_rfl)
    refine opOk_val (v := (Value.int .i64 pp)) (w' := y) (wanted_some (j := 44) (t := 61) (b := true) rfl rfl rfl (h.of 61 (by kernel_rfl))) ?_ (fun t ht => by cases ht; exact rfl) (Below.refl _ _)
    have ec : ∀ v, a.eval (.const v) = v := fun _ => rfl
    generalize a.eval = ev at *
    clear h
    go_simp
  refine AllOps.cons (fun a y h => ?_) ?_
  · have e4 : a.eval (.tmp 4) = VY := h.old 4 (by kernel_rfl)
    refine opOk_val (v := VY) (w' := y) (wanted_some (j := 44) (t := 61) (b := true) rfl rfl rfl (h.of 61 (by kernel_rfl))) ?_ (fun t ht => by cases ht; exact rfl) (Below.refl _ _)
    have ec : ∀ v, a.eval (.const v) = v := fun _ => rfl
    generalize a.eval = ev at *
    clear h
    go_simp
  refine AllOps.cons (fun a y h => ?_) ?_
  · have e5 : a.eval (.tmp 5) = VZ := h.old 5 (by kernel_rfl)
    refine opOk_val (v := VZ) (w' := y) (wanted_some (j := 44) (t := 61) (b := true) rfl rfl rfl (h.of 61 (by kernel_rfl))) ?_ (fun t ht => by cases ht; exact rfl) (Below.refl _ _)
    have ec : ∀ v, a.eval (.const v) = v := fun _ => rfl
    generalize a.eval = ev at *
    clear h
    go_simp
  refine AllOps.cons (fun a y h => ?_) ?_
  · have e67 : a.eval (.tmp 67) = VL := h.of 67 (by kernel_rfl)
    have e68 : a.eval (.tmp 68) = (Value.int .i64 pp) := h.of 68 (by kernel_rfl)
    have e69 : a.eval (.tmp 69) = VY := h.of 69 (by kernel_rfl)
    have e70 : a.eval (.tmp 70) = VZ := h.of 70 (by kernel_rfl)
    refine opOk_call (f := 32) (args := #[VL, (Value.int .i64 pp), VY, VZ]) (wanted_some (j := 44) (t := 61) (b := true) rfl rfl rfl (h.of 61 (by kernel_rfl))) ?_ ?_
    · have ec : ∀ v, a.eval (.const v) = v := fun _ => rfl
      have ef : ∀ f, a.eval (.func f) = .func (.func f) #[] #[] := fun _ => rfl
      generalize a.eval = ev at *
      clear h
      go_simp
    · refine (MatchOf_any l pp y0 z0 VL _ _ y (factsV_below HV.hL h.below) (intsV_below HV.hY h.below) (boolsV_below HV.hZ h.below) HV.ll HV.gl HV.ly).mono ?_
      rintro e y2 ⟨v, rfl, hv, hg⟩
      exact ⟨v, rfl, fun t ht => by cases ht; exact hv, hg⟩
  refine AllOps.cons (fun a y h => ?_) ?_
  · have t66 : FactsV y (a.eval (.tmp 66)) (Rl.matchL l pp y0 z0) := h.of 66 (by kernel_rfl)
    obtain ⟨u66, e66⟩ : ∃ u, a.eval (.tmp 66) = u := ⟨_, rfl⟩
    rw [e66] at t66
    have t71 : FactsV y (a.eval (.tmp 71)) (Rl.matchL l pp y0 z0) := h.of 71 (by kernel_rfl)
    obtain ⟨u71, e71⟩ : ∃ u, a.eval (.tmp 71) = u := ⟨_, rfl⟩
    rw [e71] at t71
    refine opOk_call (f := 22) (args := #[u66, u71]) (wanted_some (j := 44) (t := 61) (b := true) rfl rfl rfl (h.of 61 (by kernel_rfl))) ?_ ?_
    · have ec : ∀ v, a.eval (.const v) = v := fun _ => rfl
      have ef : ∀ f, a.eval (.func f) = .func (.func f) #[] #[] := fun _ => rfl
      generalize a.eval = ev at *
      clear h
      go_simp
    · refine (SameFacts_refl (Rl.matchL l pp y0 z0) _ _ y t66 t71 HV.s4 HV.g4).mono ?_
      rintro e y2 ⟨rfl, hg⟩
      exact ⟨_, rfl, fun t ht => by cases ht; exact rfl, hg⟩
  refine AllOps.cons (fun a y h => ?_) ?_
  · have e61 : a.eval (.tmp 61) = (Value.bool true) := h.of 61 (by kernel_rfl)
    have e72 : a.eval (.tmp 72) = (Value.bool true) := h.of 72 (by kernel_rfl)
    refine opOk_val (v := (Value.bool true)) (w' := y) (wanted_none rfl) ?_ (fun t ht => by cases ht; exact rfl) (Below.refl _ _)
    have ec : ∀ v, a.eval (.const v) = v := fun _ => rfl
    generalize a.eval = ev at *
    clear h
    go_simp
  refine AllOps.cons (fun a y h => ?_) ?_
  · have e73 : a.eval (.tmp 73) = (Value.bool true) := h.of 73 (by kernel_rfl)
    refine opOk_val (v := (Value.bool true)) (w' := y) (wanted_none rfl) ?_ (fun t ht => by cases ht; exact rfl) (Below.refl _ _)
    have ec : ∀ v, a.eval (.const v) = v := fun _ => rfl
    generalize a.eval = ev at *
    clear h
    go_simp
  exact AllOps.nil

end Go.Proofs.Ytgpaleifhcdjnaa

/- Facts, numbers and truths that came in, read out of memory; and how many there are at most. -/
namespace Go.Proofs.Ytgpaleifhcdjnaa
open Go.RowKit

theorem O_cells3 : Try.prog.cellsOf 3 = 1 := by kernel_rfl
theorem O_cells4 : Try.prog.cellsOf 4 = 1 := by kernel_rfl
theorem O_cells22 : Try.prog.cellsOf 22 = 1 := by kernel_rfl
theorem O_cells49 : Try.prog.cellsOf 49 = 2 := by kernel_rfl

theorem bulk_pos {H : Type} (d : DataW H) : 1 ≤ Rows.uptoBulk d := by
  cases d with
  | lit l => cases l <;> simp [Rows.uptoBulk]
  | nil => simp [Rows.uptoBulk]
  | ptr d => simp [Rows.uptoBulk]
  | slice a b => simp [Rows.uptoBulk]
  | agg a => simp [Rows.uptoBulk]
  | iface t d => simp [Rows.uptoBulk]
  | map m => simp [Rows.uptoBulk]
  | held h => simp [Rows.uptoBulk]
theorem bulk_row {H : Type} (D : Nat → DataW H) : ∀ n : Nat, n ≤ Rows.uptoBulkAll ((List.range n).map D) ∧ ∀ i, i < n → Rows.uptoBulk (D i) ≤ Rows.uptoBulkAll ((List.range n).map D) := by
  have happ : ∀ (l r : List (DataW H)), Rows.uptoBulkAll (l ++ r) = Rows.uptoBulkAll l + Rows.uptoBulkAll r := by
    intro l r
    induction l with
    | nil => simp [Rows.uptoBulkAll]
    | cons x l ih => simp only [List.cons_append, Rows.uptoBulkAll, ih]; omega
  intro n
  induction n with
  | zero => exact ⟨Nat.zero_le _, fun i hi => absurd hi (Nat.not_lt_zero _)⟩
  | succ n ih =>
    rw [List.range_succ, List.map_append, happ]
    have h1 := bulk_pos (D n)
    have h2 : Rows.uptoBulkAll (List.map D [n]) = Rows.uptoBulk (D n) := by simp [Rows.uptoBulkAll]
    rw [h2]
    refine ⟨by omega, fun i hi => ?_⟩
    by_cases hin : i = n
    · subst hin; omega
    · have := ih.2 i (by omega); omega

section
variable {H : Type} {enc : TypeId × Value → H} {w : World} {base : Nat} {spare : Nat → Bool} {held : Bool}

/-- A slice whose elements can be read; how many they are, and how great each is. -/
theorem open_rowB {α : Type} {st e : TypeId} {k : Nat} (ht : Try.prog.underlying st = some (.slice e)) (hk : Try.prog.cellsOf e = k) (hk0 : 0 < k) (d : α) (sz : α → Nat) (In : Nat → Nat → α → Prop)
    (el : ∀ n cs' y b off, cs'.length = k → (∀ j, j < k → w.cell? ⟨b, off + j, none⟩ = cs'[j]?) → DataW.trod enc Try.prog w base spare held n e cs' = some y → ∃ a, In b off a ∧ sz a ≤ Rows.uptoBulk y.1)
    {fuel : Nat} {v : Value} {x : DataW H × List MemPlace} (h : DataW.trod enc Try.prog w base spare held fuel st [v] = some x) :
    ∃ (ao : Option Addr) (l : List α) (cap : Nat), v = .slice ao l.length cap ∧ (l.length ≤ cap ∧ (ao = none → cap = 0)) ∧ l.length ≤ Rows.uptoBulk x.1 ∧ (∀ i, i < l.length → sz (l.getD i d) ≤ Rows.uptoBulk x.1) ∧
      (l = [] ∨ ∃ b off, ao = some ⟨b, off, none⟩ ∧ ∀ i, i < l.length → In b (off + i * k) (l.getD i d)) := by
  haveI : Inhabited α := ⟨d⟩
  rcases Deep.open_slice ht h with ⟨hv, _⟩ | ⟨a, len, cap, m, n, D, Pl, hv, hb, hl, hm, hmm, hx, hel⟩
  · have hv' : v = .slice none 0 0 := by simpa using hv
    exact ⟨none, [], 0, hv', ⟨Nat.le_refl _, fun _ => rfl⟩, Nat.zero_le _, fun i hi => absurd hi (Nat.not_lt_zero _), .inl rfl⟩
  · have hv' : v = .slice (some a) len cap := by simpa using hv
    have hlm : len ≤ m := by rw [hmm]; split <;> omega
    by_cases h0 : len = 0
    · subst h0
      exact ⟨some a, [], cap, hv', ⟨Nat.zero_le _, fun h => by cases h⟩, Nat.zero_le _, fun i hi => absurd hi (Nat.not_lt_zero _), .inl rfl⟩
    · obtain ⟨b, off, spot⟩ := a
      have hspot : spot = none := by
        obtain ⟨cs', h1, _⟩ := hel 0 (by omega)
        rw [hk] at h1
        obtain ⟨_, hlen, hcell⟩ := World.cells?_some h1
        have hc := hcell 0 hk0
        cases hcs : cs'[0]? with
        | none => rw [List.getElem?_eq_none_iff] at hcs; omega
        | some u =>
          rw [hcs] at hc
          simpa [Addr.add] using World.cell?_spot hc
      subst hspot
      have each : ∀ i, i < len → ∃ q : α, In b (off + i * k) q ∧ sz q ≤ Rows.uptoBulk (D i) := by
        intro i hi
        obtain ⟨cs', h1, h2⟩ := hel i (by omega)
        rw [hk] at h1
        obtain ⟨_, hlen, hcell⟩ := World.cells?_some h1
        refine el n cs' _ b (off + i * k) hlen (fun j hj => ?_) h2
        have := hcell j hj
        rw [Deep.add_add, WideShapes.add_plain] at this
        rw [← this, Nat.add_assoc]
      obtain ⟨q, hq⟩ := Deep.choose_lt each
      have hbr := bulk_row D len
      have hxb : Rows.uptoBulkAll ((List.range len).map D) ≤ Rows.uptoBulk x.1 := by rw [hx]; simp only [Rows.uptoBulk]; omega
      have htq : ∀ i, i < len → ((List.range len).map q).getD i d = q i := fun i hi => by
        rw [List.getD_eq_getElem?_getD, List.getElem?_map, List.getElem?_range hi]
        rfl
      refine ⟨some ⟨b, off, none⟩, (List.range len).map q, cap, by rw [hv']; simp, ⟨by simpa using hl, fun h => by cases h⟩, by simp; omega, fun i hi => ?_, .inr ⟨b, off, rfl, fun i hi => ?_⟩⟩
      · have hi' : i < len := by simpa using hi
        rw [htq i hi']
        have h1 := (hq i hi').2
        have h2 := hbr.2 i hi'
        omega
      · have hi' : i < len := by simpa using hi
        rw [htq i hi']
        exact (hq i hi').1

theorem open_struct2 {t : TypeId} {f0 f1 : Field} {fuel : Nat} {cs : List Value} {x : DataW H × List MemPlace} (ht : Try.prog.underlying t = some (.struct #[f0, f1])) (h : DataW.trod enc Try.prog w base spare held fuel t cs = some x) :
    ∃ y0 y1 n, cs.length = Try.prog.cellsOf t ∧ DataW.trod enc Try.prog w base spare held n f0.type ((cs.drop f0.offset).take (Try.prog.cellsOf f0.type)) = some y0 ∧
      DataW.trod enc Try.prog w base spare held n f1.type ((cs.drop f1.offset).take (Try.prog.cellsOf f1.type)) = some y1 ∧ Rows.uptoBulk y1.1 ≤ Rows.uptoBulk x.1 := by
  obtain ⟨xs, n, _, rfl, hl, hlen, hf⟩ := DataW.trod_struct ht h
  match xs, hlen with
  | [y0, y1], _ => exact ⟨y0, y1, n, hl, by simpa using hf 0 f0 rfl, by simpa using hf 1 f1 rfl, by simp [Rows.uptoBulk, Rows.uptoBulkAll]; omega⟩

theorem open_ints {fuel : Nat} {v : Value} {x : DataW H × List MemPlace} (h : DataW.trod enc Try.prog w base spare held fuel 22 [v] = some x) : ∃ l, IntsV w v l ∧ l.length ≤ Rows.uptoBulk x.1 := by
  obtain ⟨ao, l, cap, hv, _, hmx, _, hl⟩ := open_rowB Try.underlying22 O_cells3 (by decide) (0 : Int) (fun _ => 0) (fun b off a => w.cell? ⟨b, off, none⟩ = some (.int .i64 a)) (fun n cs' y b off hlen hc h2 => by
    match cs', hlen with
    | [v0], _ =>
      obtain ⟨k0, e0, _, _⟩ := DataW.trod_int Try.underlying3 h2
      simp at e0
      subst e0
      exact ⟨k0, hc 0 (by decide), Nat.zero_le _⟩) h
  refine ⟨l, ⟨ao, cap, hv, ?_⟩, hmx⟩
  rcases hl with h | ⟨b, off, he, hc⟩
  · exact .inl h
  · exact .inr ⟨b, off, he, fun i hi => by have := hc i hi; rw [Nat.mul_one] at this; exact this⟩
theorem open_bools {fuel : Nat} {v : Value} {x : DataW H × List MemPlace} (h : DataW.trod enc Try.prog w base spare held fuel 30 [v] = some x) : ∃ l, BoolsV w v l ∧ l.length ≤ Rows.uptoBulk x.1 := by
  obtain ⟨ao, l, cap, hv, hcap, hmx, _, hl⟩ := open_rowB Try.underlying30 O_cells4 (by decide) false (fun _ => 0) (fun b off a => w.cell? ⟨b, off, none⟩ = some (.bool a)) (fun n cs' y b off hlen hc h2 => by
    match cs', hlen with
    | [v0], _ =>
      obtain ⟨k0, e0, _⟩ := DataW.trod_bool Try.underlying4 h2
      simp at e0
      subst e0
      exact ⟨k0, hc 0 (by decide), Nat.zero_le _⟩) h
  refine ⟨l, ⟨ao, cap, hv, hcap, ?_⟩, hmx⟩
  rcases hl with h | ⟨b, off, he, hc⟩
  · exact .inl h
  · exact .inr ⟨b, off, he, fun i hi => by have := hc i hi; rw [Nat.mul_one] at this; exact this⟩
theorem open_fact {fuel : Nat} {v0 v1 : Value} {x : DataW H × List MemPlace} (h : DataW.trod enc Try.prog w base spare held fuel 49 [v0, v1] = some x) : ∃ f : Rl.Fc, v0 = .int .i64 f.pred ∧ IntsV w v1 f.args ∧ f.args.length ≤ Rows.uptoBulk x.1 := by
  obtain ⟨y0, y1, n, _, g0, g1, hb⟩ := open_struct2 Try.underlying49 h
  simp [O_cells3, O_cells22] at g0 g1
  obtain ⟨k0, e0, _, _⟩ := DataW.trod_int Try.underlying3 g0
  obtain ⟨l1, hl1, hm1⟩ := open_ints g1
  simp at e0
  exact ⟨⟨k0, l1⟩, e0, hl1, Nat.le_trans hm1 hb⟩
theorem open_facts {fuel : Nat} {v : Value} {x : DataW H × List MemPlace} (h : DataW.trod enc Try.prog w base spare held fuel 47 [v] = some x) : ∃ l, FactsV w v l ∧ l.length ≤ Rows.uptoBulk x.1 ∧ ∀ f, f ∈ l → f.args.length ≤ Rows.uptoBulk x.1 := by
  obtain ⟨ao, l, cap, hv, hcap, hmx, hsz, hl⟩ := open_rowB Try.underlying47 O_cells49 (by decide) (⟨0, []⟩ : Rl.Fc) (fun f => f.args.length) (FactIn w) (fun n cs' y b off hlen hc h2 => by
    match cs', hlen with
    | [v0, v1], _ =>
      obtain ⟨f, e0, hI, hm⟩ := open_fact h2
      exact ⟨f, ⟨by rw [← e0]; exact hc 0 (by decide), v1, hc 1 (by decide), hI⟩, hm⟩) h
  refine ⟨l, ⟨ao, cap, hv, hcap, hl⟩, hmx, fun f hf => ?_⟩
  obtain ⟨i, hi, rfl⟩ := List.getElem_of_mem hf
  have := hsz i hi
  rwa [List.getD_eq_getElem?_getD, List.getElem?_eq_getElem hi] at this
end

end Go.Proofs.Ytgpaleifhcdjnaa

