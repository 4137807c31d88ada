/- Own texts, one behind the other (part 9). -/
import Derived.Test.YthenjegmigeieaaGreatBundleH
import Derived.Test.YthenjegmigeieaaGreatRows
import Derived.Deep.QuietTactic
import Derived.BigQuiet
import Derived.Deep.RegionHeld3
import Derived.Deep.DeepCutAuto
import Derived.Deep.RegionLaw
import Derived.ProofKit
import Derived.Deep.Slices
import Derived.Deep.Strs
import Derived.JoinedOf
import Derived.JoinedCond
/- Heads: the heads of a rule. -/
namespace Go.Proofs.YthenjegmigeieaaGreat
open Go.RowKit

namespace Ru
def headsOut (p : Sc.Prog) (i : Int) (l : List Rl.Fc) : List Rl.Fc := heads (rule p i) (waysOut p i l)
theorem heads_nil (r : Sc.Rule) : heads r [] = [] := by unfold heads headsL; split <;> rfl
theorem mem_waysOut {p : Sc.Prog} {i : Int} {l : List Rl.Fc} (hi : In p i l) {x : List Int} (hx : x ∈ waysOut p i l) : Sol (Rl.set l) (rule p i) x := by
  unfold waysOut at hx
  split at hx
  · cases hx
  · exact (mem_ways (ruleIn_of hi.rule hi.set) (right_nums hi.set) x).mp (mem_srt.mp hx)
theorem waysErr_in {p : Sc.Prog} {i : Int} {l : List Rl.Fc} (h : waysErr p i l = 0) : In p i l := by
  refine check_in (Classical.byContradiction fun hc => ?_)
  unfold waysErr at h
  rw [if_pos hc] at h
  exact hc h
theorem waysOut_le {p : Sc.Prog} {i : Int} {l : List Rl.Fc} (h : waysErr p i l = 0) : (waysOut p i l).length ≤ 2000 := by
  have hin := waysErr_in h
  unfold waysOut
  rw [if_neg (fun hn => hn h)]
  have hnd := ways_nodup (ruleIn_of hin.rule hin.set) (right_nums hin.set) (set_nodup l)
  rw [(srt_perm hnd).length_eq]
  unfold waysErr at h
  split at h
  · exact absurd h (by assumption)
  · split at h
    · cases h
    · omega
theorem termsIn_of {ar : List Int} {r : Sc.Rule} (hr : RuleOk ar r) : TermsIn r.vars.toNat r.terms := fun t ht => by
  have h := hr.tm t ht
  by_cases h0 : t.var < 0
  · exact .inl h0
  · exact .inr (by have := h.hi; omega)
theorem rule_short {p : Sc.Prog} (h : ProgOk p) {r : Sc.Rule} (hr : RuleOk p.arity r) : r.terms.length ≤ 3 := by
  have h2 := h.ar r.pred.toNat (by have := hr.p0; have := hr.p1; omega)
  have := hr.tl
  omega
end Ru
theorem RulesCap.below {w w' : World} {vr : Value} {l : List Sc.Rule} (h : RulesCap w vr) (hP : PRulesV w vr l) (hb : Below w.heap.size w w') : RulesCap w' vr := by
  intro b off n cap hv k hk v hc
  obtain ⟨ao, c, hv2, hA⟩ := hP
  rw [hv] at hv2
  injection hv2 with e1 e2 e3
  subst e1 e2
  obtain ⟨b', off', hb', _, _, _, ⟨vb, q3, _⟩, _⟩ := prules_at hA k hk
  injection hb' with hb'
  injection hb' with e1 e2
  subst e1 e2
  have h1 := cell_below hb q3
  rw [hc] at h1
  injection h1 with h1
  subst h1
  exact h b off l.length cap hv k hk _ q3
theorem nums_cell {B : Nat} {w : World} {v : Value} {q : List (List Int × Value)} (h : NumsP B w v q) {k : Nat} (hk : k < q.length) : ∃ g cap y, v = .slice (some ⟨g, 0, none⟩) q.length cap ∧ q[k]? = some y ∧ y ∈ q ∧ w.cell? ⟨g, k, none⟩ = some y.2 ∧ w.ownsRow B 3 1 y.2 y.1.length (y.1.map (Value.int .i64)) := by
  rcases ownsRow_forms9 h.1 with ⟨_, h0⟩ | ⟨g, cap, hv⟩
  · omega
  · subst hv
    refine ⟨g, cap, q[k], rfl, List.getElem?_eq_getElem hk, List.getElem_mem hk, ?_, h.2 _ (List.getElem_mem hk)⟩
    rw [World.ownsRow.cellAt h.1 k (by omega), List.getElem?_map, List.getElem?_eq_getElem hk]
    rfl
set_option maxRecDepth 100000 in
set_option maxHeartbeats 4000000 in
theorem Heads_any (p : Sc.Prog) (i : Int) (facts : List Rl.Fc) (va vn vr vf : Value) (w : World) (hP : ProgV w va vn vr p) (hF : ProgFit p) (hcap : RulesCap w vr) (hV : FactsV w vf facts) (hFl : facts.length ≤ 9223372036854775807) (hFF : ∀ f, f ∈ facts → FFit f) :
    Calls Tryz.prog 15 #[progVal va vn vr, .int .i64 i, vf] w fun e w' => ∃ v, e = .returned (.tuple #[v, .int .i64 (Ru.waysErr p i facts)]) ∧ FactsP w.heap.size w' v (Ru.headsOut p i facts) ∧ Below w.heap.size w w' := by
  obtain ⟨i0, hi, hz0, hz1, hz2⟩ := info_parts rl_info49
  obtain ⟨a0, n0, rfl, _⟩ := id hP.ar
  obtain ⟨a1, n1, rfl, _⟩ := id hP.nm
  obtain ⟨a2, n2, rfl, hRA⟩ := id hP.rl
  obtain ⟨af, cf, rfl, _, hFA⟩ := id hV
  have bT := (Below.refl w.heap.size w).alloc (Nat.le_refl _) (.cells #[.slice a0 p.arity.length n0, .slice a1 p.names.length n1, .slice a2 p.rules.length n2] 26)
  have HBX : Hid _ := heap_alloc_new w (.cells #[.slice a0 p.arity.length n0, .slice a1 p.names.length n1, .slice a2 p.rules.length n2] 26)
  have HB : Hid _ := bT
  have HC : Hid _ := Ways_any p i facts _ _ _ _ _ (hP.below bT) hF (hcap.below hP.rl bT) (factsV_below hV bT) hFl hFF
  have HRA : Hid _ := hRA
  have HHO : Hid (Ru.headsOut p i facts = Ru.heads (Ru.rule p i) (Ru.waysOut p i facts)) := rfl
  clear hP hF hV hFA hFF bT hcap hRA
  go_enter Tryz.func15, Tryz.ntmps15
  go_upto_region 1 with fail
  generalize w.alloc (.cells #[.slice a0 p.arity.length n0, .slice a1 p.names.length n1, .slice a2 p.rules.length n2] 26) = w1 at *
  have c0 : w1.cell? ⟨w.heap.size, 0, none⟩ = some (.slice a0 p.arity.length n0) := by rw [Lib.cell_of_heap HBX.out]; rfl
  have c1 : w1.cell? ⟨w.heap.size, 1, none⟩ = some (.slice a1 p.names.length n1) := by rw [Lib.cell_of_heap HBX.out]; rfl
  have c2 : w1.cell? ⟨w.heap.size, 2, none⟩ = some (.slice a2 p.rules.length n2) := by rw [Lib.cell_of_heap HBX.out]; rfl
  go_wp2_with fail
  refine Calls.mono HC.out ?_
  rintro _ w2 ⟨v, q, rfl, hN, hq, hb2⟩
  have HB2 : Hid (Below w.heap.size w w2) := HB.out.trans (hb2.mono HB.out.size)
  have HBX2 : Hid _ := (hb2.block _ (heap_lt HBX.out)).trans HBX.out
  have HQ : Hid _ := hq
  have HSZ : Hid (w.heap.size ≤ w2.heap.size) := HB2.out.size
  obtain ⟨av, cv, rfl⟩ := own_slice hN.1
  have HN : Hid (NumsP w1.heap.size w2 (.slice av q.length cv) q) := hN
  clear c0 c1 c2 hb2 HB HBX HC hN hq
  by_cases he : Ru.waysErr p i facts = 0
  · have hin := Ru.waysErr_in he
    have hql : q.length ≤ 2000 := by have := Ru.waysOut_le he; rw [← HQ.out, List.length_map] at this; exact this
    have HSOL : Hid (∀ y, y ∈ q → Ru.Sol (Rl.set facts) (Ru.rule p i) y.1) := fun y hy => Ru.mem_waysOut hin (by rw [← HQ.out]; exact List.mem_map_of_mem hy)
    have HRT : Hid (∀ y, y ∈ q → Ru.Right p.arity (Ru.head (Ru.rule p i) y.1)) := fun y hy => Ru.head_right hin.rule hin.set (HSOL.out y hy)
    have HTI : Hid (∀ y, y ∈ q → Ru.TermsIn y.1.length (Ru.rule p i).terms) := fun y hy => by rw [(HSOL.out y hy).1]; exact Ru.termsIn_of hin.rule
    have htl := Ru.rule_short hin.ok hin.rule
    have HFO : Hid (¬ (Ru.rule p i).fold = 0 → ¬ (Ru.rule p i).terms.length = 0) := fun h => (hin.rule.ff h).1
    obtain ⟨k, rfl⟩ : ∃ k : Nat, i = k := ⟨i.toNat, by have := hin.lo; omega⟩
    have hk : k < p.rules.length := by have := hin.hi; omega
    have HRU : Hid (Ru.rule p (k : Int) = Sc.ruleD p.rules k) := by show _ = _; unfold Ru.rule; rw [Int.toNat_natCast]
    rw [HRU.out] at HSOL HRT HTI HFO htl HHO
    obtain ⟨b, off, rfl, q0, ⟨vt, q1, hT⟩, q2, ⟨vb, q3, hL⟩, q4⟩ := prules_at HRA.out k hk
    obtain ⟨at_, ct, rfl, _⟩ := id hT
    obtain ⟨ab, cb, rfl, _⟩ := id hL
    have HT : Hid _ := hT
    have p0 := cell_below HB2.out q0
    have p1 := cell_below HB2.out q1
    have p2 := cell_below HB2.out q2
    have p3 := cell_below HB2.out q3
    have p4 := cell_below HB2.out q4
    have c2 : w2.cell? ⟨w.heap.size, 2, none⟩ = some (.slice (some ⟨b, off, none⟩) p.rules.length n2) := by rw [Lib.cell_of_heap HBX2.out]; rfl
    clear q0 q1 q2 q3 q4 hT hL hin HRA HRU HBX2
    generalize Sc.ruleD p.rules k = r at *
    have HER : Hid _ := he
    rw [he]
    clear he
    go_upto_region 5 with fail
    have hba : Below w2.heap.size w2 (w2.alloc (.cells #[.int .i64 r.pred, .slice at_ r.terms.length ct, .int .i64 r.fold, .slice ab r.body.length cb, .int .i64 r.vars] 40)) := (Below.refl _ _).alloc (Nat.le_refl _) _
    have HRB : Hid _ := heap_alloc_new w2 (.cells #[.int .i64 r.pred, .slice at_ r.terms.length ct, .int .i64 r.fold, .slice ab r.body.length cb, .int .i64 r.vars] 40)
    have HN3 : Hid (NumsP w1.heap.size (w2.alloc (.cells #[.int .i64 r.pred, .slice at_ r.terms.length ct, .int .i64 r.fold, .slice ab r.body.length cb, .int .i64 r.vars] 40)) (.slice av q.length cv) q) := NumsP.below HN.out hba
    have HB3 : Hid _ := HB2.out.trans (hba.mono HB2.out.size)
    have HT3 : Hid _ := ptermsV_below HT.out HB3.out
    clear p0 p1 p2 p3 p4 c2 HB2 HN HT hba
    generalize hRBn : w2.heap.size = RB at *
    generalize w2.alloc (.cells #[.int .i64 r.pred, .slice at_ r.terms.length ct, .int .i64 r.fold, .slice ab r.body.length cb, .int .i64 r.vars] 40) = w3 at *
    clear hRBn
    have r0 : w3.cell? ⟨RB, 0, none⟩ = some (.int .i64 r.pred) := by rw [Lib.cell_of_heap HRB.out]; rfl
    have r1 : w3.cell? ⟨RB, 1, none⟩ = some (.slice at_ r.terms.length ct) := by rw [Lib.cell_of_heap HRB.out]; rfl
    have r2 : w3.cell? ⟨RB, 2, none⟩ = some (.int .i64 r.fold) := by rw [Lib.cell_of_heap HRB.out]; rfl
    clear HRB
    go_wp2_with fail
    go_loopw [11, 31] (fun vh iv wr => ∃ (j : Nat) (qh : List Fv), j ≤ q.length ∧ iv = .int .i64 j ∧ Hid (wr.ownsRow w3.heap.size 55 2 vh qh.length (qh.map fcCells).flatten) ∧ Hid (qh.map (·.1) = (q.take j).map (fun y => Ru.head r y.1)) ∧ Hid (∀ p, p ∈ qh → wr.ownsRow w3.heap.size 3 1 p.2 p.1.args.length (p.1.args.map (Value.int .i64))) ∧ qh.length ≤ j ∧ Hid (Below w3.heap.size w3 wr)) (fun _ iv _ => q.length - (intOf iv).toNat)
    case atStart => exact ⟨0, [], Nat.zero_le _, rfl, World.ownsRow_nil _ _ _ _, rfl, fun _ hp => absurd hp (by simp), Nat.le_refl _, Below.refl _ _⟩
    case round =>
      obtain ⟨wo, hwo⟩ : ∃ wo, wo = wr := ⟨_, rfl⟩
      subst hwo
      obtain ⟨j, qh, hj, rfl, HO, HQH, HRO, hqk, HB4⟩ := hrel
      obtain ⟨ao, co, rfl⟩ := own_slice HO.out
      have t0 := cell_below HB4.out r0
      have t1 := cell_below HB4.out r1
      have t2 := cell_below HB4.out r2
      by_cases hlt : j < q.length
      · obtain ⟨g, cap, y, hv, hy, hym, hyc, hyo⟩ := nums_cell HN3.out hlt
        injection hv with e1 e2 e3
        subst e1 e3
        obtain ⟨ay, cy, hyv⟩ := own_slice hyo
        have HYI : Hid (IntsV wo y.2 y.1) := intsV_below (own_ints hyo) HB4.out
        rw [hyv] at hyc HYI
        have yc := cell_below HB4.out hyc
        have HFI : Hid _ := FillFact_any r.pred r.terms y.1 _ _ wo (ptermsV_below HT3.out HB4.out) HYI.out (by omega) (HTI.out y hym)
        have HTK : Hid ((q.take (j + 1)).map (fun y => Ru.head r y.1) = (q.take j).map (fun y => Ru.head r y.1) ++ [(⟨r.pred, Ru.fill r.terms y.1⟩ : Rl.Fc)]) := by
          show _ = _
          rw [List.take_add_one, hy, List.map_append]
          rfl
        clear hy hym hyc hyo hyv HYI
        generalize Ru.fill r.terms y.1 = fa at *
        generalize y.1.length = yl at *
        go_wp2_with fail
        refine Calls.mono HFI.out ?_
        rintro _ w5 ⟨u, rfl, hrow, hb5⟩
        have HO5 : Hid (w5.ownsRow w3.heap.size 55 2 (.slice ao qh.length co) qh.length (qh.map fcCells).flatten) := ownsRow_below HO.out hb5
        have HRO5 : Hid (∀ p, p ∈ qh → w5.ownsRow w3.heap.size 3 1 p.2 p.1.args.length (p.1.args.map (Value.int .i64))) := fun p hp => ownsRow_below (HRO.out p hp) hb5
        have HB5 : Hid _ := HB4.out.trans (hb5.mono HB4.out.size)
        have HR5 : Hid (w5.ownsRow w3.heap.size 3 1 u fa.length (fa.map (Value.int .i64))) := rl_own_le hrow HB4.out.size
        obtain ⟨au, cu, rfl⟩ := own_slice hrow
        have hsz5 := HB5.out.size
        clear hrow hb5 HFI HO HRO HB4 t0 t1 t2 yc
        go_wp2_with (at_builtin; refine wpList_append_own _ rfl (.tmp 35) (.tmp 42) 27 rfl w3.heap.size 55 i0 _ 2 32 Tryz.underlying27 hi hz0 hz1 hz2 rfl (by decide) _ _ _ rfl (HO5.out.alloc _) ⟨w5.heap.size, 0, none⟩ 1 1 (fcCells (⟨r.pred, fa⟩, .slice au fa.length cu)) rfl rfl ?c1 ?c2 ?c3 ?c4 ?c5 ?_)
        case c1 => exact news2 w5 _ _ 55
        case c2 => intro u hu; simp [fcCells] at hu; rcases hu with rfl | rfl <;> rfl
        case c3 => unfold maxLen; omega
        case c4 => omega
        case c5 => simp; omega
        intro vs2 w6 hown6 hgrow6 _
        obtain ⟨ao9, cap9, rfl⟩ := own_slice hown6
        have hba : Below w5.heap.size w5 (w5.alloc (.cells #[.int .i64 r.pred, .slice au fa.length cu] 55)) := (Below.refl _ _).alloc (Nat.le_refl _) _
        have h3 : ∀ (l : List Int) (u : Value), w5.ownsRow w3.heap.size 3 1 u l.length (l.map (Value.int .i64)) → w6.ownsRow w3.heap.size 3 1 u l.length (l.map (Value.int .i64)) := fun l u hu => own_type hu (fun k c hk => (hgrow6.block k (Nat.lt_of_lt_of_le (heap_lt hk) hba.size) (fun e => by have := own_ty HO5.out e.symm hk; cases this)).trans ((hba.block k (heap_lt hk)).trans hk))
        have HB6 : Hid (Below w3.heap.size w3 w6) := (HB5.out.alloc HB5.out.size _).grown hgrow6 (by simp; omega) (fun k hk => (HO5.out.lt k hk).1)
        have HO6 : Hid (w6.ownsRow w3.heap.size 55 2 (.slice ao9 (qh.length + 1) cap9) (qh ++ [((⟨r.pred, fa⟩ : Rl.Fc), Value.slice au fa.length cu)]).length ((qh ++ [((⟨r.pred, fa⟩ : Rl.Fc), Value.slice au fa.length cu)]).map fcCells).flatten) := by
          show World.ownsRow _ _ _ _ _ _ _
          rw [List.length_append, List.map_append, List.flatten_append]
          simpa using hown6
        have HRO6 : Hid (∀ p, p ∈ qh ++ [((⟨r.pred, fa⟩ : Rl.Fc), Value.slice au fa.length cu)] → w6.ownsRow w3.heap.size 3 1 p.2 p.1.args.length (p.1.args.map (Value.int .i64))) := fun p hp => by
          rcases List.mem_append.mp hp with hp | hp
          · exact h3 _ _ (HRO5.out p hp)
          · rcases List.mem_singleton.mp hp with rfl
            exact h3 _ _ HR5.out
        have HT2 : Hid ((qh ++ [((⟨r.pred, fa⟩ : Rl.Fc), Value.slice au fa.length cu)]).map (·.1) = (q.take (j + 1)).map (fun y => Ru.head r y.1)) := by show _ = _; rw [HTK.out, ← HQH.out, List.map_append]; rfl
        clear hown6 hgrow6 HO5 HRO5 HB5 HR5 h3 hba HTK HQH
        go_wp2_with fail
        go_roundw
        case rel => exact ⟨j + 1, _, hlt, by go_num, HO6.out, HT2.out, HRO6.out, by rw [List.length_append]; exact Nat.succ_le_succ hqk, HB6.out⟩
        case measure => simp [intOf]; omega
      · have hdd : decide (j < q.length) = false := decide_eq_false hlt
        have HQE : Hid (qh.map (·.1) = (Ru.waysOut p k facts).map (Ru.head r)) := by show _ = _; rw [HQH.out, List.take_of_length_le (by omega), ← HQ.out, List.map_map]; rfl
        have HAR : Hid (∀ p, p ∈ qh → p.1.args.length = r.terms.length ∧ ∀ n, n ∈ p.1.args → Sc.isNum n = true) := fun f hf => by
          have h1 : f.1 ∈ qh.map (·.1) := List.mem_map_of_mem hf
          rw [HQH.out] at h1
          obtain ⟨y, hy, hy2⟩ := List.mem_map.mp h1
          have h2 := HRT.out y (List.mem_of_mem_take hy)
          rw [← hy2]
          exact ⟨by show (Ru.fill r.terms y.1).length = _; unfold Ru.fill; rw [List.length_map], h2.nm⟩
        have hql2 : qh.length ≤ 2000 := by omega
        have HB7 : Hid (Below w.heap.size w wo) := HB3.out.trans (HB4.out.mono HB3.out.size)
        clear HQH HN3
        by_cases hf : r.fold = 0
        · have g0 : (r.fold != 0) = false := by simpa using hf
          have HSE : Hid (Rl.set (qh.map (·.1)) = Ru.headsOut p k facts) := by show _ = _; rw [HHO.out, HQE.out]; unfold Ru.heads Ru.headsL; rw [if_pos hf]
          have hFP : FactsP w3.heap.size wo (.slice ao qh.length co) (qh.map (·.1)) := ⟨qh, rfl, HO.out, HRO.out⟩
          have HS : Hid _ := Set_any (qh.map (·.1)) _ wo hFP.toV (by rw [List.length_map]; omega) (fun f hf2 => by
            obtain ⟨z, hz, rfl⟩ := List.mem_map.mp hf2
            have := (HAR.out z hz).1
            omega)
          clear hf hFP
          go_wp2_with fail
          refine Calls.mono HS.out ?_
          rintro _ w8 ⟨v', rfl, hFP, hb8⟩
          obtain ⟨q8, h81, h82, h83⟩ := hFP
          obtain ⟨a8, c8, rfl⟩ := own_slice h82
          have HF8 : Hid (FactsP w.heap.size w8 (.slice a8 q8.length c8) (Ru.headsOut p k facts)) := ⟨q8, by rw [h81]; exact HSE.out, rl_own_le h82 HB7.out.size, fun p hp => rl_own_le (h83 p hp) HB7.out.size⟩
          have HB8 : Hid (Below w.heap.size w w8) := HB7.out.trans (hb8.mono HB7.out.size)
          clear h81 h82 h83 hb8 HS
          go_wp2_with fail
          refine bodyPost_ret (results_tmp2 rfl _ _ _) rfl ?_
          exact ⟨_, by rw [HER.out]; rfl, HF8.out, HB8.out⟩
        · have g0 : (r.fold != 0) = true := by simpa using hf
          have ht0 := HFO.out hf
          have HFD : Hid _ := folded_any r.fold (r.terms.length - 1) qh (.slice ao qh.length co) w3.heap.size wo HO.out HRO.out hql2 (by omega) (fun p hp => ⟨by have := (HAR.out p hp).1; omega, (HAR.out p hp).2⟩)
          have HSE : Hid (∀ S : List Rl.Fc, S.Perm (qh.map (·.1)) → S.Pairwise (fun a b => Rl.ord a b ≤ 0) → Rl.set (Ru.folded r.fold S []) = Ru.headsOut p k facts) := fun S h1 h2 => by rw [HHO.out]; exact Ru.heads_folded hf (by rw [← HQE.out]; exact h1) h2
          have HW3 : Hid (w.heap.size ≤ w3.heap.size) := HB3.out.size
          clear hf ht0
          go_wp2_with fail
          refine Calls.mono HFD.out ?_
          rintro _ w7 ⟨v7, S, rfl, hS1, hS2, hFP7, hb7⟩
          have HSE2 : Hid _ := HSE.out S hS1 hS2
          have hSl : S.length = qh.length := by have := hS1.length_eq; rw [List.length_map] at this; exact this
          have HB9 : Hid (Below w.heap.size w w7) := HB7.out.trans (hb7.mono HW3.out)
          have HSA : Hid (∀ f, f ∈ S → f.args.length = r.terms.length) := fun f hf => by
            obtain ⟨z, hz, rfl⟩ := List.mem_map.mp (hS1.mem_iff.mp hf)
            exact (HAR.out z hz).1
          have HS : Hid _ := Set_any (Ru.folded r.fold S []) _ w7 hFP7.toV (by have := Ru.folded_length r.fold S []; omega) (fun f hf2 => by
            have := Ru.folded_args r.fold r.terms.length S [] HSA.out f hf2
            omega)
          obtain ⟨q7, _, h72, _⟩ := hFP7
          obtain ⟨a7, c7, rfl⟩ := own_slice h72
          clear hS1 hS2 h72 hb7 HFD HSE hSl
          go_wp2_with fail
          refine Calls.mono HS.out ?_
          rintro _ w8 ⟨v', rfl, hFP, hb8⟩
          obtain ⟨q8, h81, h82, h83⟩ := hFP
          obtain ⟨a8, c8, rfl⟩ := own_slice h82
          have HF8 : Hid (FactsP w.heap.size w8 (.slice a8 q8.length c8) (Ru.headsOut p k facts)) := ⟨q8, by rw [h81]; exact HSE2.out, rl_own_le h82 HB9.out.size, fun p hp => rl_own_le (h83 p hp) HB9.out.size⟩
          have HB8 : Hid (Below w.heap.size w w8) := HB9.out.trans (hb8.mono HB9.out.size)
          clear h81 h82 h83 hb8 HS
          go_wp2_with fail
          refine bodyPost_ret (results_tmp2 rfl _ _ _) rfl ?_
          exact ⟨_, by rw [HER.out]; rfl, HF8.out, HB8.out⟩
  · have g0 : (Ru.waysErr p i facts != 0) = true := by simpa using he
    have HE : Hid (Ru.headsOut p i facts = []) := by show _ = _; unfold Ru.headsOut Ru.waysOut; rw [if_pos he]; exact Ru.heads_nil _
    clear he
    go_wp2_with fail
    refine bodyPost_ret (results_tmp2 rfl _ _ _) rfl ?_
    exact ⟨_, rfl, by rw [HE.out]; exact FactsP.nil _ _, HB2.out⟩
end Go.Proofs.YthenjegmigeieaaGreat

/- The document's check of terms. -/
namespace Go.Proofs.YthenjegmigeieaaGreat
open Go.RowKit

end Go.Proofs.YthenjegmigeieaaGreat

/- The document's IsSafe. -/
namespace Go.Proofs.YthenjegmigeieaaGreat
open Go.RowKit

end Go.Proofs.YthenjegmigeieaaGreat

/- The document's check of a rule. -/
namespace Go.Proofs.YthenjegmigeieaaGreat
open Go.RowKit

end Go.Proofs.YthenjegmigeieaaGreat

/- The document's answer: is a text just one token of a kind? -/
namespace Go.Proofs.YthenjegmigeieaaGreat
open Go.RowKit

end Go.Proofs.YthenjegmigeieaaGreat

/- The document's answer: names and terms that are right. -/
namespace Go.Proofs.YthenjegmigeieaaGreat
open Go.RowKit

end Go.Proofs.YthenjegmigeieaaGreat

/- The document's check of a program. -/
namespace Go.Proofs.YthenjegmigeieaaGreat
open Go.RowKit

end Go.Proofs.YthenjegmigeieaaGreat

/- The document's comparison of two lists of terms. -/
namespace Go.Proofs.YthenjegmigeieaaGreat
open Go.RowKit

namespace Tr
end Tr

end Go.Proofs.YthenjegmigeieaaGreat

/- The document's comparison of two trees. -/
namespace Go.Proofs.YthenjegmigeieaaGreat
open Go.RowKit

namespace Tr
end Tr

abbrev rulObj (r : Tr.Rule) (v u : Value) : Obj := .cells #[.int .i64 r.at_, .string ⟨r.name.toArray⟩, v, .int .i64 r.fold, u] 240
end Go.Proofs.YthenjegmigeieaaGreat

/- The document's SameProgram, of what is the same. -/
namespace Go.Proofs.YthenjegmigeieaaGreat
open Go.RowKit

abbrev pruObj (r : Sc.Rule) (v u : Value) : Obj := .cells #[.int .i64 r.pred, v, .int .i64 r.fold, u, .int .i64 r.vars] 40
abbrev pliObj (x : Sc.Lit) (v : Value) : Obj := .cells #[.int .i64 x.kind, .int .i64 x.op, .int .i64 x.pred, v] 49
end Go.Proofs.YthenjegmigeieaaGreat

/- The document's SameLists; lists of numbers that are read. -/
namespace Go.Proofs.YthenjegmigeieaaGreat
open Go.RowKit

namespace Ru
def rowD (L : List (List Int)) (i : Nat) : List Int := L.getD i []
end Ru
/-- Lists of numbers that are read. -/
def NumsAt (w : World) (ao : Option Addr) (L : List (List Int)) : Prop :=
  L = [] ∨ ∃ b off, ao = some ⟨b, off, none⟩ ∧ ∀ i, i < L.length → ∃ u, w.cell? ⟨b, off + i, none⟩ = some u ∧ IntsV w u (Ru.rowD L i)
def NumsV (w : World) (v : Value) (L : List (List Int)) : Prop := ∃ ao cap, v = .slice ao L.length cap ∧ NumsAt w ao L
theorem numsV_below {w w' : World} {v : Value} {L : List (List Int)} (h : NumsV w v L) (hb : Below w.heap.size w w') : NumsV w' v L := by
  obtain ⟨ao, cap, rfl, h⟩ := h
  refine ⟨ao, cap, rfl, ?_⟩
  rcases h with h | ⟨b, off, ha, hc⟩
  · exact .inl h
  · refine .inr ⟨b, off, ha, fun i hi => ?_⟩
    obtain ⟨u, h1, h2⟩ := hc i hi
    exact ⟨u, cell_below hb h1, intsV_below h2 hb⟩
theorem nums_at {w : World} {ao : Option Addr} {L : List (List Int)} (h : NumsAt w ao L) {k : Nat} (hk : k < L.length) : ∃ b off u, ao = some ⟨b, off, none⟩ ∧ w.cell? ⟨b, off + k, none⟩ = some u ∧ IntsV w u (Ru.rowD L k) := by
  rcases h with h | ⟨b, off, ha, hc⟩
  · rw [h] at hk; exact absurd hk (by simp)
  · obtain ⟨u, h1, h2⟩ := hc k hk
    exact ⟨b, off, u, ha, h1, h2⟩
theorem NumsP.toV {B : Nat} {w : World} {v : Value} {q : List (List Int × Value)} {L : List (List Int)} (h : NumsP B w v q) (hq : q.map (·.1) = L) : NumsV w v L := by
  have hl : q.length = L.length := by rw [← hq, List.length_map]
  obtain ⟨ao, cap, hv⟩ := own_slice h.1
  refine ⟨ao, cap, by rw [hv, hl], ?_⟩
  by_cases h0 : L = []
  · exact .inl h0
  · have hpos : 0 < q.length := by rw [hl]; exact List.length_pos_iff.mpr h0
    obtain ⟨g, c, y, hv2, _⟩ := nums_cell h hpos
    rw [hv] at hv2
    injection hv2 with e1 e2 e3
    subst e1
    refine .inr ⟨g, 0, rfl, fun i hi => ?_⟩
    obtain ⟨g', c', y', hv3, hy, _, hc, ho⟩ := nums_cell h (k := i) (by omega)
    rw [hv] at hv3
    injection hv3 with e1 e2 e3
    injection e1 with e1
    injection e1 with e1
    subst e1
    refine ⟨y'.2, by rw [Nat.zero_add]; exact hc, ?_⟩
    have : Ru.rowD L i = y'.1 := by unfold Ru.rowD; rw [← hq, List.getD_eq_getElem?_getD, List.getElem?_map, hy]; rfl
    rw [this]
    exact own_ints ho
set_option maxRecDepth 100000 in
set_option maxHeartbeats 400000 in
theorem sameInts_q1 (l : List Int) (w : World) (n ca cb ba oa bb ob : Nat) (hmax : n ≤ 9223372036854775807)
    (hA : ∀ i, i < n → w.cell? ⟨ba, oa + i, none⟩ = some (.int .i64 (Sc.intD l i))) (hB : ∀ i, i < n → w.cell? ⟨bb, ob + i, none⟩ = some (.int .i64 (Sc.intD l i))) :
    Calls Tryz.prog 25 #[.slice (some ⟨ba, oa, none⟩) n ca, .slice (some ⟨bb, ob, none⟩) n cb] w fun e w' => e = .returned (.bool true) ∧ ∃ j, w' = w.drewN j := by
  have hne : ((n : Int) != (n : Int)) = false := by simp
  go_enter Tryz.func25, Tryz.ntmps25
  go_wp2_with fail
  go_loopw [5] (fun i wr => ∃ k nq : Nat, k ≤ n ∧ i = .int .i64 k ∧ wr = w.drewN nq) (fun i _ => n - (intOf i).toNat)
  case atStart => exact ⟨0, 0, Nat.zero_le _, rfl, rfl⟩
  case round =>
    obtain ⟨k, nq, hk, rfl, rfl⟩ := hrel
    by_cases hlt : k < n
    · have a0 := hA k hlt; have b0 := hB k hlt
      clear hA hB
      generalize Sc.intD l k = x at *
      go_wp2_with fail
      go_quiet (fail)
      go_wp2_with fail
      go_roundw
      case rel => exact ⟨k + 1, _, by omega, by go_num, rfl⟩
      case measure => simp [intOf]; omega
    · clear hA hB
      go_wp2_with fail
      go_ret
      exact ⟨rfl, _, rfl⟩
set_option maxRecDepth 100000 in
set_option maxHeartbeats 400000 in
theorem sameInts_q0 (w : World) (a b : Option Addr) (ca cb : Nat) : Calls Tryz.prog 25 #[.slice a 0 ca, .slice b 0 cb] w fun e w' => e = .returned (.bool true) ∧ ∃ j, w' = w.drewN j := by
  go_enter Tryz.func25, Tryz.ntmps25
  go_wp2_with fail
  refine wp_loop_rounds 1 ?_
  rw [rounds_succ]
  go_wp2_with fail
  go_ret
  exact ⟨rfl, 0, rfl⟩
theorem sameInts_q (l : List Int) (w : World) (va vb : Value) (hmax : l.length ≤ 9223372036854775807) (hA : IntsV w va l) (hB : IntsV w vb l) :
    Calls Tryz.prog 25 #[va, vb] w fun e w' => e = .returned (.bool true) ∧ ∃ j, w' = w.drewN j := by
  obtain ⟨ao, ca, rfl, hA⟩ := hA
  obtain ⟨bo, cb, rfl, hB⟩ := hB
  rcases hA with rfl | ⟨ba, oa, rfl, hA⟩
  · exact sameInts_q0 w ao bo ca cb
  · rcases hB with rfl | ⟨bb, ob, rfl, hB⟩
    · exact sameInts_q0 w _ bo ca cb
    · exact sameInts_q1 l w l.length ca cb ba oa bb ob hmax hA hB
set_option maxRecDepth 100000 in
set_option maxHeartbeats 1000000 in
theorem SameLists_refl (L : List (List Int)) (v u : Value) (w : World) (hV : NumsV w v L) (hU : NumsV w u L) (hl : L.length ≤ 1000000) (hm : ∀ i, i < L.length → (Ru.rowD L i).length ≤ 9223372036854775807) :
    Calls Tryz.prog 20 #[v, u] w fun e w' => e = .returned (.bool true) ∧ ∃ j, w' = w.drewN j := by
  obtain ⟨ao, cap, rfl, hA⟩ := hV
  obtain ⟨bo, cbp, rfl, hB⟩ := hU
  have HA : Hid _ := hA
  have HB : Hid _ := hB
  have HM : Hid _ := hm
  have g0 : ((L.length : Int) != (L.length : Int)) = false := by simp
  clear hA hB hm
  go_enter Tryz.func20, Tryz.ntmps20
  go_wp2_with fail
  go_loopw [5] (fun i wr => ∃ k : Nat, k ≤ L.length ∧ i = .int .i64 k ∧ Hid (∃ nq, wr = w.drewN nq)) (fun i _ => L.length - (intOf i).toNat)
  case atStart => exact ⟨0, Nat.zero_le _, rfl, 0, rfl⟩
  case round =>
    obtain ⟨k, hk, rfl, HD⟩ := hrel
    have HBw : Hid (Below w.heap.size w wr) := by obtain ⟨nq, rfl⟩ := HD.out; exact blw_drewN _ _
    by_cases hlt : k < L.length
    · obtain ⟨b, off, x, rfl, c1, h1⟩ := nums_at HA.out hlt
      obtain ⟨b2, off2, y, rfl, c2, h2⟩ := nums_at HB.out hlt
      have HQ : Hid (∀ j, Calls Tryz.prog 25 #[x, y] (wr.drewN j) fun e w' => e = .returned (.bool true) ∧ ∃ n, w' = (wr.drewN j).drewN n) := fun j => sameInts_q _ _ _ _ (HM.out k hlt) (intsV_below h1 (HBw.out.trans ((blw_drewN _ _).mono HBw.out.size))) (intsV_below h2 (HBw.out.trans ((blw_drewN _ _).mono HBw.out.size)))
      obtain ⟨ax, cx, rfl, _⟩ := h1
      obtain ⟨ay, cy, rfl, _⟩ := h2
      have d1 := cell_below HBw.out c1
      have d2 := cell_below HBw.out c2
      clear c1 c2
      generalize (Ru.rowD L k).length = n at *
      go_upto_region 6 with fail
      go_quiet (first | (go_at_call 25; exact Calls.quiet_of (HQ.out _)))
      go_wp2_with fail
      go_roundw
      case rel => exact ⟨k + 1, hlt, by go_num, by obtain ⟨nq, rfl⟩ := HD.out; exact ⟨_, World.drewN_drewN _ _ _⟩⟩
      case measure => simp [intOf]; omega
    · have hdd : decide (k < L.length) = false := decide_eq_false hlt
      go_wp2_with fail
      go_ret
      exact ⟨rfl, HD.out⟩
end Go.Proofs.YthenjegmigeieaaGreat

/- The small program of what must be in any case. -/
namespace Go.Proofs.YthenjegmigeieaaGreat
open Go.RowKit

def smallQ : Sc.Prog := ⟨[2, 2], [[113], [112]],
  [⟨1, [⟨0, 0⟩, ⟨1, 0⟩], 0, [⟨1, 0, 0, [⟨0, 0⟩, ⟨1, 0⟩]⟩], 2⟩,
   ⟨1, [⟨0, 0⟩, ⟨2, 0⟩], 0, [⟨1, 0, 1, [⟨0, 0⟩, ⟨1, 0⟩]⟩, ⟨1, 0, 0, [⟨1, 0⟩, ⟨2, 0⟩]⟩], 3⟩]⟩

/-- Objects laid one behind the other. -/
def laidAll (w : World) : List Obj → World
  | [] => w
  | o :: os => laidAll (w.alloc o) os
theorem laidAll_below : ∀ (os : List Obj) (w : World), Below w.heap.size w (laidAll w os) := by
  intro os
  induction os with
  | nil => intro w; exact Below.refl _ _
  | cons o os ih =>
    intro w
    have b1 : Below w.heap.size w (w.alloc o) := (Below.refl _ _).alloc (Nat.le_refl _) o
    exact b1.trans ((ih (w.alloc o)).mono b1.size)
theorem laidAll_at : ∀ (os : List Obj) (w : World) (k : Nat) (o : Obj), os[k]? = some o → (laidAll w os).heap[w.heap.size + k]? = some o := by
  intro os
  induction os with
  | nil => intro w k o h; simp at h
  | cons x os ih =>
    intro w k o h
    cases k with
    | zero =>
      have hx : x = o := by simpa using h
      subst hx
      have hn := heap_alloc_new w x
      exact ((laidAll_below os (w.alloc x)).block _ (heap_lt hn)).trans hn
    | succ k =>
      have := ih (w.alloc x) k o (by simpa using h)
      have hs : (w.alloc x).heap.size = w.heap.size + 1 := by simp
      rw [hs] at this
      rw [show w.heap.size + (k + 1) = w.heap.size + 1 + k by omega]
      exact this
theorem laidAll_cell (os : List Obj) (w : World) (k : Nat) (c : Array Value) (t : Nat) (i : Nat) (v : Value) (h : os[k]? = some (.cells c t)) (hv : c[i]? = some v) :
    (laidAll w os).cell? ⟨w.heap.size + k, i, none⟩ = some v := by
  rw [Lib.cell_of_heap (laidAll_at os w k _ h)]; exact hv

abbrev slc (n k l : Nat) : Value := .slice (some ⟨n + k, 0, none⟩) l l
abbrev num (i : Int) : Value := .int .i64 i
def smallO (n : Nat) : List Obj :=
  [.cells #[slc n 4 2, slc n 5 2, slc n 13 2] 26,
   .cells #[num 0, num 0] 147, .cells #[num 1, num 0] 147, .cells #[num 2, num 0] 147,
   .cells #[num 2, num 2] 3,
   .cells #[.string ⟨#[113]⟩, .string ⟨#[112]⟩] 9,
   .cells #[num 0, num 0, num 1, num 0] 147,
   .cells #[num 0, num 0, num 1, num 0] 147,
   .cells #[num 1, num 0, num 0, slc n 7 2] 49,
   .cells #[num 0, num 0, num 2, num 0] 147,
   .cells #[num 0, num 0, num 1, num 0] 147,
   .cells #[num 1, num 0, num 2, num 0] 147,
   .cells #[num 1, num 0, num 1, slc n 10 2, num 1, num 0, num 0, slc n 11 2] 49,
   .cells #[num 1, slc n 6 2, num 0, slc n 8 1, num 2, num 1, slc n 9 2, num 0, slc n 12 2, num 3] 40]

theorem small_terms (w : World) (os : List Obj) (k : Nat) (a b : Int) (h : os[k]? = some (.cells #[num a, num 0, num b, num 0] 147)) :
    PTermsV (laidAll w os) (slc w.heap.size k 2) [⟨a, 0⟩, ⟨b, 0⟩] := by
  refine ⟨_, _, rfl, Nat.le_refl _, .inr ⟨_, 0, rfl, fun i hi => ?_⟩⟩
  match i, hi with
  | 0, _ => exact ⟨laidAll_cell os w k _ _ 0 _ h rfl, laidAll_cell os w k _ _ 1 _ h rfl⟩
  | 1, _ => exact ⟨laidAll_cell os w k _ _ 2 _ h rfl, laidAll_cell os w k _ _ 3 _ h rfl⟩

theorem small_prog (w : World) : ProgV (laidAll w (smallO w.heap.size)) (slc w.heap.size 4 2) (slc w.heap.size 5 2) (slc w.heap.size 13 2) smallQ := by
  have c : ∀ (k : Nat) (c : Array Value) (t i : Nat) (v : Value), (smallO w.heap.size)[k]? = some (.cells c t) → c[i]? = some v → (laidAll w (smallO w.heap.size)).cell? ⟨w.heap.size + k, i, none⟩ = some v :=
    fun k c t i v => laidAll_cell _ w k c t i v
  refine ⟨?_, ?_, ?_⟩
  · refine ⟨_, _, rfl, .inr ⟨_, 0, rfl, fun i hi => ?_⟩⟩
    match i, hi with
    | 0, _ => exact c 4 _ _ 0 _ rfl rfl
    | 1, _ => exact c 4 _ _ 1 _ rfl rfl
  · refine ⟨_, _, rfl, .inr ⟨_, 0, rfl, fun i hi => ?_⟩⟩
    match i, hi with
    | 0, _ => exact c 5 _ _ 0 _ rfl rfl
    | 1, _ => exact c 5 _ _ 1 _ rfl rfl
  · refine ⟨_, _, rfl, .inr ⟨_, 0, rfl, fun i hi => ?_⟩⟩
    match i, hi with
    | 0, _ =>
      refine ⟨c 13 _ _ 0 _ rfl rfl, ⟨_, c 13 _ _ 1 _ rfl rfl, small_terms w _ 6 0 1 rfl⟩, c 13 _ _ 2 _ rfl rfl, ⟨_, c 13 _ _ 3 _ rfl rfl, ?_⟩, c 13 _ _ 4 _ rfl rfl⟩
      refine ⟨_, _, rfl, .inr ⟨_, 0, rfl, fun j hj => ?_⟩⟩
      match j, hj with
      | 0, _ => exact ⟨c 8 _ _ 0 _ rfl rfl, c 8 _ _ 1 _ rfl rfl, c 8 _ _ 2 _ rfl rfl, _, c 8 _ _ 3 _ rfl rfl, small_terms w _ 7 0 1 rfl⟩
    | 1, _ =>
      refine ⟨c 13 _ _ 5 _ rfl rfl, ⟨_, c 13 _ _ 6 _ rfl rfl, small_terms w _ 9 0 2 rfl⟩, c 13 _ _ 7 _ rfl rfl, ⟨_, c 13 _ _ 8 _ rfl rfl, ?_⟩, c 13 _ _ 9 _ rfl rfl⟩
      refine ⟨_, _, rfl, .inr ⟨_, 0, rfl, fun j hj => ?_⟩⟩
      match j, hj with
      | 0, _ => exact ⟨c 12 _ _ 0 _ rfl rfl, c 12 _ _ 1 _ rfl rfl, c 12 _ _ 2 _ rfl rfl, _, c 12 _ _ 3 _ rfl rfl, small_terms w _ 10 0 1 rfl⟩
      | 1, _ => exact ⟨c 12 _ _ 4 _ rfl rfl, c 12 _ _ 5 _ rfl rfl, c 12 _ _ 6 _ rfl rfl, _, c 12 _ _ 7 _ rfl rfl, small_terms w _ 11 1 2 rfl⟩

end Go.Proofs.YthenjegmigeieaaGreat

/- What must be in any case: the small program's levels, needs and focus. -/
namespace Go.Proofs.YthenjegmigeieaaGreat
open Go.RowKit

theorem smallQ_fit : ProgFit smallQ := by
  refine ⟨by decide, by decide, by decide, fun i hi => ?_⟩
  match i, hi with
  | 0, _ =>
    refine ⟨by decide, by decide, fun j hj => ?_⟩
    match j, hj with
    | 0, _ => exact (by decide : (2 : Nat) ≤ 9223372036854775807)
  | 1, _ =>
    refine ⟨by decide, by decide, fun j hj => ?_⟩
    match j, hj with
    | 0, _ => exact (by decide : (2 : Nat) ≤ 9223372036854775807)
    | 1, _ => exact (by decide : (2 : Nat) ≤ 9223372036854775807)
end Go.Proofs.YthenjegmigeieaaGreat

/- The law's relationBegun. -/
namespace Go.Proofs.YthenjegmigeieaaGreat
open Go.RowKit

set_option maxRecDepth 100000 in
set_option maxHeartbeats 400000 in
theorem fact_any (p : Int) (a : Option Addr) (n c : Nat) (w : World) :
    Calls Tryz.prog 65 #[.int .i64 p, .slice a n c] w fun e w' => e = .returned (fcVal p (.slice a n c)) ∧ Below w.heap.size w w' := by
  have hb0 : ∀ o, Below w.heap.size w (w.alloc o) := fun o => (Below.refl _ _).alloc (Nat.le_refl _) o
  go_enter Tryz.func65, Tryz.ntmps65
  go_wp2_with fail
  have hGa := rl_new w (.cells #[.int .i64 p, .slice a n c] 55)
  have d0 : (w.alloc (.cells #[.int .i64 p, .slice a n c] 55)).cell? ⟨w.heap.size, 0, none⟩ = some (.int .i64 p) := by rw [Lib.cell_of_heap hGa]; rfl
  have d1 : (w.alloc (.cells #[.int .i64 p, .slice a n c] 55)).cell? ⟨w.heap.size, 1, none⟩ = some (.slice a n c) := by rw [Lib.cell_of_heap hGa]; rfl
  refine bodyPost_ret (v := fcVal p (.slice a n c)) (by simp [results, Tryz.results65, go_sem, d0, d1]) rfl ⟨rfl, hb0 _⟩

end Go.Proofs.YthenjegmigeieaaGreat

/- What the tables of relation's regions say of a value. -/
namespace Go.Proofs.YthenjegmigeieaaGreat
open Go.RowKit

end Go.Proofs.YthenjegmigeieaaGreat

/- Rows of facts, of numbers, of truths that a literal lays. -/
namespace Go.Proofs.YthenjegmigeieaaGreat
open Go.RowKit

theorem new_below (y : World) (o : Obj) : Below y.heap.size y (y.alloc o) := (Below.refl _ _).alloc (Nat.le_refl _) o
theorem facts_new1 (y : World) (f : Rl.Fc) (u : Value) (h : IntsV y u f.args) : FactsV (y.alloc (.cells #[.int .i64 f.pred, u] 55)) (.slice (some ⟨y.heap.size, 0, none⟩) 1 1) [f] := by
  refine ⟨_, _, rfl, ⟨Nat.le_refl _, fun h => by cases h⟩, .inr ⟨_, _, rfl, fun i hi => ?_⟩⟩
  have h0 : i = 0 := by simp at hi; omega
  subst h0
  exact ⟨by rw [Lib.cell_of_heap (rl_new y _)]; rfl, u, by rw [Lib.cell_of_heap (rl_new y _)]; rfl, intsV_below h (new_below _ _)⟩
end Go.Proofs.YthenjegmigeieaaGreat

/- What must be in any case: the small program's ways and heads. -/
namespace Go.Proofs.YthenjegmigeieaaGreat
open Go.RowKit

theorem capOk_slc (n k l : Nat) : CapOk (slc n k l) := by
  intro ao m cp h
  injection h with _ h1 h2
  omega
theorem small_caps (w : World) : RulesCap (laidAll w (smallO w.heap.size)) (slc w.heap.size 13 2) := by
  have c3 : (laidAll w (smallO w.heap.size)).cell? ⟨w.heap.size + 13, 3, none⟩ = some (slc w.heap.size 8 1) := laidAll_cell (smallO w.heap.size) w 13 _ _ 3 _ rfl rfl
  have c8 : (laidAll w (smallO w.heap.size)).cell? ⟨w.heap.size + 13, 8, none⟩ = some (slc w.heap.size 12 2) := laidAll_cell (smallO w.heap.size) w 13 _ _ 8 _ rfl rfl
  generalize laidAll w (smallO w.heap.size) = W at *
  generalize w.heap.size = N at *
  intro b off n cap hv k hk v hc
  injection hv with e1 e2 e3
  injection e1 with e1
  injection e1 with e1 e4
  subst e2 e4
  rw [← e1] at hc
  rcases (show k = 0 ∨ k = 1 by omega) with rfl | rfl
  · have hc' : W.cell? ⟨N + 13, 3, none⟩ = some v := hc
    rw [c3] at hc'
    rw [← Option.some.inj hc']
    exact capOk_slc _ _ _
  · have hc' : W.cell? ⟨N + 13, 8, none⟩ = some v := hc
    rw [c8] at hc'
    rw [← Option.some.inj hc']
    exact capOk_slc _ _ _
set_option maxRecDepth 100000 in
set_option maxHeartbeats 2000000 in
theorem small_cap (w : World) : Calls Tryz.prog 63 #[] w fun e w' => ∃ ua un ur, e = .returned (progVal ua un ur) ∧ ProgV w' ua un ur smallQ ∧ RulesCap w' ur ∧ Below w.heap.size w w' := by
  have HS : Hid (ProgV (laidAll w (smallO w.heap.size)) (slc w.heap.size 4 2) (slc w.heap.size 5 2) (slc w.heap.size 13 2) smallQ ∧ RulesCap (laidAll w (smallO w.heap.size)) (slc w.heap.size 13 2) ∧ Below w.heap.size w (laidAll w (smallO w.heap.size))) := ⟨small_prog w, small_caps w, laidAll_below _ w⟩
  have h0 : (laidAll w (smallO w.heap.size)).heap[w.heap.size]? = _ := laidAll_at (smallO w.heap.size) w 0 _ rfl
  have d0 : (laidAll w (smallO w.heap.size)).cell? ⟨w.heap.size, 0, none⟩ = some (slc w.heap.size 4 2) := by rw [Lib.cell_of_heap h0]; rfl
  have d1 : (laidAll w (smallO w.heap.size)).cell? ⟨w.heap.size, 1, none⟩ = some (slc w.heap.size 5 2) := by rw [Lib.cell_of_heap h0]; rfl
  have d2 : (laidAll w (smallO w.heap.size)).cell? ⟨w.heap.size, 2, none⟩ = some (slc w.heap.size 13 2) := by rw [Lib.cell_of_heap h0]; rfl
  have HD : Hid (_ ∧ _ ∧ _) := ⟨d0, d1, d2⟩
  clear h0 d0 d1 d2
  go_enter Tryz.func63, Tryz.ntmps63
  go_wp2_with fail
  change bodyPost _ _ _ _ _ (laidAll w (smallO w.heap.size))
  obtain ⟨d0, d1, d2⟩ := HD.out
  generalize laidAll w (smallO w.heap.size) = w2 at *
  refine bodyPost_ret (v := progVal (slc w.heap.size 4 2) (slc w.heap.size 5 2) (slc w.heap.size 13 2)) (by simp [results, Tryz.results63, go_sem, d0, d1, d2]) rfl ⟨_, _, _, rfl, HS.out.1, HS.out.2.1, HS.out.2.2⟩

def fullF : List Rl.Fc := [⟨0, [1, 2]⟩, ⟨0, [2, 3]⟩, ⟨1, [1, 2]⟩, ⟨1, [1, 3]⟩, ⟨1, [2, 3]⟩]
theorem fullF_err : Ru.waysErr smallQ 1 fullF = 0 := by kernel_rfl
theorem fullF_ways : Ru.waysOut smallQ 1 fullF = [[1, 2, 3]] := by kernel_rfl
theorem fullF_heads : Ru.headsOut smallQ 1 fullF = [⟨1, [1, 3]⟩] := by kernel_rfl
theorem fullF_fit : ∀ f, f ∈ fullF → FFit f := by
  intro f hf
  simp only [fullF, List.mem_cons, List.not_mem_nil, or_false] at hf
  rcases hf with rfl | rfl | rfl | rfl | rfl <;> exact (by decide : (2 : Nat) ≤ 9223372036854775807)
theorem ints_new2 (y : World) (a b : Int) : IntsV (y.alloc (.cells #[.int .i64 a, .int .i64 b] 3)) (.slice (some ⟨y.heap.size, 0, none⟩) 2 2) [a, b] := by
  refine ⟨_, _, rfl, .inr ⟨_, 0, rfl, fun i hi => ?_⟩⟩
  match i, hi with
  | 0, _ => rw [Lib.cell_of_heap (rl_new y _)]; rfl
  | 1, _ => rw [Lib.cell_of_heap (rl_new y _)]; rfl
theorem ints_new3 (y : World) (a b c : Int) : IntsV (y.alloc (.cells #[.int .i64 a, .int .i64 b, .int .i64 c] 3)) (.slice (some ⟨y.heap.size, 0, none⟩) 3 3) [a, b, c] := by
  refine ⟨_, _, rfl, .inr ⟨_, 0, rfl, fun i hi => ?_⟩⟩
  match i, hi with
  | 0, _ => rw [Lib.cell_of_heap (rl_new y _)]; rfl
  | 1, _ => rw [Lib.cell_of_heap (rl_new y _)]; rfl
  | 2, _ => rw [Lib.cell_of_heap (rl_new y _)]; rfl
theorem nums_new1 (y : World) (u : Value) (l : List Int) (h : IntsV y u l) : NumsV (y.alloc (.cells #[u] 22)) (.slice (some ⟨y.heap.size, 0, none⟩) 1 1) [l] := by
  refine ⟨_, _, rfl, .inr ⟨_, 0, rfl, fun i hi => ?_⟩⟩
  match i, hi with
  | 0, _ => exact ⟨u, by rw [Lib.cell_of_heap (rl_new y _)]; rfl, intsV_below h (new_below _ _)⟩
theorem facts_new5 (y : World) (f0 f1 f2 f3 f4 : Rl.Fc) (u0 u1 u2 u3 u4 : Value) (h0 : IntsV y u0 f0.args) (h1 : IntsV y u1 f1.args) (h2 : IntsV y u2 f2.args) (h3 : IntsV y u3 f3.args) (h4 : IntsV y u4 f4.args) : FactsV (y.alloc (.cells #[.int .i64 f0.pred, u0, .int .i64 f1.pred, u1, .int .i64 f2.pred, u2, .int .i64 f3.pred, u3, .int .i64 f4.pred, u4] 55)) (.slice (some ⟨y.heap.size, 0, none⟩) 5 5) [f0, f1, f2, f3, f4] := by
  refine ⟨_, _, rfl, ⟨Nat.le_refl _, fun h => by cases h⟩, .inr ⟨_, 0, rfl, fun i hi => ?_⟩⟩
  match i, hi with
  | 0, _ => exact ⟨by rw [Lib.cell_of_heap (rl_new y _)]; rfl, u0, by rw [Lib.cell_of_heap (rl_new y _)]; rfl, intsV_below h0 (new_below _ _)⟩
  | 1, _ => exact ⟨by rw [Lib.cell_of_heap (rl_new y _)]; rfl, u1, by rw [Lib.cell_of_heap (rl_new y _)]; rfl, intsV_below h1 (new_below _ _)⟩
  | 2, _ => exact ⟨by rw [Lib.cell_of_heap (rl_new y _)]; rfl, u2, by rw [Lib.cell_of_heap (rl_new y _)]; rfl, intsV_below h2 (new_below _ _)⟩
  | 3, _ => exact ⟨by rw [Lib.cell_of_heap (rl_new y _)]; rfl, u3, by rw [Lib.cell_of_heap (rl_new y _)]; rfl, intsV_below h3 (new_below _ _)⟩
  | 4, _ => exact ⟨by rw [Lib.cell_of_heap (rl_new y _)]; rfl, u4, by rw [Lib.cell_of_heap (rl_new y _)]; rfl, intsV_below h4 (new_below _ _)⟩
set_option maxRecDepth 100000 in
set_option maxHeartbeats 2000000 in
theorem full_any (w : World) : Calls Tryz.prog 64 #[] w fun e w' => ∃ v, e = .returned v ∧ FactsV w' v fullF ∧ Below w.heap.size w w' := by
  have HFC : Hid (∀ (p : Int) (a : Option Addr) (n c : Nat) (w : World), Calls Tryz.prog 65 #[.int .i64 p, .slice a n c] w fun e w' => e = .returned (fcVal p (.slice a n c)) ∧ Below w.heap.size w w') := fact_any
  go_enter Tryz.func64, Tryz.ntmps64
  go_wp2_with fail
  have H1 : Hid _ := ints_new2 w 1 2
  have B1 : Hid _ := new_below w (.cells #[.int .i64 1, .int .i64 2] 3)
  generalize hX1 : w.heap.size = X1 at *
  generalize w.alloc (.cells #[.int .i64 1, .int .i64 2] 3) = w1 at *
  refine Calls.mono (HFC.out _ _ _ _ _) ?_
  rintro _ y1 ⟨rfl, hb1⟩
  have J1 : Hid _ := intsV_below H1.out hb1
  have D1 : Hid (Below X1 w y1) := B1.out.trans (hb1.mono (by rw [← hX1]; rw [← hX1] at B1; exact B1.out.size))
  clear hb1 H1 B1
  go_wp2_with fail
  have H2 : Hid _ := ints_new2 y1 2 3
  have K1 : Hid _ := intsV_below J1.out (new_below y1 (.cells #[.int .i64 2, .int .i64 3] 3))
  have D2 : Hid (Below X1 w (y1.alloc (.cells #[.int .i64 2, .int .i64 3] 3))) := D1.out.trans ((new_below y1 _).mono (by have := D1.out.size; omega))
  clear J1 D1
  generalize hX2 : y1.heap.size = X2 at *
  generalize y1.alloc (.cells #[.int .i64 2, .int .i64 3] 3) = w2 at *
  refine Calls.mono (HFC.out _ _ _ _ _) ?_
  rintro _ y2 ⟨rfl, hb2⟩
  have J1 : Hid _ := intsV_below K1.out hb2
  have J2 : Hid _ := intsV_below H2.out hb2
  have D3 : Hid (Below X1 w y2) := D2.out.trans (hb2.mono (by have := D2.out.size; omega))
  clear hb2 H2 K1 D2
  go_wp2_with fail
  have H3 : Hid _ := ints_new2 y2 1 2
  have K1 : Hid _ := intsV_below J1.out (new_below y2 (.cells #[.int .i64 1, .int .i64 2] 3))
  have K2 : Hid _ := intsV_below J2.out (new_below y2 (.cells #[.int .i64 1, .int .i64 2] 3))
  have D4 : Hid (Below X1 w (y2.alloc (.cells #[.int .i64 1, .int .i64 2] 3))) := D3.out.trans ((new_below y2 _).mono (by have := D3.out.size; omega))
  clear J1 J2 D3
  generalize hX3 : y2.heap.size = X3 at *
  generalize y2.alloc (.cells #[.int .i64 1, .int .i64 2] 3) = w3 at *
  refine Calls.mono (HFC.out _ _ _ _ _) ?_
  rintro _ y3 ⟨rfl, hb3⟩
  have J1 : Hid _ := intsV_below K1.out hb3
  have J2 : Hid _ := intsV_below K2.out hb3
  have J3 : Hid _ := intsV_below H3.out hb3
  have D5 : Hid (Below X1 w y3) := D4.out.trans (hb3.mono (by have := D4.out.size; omega))
  clear hb3 H3 K1 K2 D4
  go_wp2_with fail
  have H4 : Hid _ := ints_new2 y3 1 3
  have K1 : Hid _ := intsV_below J1.out (new_below y3 (.cells #[.int .i64 1, .int .i64 3] 3))
  have K2 : Hid _ := intsV_below J2.out (new_below y3 (.cells #[.int .i64 1, .int .i64 3] 3))
  have K3 : Hid _ := intsV_below J3.out (new_below y3 (.cells #[.int .i64 1, .int .i64 3] 3))
  have D6 : Hid (Below X1 w (y3.alloc (.cells #[.int .i64 1, .int .i64 3] 3))) := D5.out.trans ((new_below y3 _).mono (by have := D5.out.size; omega))
  clear J1 J2 J3 D5
  generalize hX4 : y3.heap.size = X4 at *
  generalize y3.alloc (.cells #[.int .i64 1, .int .i64 3] 3) = w4 at *
  refine Calls.mono (HFC.out _ _ _ _ _) ?_
  rintro _ y4 ⟨rfl, hb4⟩
  have J1 : Hid _ := intsV_below K1.out hb4
  have J2 : Hid _ := intsV_below K2.out hb4
  have J3 : Hid _ := intsV_below K3.out hb4
  have J4 : Hid _ := intsV_below H4.out hb4
  have D7 : Hid (Below X1 w y4) := D6.out.trans (hb4.mono (by have := D6.out.size; omega))
  clear hb4 H4 K1 K2 K3 D6
  go_wp2_with fail
  have H5 : Hid _ := ints_new2 y4 2 3
  have K1 : Hid _ := intsV_below J1.out (new_below y4 (.cells #[.int .i64 2, .int .i64 3] 3))
  have K2 : Hid _ := intsV_below J2.out (new_below y4 (.cells #[.int .i64 2, .int .i64 3] 3))
  have K3 : Hid _ := intsV_below J3.out (new_below y4 (.cells #[.int .i64 2, .int .i64 3] 3))
  have K4 : Hid _ := intsV_below J4.out (new_below y4 (.cells #[.int .i64 2, .int .i64 3] 3))
  have D8 : Hid (Below X1 w (y4.alloc (.cells #[.int .i64 2, .int .i64 3] 3))) := D7.out.trans ((new_below y4 _).mono (by have := D7.out.size; omega))
  clear J1 J2 J3 J4 D7
  generalize hX5 : y4.heap.size = X5 at *
  generalize y4.alloc (.cells #[.int .i64 2, .int .i64 3] 3) = w5 at *
  refine Calls.mono (HFC.out _ _ _ _ _) ?_
  rintro _ y5 ⟨rfl, hb5⟩
  have HR : Hid _ := facts_new5 y5 ⟨0, [1, 2]⟩ ⟨0, [2, 3]⟩ ⟨1, [1, 2]⟩ ⟨1, [1, 3]⟩ ⟨1, [2, 3]⟩ _ _ _ _ _ (intsV_below K1.out hb5) (intsV_below K2.out hb5) (intsV_below K3.out hb5) (intsV_below K4.out hb5) (intsV_below H5.out hb5)
  have D9 : Hid (Below X1 w y5) := D8.out.trans (hb5.mono (by have := D8.out.size; omega))
  clear hb5 H5 K1 K2 K3 K4 D8
  go_wp2_with fail
  go_ret
  exact ⟨_, rfl, HR.out, by rw [hX1]; exact D9.out.trans ((new_below y5 _).mono (by have := D9.out.size; omega))⟩
set_option maxRecDepth 100000 in
set_option maxHeartbeats 2000000 in
theorem ruleBegun_any (w : World) : Calls Tryz.prog 19 #[] w fun e w' => e = .returned (.bool true) ∧ Below w.heap.size w w' := by
  have HS : Hid (∀ w, Calls Tryz.prog 63 #[] w fun e w' => ∃ ua un ur, e = .returned (progVal ua un ur) ∧ ProgV w' ua un ur smallQ ∧ RulesCap w' ur ∧ Below w.heap.size w w') := small_cap
  have HFU : Hid (∀ w, Calls Tryz.prog 64 #[] w fun e w' => ∃ v, e = .returned v ∧ FactsV w' v fullF ∧ Below w.heap.size w w') := full_any
  have HFC : Hid (∀ (p : Int) (a : Option Addr) (n c : Nat) (w : World), Calls Tryz.prog 65 #[.int .i64 p, .slice a n c] w fun e w' => e = .returned (fcVal p (.slice a n c)) ∧ Below w.heap.size w w') := fact_any
  have HW : Hid (∀ w ua un ur uf, ProgV w ua un ur smallQ → RulesCap w ur → FactsV w uf fullF → Calls Tryz.prog 14 #[progVal ua un ur, .int .i64 1, uf] w fun e w' => ∃ ao cap, e = .returned (.tuple #[.slice ao 1 cap, .int .i64 0]) ∧ NumsV w' (.slice ao 1 cap) [[1, 2, 3]] ∧ Below w.heap.size w w') := by
    intro w ua un ur uf h1 h2 h3
    have h := Ways_any smallQ 1 fullF ua un ur uf w h1 smallQ_fit h2 h3 (by decide) fullF_fit
    rw [fullF_err, fullF_ways] at h
    refine h.mono ?_
    rintro e w' ⟨v, q, rfl, hN, hq, hb⟩
    have hV := hN.toV hq
    obtain ⟨ao, cap, rfl, _⟩ := id hV
    exact ⟨ao, cap, rfl, hV, hb⟩
  have HH : Hid (∀ w ua un ur uf, ProgV w ua un ur smallQ → RulesCap w ur → FactsV w uf fullF → Calls Tryz.prog 15 #[progVal ua un ur, .int .i64 1, uf] w fun e w' => ∃ ao cap, e = .returned (.tuple #[.slice ao 1 cap, .int .i64 0]) ∧ FactsV w' (.slice ao 1 cap) [⟨1, [1, 3]⟩] ∧ Below w.heap.size w w') := by
    intro w ua un ur uf h1 h2 h3
    have h := Heads_any smallQ 1 fullF ua un ur uf w h1 smallQ_fit h2 h3 (by decide) fullF_fit
    rw [fullF_err, fullF_heads] at h
    refine h.mono ?_
    rintro e w' ⟨v, rfl, hN, hb⟩
    have hV := hN.toV
    obtain ⟨ao, cap, rfl, _⟩ := id hV
    exact ⟨ao, cap, rfl, hV, hb⟩
  go_enter Tryz.func19, Tryz.ntmps19
  go_wp2_with fail
  refine Calls.mono (HS.out _) ?_
  rintro e w1 ⟨ua, un, ur, rfl, hP1, hC1, hb1⟩
  have HP1 : Hid _ := And.intro hP1 hC1
  have HB1 : Hid _ := hb1
  clear hP1 hC1 hb1
  go_wp2_with fail
  refine Calls.mono (HFU.out _) ?_
  rintro e w2 ⟨uf, rfl, hF2, hb2⟩
  have HP2 : Hid _ := And.intro (HP1.out.1.below hb2) (HP1.out.2.below HP1.out.1.rl hb2)
  have HB2 : Hid _ := HB1.out.trans (hb2.mono HB1.out.size)
  have HF2 : Hid _ := hF2
  clear HP1 HB1 hb2 hF2
  go_wp2_with fail
  refine Calls.mono (HW.out _ _ _ _ _ HP2.out.1 HP2.out.2 HF2.out) ?_
  rintro e w3 ⟨ao, cap, rfl, hN3, hb3⟩
  have HB3 : Hid _ := HB2.out.trans (hb3.mono HB2.out.size)
  have HN3 : Hid _ := hN3
  clear HP2 HF2 HB2 hb3 hN3
  go_wp2_with fail
  refine Calls.mono (HS.out _) ?_
  rintro e w4 ⟨ua, un, ur, rfl, hP4, hC4, hb4⟩
  have HP4 : Hid _ := And.intro hP4 hC4
  have HB4 : Hid _ := HB3.out.trans (hb4.mono HB3.out.size)
  have HN4 : Hid _ := numsV_below HN3.out hb4
  clear hP4 hC4 hb4 HB3 HN3
  go_wp2_with fail
  refine Calls.mono (HFU.out _) ?_
  rintro e w5 ⟨uf, rfl, hF5, hb5⟩
  have HP5 : Hid _ := And.intro (HP4.out.1.below hb5) (HP4.out.2.below HP4.out.1.rl hb5)
  have HB5 : Hid _ := HB4.out.trans (hb5.mono HB4.out.size)
  have HN5 : Hid _ := numsV_below HN4.out hb5
  have HF5 : Hid _ := hF5
  clear HP4 HB4 HN4 hb5 hF5
  go_wp2_with fail
  refine Calls.mono (HH.out _ _ _ _ _ HP5.out.1 HP5.out.2 HF5.out) ?_
  rintro e w6 ⟨ho, hc, rfl, hH6, hb6⟩
  have HB6 : Hid _ := HB5.out.trans (hb6.mono HB5.out.size)
  have HN6 : Hid _ := numsV_below HN5.out hb6
  have HH6 : Hid _ := hH6
  clear HP5 HB5 HN5 HF5 hb6 hH6
  go_wp2_with fail
  have hx1 := new_below w6 (.cells #[.int .i64 1, .int .i64 2, .int .i64 3] 3)
  have hi1 := ints_new3 w6 1 2 3
  have hs1 : (w6.alloc (.cells #[.int .i64 1, .int .i64 2, .int .i64 3] 3)).heap.size = w6.heap.size + 1 := by simp
  have HB7 : Hid _ := HB6.out.trans (hx1.mono HB6.out.size)
  have HN7 : Hid _ := numsV_below HN6.out hx1
  have HH7 : Hid _ := factsV_below HH6.out hx1
  have hx2 := new_below (w6.alloc (.cells #[.int .i64 1, .int .i64 2, .int .i64 3] 3)) (.cells #[.slice (some ⟨w6.heap.size, 0, none⟩) 3 3] 22)
  have hn2 := nums_new1 _ _ _ hi1
  rw [hs1] at hn2
  have HB8 : Hid _ := HB7.out.trans (hx2.mono HB7.out.size)
  have HN8 : Hid _ := numsV_below HN7.out hx2
  have HH8 : Hid _ := factsV_below HH7.out hx2
  have HM8 : Hid _ := hn2
  clear hx1 hi1 hs1 HB6 HN6 HH6 HB7 HN7 HH7 hx2 hn2
  generalize (w6.alloc (.cells #[.int .i64 1, .int .i64 2, .int .i64 3] 3)).alloc (.cells #[.slice (some ⟨w6.heap.size, 0, none⟩) 3 3] 22) = w8 at *
  generalize w6.heap.size = X6 at *
  refine Calls.mono (SameLists_refl [[1, 2, 3]] _ _ w8 HN8.out HM8.out (by decide) (fun i hi => ?_)) ?_
  · match i, hi with
    | 0, _ => exact (by decide : (3 : Nat) ≤ 9223372036854775807)
  rintro e w9 ⟨rfl, n9, rfl⟩
  have HB9 : Hid _ := HB8.out.trans ((blw_drewN w8 n9).mono HB8.out.size)
  have HH9 : Hid _ := factsV_below HH8.out (blw_drewN w8 n9)
  clear HN8 HM8 HB8 HH8
  generalize w8.drewN n9 = w9 at *
  go_wp2_with fail
  have hx1 := new_below w9 (.cells #[.int .i64 1, .int .i64 3] 3)
  have HI : Hid _ := ints_new2 w9 1 3
  have HB10 : Hid _ := HB9.out.trans (hx1.mono HB9.out.size)
  have HH10 : Hid _ := factsV_below HH9.out hx1
  clear hx1 HB9 HH9
  generalize w9.alloc (.cells #[.int .i64 1, .int .i64 3] 3) = w10 at *
  generalize w9.heap.size = X9 at *
  refine Calls.mono (HFC.out _ _ _ _ _) ?_
  rintro e w11 ⟨rfl, hb11⟩
  have HB11 : Hid _ := HB10.out.trans (hb11.mono HB10.out.size)
  have HH11 : Hid _ := factsV_below HH10.out hb11
  have HI11 : Hid _ := intsV_below HI.out hb11
  clear hb11 HB10 HH10 HI
  go_wp2_with fail
  have hx1 := new_below w11 (.cells #[.int .i64 1, .slice (some ⟨X9, 0, none⟩) 2 2] 55)
  have HR : Hid _ := facts_new1 w11 ⟨1, [1, 3]⟩ _ HI11.out
  have HB12 : Hid _ := HB11.out.trans (hx1.mono HB11.out.size)
  have HH12 : Hid _ := factsV_below HH11.out hx1
  clear hx1 HB11 HH11 HI11
  generalize w11.alloc (.cells #[.int .i64 1, .slice (some ⟨X9, 0, none⟩) 2 2] 55) = w12 at *
  generalize w11.heap.size = X11 at *
  refine Calls.mono (SameFacts_refl [⟨1, [1, 3]⟩] _ _ w12 HH12.out HR.out (by decide) (fun f hf => ?_)) ?_
  · rw [List.mem_singleton.mp hf]
    exact (by decide : (2 : Nat) ≤ 9223372036854775807)
  rintro e w13 ⟨rfl, hb13⟩
  have HB13 : Hid _ := HB12.out.trans (hb13.mono HB12.out.size)
  clear hb13 HB12 HH12 HR
  go_wp2_with fail
  go_ret
  exact ⟨rfl, HB13.out⟩
end Go.Proofs.YthenjegmigeieaaGreat

/- The document's lessInts and isReady. -/
namespace Go.Proofs.YthenjegmigeieaaGreat
open Go.RowKit

namespace Ru
end Ru
namespace Ru
end Ru
end Go.Proofs.YthenjegmigeieaaGreat

/- The document's LitHolds. -/
namespace Go.Proofs.YthenjegmigeieaaGreat
open Go.RowKit

end Go.Proofs.YthenjegmigeieaaGreat

/- The document's LitHolds: comparisons. -/
namespace Go.Proofs.YthenjegmigeieaaGreat
open Go.RowKit

end Go.Proofs.YthenjegmigeieaaGreat

/- The document's LitHolds: reckonings. -/
namespace Go.Proofs.YthenjegmigeieaaGreat
open Go.RowKit

end Go.Proofs.YthenjegmigeieaaGreat

/- The document's LitHolds, of any literal. -/
namespace Go.Proofs.YthenjegmigeieaaGreat
open Go.RowKit

end Go.Proofs.YthenjegmigeieaaGreat

/- RuleHolds: what is asked of numbers; the document's SameInts of any two. -/
namespace Go.Proofs.YthenjegmigeieaaGreat
open Go.RowKit
namespace Ru
end Ru
end Go.Proofs.YthenjegmigeieaaGreat

/- As RgPre, where only what binds must stand ahead: a region by a table with a tail, in which one operation ahead of the tail changes what others of the table had made: what they say of it need hold only until then. -/
namespace Go.Proofs.YthenjegmigeieaaGreat
open Go.RowKit

section
variable {P : Program} {ops : Array Oper} {Q : Exit → Act → World → Prop}
end

end Go.Proofs.YthenjegmigeieaaGreat

/- A region by a table with a tail, in which some operations change what others had made: what the table says of those need hold only until then. -/
namespace Go.Proofs.YthenjegmigeieaaGreat
open Go.RowKit

/-- Operation i, a writer, may spoil what operation j made: j does not wait for i, and what is said of j's value does not survive i. -/
def harm (ops : Array Oper) (wr : Nat → Bool) (surv : Nat → Nat → Bool) (i j : Nat) : Bool := (wr i && decide (i < ops.size)) && !decide (i = j) && !reach ops 12 j i && !(((ops[j]?).map fun o => (o.dst.map (surv i)).getD true).getD true)
/-- m, that waits for j, runs ahead of all that may spoil it, or is that. -/
def okEdge (ops : Array Oper) (wr : Nat → Bool) (surv : Nat → Nat → Bool) (m j : Nat) : Bool := (List.range ops.size).all fun i => !harm ops wr surv i j || (i == m || reach ops 12 i m)
structure OpInH (ops : Array Oper) (wr : Nat → Bool) (surv : Nat → Nat → Bool) (T : Nat → Value → World → Prop) (a0 : Act) (w0 : World) (m : Nat) (o : Oper) (a : Act) (w : World) : Prop where
  below : Below w0.heap.size w0 w
  still : ∀ t, t ∉ ops.toList.filterMap (·.dst) → a.tmps.getD t undef = a0.tmps.getD t undef
  has : ∀ e, e ∈ o.after → Region.binds .any e = true → okEdge ops wr surv m e.on = true → ∀ (o' : Oper) (t : Nat), ops[e.on]? = some o' → o'.dst = some t → T t (a.tmps.getD t undef) w
def waitsForH (ops : Array Oper) (wr : Nat → Bool) (surv : Nat → Nat → Bool) (m : Nat) (o : Oper) (t : Nat) : Bool := o.after.toList.any fun e => Region.binds .any e && okEdge ops wr surv m e.on && ((ops[e.on]?).map fun o' => o'.dst == some t).getD false
theorem OpInH.of {ops : Array Oper} {wr : Nat → Bool} {surv : Nat → Nat → Bool} {T : Nat → Value → World → Prop} {a0 : Act} {w0 : World} {m : Nat} {o : Oper} {a : Act} {w : World} (h : OpInH ops wr surv T a0 w0 m o a w) (t : Nat) (hw : waitsForH ops wr surv m o t = true) : T t (a.tmps.getD t undef) w := by
  unfold waitsForH at hw
  obtain ⟨e, he, hb⟩ := List.any_eq_true.mp hw
  rw [Bool.and_eq_true, Bool.and_eq_true] at hb
  cases ho : ops[e.on]? with
  | none => rw [ho] at hb; simp at hb
  | some o' =>
    rw [ho, Option.map_some, Option.getD_some] at hb
    exact h.has e (by simpa using he) hb.1.1 hb.1.2 o' t ho (by simpa using hb.2)
theorem OpInH.old {ops : Array Oper} {wr : Nat → Bool} {surv : Nat → Nat → Bool} {T : Nat → Value → World → Prop} {a0 : Act} {w0 : World} {m : Nat} {o : Oper} {a : Act} {w : World} (h : OpInH ops wr surv T a0 w0 m o a w) (t : Nat) (hs : stays ops t = true) : a.tmps.getD t undef = a0.tmps.getD t undef := by
  refine h.still t fun hm => ?_
  unfold stays at hs
  simp [hm] at hs
structure TabbedK (ops : Array Oper) (wr : Nat → Bool) (surv : Nat → Nat → Bool) (T : Nat → Value → World → Prop) (a0 : Act) (w0 : World) (s : Array Bool) (a : Act) (w : World) : Prop where
  below : Below w0.heap.size w0 w
  defers : a.defers = a0.defers
  size : a.tmps.size = a0.tmps.size
  still : ∀ t, t ∉ ops.toList.filterMap (·.dst) → a.tmps.getD t undef = a0.tmps.getD t undef
  done : ∀ (i : Nat) (o : Oper) (t : Nat), s[i]? = some true → ops[i]? = some o → o.dst = some t → (∀ k, harm ops wr surv k i = true → s[k]? = some false) → T t (a.tmps.getD t undef) w
structure OpInK (ops : Array Oper) (wr : Nat → Bool) (surv : Nat → Nat → Bool) (T : Nat → Value → World → Prop) (a0 : Act) (w0 : World) (L : Nat) (a : Act) (w : World) : Prop where
  below : Below w0.heap.size w0 w
  defers : a.defers = a0.defers
  size : a.tmps.size = a0.tmps.size
  still : ∀ t, t ∉ ops.toList.filterMap (·.dst) → a.tmps.getD t undef = a0.tmps.getD t undef
  all : ∀ (i : Nat) (o : Oper) (t : Nat), i < L → ops[i]? = some o → o.dst = some t → (∀ k, harm ops wr surv k i = false) → T t (a.tmps.getD t undef) w
def unharmed (ops : Array Oper) (wr : Nat → Bool) (surv : Nat → Nat → Bool) (i : Nat) : Bool := (List.range ops.size).all fun k => !harm ops wr surv k i
theorem OpInK.of {ops : Array Oper} {wr : Nat → Bool} {surv : Nat → Nat → Bool} {T : Nat → Value → World → Prop} {a0 : Act} {w0 : World} {L : Nat} {a : Act} {w : World} (h : OpInK ops wr surv T a0 w0 L a w) (i : Nat) (o : Oper) (t : Nat) (hi : i < L) (ho : ops[i]? = some o) (hd : o.dst = some t) (hu : unharmed ops wr surv i = true) : T t (a.tmps.getD t undef) w := by
  refine h.all i o t hi ho hd fun k => ?_
  cases hk : decide (k < ops.size) with
  | true =>
    have := List.all_eq_true.mp hu k (List.mem_range.mpr (of_decide_eq_true hk))
    simpa using this
  | false => unfold harm; rw [hk]; simp
section
variable {P : Program} {ops : Array Oper} {Q : Exit → Act → World → Prop}
theorem wp_region_kill (T : Nat → Value → World → Prop) (L : Nat) (wr : Nat → Bool) (surv : Nat → Nat → Bool) {id : Nat} {a0 : Act} {w0 : World} (hL : L < ops.size) (htf : tailFine ops L = true) (hm : P.follows .mixedOrders = true)
    (hf : tabFineR ops a0.tmps.size = true)
    (hmono : ∀ t v w w', Below w.heap.size w w' → T t v w → T t v w')
    (hmonoW : ∀ i t v w w', wr i = true → surv i t = true → Below w0.heap.size w w' → T t v w → T t v w')
    (hop : AllOpsI (fun i o => ∀ a w, OpInH ops wr surv T a0 w0 i o a w → (∀ t, t ∉ (ops.toList.take L).filterMap (·.dst) → a.tmps.getD t undef = a0.tmps.getD t undef) → if wr i = true then (Region.wanted o (yielded ops a.tmps) = true ∧ o.wp P a w (fun a' w' => ∃ v, a' = a.put o.dst v ∧ (∀ t, o.dst = some t → T t v w') ∧ Below w0.heap.size w w') Q) else OpOk P ops Q T o a w) 0 (ops.toList.take L))
    (htail : ∀ a w, OpInK ops wr surv T a0 w0 L a w → (∀ t, t ∉ (ops.toList.take L).filterMap (·.dst) → a.tmps.getD t undef = a0.tmps.getD t undef) → wpOps P ops Q (List.range' L (ops.size - L)) a w) :
    (Code.region id ops true).wp P Q a0 w0 := by
  have hkf' : ∀ (m j : Nat), okEdge ops wr surv m j = true → ∀ i, harm ops wr surv i j = true → i = m ∨ reach ops 12 i m = true := fun m j hw i hh => by
    have hi : i < ops.size := Classical.byContradiction fun hc => by
      unfold harm at hh
      rw [Bool.and_eq_true, Bool.and_eq_true, Bool.and_eq_true] at hh
      have h9 := hh.1.1.1
      rw [Bool.and_eq_true] at h9
      exact hc (of_decide_eq_true h9.2)
    have h3 := List.all_eq_true.mp hw i (List.mem_range.mpr hi)
    rw [hh, Bool.not_true, Bool.false_or, Bool.or_eq_true, beq_iff_eq] at h3
    exact h3
  unfold tailFine at htf
  rw [Bool.and_eq_true] at htf
  have ht1 : ∀ j, j < L → reach ops 12 L j = true := fun j hj => List.all_eq_true.mp htf.1 j (List.mem_range.mpr hj)
  have ht2 : ∀ i, i < ops.size → L < i → reach ops 12 i (i - 1) = true := fun i hi hLi => by
    have h := List.all_eq_true.mp htf.2 i (List.mem_range.mpr hi)
    rw [decide_eq_true hLi] at h
    simpa using h
  unfold tabFineR at hf
  rw [Bool.and_eq_true, Bool.and_eq_true] at hf
  obtain ⟨⟨hnd, hlt⟩, hah⟩ := hf
  have hnd := of_decide_eq_true hnd
  have hlt' : ∀ t, t ∈ ops.toList.filterMap (·.dst) → t < a0.tmps.size := fun t ht => of_decide_eq_true (List.all_eq_true.mp hlt t ht)
  have hah' : ∀ (i : Nat) (o : Oper), ops[i]? = some o → ∀ e, e ∈ o.after → Region.binds .any e = true → e.on < i := fun i o ho e he hbe => by
    have hi : i < ops.size := (Array.getElem?_eq_some_iff.mp ho).1
    have h := List.all_eq_true.mp hah i (List.mem_range.mpr hi)
    rw [ho, Option.map_some, Option.getD_some] at h
    have h9 := List.all_eq_true.mp h e (by simpa using he)
    rw [hbe] at h9
    exact of_decide_eq_true (by simpa using h9)
  refine wp_region_inv (fun s a w => (s.size = ops.size ∧ Closed ops s) ∧ (((∀ i, L ≤ i → i < ops.size → s[i]? = some false) ∧ (∀ t, t ∉ (ops.toList.take L).filterMap (·.dst) → a.tmps.getD t undef = a0.tmps.getD t undef) ∧ TabbedK ops wr surv T a0 w0 s a w) ∨
    (∃ m, L ≤ m ∧ m ≤ ops.size ∧ (∀ i, i < m → s[i]? = some true) ∧ (∀ i, m ≤ i → i < ops.size → s[i]? = some false) ∧ wpOps P ops Q (List.range' m (ops.size - m)) a w))) hm ?_ ?_ ?_
  · rintro s a w hr ⟨⟨hs, hC⟩, hI⟩
    have hall : ∀ n : Nat, n ≤ ops.size → ∀ i : Nat, i < n → s[i]? = some true := by
      intro n
      induction n with
      | zero => intro _ i hi; exact absurd hi (Nat.not_lt_zero _)
      | succ n ih =>
        intro hn i hi
        have ih := ih (by omega)
        by_cases hin : i < n
        · exact ih i hin
        · have hin : i = n := by omega
          subst hin
          cases hsi : s[i]? with
          | none => rw [Array.getElem?_eq_none_iff] at hsi; omega
          | some b =>
            cases b with
            | true => rfl
            | false =>
              exfalso
              have hio : i < ops.size := by omega
              have : i ∈ Region.ready .any ops s := by
                unfold Region.ready
                refine List.mem_filter.mpr ⟨List.mem_range.mpr hio, ?_⟩
                rw [Bool.and_eq_true]
                refine ⟨by simp [Array.getD_eq_getD_getElem?, hsi], ?_⟩
                have ho : ops[i]? = some ops[i] := Array.getElem?_eq_getElem hio
                rw [ho, Option.map_some, Option.getD_some, Array.all_eq_true_iff_forall_mem]
                intro e he
                cases hbe : Region.binds .any e with
                | false => rfl
                | true =>
                  have h1 := ih e.on (hah' i _ ho e he hbe)
                  simp [Array.getD_eq_getD_getElem?, h1]
              rw [hr] at this
              exact absurd this (by simp)
    have hd := hall ops.size (Nat.le_refl _)
    rcases hI with ⟨hF, _, _⟩ | ⟨m, _, hm1, _, hF, hW⟩
    · have h1 := hF L (Nat.le_refl _) hL
      rw [hd L hL] at h1
      cases h1
    · by_cases hme : m = ops.size
      · subst hme
        rw [Nat.sub_self] at hW
        exact hW
      · have h1 := hF m (Nat.le_refl _) (by omega)
        rw [hd m (by omega)] at h1
        cases h1
  · rintro s a w i hi ⟨⟨hs, hC⟩, hI⟩
    obtain ⟨hsi, o, ho, haf⟩ := ready_mem hi
    have his : i < ops.size := (Array.getElem?_eq_some_iff.mp ho).1
    have hup : ∀ j, s[j]? = some true → (s.setIfInBounds i true)[j]? = some true := fun j hj => by
      rw [Array.getElem?_setIfInBounds]
      by_cases hij : i = j
      · rw [if_pos hij, if_pos (by omega)]
      · rw [if_neg hij]; exact hj
    have hss : (s.setIfInBounds i true).size = ops.size ∧ Closed ops (s.setIfInBounds i true) := by
      refine ⟨by simp [hs], fun i' o' hi' ho' e he hb => ?_⟩
      by_cases hii : i = i'
      · subst hii
        rw [ho] at ho'
        cases ho'
        exact hup _ (haf e he hb)
      · rw [Array.getElem?_setIfInBounds, if_neg hii] at hi'
        exact hup _ (hC i' o' hi' ho' e he hb)
    have go : ∀ m, L ≤ m → m < ops.size → i = m → (∀ j, j < m → s[j]? = some true) → (∀ j, m ≤ j → j < ops.size → s[j]? = some false) → wpOps P ops Q (List.range' m (ops.size - m)) a w →
        wpOp P ops Q i (fun a' w' => ((s.setIfInBounds i true).size = ops.size ∧ Closed ops (s.setIfInBounds i true)) ∧ (((∀ j, L ≤ j → j < ops.size → (s.setIfInBounds i true)[j]? = some false) ∧ (∀ t, t ∉ (ops.toList.take L).filterMap (·.dst) → a'.tmps.getD t undef = a0.tmps.getD t undef) ∧ TabbedK ops wr surv T a0 w0 (s.setIfInBounds i true) a' w') ∨
          (∃ m, L ≤ m ∧ m ≤ ops.size ∧ (∀ j, j < m → (s.setIfInBounds i true)[j]? = some true) ∧ (∀ j, m ≤ j → j < ops.size → (s.setIfInBounds i true)[j]? = some false) ∧ wpOps P ops Q (List.range' m (ops.size - m)) a' w'))) a w := by
      intro m hLm hms him hT hF hW
      subst him
      obtain ⟨d, hd⟩ : ∃ d, ops.size - i = d + 1 := ⟨ops.size - i - 1, by omega⟩
      rw [hd, List.range'_succ, wpOps_cons] at hW
      refine wpOp_mono (fun a' w' h' => ⟨hss, .inr ⟨i + 1, by omega, by omega, fun j hj => ?_, fun j hj hjs => ?_, ?_⟩⟩) hW
      · by_cases hji : j = i
        · subst hji
          rw [Array.getElem?_setIfInBounds, if_pos rfl, if_pos (by omega)]
        · exact hup j (hT j (by omega))
      · rw [Array.getElem?_setIfInBounds, if_neg (by omega)]
        exact hF j (by omega) hjs
      · rw [show ops.size - (i + 1) = d by omega]
        exact h'
    rcases hI with ⟨hF, hO, hI⟩ | ⟨m, hLm, hm1, hT, hF, hW⟩
    · by_cases hiL : L ≤ i
      · have hiL2 : i = L := by
          rcases Nat.lt_or_ge L i with h | h
          · have h1 := reach_done hC 12 i (i - 1) o ho haf (ht2 i his h)
            rw [hF (i - 1) (by omega) (by omega)] at h1
            cases h1
          · omega
        subst hiL2
        have hdn : ∀ j, j < i → s[j]? = some true := fun j hj => reach_done hC 12 i j o ho haf (ht1 j hj)
        exact go i (Nat.le_refl _) his rfl hdn (fun j hj hjs => hF j hj hjs) (htail a w ⟨hI.below, hI.defers, hI.size, hI.still, fun j oj t hj hoj hd hal => hI.done j oj t (hdn j hj) hoj hd (fun k hk => absurd hk (by rw [hal k]; exact Bool.false_ne_true))⟩ hO)
      · have hmo : o ∈ ops.toList.take L := by
          rw [← Array.getElem?_toList] at ho
          refine List.mem_of_getElem? (i := i) ?_
          rw [List.getElem?_take, if_pos (by omega)]
          exact ho
        have hopI := AllOpsI.get _ 0 hop i o (by
          rw [List.getElem?_take, if_pos (by omega), Array.getElem?_toList]
          exact ho) a w (by rw [Nat.zero_add]; exact ⟨hI.below, hI.still, fun e he hb hok o' t ho' hd => hI.done e.on o' t (haf e he hb) ho' hd (fun k hk => by
            have hks : k < s.size := by
              rw [hs]
              unfold harm at hk
              rw [Bool.and_eq_true, Bool.and_eq_true, Bool.and_eq_true] at hk
              have h9 := hk.1.1.1
              rw [Bool.and_eq_true] at h9
              exact of_decide_eq_true h9.2
            cases hsk : s[k]? with
            | none => rw [Array.getElem?_eq_none_iff] at hsk; omega
            | some bk =>
              cases bk with
              | false => rfl
              | true =>
                exfalso
                rcases hkf' i e.on hok k hk with h | h
                · rw [h, hsi] at hsk; cases hsk
                · have hko : ∃ ok, ops[k]? = some ok := ⟨ops[k]'(by omega), Array.getElem?_eq_getElem (by omega)⟩
                  obtain ⟨ok, hok⟩ := hko
                  have h1 := reach_done hC 12 k i ok hok (fun e' he' hb' => hC k ok hsk hok e' he' hb') h
                  rw [hsi] at h1
                  cases h1)⟩) hO
        rw [Nat.zero_add] at hopI
        have hOset : ∀ (v : Value) t, t ∉ (ops.toList.take L).filterMap (·.dst) → (a.put o.dst v).tmps.getD t undef = a0.tmps.getD t undef := fun v t ht => by
          cases hd : o.dst with
          | none => exact hO t ht
          | some u =>
            have hne : t ≠ u := fun h => ht (h ▸ List.mem_filterMap.mpr ⟨o, hmo, hd⟩)
            rw [put_get_ne hne]
            exact hO t ht
        have hset : ∀ {v : Value} {w' : World}, (∀ t, o.dst = some t → T t v w') → Below w0.heap.size w w' → (∀ (j : Nat) (oj : Oper) (t : Nat), s[j]? = some true → ops[j]? = some oj → oj.dst = some t → harm ops wr surv i j = false → ∀ u, T t u w → T t u w') → TabbedK ops wr surv T a0 w0 (s.setIfInBounds i true) (a.put o.dst v) w' := by
          intro v w' hv hb hmono
          refine ⟨hI.below.trans hb, by rw [put_defers]; exact hI.defers, by rw [put_size]; exact hI.size, fun t ht => ?_, fun j oj t hj hoj hd hk => ?_⟩
          · cases hd : o.dst with
            | none => exact hI.still t ht
            | some u =>
              have hne : t ≠ u := fun h => ht (h ▸ dst_mem ho hd)
              rw [put_get_ne hne]
              exact hI.still t ht
          · by_cases hij : j = i
            · subst hij
              rw [ho] at hoj
              cases hoj
              rw [hd, put_get_self (by rw [hI.size]; exact hlt' t (dst_mem ho hd))]
              exact hv t hd
            · have hj' : s[j]? = some true := by
                rw [Array.getElem?_setIfInBounds, if_neg (fun h => hij h.symm)] at hj
                exact hj
              have hni : harm ops wr surv i j = false := by
                cases hh : harm ops wr surv i j with
                | false => rfl
                | true =>
                  have h9 := hk i hh
                  rw [Array.getElem?_setIfInBounds, if_pos rfl, if_pos (by omega)] at h9
                  cases h9
              have h1 := hmono j oj t hj' hoj hd hni _ (hI.done j oj t hj' hoj hd (fun k hh => by
                have h9 := hk k hh
                rw [Array.getElem?_setIfInBounds, if_neg (fun e => by subst e; rw [hni] at hh; cases hh)] at h9
                exact h9))
              cases hd2 : o.dst with
              | none => exact h1
              | some u =>
                have hne : t ≠ u := fun h => hij (dst_inj ops.toList hnd j i oj o t (by rw [Array.getElem?_toList]; exact hoj) (by rw [Array.getElem?_toList]; exact ho) hd (h ▸ hd2))
                rw [put_get_ne hne]
                exact h1
        have hF' : ∀ j, L ≤ j → j < ops.size → (s.setIfInBounds i true)[j]? = some false := fun j hj hjs => by
          rw [Array.getElem?_setIfInBounds, if_neg (by omega)]
          exact hF j hj hjs
        by_cases hiW : wr i = true
        · rw [if_pos hiW] at hopI
          obtain ⟨hw, hwp⟩ := hopI
          unfold wpOp
          rw [ho]
          dsimp only
          rw [if_pos hw]
          refine .inl (Oper.wp_mono ?_ hwp)
          rintro a' w' ⟨v, rfl, hv, hb⟩
          refine ⟨hss, .inl ⟨hF', hOset v, hset hv hb (fun j oj t hj hoj hd hni u hu => ?_)⟩⟩
          have hsv : surv i t = true := by
            unfold harm at hni
            rw [hiW, decide_eq_true his, hoj, Option.map_some, Option.getD_some, hd, Option.map_some, Option.getD_some] at hni
            have hne : decide (i = j) = false := decide_eq_false (fun e => by subst e; rw [hsi] at hj; cases hj)
            have hr : reach ops 12 j i = false := by
              cases hr : reach ops 12 j i with
              | false => rfl
              | true =>
                have h1 := reach_done hC 12 j i oj hoj (fun e he hb => hC j oj hj hoj e he hb) hr
                rw [hsi] at h1
                cases h1
            rw [hne, hr] at hni
            simpa using hni
          exact hmonoW i t u w w' hiW hsv hb hu
        · rw [if_neg hiW] at hopI
          have hlow : ∀ {w' : World}, Below w.heap.size w w' → Below w0.heap.size w w' := fun hb => hb.mono hI.below.size
          unfold OpOk at hopI
          unfold wpOp
          rw [ho]
          dsimp only
          by_cases hw : Region.wanted o (yielded ops a.tmps) = true
          · rw [if_pos hw] at hopI ⊢
            refine hopI.imp (Oper.wp_mono ?_) (fun h => h)
            rintro a' w' ⟨v, rfl, hv, hb⟩
            exact ⟨hss, .inl ⟨hF', hOset v, hset hv (hlow hb) (fun _ _ t _ _ _ _ u hu => hmono t u w w' hb hu)⟩⟩
          · rw [if_neg hw] at hopI ⊢
            exact ⟨hss, .inl ⟨hF', hOset _, hset hopI (hlow (Below.refl _ _)) (fun _ _ t _ _ _ _ u hu => hu)⟩⟩
    · have him : m ≤ i := by
        rcases Nat.lt_or_ge i m with h | h
        · have h1 := hT i h
          rw [hsi] at h1
          cases h1
        · exact h
      have him2 : i = m := by
        rcases Nat.lt_or_ge m i with h | h
        · have h1 := reach_done hC 12 i (i - 1) o ho haf (ht2 i his (by omega))
          rw [hF (i - 1) (by omega) (by omega)] at h1
          cases h1
        · omega
      exact go m hLm (by omega) him2 hT hF hW
  · refine ⟨⟨by simp, fun i o h => ?_⟩, .inl ⟨fun i _ hi => ?_, fun _ _ => rfl, ⟨⟨rfl, rfl, rfl, Nat.le_refl _, fun _ _ => rfl⟩, rfl, rfl, fun _ _ => rfl, fun i o t h _ _ _ => ?_⟩⟩⟩
    · rw [Array.getElem?_replicate] at h
      split at h <;> simp at h
    · rw [Array.getElem?_replicate, if_pos hi]
    · rw [Array.getElem?_replicate] at h
      split at h <;> simp at h
end

end Go.Proofs.YthenjegmigeieaaGreat

/- RuleMore: with more facts a rule without a fold and without what is not has no fewer heads. -/
namespace Go.Proofs.YthenjegmigeieaaGreat
open Go.RowKit
namespace Ru
theorem headsOut_more {p : Sc.Prog} {i : Int} {l m : List Rl.Fc} (h1 : waysErr p i l = 0) (h2 : waysErr p i (l ++ m) = 0) (hf : (rule p i).fold = 0) (hk : ∀ t, t ∈ (rule p i).body → ¬ t.kind = 2) (f : Rl.Fc) (hx : f ∈ headsOut p i l) : f ∈ headsOut p i (l ++ m) := by
  refine heads_more hf (fun x hx => ?_) f hx
  have hin := waysErr_in h2
  have hs := mem_waysOut (waysErr_in h1) hx
  have hs2 := sol_more hk (g := Rl.set (l ++ m)) (fun a ha => Rl.mem_set.mpr (List.mem_append_left _ (Rl.mem_set.mp ha))) hs
  unfold waysOut
  rw [if_neg (fun hn => hn h2), mem_srt]
  exact (mem_ways (ruleIn_of hin.rule hin.set) (right_nums hin.set) x).mpr hs2
theorem set_len_le (l : List Rl.Fc) : (Rl.set l).length ≤ l.length := set_length l
theorem headsOut_length {p : Sc.Prog} {i : Int} {l : List Rl.Fc} (_ : waysErr p i l = 0) : (headsOut p i l).length ≤ (waysOut p i l).length := by
  unfold headsOut heads
  refine Nat.le_trans (set_len_le _) ?_
  unfold headsL
  split
  · rw [List.length_map]; exact Nat.le_refl _
  · refine Nat.le_trans (List.length_filterMap_le _ _) ?_
    rw [List.length_map]
    exact Nat.le_refl _
theorem headsOut_right {p : Sc.Prog} {i : Int} {l : List Rl.Fc} (h : waysErr p i l = 0) {f : Rl.Fc} (hf : f ∈ headsOut p i l) : Right p.arity f := by
  have hin := waysErr_in h
  have hnd := ways_nodup (ruleIn_of hin.rule hin.set) (right_nums hin.set) (set_nodup l)
  unfold headsOut waysOut at hf
  rw [if_neg (fun hn => hn h), heads_perm _ (srt_perm hnd)] at hf
  exact hd_right hin.rule hin.set hf
end Ru
theorem wp1_append_facts {W w : World} {o : Oper} {a : Act} {K : Act → World → Prop} {Q : Exit → Act → World → Prop} (s x : Operand)
    (ho : o.op = .call { callee := .builtin .append, args := #[s, x], argTypes := #[27, 27] }) (hW : Below W.heap.size W w) (v : Value) (n : Nat) (q : List Fv) (hs : a.eval s = v) (hn : n = q.length)
    (hown : w.ownsRow W.heap.size 55 2 v n (q.map fcCells).flatten) (ao : Option Addr) (cap : Nat) (l : List Rl.Fc) (hx : a.eval x = .slice ao l.length cap) (hcap : ao = none → cap = 0) (hA : FactsAt W ao l) (hf : ∀ f, f ∈ l → FFit f)
    (hb : n + l.length ≤ 4194304)
    (h : ∀ v' w' q2, Appd W q l v' w' q2 → Below W.heap.size w w' → K (a.put o.dst v') w') : o.wp Tryz.prog a w K Q := by
  obtain ⟨i0, hi, hz0, hz1, hz2⟩ := info_parts rl_info49
  obtain ⟨q2, h1, h2, h3⟩ := facts_fv hA hf
  have hl2 : q2.length = l.length := by rw [← h1, List.length_map]
  have nilCase : l = [] → ao = none → o.wp Tryz.prog a w K Q := by
    intro hl hao
    have hq2 : q2 = [] := List.eq_nil_of_length_eq_zero (by rw [hl2, hl]; rfl)
    have hx' : a.eval x = .slice none 0 0 := by rw [hx, hl, hao, hcap hao]; rfl
    have hrun := run_append_owned_none (P := Tryz.prog) (w := w) W.heap.size 27 o.type 55 i0 2 Tryz.underlying27 hi v n _ hown
    unfold Oper.wp
    simp [execOp, ho, resolve, invoke, builtin, hs, hx', hrun, Result.andThen]
    refine h v w q2 ⟨h1, h2, ?_, hW⟩ (Below.refl _ _)
    rw [hq2, List.append_nil, ← hn]
    exact hown
  have someCase : ∀ ad, ao = some ad → (∀ j u, ((q2.map fcCells).flatten)[j]? = some u → w.cell? (ad.add j) = some u) → o.wp Tryz.prog a w K Q := by
    intro ad hao hcells
    refine wp_append_own w s x 27 ho W.heap.size 55 i0 _ 2 32 Tryz.underlying27 hi hz0 hz1 hz2 rfl (by decide) v n _ hs hown ad l.length cap ((q2.map fcCells).flatten) (by rw [hx, hao]) (by rw [fc_length, hl2]) hcells ?_ (by unfold maxLen; omega) (by omega) hW.size ?_
    · intro u hu
      obtain ⟨c, hc, hu⟩ := List.mem_flatten.mp hu
      obtain ⟨p, hp, rfl⟩ := List.mem_map.mp hc
      obtain ⟨a9, c9, hp9⟩ := fv_slice (h2 p hp)
      simp [fcCells, hp9] at hu
      rcases hu with rfl | rfl <;> rfl
    · intro v' w' ho2 hg _
      refine h v' w' q2 ⟨h1, h2, ?_, hW.grown hg hW.size (fun k hk => (hown.lt k hk).1)⟩ ⟨hg.os, hg.tape, hg.output, hg.size, fun k hk => hg.block k (Nat.lt_of_lt_of_le hk hW.size) (fun e => by have := (hown.lt k e.symm).1; omega)⟩
      rw [List.length_append, List.map_append, List.flatten_append, hl2, ← hn]
      exact ho2
  cases ao with
  | none =>
    rcases hA with hl | ⟨b, off, hb2, _⟩
    · exact nilCase hl rfl
    · cases hb2
  | some ad =>
    refine someCase ad rfl ?_
    intro j u hj
    rcases h3 with hl | ⟨b, off, hb2, hc⟩
    · have hq2 : q2 = [] := List.eq_nil_of_length_eq_zero (by rw [hl2, hl]; rfl)
      rw [hq2] at hj
      simp at hj
    · rw [Option.some.inj hb2, Addr.add_lit]
      exact cell_below hW (hc j u hj)
def more2V (PV : Value) (i : Int) (VF VM : Value) (errB : Int) (tQ : Nat) (vQ : Value) : Prop :=
  match tQ with
  | 23 => vQ = PV
  | 24 => vQ = .int .i64 i
  | 26 => vQ = VF
  | 28 => vQ = VM
  | 32 => vQ = .int .i64 errB
  | _ => True
def more2T (PV : Value) (i : Int) (VF VM : Value) (errB : Int) (wd : World) (facts more outB : List Rl.Fc) (tQ : Nat) (vQ : Value) (WQ : World) : Prop :=
  if tQ = 25 then WQ.ownsRow wd.heap.size 55 2 vQ 0 []
  else if tQ = 27 then ∃ q2 : List Fv, q2.map (·.1) = facts ∧ (∀ p, p ∈ q2 → FvOk wd p) ∧ WQ.ownsRow wd.heap.size 55 2 vQ q2.length (q2.map fcCells).flatten
  else if tQ = 29 then FactsV WQ vQ (facts ++ more)
  else if tQ = 30 then ∃ u, vQ = .tuple #[u, .int .i64 errB] ∧ FactsV WQ u outB
  else if tQ = 22 then ∃ u, vQ = .tuple #[u, .int .i64 errB] ∧ FactsV WQ u outB
  else if tQ = 31 then FactsV WQ vQ outB
  else if tQ = 11 then FactsV WQ vQ outB
  else more2V PV i VF VM errB tQ vQ
theorem more2T_mono (PV : Value) (i : Int) (VF VM : Value) (errB : Int) (wd : World) (facts more outB : List Rl.Fc) (tQ : Nat) (vQ : Value) (W W' : World) (hb : Below W.heap.size W W') (h : more2T PV i VF VM errB wd facts more outB tQ vQ W) : more2T PV i VF VM errB wd facts more outB tQ vQ W' := by
  unfold more2T at h ⊢
  by_cases h1 : tQ = 25
  · rw [if_pos h1] at h ⊢; exact ownsRow_below h hb
  · rw [if_neg h1] at h ⊢
    by_cases h2 : tQ = 27
    · rw [if_pos h2] at h ⊢
      obtain ⟨q2, g1, g2, g3⟩ := h
      exact ⟨q2, g1, g2, ownsRow_below g3 hb⟩
    · rw [if_neg h2] at h ⊢
      by_cases h3 : tQ = 29
      · rw [if_pos h3] at h ⊢; exact factsV_below h hb
      · rw [if_neg h3] at h ⊢
        by_cases h4 : tQ = 30
        · rw [if_pos h4] at h ⊢
          obtain ⟨u, g1, g2⟩ := h
          exact ⟨u, g1, factsV_below g2 hb⟩
        · rw [if_neg h4] at h ⊢
          by_cases h5 : tQ = 22
          · rw [if_pos h5] at h ⊢
            obtain ⟨u, g1, g2⟩ := h
            exact ⟨u, g1, factsV_below g2 hb⟩
          · rw [if_neg h5] at h ⊢
            by_cases h6 : tQ = 31
            · rw [if_pos h6] at h ⊢; exact factsV_below h hb
            · rw [if_neg h6] at h ⊢
              by_cases h7 : tQ = 11
              · rw [if_pos h7] at h ⊢; exact factsV_below h hb
              · rw [if_neg h7] at h ⊢; exact h
def more2W (i : Nat) : Bool := i == 4 || i == 6
def more2S (_ t : Nat) : Bool := t == 23 || t == 24 || t == 26 || t == 28
theorem more2T_surv (PV : Value) (i : Int) (VF VM : Value) (errB : Int) (wd : World) (facts more outB : List Rl.Fc) (k : Nat) (tQ : Nat) (vQ : Value) (W W' : World) (hs : more2S k tQ = true) (h : more2T PV i VF VM errB wd facts more outB tQ vQ W) : more2T PV i VF VM errB wd facts more outB tQ vQ W' := by
  unfold more2S at hs
  simp only [Bool.or_eq_true, beq_iff_eq] at hs
  rcases hs with ((rfl | rfl) | rfl) | rfl <;> exact h
set_option maxRecDepth 100000 in
set_option maxHeartbeats 4000000 in
theorem ruleMore_any (p : Sc.Prog) (i : Int) (facts more : List Rl.Fc) (va vn vr vf vm : Value) (w : World) (hP : ProgV w va vn vr p) (hF : ProgFit p) (hcap : RulesCap w vr) (hV : FactsV w vf facts) (hFl : facts.length ≤ 1048576) (hFF : ∀ f, f ∈ facts → FFit f) (hM : FactsV w vm more) (hMl : more.length ≤ 1048576) (hMF : ∀ f, f ∈ more → FFit f) :
    Calls Tryz.prog 5 #[progVal va vn vr, .int .i64 i, vf, vm] w fun e w' => e = .returned (.bool true) ∧ Below w.heap.size w w' := by
  obtain ⟨a0, n0, rfl, _⟩ := id hP.ar
  obtain ⟨a1, n1, rfl, _⟩ := id hP.nm
  obtain ⟨a2, n2, rfl, hRA⟩ := id hP.rl
  obtain ⟨af, cf, rfl, hfc, _⟩ := id hV
  obtain ⟨am, cm, rfl, hmc, _⟩ := id hM
  have bT := (Below.refl w.heap.size w).alloc (Nat.le_refl _) (.cells #[.slice a0 p.arity.length n0, .slice a1 p.names.length n1, .slice a2 p.rules.length n2] 26)
  have HBX : Hid _ := heap_alloc_new w (.cells #[.slice a0 p.arity.length n0, .slice a1 p.names.length n1, .slice a2 p.rules.length n2] 26)
  have HB : Hid _ := bT
  have HC : Hid _ := Heads_any p i facts _ _ _ _ _ (hP.below bT) hF (hcap.below hP.rl bT) (factsV_below hV bT) (by omega) hFF
  have HRA : Hid _ := hRA
  have HPP : Hid (ProgV w (.slice a0 p.arity.length n0) (.slice a1 p.names.length n1) (.slice a2 p.rules.length n2) p ∧ ProgFit p ∧ RulesCap w (.slice a2 p.rules.length n2)) := ⟨hP, hF, hcap⟩
  have HFV : Hid (FactsV w (.slice af facts.length cf) facts) := hV
  have HMV : Hid (FactsV w (.slice am more.length cm) more) := hM
  have HFF : Hid _ := hFF
  have HMF : Hid _ := hMF
  have HCC : Hid ((af = none → cf = 0) ∧ (am = none → cm = 0)) := ⟨hfc.2, hmc.2⟩
  clear hP hF hV hFF bT hcap hRA hM hMF hfc hmc
  go_enter Tryz.func5, Tryz.ntmps5
  go_upto_region 1 with fail
  generalize w.alloc (.cells #[.slice a0 p.arity.length n0, .slice a1 p.names.length n1, .slice a2 p.rules.length n2] 26) = w1 at *
  generalize hPB : w.heap.size = PB at *
  have c0 : w1.cell? ⟨PB, 0, none⟩ = some (.slice a0 p.arity.length n0) := by rw [Lib.cell_of_heap HBX.out]; rfl
  have c1 : w1.cell? ⟨PB, 1, none⟩ = some (.slice a1 p.names.length n1) := by rw [Lib.cell_of_heap HBX.out]; rfl
  have c2 : w1.cell? ⟨PB, 2, none⟩ = some (.slice a2 p.rules.length n2) := by rw [Lib.cell_of_heap HBX.out]; rfl
  go_wp2_with fail
  refine Calls.mono HC.out ?_
  rintro _ wd ⟨v, rfl, hN, hb2⟩
  have HB2 : Hid (Below w.heap.size w wd) := by show Below _ _ _; rw [hPB]; exact HB.out.trans (hb2.mono (by rw [← hPB]; exact HB.out.size))
  have HBX2 : Hid _ := (hb2.block _ (heap_lt HBX.out)).trans HBX.out
  have HNV : Hid (FactsV wd v (Ru.headsOut p i facts)) := hN.toV
  obtain ⟨qa, hqa, hqo, _⟩ := hN
  obtain ⟨av, cv, rfl⟩ := own_slice hqo
  have HQA : Hid (qa.length = (Ru.headsOut p i facts).length) := by show _ = _; rw [← hqa, List.length_map]
  clear c0 c1 c2 hqa hqo hb2 HB HBX HC
  have c0 : wd.cell? ⟨PB, 0, none⟩ = some (.slice a0 p.arity.length n0) := by rw [Lib.cell_of_heap HBX2.out]; rfl
  have c1 : wd.cell? ⟨PB, 1, none⟩ = some (.slice a1 p.names.length n1) := by rw [Lib.cell_of_heap HBX2.out]; rfl
  have c2 : wd.cell? ⟨PB, 2, none⟩ = some (.slice a2 p.rules.length n2) := by rw [Lib.cell_of_heap HBX2.out]; rfl
  have HFA : Hid (FactsAt wd af facts ∧ (af = none → cf = 0)) := by
    obtain ⟨a9, c9, h9, _, h10⟩ := factsV_below HFV.out HB2.out
    injection h9 with e1 _ _
    subst e1
    exact ⟨h10, HCC.out.1⟩
  have HMA : Hid (FactsAt wd am more ∧ (am = none → cm = 0)) := by
    obtain ⟨a9, c9, h9, _, h10⟩ := factsV_below HMV.out HB2.out
    injection h9 with e1 _ _
    subst e1
    exact ⟨h10, HCC.out.2⟩
  obtain ⟨outA, HOA⟩ : ∃ outA, Hid (Ru.headsOut p i facts = outA) := ⟨_, rfl⟩
  obtain ⟨outB, HOBe⟩ : ∃ outB, Hid (Ru.headsOut p i (facts ++ more) = outB) := ⟨_, rfl⟩
  obtain ⟨errA, HEA⟩ : ∃ errA, Hid (Ru.waysErr p i facts = errA) := ⟨_, rfl⟩
  obtain ⟨errB, HEB⟩ : ∃ errB, Hid (Ru.waysErr p i (facts ++ more) = errB) := ⟨_, rfl⟩
  have HHB : Hid (∀ y_ u, Below wd.heap.size wd y_ → FactsV y_ u (facts ++ more) → Calls Tryz.prog 15 #[progVal (.slice a0 p.arity.length n0) (.slice a1 p.names.length n1) (.slice a2 p.rules.length n2), .int .i64 i, u] y_ fun e w' => ∃ v', e = .returned (.tuple #[v', .int .i64 errB]) ∧ FactsV w' v' outB ∧ Below y_.heap.size y_ w') := fun y_ u hb hu => by
    have hb' : Below w.heap.size w y_ := HB2.out.trans (hb.mono HB2.out.size)
    refine Calls.mono (Heads_any p i (facts ++ more) _ _ _ _ _ (HPP.out.1.below hb') HPP.out.2.1 (HPP.out.2.2.below HPP.out.1.rl hb') hu (by rw [List.length_append]; omega) (fun f hf => (List.mem_append.mp hf).elim (HFF.out f) (HMF.out f))) ?_
    rintro _ w' ⟨v', rfl, h1, h2⟩
    exact ⟨v', by rw [HEB.out], by rw [← HOBe.out]; exact h1.toV, h2⟩
  rw [HOA.out] at HNV HQA
  rw [HEA.out]
  clear HFV HMV HPP HCC
  go_upto_region 2 with fail
  refine wp_region_kill (more2T (progVal (.slice a0 p.arity.length n0) (.slice a1 p.names.length n1) (.slice a2 p.rules.length n2)) i (.slice af facts.length cf) (.slice am more.length cm) errB wd facts more outB) 12 more2W more2S (by decide) (by kernel_rfl) (by kernel_rfl) (by kernel_rfl) (more2T_mono (progVal (.slice a0 p.arity.length n0) (.slice a1 p.names.length n1) (.slice a2 p.rules.length n2)) i (.slice af facts.length cf) (.slice am more.length cm) errB wd facts more outB) (fun kk t v w w' _ hs _ h => more2T_surv (progVal (.slice a0 p.arity.length n0) (.slice a1 p.names.length n1) (.slice a2 p.rules.length n2)) i (.slice af facts.length cf) (.slice am more.length cm) errB wd facts more outB kk t v w w' hs h) ?hopA ?htailA
  case hopA =>
    refine AllOpsI.cons (fun a y_ h hO => ?_) ?_
    · rw [if_neg (by decide)]
      have e4 : a.eval (.tmp 4) = (.pointer (some ⟨PB, 0, none⟩) : Value) := h.old 4 (by kernel_rfl)
      have x0 := cell_below h.below c0
      have x1 := cell_below h.below c1
      have x2 := cell_below h.below c2
      refine opOk_val (v := progVal (.slice a0 p.arity.length n0) (.slice a1 p.names.length n1) (.slice a2 p.rules.length n2)) (w' := y_) (wanted_none rfl) ?_ (fun t ht => by cases ht; exact rfl) (Below.refl _ _)
      have ec : ∀ v, a.eval (.const v) = v := fun _ => rfl
      generalize a.eval = ev at *
      clear h hO
      go_simp
    refine AllOpsI.cons (fun a y_ h hO => ?_) ?_
    · rw [if_neg (by decide)]
      have e1 : a.eval (.tmp 1) = (.int .i64 i : Value) := h.old 1 (by kernel_rfl)
      refine opOk_val (v := .int .i64 i) (w' := y_) (wanted_none rfl) ?_ (fun t ht => by cases ht; exact rfl) (Below.refl _ _)
      have ec : ∀ v, a.eval (.const v) = v := fun _ => rfl
      generalize a.eval = ev at *
      clear h hO
      go_simp
    refine AllOpsI.cons (fun a y_ h hO => ?_) ?_
    · rw [if_neg (by decide)]
      refine opOk_val (v := .slice (some ⟨y_.heap.size, 0, none⟩) 0 0) (w' := y_.alloc (.cells #[] 55)) (wanted_none rfl) ?_ (fun t ht => by cases ht; exact World.ownsRow_made y_ #[] 0 h.below.size (Nat.zero_le _) (by simp)) ((Below.refl _ _).alloc (Nat.le_refl _) _)
      have ec : ∀ v, a.eval (.const v) = v := fun _ => rfl
      generalize a.eval = ev at *
      clear h hO
      go_simp
    refine AllOpsI.cons (fun a y_ h hO => ?_) ?_
    · rw [if_neg (by decide)]
      have e2 : a.eval (.tmp 2) = (.slice af facts.length cf : Value) := h.old 2 (by kernel_rfl)
      refine opOk_val (v := .slice af facts.length cf) (w' := y_) (wanted_none rfl) ?_ (fun t ht => by cases ht; exact rfl) (Below.refl _ _)
      have ec : ∀ v, a.eval (.const v) = v := fun _ => rfl
      generalize a.eval = ev at *
      clear h hO
      go_simp
    refine AllOpsI.cons (fun a y_ h hO => ?_) ?_
    · rw [if_pos (by decide)]
      refine ⟨wanted_none rfl, ?_⟩
      have ho : y_.ownsRow wd.heap.size 55 2 (a.eval (.tmp 25)) 0 [] := h.of 25 (by kernel_rfl)
      have e26 : a.eval (.tmp 26) = (.slice af facts.length cf : Value) := h.of 26 (by kernel_rfl)
      refine wp1_append_facts (.tmp 25) (.tmp 26) rfl h.below _ 0 [] rfl rfl ho af cf facts e26 HFA.out.2 HFA.out.1 HFF.out (by omega) ?_
      rintro v' w' q2 ⟨h1, h2, h3, _⟩ hb
      refine ⟨_, rfl, fun t ht => ?_, hb⟩
      cases ht
      exact ⟨q2, h1, h2, h3⟩
    refine AllOpsI.cons (fun a y_ h hO => ?_) ?_
    · rw [if_neg (by decide)]
      have e3 : a.eval (.tmp 3) = (.slice am more.length cm : Value) := h.old 3 (by kernel_rfl)
      refine opOk_val (v := .slice am more.length cm) (w' := y_) (wanted_none rfl) ?_ (fun t ht => by cases ht; exact rfl) (Below.refl _ _)
      have ec : ∀ v, a.eval (.const v) = v := fun _ => rfl
      generalize a.eval = ev at *
      clear h hO
      go_simp
    refine AllOpsI.cons (fun a y_ h hO => ?_) ?_
    · rw [if_pos (by decide)]
      refine ⟨wanted_none rfl, ?_⟩
      obtain ⟨q1, g1, g2, ho⟩ : ∃ q1 : List Fv, q1.map (·.1) = facts ∧ (∀ p, p ∈ q1 → FvOk wd p) ∧ y_.ownsRow wd.heap.size 55 2 (a.eval (.tmp 27)) q1.length (q1.map fcCells).flatten := h.of 27 (by kernel_rfl)
      have e28 : a.eval (.tmp 28) = (.slice am more.length cm : Value) := h.of 28 (by kernel_rfl)
      have hq1 : q1.length = facts.length := by rw [← g1, List.length_map]
      refine wp1_append_facts (.tmp 27) (.tmp 28) rfl h.below _ q1.length q1 rfl rfl ho am cm more e28 HMA.out.2 HMA.out.1 HMF.out (by omega) ?_
      rintro v' w' q2 ⟨h1, h2, h3, h4⟩ hb
      refine ⟨_, rfl, fun t ht => ?_, hb⟩
      cases ht
      have h9 := own_factsV h3 (fun p hp => (List.mem_append.mp hp).elim (g2 p) (h2 p)) h4
      rw [List.map_append, g1, h1] at h9
      exact h9
    refine AllOpsI.cons (fun a y_ h hO => ?_) ?_
    · rw [if_neg (by decide)]
      have e23 : a.eval (.tmp 23) = (progVal (.slice a0 p.arity.length n0) (.slice a1 p.names.length n1) (.slice a2 p.rules.length n2) : Value) := h.of 23 (by kernel_rfl)
      have e24 : a.eval (.tmp 24) = (.int .i64 i : Value) := h.of 24 (by kernel_rfl)
      have hfv : FactsV y_ (a.eval (.tmp 29)) (facts ++ more) := h.of 29 (by kernel_rfl)
      refine opOk_call (f := 15) (args := #[progVal (.slice a0 p.arity.length n0) (.slice a1 p.names.length n1) (.slice a2 p.rules.length n2), .int .i64 i, a.eval (.tmp 29)]) (wanted_none rfl) ?_ ?_
      · have ec : ∀ v, a.eval (.const v) = v := fun _ => rfl
        have ef : ∀ f, a.eval (.func f) = .func (.func f) #[] #[] := fun _ => rfl
        generalize a.eval = ev at *
        clear h hO
        go_simp
      · refine Calls.mono (HHB.out y_ _ h.below hfv) ?_
        rintro _ y2 ⟨v', rfl, hv', hb2⟩
        refine ⟨_, rfl, fun t ht => ?_, hb2⟩
        cases ht
        exact ⟨v', rfl, hv'⟩
    refine AllOpsI.cons (fun a y_ h hO => ?_) ?_
    · rw [if_neg (by decide)]
      obtain ⟨u, e30, hu⟩ : ∃ u, a.eval (.tmp 30) = .tuple #[u, .int .i64 errB] ∧ FactsV y_ u outB := h.of 30 (by kernel_rfl)
      refine opOk_val (v := .tuple #[u, .int .i64 errB]) (w' := y_) (wanted_none rfl) ?_ (fun t ht => by cases ht; exact ⟨u, rfl, hu⟩) (Below.refl _ _)
      have ec : ∀ v, a.eval (.const v) = v := fun _ => rfl
      generalize a.eval = ev at *
      clear h hO
      go_simp
    refine AllOpsI.cons (fun a y_ h hO => ?_) ?_
    · rw [if_neg (by decide)]
      obtain ⟨u, e22, hu⟩ : ∃ u, a.eval (.tmp 22) = .tuple #[u, .int .i64 errB] ∧ FactsV y_ u outB := h.of 22 (by kernel_rfl)
      refine opOk_val (v := u) (w' := y_) (wanted_none rfl) ?_ (fun t ht => by cases ht; exact hu) (Below.refl _ _)
      have ec : ∀ v, a.eval (.const v) = v := fun _ => rfl
      generalize a.eval = ev at *
      clear h hO
      go_simp
    refine AllOpsI.cons (fun a y_ h hO => ?_) ?_
    · rw [if_neg (by decide)]
      obtain ⟨u, e22, hu⟩ : ∃ u, a.eval (.tmp 22) = .tuple #[u, .int .i64 errB] ∧ FactsV y_ u outB := h.of 22 (by kernel_rfl)
      refine opOk_val (v := .int .i64 errB) (w' := y_) (wanted_none rfl) ?_ (fun t ht => by cases ht; exact rfl) (Below.refl _ _)
      have ec : ∀ v, a.eval (.const v) = v := fun _ => rfl
      generalize a.eval = ev at *
      clear h hO
      go_simp
    refine AllOpsI.cons (fun a y_ h hO => ?_) ?_
    · rw [if_neg (by decide)]
      have hu : FactsV y_ (a.eval (.tmp 31)) outB := h.of 31 (by kernel_rfl)
      refine opOk_val (v := a.eval (.tmp 31)) (w' := y_) (wanted_none rfl) ?_ (fun t ht => by cases ht; exact hu) (Below.refl _ _)
      have ec : ∀ v, a.eval (.const v) = v := fun _ => rfl
      generalize a.eval = ev at *
      clear h hO
      go_simp
    exact AllOpsI.nil
  case htailA =>
    rintro ⟨tm0, df⟩ wE hI _
    have e32 : Act.eval ⟨tm0, df⟩ (.tmp 32) = .int .i64 errB := hI.of 10 _ 32 (by decide) rfl rfl (by kernel_rfl)
    have e11 : FactsV wE (Act.eval ⟨tm0, df⟩ (.tmp 11)) outB := hI.of 11 _ 11 (by decide) rfl rfl (by kernel_rfl)
    have hsN : tm0.size = 85 := hI.size
    show wpOps Tryz.prog _ _ [12] _ _
    rw [wpOps_cons]
    refine wpOp_val (v := .int .i64 errB) (w' := wE) rfl (wanted_none rfl) ?_ ?_
    · show Sem.run Tryz.prog (execOp (Act.eval ⟨tm0, df⟩) _) wE = _
      generalize Act.eval ⟨tm0, df⟩ = ev at *
      clear hI e11
      go_simp
    have HB4 : Hid (Below w.heap.size w wE) := HB2.out.trans (hI.below.mono HB2.out.size)
    have HNE : Hid (FactsV wE (.slice av qa.length cv) outA) := factsV_below HNV.out hI.below
    have HBX4 : Hid _ := (hI.below.block _ (heap_lt HBX2.out)).trans HBX2.out
    have hst : ∀ t, t ∉ [23, 24, 25, 26, 27, 28, 29, 30, 22, 31, 32, 11, 12] → (tm0.setIfInBounds 12 (.int .i64 errB)).getD t undef = _ := fun t ht => by
      have hA : t ≠ 12 := fun e => ht (by rw [e]; decide)
      exact (put_get_ne (a := ⟨tm0, df⟩) hA).trans (hI.still t ht)
    have hs3 : (tm0.setIfInBounds 12 (.int .i64 errB)).size = 85 := by simp [hsN]
    have h12 : (tm0.setIfInBounds 12 (.int .i64 errB)).getD 12 undef = .int .i64 errB := put_get_self (a := ⟨tm0, df⟩) (by show 12 < tm0.size; omega)
    obtain ⟨v11, e11v, hv11⟩ : ∃ v11, (tm0.setIfInBounds 12 (.int .i64 errB)).getD 11 undef = v11 ∧ FactsV wE v11 outB := ⟨_, rfl, by rw [show (tm0.setIfInBounds 12 (.int .i64 errB)).getD 11 undef = Act.eval ⟨tm0, df⟩ (.tmp 11) from put_get_ne (a := ⟨tm0, df⟩) (by decide)]; exact e11⟩
    obtain rfl : df = [] := hI.defers
    have HOB : Hid (FactsV wE v11 outB) := hv11
    obtain ⟨ab, cb, rfl, _⟩ := hv11
    clear hI e32 e11 hsN
    show Exit.then _ _ Exit.normal ⟨tm0.setIfInBounds 12 (.int .i64 errB), []⟩ _
    generalize tm0.setIfInBounds 12 (.int .i64 errB) = tm at *
    have hF8 := tmps_fold [23, 24, 25, 26, 27, 28, 29, 30, 22, 31, 32, 11, 12] tm _ (hs3.trans (by rfl)) hst
    clear hs3 hst
    simp only [List.foldl_cons, List.foldl_nil, h12, e11v] at hF8
    clear h12 e11v
    generalize tm.getD 23 undef = x23 at hF8
    generalize tm.getD 24 undef = x24 at hF8
    generalize tm.getD 25 undef = x25 at hF8
    generalize tm.getD 26 undef = x26 at hF8
    generalize tm.getD 27 undef = x27 at hF8
    generalize tm.getD 28 undef = x28 at hF8
    generalize tm.getD 29 undef = x29 at hF8
    generalize tm.getD 30 undef = x30 at hF8
    generalize tm.getD 22 undef = x22 at hF8
    generalize tm.getD 31 undef = x31 at hF8
    generalize tm.getD 32 undef = x32 at hF8
    simp only [List.setIfInBounds_toArray, List.set_cons_zero, List.set_cons_succ] at hF8
    subst hF8
    clear HNV HBX2 HB2 c0 c1 c2 HHB HFA HMA HFF HMF

    go_wp2_with fail
    refine Calls.mono (ruleBegun_any wE) ?_
    rintro _ w5 ⟨rfl, hb5⟩
    have HB5 : Hid (Below w.heap.size w w5) := HB4.out.trans (hb5.mono HB4.out.size)
    have HNE5 : Hid _ := factsV_below HNE.out hb5
    have HOB5 : Hid _ := factsV_below HOB.out hb5
    have HBX5 : Hid _ := (hb5.block _ (heap_lt HBX4.out)).trans HBX4.out
    clear hb5 HB4 HNE HOB HBX4
    by_cases hA : errA = 0
    · by_cases hB : errB = 0
      · subst hA hB
        have hin := Ru.waysErr_in HEA.out
        have hinB := Ru.waysErr_in HEB.out
        obtain ⟨k, rfl⟩ : ∃ k : Nat, i = k := ⟨i.toNat, by have := hin.lo; omega⟩
        have hk : k < p.rules.length := by have := hin.hi; omega
        have HRU : Hid (Ru.rule p (k : Int) = Sc.ruleD p.rules k) := by show _ = _; unfold Ru.rule; rw [Int.toNat_natCast]
        have hb4 := hin.rule.b4
        have HMORE : Hid ((Ru.rule p (k : Int)).fold = 0 → (∀ t, t ∈ (Ru.rule p (k : Int)).body → ¬ t.kind = 2) → ∀ f, f ∈ outA → f ∈ outB) := fun hf hk2 f hfm => by
          rw [← HOBe.out]
          exact Ru.headsOut_more HEA.out HEB.out hf hk2 f (by rw [HOA.out]; exact hfm)
        have HFA2 : Hid (∀ f, f ∈ outA → FFit f) := fun f hf => by
          have := Ru.right_short hin.ok (Ru.headsOut_right HEA.out (by rw [HOA.out]; exact hf))
          show _ ≤ _
          omega
        have HFB2 : Hid (∀ f, f ∈ outB → FFit f) := fun f hf => by
          have := Ru.right_short hinB.ok (Ru.headsOut_right HEB.out (by rw [HOBe.out]; exact hf))
          show _ ≤ _
          omega
        have HOL : Hid (outA.length ≤ 2000 ∧ outB.length ≤ 2000) := by
          rw [← HOA.out, ← HOBe.out]
          exact ⟨Nat.le_trans (Ru.headsOut_length HEA.out) (Ru.waysOut_le HEA.out), Nat.le_trans (Ru.headsOut_length HEB.out) (Ru.waysOut_le HEB.out)⟩
        rw [HRU.out] at HMORE hb4
        obtain ⟨b, off, rfl, q0, ⟨vt, q1, hT⟩, q2, ⟨vb, q3, hL⟩, q4⟩ := prules_at HRA.out k hk
        obtain ⟨abd, cbd, rfl, hLA⟩ := hL
        have HLA : Hid _ := hLA
        have p2 := cell_below HB5.out q2
        have p3 := cell_below HB5.out q3
        have d2 : w5.cell? ⟨PB, 2, none⟩ = some (.slice (some ⟨b, off, none⟩) p.rules.length n2) := by rw [Lib.cell_of_heap HBX5.out]; rfl
        have hOL := HOL.out
        clear q0 q1 q2 q3 q4 hT hLA hin hinB HRA HRU HBX5 HEA HEB HOA HOBe
        generalize Sc.ruleD p.rules k = r at *
        by_cases hf : r.fold = 0
        · have g0 : (r.fold != 0) = false := by simpa using hf
          have HF0 : Hid _ := hf
          clear hf
          go_wp2_with fail
          go_loopw [13] (fun iv wr => w5 = wr ∧ ∃ j : Nat, j ≤ r.body.length ∧ iv = .int .i64 j ∧ Hid (∀ t, t ∈ r.body.take j → ¬ t.kind = 2)) (fun iv _ => r.body.length - (intOf iv).toNat)
          case atStart => exact ⟨rfl, 0, Nat.zero_le _, rfl, fun t ht => absurd ht (by simp)⟩
          case round =>
            obtain ⟨rfl, j, hj, rfl, HK⟩ := hrel
            by_cases hlt : j < r.body.length
            · obtain ⟨bb, boff, rfl, k0, _⟩ := plits_at HLA.out j hlt
              have d3 := cell_below HB5.out k0
              have HLG : Hid (r.body[j]? = some (Sc.litD r.body j)) := by
                show _ = _
                unfold Sc.litD
                rw [List.getD_eq_getElem?_getD, List.getElem?_eq_getElem hlt]
                rfl
              clear k0
              generalize Sc.litD r.body j = l at *
              by_cases hk2 : l.kind = 2
              · have g2 : (l.kind == 2) = true := by simpa using hk2
                clear hk2
                go_wp2_with fail
                go_ret
                exact ⟨rfl, HB5.out⟩
              · have g2 : (l.kind == 2) = false := by simpa using hk2
                have HK2 : Hid (∀ t, t ∈ r.body.take (j + 1) → ¬ t.kind = 2) := fun t ht => by
                  rw [List.take_add_one, HLG.out] at ht
                  rcases List.mem_append.mp ht with ht | ht
                  · exact HK.out t ht
                  · rw [List.mem_singleton.mp ht]; exact hk2
                clear hk2
                go_wp2_with fail
                go_roundw
                case rel => exact ⟨trivial, j + 1, hlt, by go_num, HK2.out⟩
                case measure => simp [intOf]; omega
            · have hdd : decide (j < r.body.length) = false := decide_eq_false hlt
              have HSUB : Hid (∀ f, f ∈ outA → f ∈ outB) := HMORE.out HF0.out (by have := HK.out; rw [List.take_of_length_le (by omega)] at this; exact this)
              clear HK
              rw [HQA.out] at *
              go_wp2_with fail
              go_loopw [14] (fun iv wr => ∃ m : Nat, m ≤ outA.length ∧ iv = .int .i64 m ∧ Hid (Below w5.heap.size w5 wr)) (fun iv _ => outA.length - (intOf iv).toNat)
              case atStart => exact ⟨0, Nat.zero_le _, rfl, Below.refl _ _⟩
              case round =>
                obtain ⟨m, hm, rfl, HB6⟩ := hrel
                by_cases hlm : m < outA.length
                · obtain ⟨a9, c9, h9, _, hA9⟩ := HNE5.out
                  injection h9 with e1 e2 e3
                  subst e1 e3
                  obtain ⟨fb, foff, rfl, f0, fv, f1, hIv⟩ := facts_at hA9 m hlm
                  have hmem := factD_mem outA m hlm
                  obtain ⟨ai, ci, rfl, _⟩ := id hIv
                  have z0 := cell_below HB6.out f0
                  have z1 := cell_below HB6.out f1
                  have HHF : Hid _ := HasFact_any outB (Rl.factD outA m) _ _ wr (factsV_below HOB5.out HB6.out) (intsV_below hIv HB6.out) (by have := HOL.out.2; omega) HFB2.out (HFA2.out _ hmem)
                  rw [Rl.has_iff.mpr (HSUB.out _ hmem)] at HHF
                  clear hA9 f0 f1 hIv hmem
                  generalize Rl.factD outA m = ff at *
                  go_wp2_with fail
                  refine Calls.mono HHF.out ?_
                  rintro _ w8 ⟨rfl, hb8⟩
                  have HB8 : Hid (Below w5.heap.size w5 w8) := HB6.out.trans (hb8.mono HB6.out.size)
                  clear hb8 HHF z0 z1
                  go_wp2_with fail
                  go_roundw
                  case rel => exact ⟨m + 1, hlm, by go_num, HB8.out⟩
                  case measure => simp [intOf]; omega
                · have hdd2 : decide (m < outA.length) = false := decide_eq_false hlm
                  go_wp2_with fail
                  go_ret
                  exact ⟨rfl, HB5.out.trans (HB6.out.mono HB5.out.size)⟩
        · have g0 : (r.fold != 0) = true := by simpa using hf
          clear hf
          go_wp2_with fail
          go_ret
          exact ⟨rfl, HB5.out⟩
      · subst hA
        have g0 : (errB != 0) = true := by simpa using hB
        clear hB
        go_wp2_with fail
        go_ret
        exact ⟨rfl, HB5.out⟩
    · have g0 : (errA != 0) = true := by simpa using hA
      clear hA
      go_wp2_with fail
      go_ret
      exact ⟨rfl, HB5.out⟩
end Go.Proofs.YthenjegmigeieaaGreat

/- A tree that came in, read out of memory. -/
namespace Go.Proofs.YthenjegmigeieaaGreat
open Go.RowKit

theorem A_cells3 : Tryz.prog.cellsOf 3 = 1 := by kernel_rfl
theorem A_cells9 : Tryz.prog.cellsOf 9 = 1 := by kernel_rfl

theorem list2 {l : List Value} (h : l.length = 2) : ∃ a b, l = [a, b] := by
  match l, h with
  | [a, b], _ => exact ⟨a, b, rfl⟩
theorem list5 {l : List Value} (h : l.length = 5) : ∃ a b c d e, l = [a, b, c, d, e] := by
  match l, h with
  | [a, b, c, d, e], _ => exact ⟨a, b, c, d, e, rfl⟩

section
variable {H : Type} {enc : TypeId × Value → H} {w : World} {base : Nat} {spare : Nat → Bool} {held : Bool}

/-- A slice whose elements can be read. -/
theorem open_row {α : Type} {st e : TypeId} {k : Nat} (ht : Tryz.prog.underlying st = some (.slice e)) (hk : Tryz.prog.cellsOf e = k) (hk0 : 0 < k) (d : α) (In : Nat → Nat → α → Prop)
    (el : ∀ n cs' y b off, cs'.length = k → (∀ j, j < k → w.cell? ⟨b, off + j, none⟩ = cs'[j]?) → DataW.trod enc Tryz.prog w base spare held n e cs' = some y → ∃ a, In b off a)
    {fuel : Nat} {v : Value} {x : DataW H × List MemPlace} (h : DataW.trod enc Tryz.prog w base spare held fuel st [v] = some x) :
    ∃ (ao : Option Addr) (l : List α) (cap : Nat), v = .slice ao l.length cap ∧ l.length ≤ 9223372036854775807 ∧ (l = [] ∨ ∃ b off, ao = some ⟨b, off, none⟩ ∧ ∀ i, i < l.length → In b (off + i * k) (l.getD i d)) := by
  haveI : Inhabited α := ⟨d⟩
  rcases Deep.open_slice ht h with ⟨hv, _⟩ | ⟨a, len, cap, m, n, D, Pl, hv, hb, hl, hm, hmm, hx, hel⟩
  · have hv' : v = .slice none 0 0 := by simpa using hv
    exact ⟨none, [], 0, hv', by simp, .inl rfl⟩
  · have hv' : v = .slice (some a) len cap := by simpa using hv
    have hlm : len ≤ m := by rw [hmm]; split <;> omega
    by_cases h0 : len = 0
    · subst h0
      exact ⟨some a, [], cap, hv', by simp, .inl rfl⟩
    · obtain ⟨b, off, spot⟩ := a
      have hspot : spot = none := by
        obtain ⟨cs', h1, _⟩ := hel 0 (by omega)
        rw [hk] at h1
        obtain ⟨_, hlen, hcell⟩ := World.cells?_some h1
        have hc := hcell 0 hk0
        cases hcs : cs'[0]? with
        | none => rw [List.getElem?_eq_none_iff] at hcs; omega
        | some u =>
          rw [hcs] at hc
          simpa [Addr.add] using World.cell?_spot hc
      subst hspot
      have each : ∀ i, i < len → ∃ q : α, In b (off + i * k) q := by
        intro i hi
        obtain ⟨cs', h1, h2⟩ := hel i (by omega)
        rw [hk] at h1
        obtain ⟨_, hlen, hcell⟩ := World.cells?_some h1
        refine el n cs' _ b (off + i * k) hlen (fun j hj => ?_) h2
        have := hcell j hj
        rw [Deep.add_add, WideShapes.add_plain] at this
        rw [← this, Nat.add_assoc]
      obtain ⟨q, hq⟩ := Deep.choose_lt each
      refine ⟨some ⟨b, off, none⟩, (List.range len).map q, cap, by rw [hv']; simp, by unfold maxLen at hm; simp; omega, .inr ⟨b, off, rfl, fun i hi => ?_⟩⟩
      have hi' : i < len := by simpa using hi
      have ht : ((List.range len).map q).getD i d = q i := by
        rw [List.getD_eq_getElem?_getD, List.getElem?_map, List.getElem?_range hi']
        rfl
      rw [ht]
      exact hq i hi'

theorem trod_struct2 {t : TypeId} {f0 f1 : Field} {fuel : Nat} {cs : List Value} {x : DataW H × List MemPlace} (ht : Tryz.prog.underlying t = some (.struct #[f0, f1])) (h : DataW.trod enc Tryz.prog w base spare held fuel t cs = some x) :
    ∃ y0 y1 n, cs.length = Tryz.prog.cellsOf t ∧ DataW.trod enc Tryz.prog w base spare held n f0.type ((cs.drop f0.offset).take (Tryz.prog.cellsOf f0.type)) = some y0 ∧
      DataW.trod enc Tryz.prog w base spare held n f1.type ((cs.drop f1.offset).take (Tryz.prog.cellsOf f1.type)) = some y1 := by
  obtain ⟨xs, n, _, rfl, hl, hlen, hf⟩ := DataW.trod_struct ht h
  match xs, hlen with
  | [y0, y1], _ => exact ⟨y0, y1, n, hl, by simpa using hf 0 f0 rfl, by simpa using hf 1 f1 rfl⟩
theorem trod_struct5 {t : TypeId} {f0 f1 f2 f3 f4 : Field} {fuel : Nat} {cs : List Value} {x : DataW H × List MemPlace} (ht : Tryz.prog.underlying t = some (.struct #[f0, f1, f2, f3, f4])) (h : DataW.trod enc Tryz.prog w base spare held fuel t cs = some x) :
    ∃ y0 y1 y2 y3 y4 n, cs.length = Tryz.prog.cellsOf t ∧ DataW.trod enc Tryz.prog w base spare held n f0.type ((cs.drop f0.offset).take (Tryz.prog.cellsOf f0.type)) = some y0 ∧
      DataW.trod enc Tryz.prog w base spare held n f1.type ((cs.drop f1.offset).take (Tryz.prog.cellsOf f1.type)) = some y1 ∧ DataW.trod enc Tryz.prog w base spare held n f2.type ((cs.drop f2.offset).take (Tryz.prog.cellsOf f2.type)) = some y2 ∧
      DataW.trod enc Tryz.prog w base spare held n f3.type ((cs.drop f3.offset).take (Tryz.prog.cellsOf f3.type)) = some y3 ∧ DataW.trod enc Tryz.prog w base spare held n f4.type ((cs.drop f4.offset).take (Tryz.prog.cellsOf f4.type)) = some y4 := by
  obtain ⟨xs, n, _, rfl, hl, hlen, hf⟩ := DataW.trod_struct ht h
  match xs, hlen with
  | [y0, y1, y2, y3, y4], _ => exact ⟨y0, y1, y2, y3, y4, n, hl, by simpa using hf 0 f0 rfl, by simpa using hf 1 f1 rfl, by simpa using hf 2 f2 rfl, by simpa using hf 3 f3 rfl, by simpa using hf 4 f4 rfl⟩

end

end Go.Proofs.YthenjegmigeieaaGreat

/- A program, a fact, that came in, read out of memory. -/
namespace Go.Proofs.YthenjegmigeieaaGreat
open Go.RowKit

theorem P_cells22 : Tryz.prog.cellsOf 22 = 1 := by kernel_rfl
theorem P_cells23 : Tryz.prog.cellsOf 23 = 1 := by kernel_rfl
theorem P_cells24 : Tryz.prog.cellsOf 24 = 1 := by kernel_rfl
theorem P_cells64 : Tryz.prog.cellsOf 37 = 1 := by kernel_rfl
theorem P_cells65 : Tryz.prog.cellsOf 38 = 1 := by kernel_rfl
theorem P_cells67 : Tryz.prog.cellsOf 40 = 5 := by kernel_rfl
theorem P_cells84 : Tryz.prog.cellsOf 49 = 4 := by kernel_rfl
theorem P_cells130 : Tryz.prog.cellsOf 147 = 2 := by kernel_rfl

theorem list4 {l : List Value} (h : l.length = 4) : ∃ a b c d, l = [a, b, c, d] := by
  match l, h with
  | [a, b, c, d], _ => exact ⟨a, b, c, d, rfl⟩

section
variable {H : Type} {enc : TypeId × Value → H} {w : World} {base : Nat} {spare : Nat → Bool} {held : Bool}

/-- A slice whose elements can be read; its length is no more than its room. -/
theorem open_rowC {α : Type} {st e : TypeId} {k : Nat} (ht : Tryz.prog.underlying st = some (.slice e)) (hk : Tryz.prog.cellsOf e = k) (hk0 : 0 < k) (d : α) (In : Nat → Nat → α → Prop)
    (el : ∀ n cs' y b off, cs'.length = k → (∀ j, j < k → w.cell? ⟨b, off + j, none⟩ = cs'[j]?) → DataW.trod enc Tryz.prog w base spare held n e cs' = some y → ∃ a, In b off a)
    {fuel : Nat} {v : Value} {x : DataW H × List MemPlace} (h : DataW.trod enc Tryz.prog w base spare held fuel st [v] = some x) :
    ∃ (ao : Option Addr) (l : List α) (cap : Nat), v = .slice ao l.length cap ∧ l.length ≤ cap ∧ l.length ≤ 9223372036854775807 ∧ (l = [] ∨ ∃ b off, ao = some ⟨b, off, none⟩ ∧ ∀ i, i < l.length → In b (off + i * k) (l.getD i d)) := by
  obtain ⟨ao, l, cap, hv, hm, hl⟩ := open_row ht hk hk0 d In el h
  refine ⟨ao, l, cap, hv, ?_, hm, hl⟩
  rcases Deep.open_slice ht h with ⟨hv2, _⟩ | ⟨a, len, cap2, m, n, D, Pl, hv2, hb, hl2, _⟩
  · have hv' : v = .slice none 0 0 := by simpa using hv2
    rw [hv] at hv'
    injection hv' with _ h1 h2
    omega
  · have hv' : v = .slice (some a) len cap2 := by simpa using hv2
    rw [hv] at hv'
    injection hv' with _ h1 h2
    omega

theorem trod_struct3 {t : TypeId} {f0 f1 f2 : Field} {fuel : Nat} {cs : List Value} {x : DataW H × List MemPlace} (ht : Tryz.prog.underlying t = some (.struct #[f0, f1, f2])) (h : DataW.trod enc Tryz.prog w base spare held fuel t cs = some x) :
    ∃ y0 y1 y2 n, cs.length = Tryz.prog.cellsOf t ∧ DataW.trod enc Tryz.prog w base spare held n f0.type ((cs.drop f0.offset).take (Tryz.prog.cellsOf f0.type)) = some y0 ∧
      DataW.trod enc Tryz.prog w base spare held n f1.type ((cs.drop f1.offset).take (Tryz.prog.cellsOf f1.type)) = some y1 ∧ DataW.trod enc Tryz.prog w base spare held n f2.type ((cs.drop f2.offset).take (Tryz.prog.cellsOf f2.type)) = some y2 := by
  obtain ⟨xs, n, _, rfl, hl, hlen, hf⟩ := DataW.trod_struct ht h
  match xs, hlen with
  | [y0, y1, y2], _ => exact ⟨y0, y1, y2, n, hl, by simpa using hf 0 f0 rfl, by simpa using hf 1 f1 rfl, by simpa using hf 2 f2 rfl⟩
theorem trod_struct4 {t : TypeId} {f0 f1 f2 f3 : Field} {fuel : Nat} {cs : List Value} {x : DataW H × List MemPlace} (ht : Tryz.prog.underlying t = some (.struct #[f0, f1, f2, f3])) (h : DataW.trod enc Tryz.prog w base spare held fuel t cs = some x) :
    ∃ y0 y1 y2 y3 n, cs.length = Tryz.prog.cellsOf t ∧ DataW.trod enc Tryz.prog w base spare held n f0.type ((cs.drop f0.offset).take (Tryz.prog.cellsOf f0.type)) = some y0 ∧
      DataW.trod enc Tryz.prog w base spare held n f1.type ((cs.drop f1.offset).take (Tryz.prog.cellsOf f1.type)) = some y1 ∧ DataW.trod enc Tryz.prog w base spare held n f2.type ((cs.drop f2.offset).take (Tryz.prog.cellsOf f2.type)) = some y2 ∧
      DataW.trod enc Tryz.prog w base spare held n f3.type ((cs.drop f3.offset).take (Tryz.prog.cellsOf f3.type)) = some y3 := by
  obtain ⟨xs, n, _, rfl, hl, hlen, hf⟩ := DataW.trod_struct ht h
  match xs, hlen with
  | [y0, y1, y2, y3], _ => exact ⟨y0, y1, y2, y3, n, hl, by simpa using hf 0 f0 rfl, by simpa using hf 1 f1 rfl, by simpa using hf 2 f2 rfl, by simpa using hf 3 f3 rfl⟩

theorem open_ints {fuel : Nat} {v : Value} {x : DataW H × List MemPlace} (h : DataW.trod enc Tryz.prog w base spare held fuel 22 [v] = some x) : ∃ l, IntsV w v l ∧ l.length ≤ 9223372036854775807 := by
  obtain ⟨ao, l, cap, hv, _, hmx, hl⟩ := open_rowC Tryz.underlying22 A_cells3 (by decide) (0 : Int) (fun b off a => w.cell? ⟨b, off, none⟩ = some (.int .i64 a)) (fun n cs' y b off hlen hc h2 => by
    match cs', hlen with
    | [v0], _ =>
      obtain ⟨k0, e0, _, _⟩ := DataW.trod_int Tryz.underlying3 h2
      simp at e0
      subst e0
      exact ⟨k0, hc 0 (by decide)⟩) h
  refine ⟨l, ⟨ao, cap, hv, ?_⟩, hmx⟩
  rcases hl with h | ⟨b, off, he, hc⟩
  · exact .inl h
  · exact .inr ⟨b, off, he, fun i hi => by have := hc i hi; rw [Nat.mul_one] at this; exact this⟩
theorem open_strs {fuel : Nat} {v : Value} {x : DataW H × List MemPlace} (h : DataW.trod enc Tryz.prog w base spare held fuel 23 [v] = some x) : ∃ l, StrsV w v l ∧ l.length ≤ 9223372036854775807 := by
  obtain ⟨ao, l, cap, hv, _, hmx, hl⟩ := open_rowC Tryz.underlying23 A_cells9 (by decide) ([] : List UInt8) (fun b off a => w.cell? ⟨b, off, none⟩ = some (.string ⟨a.toArray⟩)) (fun n cs' y b off hlen hc h2 => by
    match cs', hlen with
    | [v0], _ =>
      obtain ⟨k0, e0, _, _⟩ := DataW.trod_string Tryz.underlying9 h2
      simp at e0
      subst e0
      exact ⟨k0.data.toList, hc 0 (by decide)⟩) h
  refine ⟨l, ⟨ao, cap, hv, ?_⟩, hmx⟩
  rcases hl with h | ⟨b, off, he, hc⟩
  · exact .inl h
  · exact .inr ⟨b, off, he, fun i hi => by have := hc i hi; rw [Nat.mul_one] at this; exact this⟩
theorem open_pterms {fuel : Nat} {v : Value} {x : DataW H × List MemPlace} (h : DataW.trod enc Tryz.prog w base spare held fuel 37 [v] = some x) : ∃ l, PTermsV w v l ∧ l.length ≤ 9223372036854775807 := by
  obtain ⟨ao, l, cap, hv, hcap, hmx, hl⟩ := open_rowC Tryz.underlying37 P_cells130 (by decide) (⟨0, 0⟩ : Sc.Term) (PTermIn w) (fun n cs' y b off hlen hc h2 => by
    obtain ⟨y0, y1, k, _, g0, g1⟩ := trod_struct2 Tryz.underlying147 h2
    obtain ⟨v0, v1, rfl⟩ := list2 hlen
    simp [A_cells3] at g0 g1
    obtain ⟨k0, e0, _, _⟩ := DataW.trod_int Tryz.underlying3 g0
    obtain ⟨k1, e1, _, _⟩ := DataW.trod_int Tryz.underlying3 g1
    simp at e0 e1
    subst e0 e1
    exact ⟨⟨k0, k1⟩, hc 0 (by decide), hc 1 (by decide)⟩) h
  exact ⟨l, ⟨ao, cap, hv, hcap, hl⟩, hmx⟩
end

end Go.Proofs.YthenjegmigeieaaGreat

/- Facts, numbers and truths that came in, read out of memory; and how many there are at most. -/
namespace Go.Proofs.YthenjegmigeieaaGreat
open Go.RowKit

theorem O_cells3 : Tryz.prog.cellsOf 3 = 1 := by kernel_rfl
theorem O_cells22 : Tryz.prog.cellsOf 22 = 1 := by kernel_rfl
theorem O_cells49 : Tryz.prog.cellsOf 55 = 2 := by kernel_rfl

theorem bulk_pos {H : Type} (d : DataW H) : 1 ≤ Rows.uptoBulk d := by
  cases d with
  | lit l => cases l <;> simp [Rows.uptoBulk]
  | nil => simp [Rows.uptoBulk]
  | ptr d => simp [Rows.uptoBulk]
  | slice a b => simp [Rows.uptoBulk]
  | agg a => simp [Rows.uptoBulk]
  | iface t d => simp [Rows.uptoBulk]
  | map m => simp [Rows.uptoBulk]
  | held h => simp [Rows.uptoBulk]
theorem bulk_row {H : Type} (D : Nat → DataW H) : ∀ n : Nat, n ≤ Rows.uptoBulkAll ((List.range n).map D) ∧ ∀ i, i < n → Rows.uptoBulk (D i) ≤ Rows.uptoBulkAll ((List.range n).map D) := by
  have happ : ∀ (l r : List (DataW H)), Rows.uptoBulkAll (l ++ r) = Rows.uptoBulkAll l + Rows.uptoBulkAll r := by
    intro l r
    induction l with
    | nil => simp [Rows.uptoBulkAll]
    | cons x l ih => simp only [List.cons_append, Rows.uptoBulkAll, ih]; omega
  intro n
  induction n with
  | zero => exact ⟨Nat.zero_le _, fun i hi => absurd hi (Nat.not_lt_zero _)⟩
  | succ n ih =>
    rw [List.range_succ, List.map_append, happ]
    have h1 := bulk_pos (D n)
    have h2 : Rows.uptoBulkAll (List.map D [n]) = Rows.uptoBulk (D n) := by simp [Rows.uptoBulkAll]
    rw [h2]
    refine ⟨by omega, fun i hi => ?_⟩
    by_cases hin : i = n
    · subst hin; omega
    · have := ih.2 i (by omega); omega

section
variable {H : Type} {enc : TypeId × Value → H} {w : World} {base : Nat} {spare : Nat → Bool} {held : Bool}

/-- A slice whose elements can be read; how many they are, and how great each is. -/
theorem open_rowB {α : Type} {st e : TypeId} {k : Nat} (ht : Tryz.prog.underlying st = some (.slice e)) (hk : Tryz.prog.cellsOf e = k) (hk0 : 0 < k) (d : α) (sz : α → Nat) (In : Nat → Nat → α → Prop)
    (el : ∀ n cs' y b off, cs'.length = k → (∀ j, j < k → w.cell? ⟨b, off + j, none⟩ = cs'[j]?) → DataW.trod enc Tryz.prog w base spare held n e cs' = some y → ∃ a, In b off a ∧ sz a ≤ Rows.uptoBulk y.1)
    {fuel : Nat} {v : Value} {x : DataW H × List MemPlace} (h : DataW.trod enc Tryz.prog w base spare held fuel st [v] = some x) :
    ∃ (ao : Option Addr) (l : List α) (cap : Nat), v = .slice ao l.length cap ∧ (l.length ≤ cap ∧ (ao = none → cap = 0)) ∧ l.length ≤ Rows.uptoBulk x.1 ∧ (∀ i, i < l.length → sz (l.getD i d) ≤ Rows.uptoBulk x.1) ∧
      (l = [] ∨ ∃ b off, ao = some ⟨b, off, none⟩ ∧ ∀ i, i < l.length → In b (off + i * k) (l.getD i d)) := by
  haveI : Inhabited α := ⟨d⟩
  rcases Deep.open_slice ht h with ⟨hv, _⟩ | ⟨a, len, cap, m, n, D, Pl, hv, hb, hl, hm, hmm, hx, hel⟩
  · have hv' : v = .slice none 0 0 := by simpa using hv
    exact ⟨none, [], 0, hv', ⟨Nat.le_refl _, fun _ => rfl⟩, Nat.zero_le _, fun i hi => absurd hi (Nat.not_lt_zero _), .inl rfl⟩
  · have hv' : v = .slice (some a) len cap := by simpa using hv
    have hlm : len ≤ m := by rw [hmm]; split <;> omega
    by_cases h0 : len = 0
    · subst h0
      exact ⟨some a, [], cap, hv', ⟨Nat.zero_le _, fun h => by cases h⟩, Nat.zero_le _, fun i hi => absurd hi (Nat.not_lt_zero _), .inl rfl⟩
    · obtain ⟨b, off, spot⟩ := a
      have hspot : spot = none := by
        obtain ⟨cs', h1, _⟩ := hel 0 (by omega)
        rw [hk] at h1
        obtain ⟨_, hlen, hcell⟩ := World.cells?_some h1
        have hc := hcell 0 hk0
        cases hcs : cs'[0]? with
        | none => rw [List.getElem?_eq_none_iff] at hcs; omega
        | some u =>
          rw [hcs] at hc
          simpa [Addr.add] using World.cell?_spot hc
      subst hspot
      have each : ∀ i, i < len → ∃ q : α, In b (off + i * k) q ∧ sz q ≤ Rows.uptoBulk (D i) := by
        intro i hi
        obtain ⟨cs', h1, h2⟩ := hel i (by omega)
        rw [hk] at h1
        obtain ⟨_, hlen, hcell⟩ := World.cells?_some h1
        refine el n cs' _ b (off + i * k) hlen (fun j hj => ?_) h2
        have := hcell j hj
        rw [Deep.add_add, WideShapes.add_plain] at this
        rw [← this, Nat.add_assoc]
      obtain ⟨q, hq⟩ := Deep.choose_lt each
      have hbr := bulk_row D len
      have hxb : Rows.uptoBulkAll ((List.range len).map D) ≤ Rows.uptoBulk x.1 := by rw [hx]; simp only [Rows.uptoBulk]; omega
      have htq : ∀ i, i < len → ((List.range len).map q).getD i d = q i := fun i hi => by
        rw [List.getD_eq_getElem?_getD, List.getElem?_map, List.getElem?_range hi]
        rfl
      refine ⟨some ⟨b, off, none⟩, (List.range len).map q, cap, by rw [hv']; simp, ⟨by simpa using hl, fun h => by cases h⟩, by simp; omega, fun i hi => ?_, .inr ⟨b, off, rfl, fun i hi => ?_⟩⟩
      · have hi' : i < len := by simpa using hi
        rw [htq i hi']
        have h1 := (hq i hi').2
        have h2 := hbr.2 i hi'
        omega
      · have hi' : i < len := by simpa using hi
        rw [htq i hi']
        exact (hq i hi').1

theorem open_struct2 {t : TypeId} {f0 f1 : Field} {fuel : Nat} {cs : List Value} {x : DataW H × List MemPlace} (ht : Tryz.prog.underlying t = some (.struct #[f0, f1])) (h : DataW.trod enc Tryz.prog w base spare held fuel t cs = some x) :
    ∃ y0 y1 n, cs.length = Tryz.prog.cellsOf t ∧ DataW.trod enc Tryz.prog w base spare held n f0.type ((cs.drop f0.offset).take (Tryz.prog.cellsOf f0.type)) = some y0 ∧
      DataW.trod enc Tryz.prog w base spare held n f1.type ((cs.drop f1.offset).take (Tryz.prog.cellsOf f1.type)) = some y1 ∧ Rows.uptoBulk y1.1 ≤ Rows.uptoBulk x.1 := by
  obtain ⟨xs, n, _, rfl, hl, hlen, hf⟩ := DataW.trod_struct ht h
  match xs, hlen with
  | [y0, y1], _ => exact ⟨y0, y1, n, hl, by simpa using hf 0 f0 rfl, by simpa using hf 1 f1 rfl, by simp [Rows.uptoBulk, Rows.uptoBulkAll]; omega⟩

theorem open_intsB {fuel : Nat} {v : Value} {x : DataW H × List MemPlace} (h : DataW.trod enc Tryz.prog w base spare held fuel 22 [v] = some x) : ∃ l, IntsV w v l ∧ l.length ≤ Rows.uptoBulk x.1 := by
  obtain ⟨ao, l, cap, hv, _, hmx, _, hl⟩ := open_rowB Tryz.underlying22 O_cells3 (by decide) (0 : Int) (fun _ => 0) (fun b off a => w.cell? ⟨b, off, none⟩ = some (.int .i64 a)) (fun n cs' y b off hlen hc h2 => by
    match cs', hlen with
    | [v0], _ =>
      obtain ⟨k0, e0, _, _⟩ := DataW.trod_int Tryz.underlying3 h2
      simp at e0
      subst e0
      exact ⟨k0, hc 0 (by decide), Nat.zero_le _⟩) h
  refine ⟨l, ⟨ao, cap, hv, ?_⟩, hmx⟩
  rcases hl with h | ⟨b, off, he, hc⟩
  · exact .inl h
  · exact .inr ⟨b, off, he, fun i hi => by have := hc i hi; rw [Nat.mul_one] at this; exact this⟩
theorem open_factB {fuel : Nat} {v0 v1 : Value} {x : DataW H × List MemPlace} (h : DataW.trod enc Tryz.prog w base spare held fuel 55 [v0, v1] = some x) : ∃ f : Rl.Fc, v0 = .int .i64 f.pred ∧ IntsV w v1 f.args ∧ f.args.length ≤ Rows.uptoBulk x.1 := by
  obtain ⟨y0, y1, n, _, g0, g1, hb⟩ := open_struct2 Tryz.underlying55 h
  simp [O_cells3, O_cells22] at g0 g1
  obtain ⟨k0, e0, _, _⟩ := DataW.trod_int Tryz.underlying3 g0
  obtain ⟨l1, hl1, hm1⟩ := open_intsB g1
  simp at e0
  exact ⟨⟨k0, l1⟩, e0, hl1, Nat.le_trans hm1 hb⟩
theorem open_factsB {fuel : Nat} {v : Value} {x : DataW H × List MemPlace} (h : DataW.trod enc Tryz.prog w base spare held fuel 27 [v] = some x) : ∃ l, FactsV w v l ∧ l.length ≤ Rows.uptoBulk x.1 ∧ ∀ f, f ∈ l → f.args.length ≤ Rows.uptoBulk x.1 := by
  obtain ⟨ao, l, cap, hv, hcap, hmx, hsz, hl⟩ := open_rowB Tryz.underlying27 O_cells49 (by decide) (⟨0, []⟩ : Rl.Fc) (fun f => f.args.length) (FactIn w) (fun n cs' y b off hlen hc h2 => by
    match cs', hlen with
    | [v0, v1], _ =>
      obtain ⟨f, e0, hI, hm⟩ := open_factB h2
      exact ⟨f, ⟨by rw [← e0]; exact hc 0 (by decide), v1, hc 1 (by decide), hI⟩, hm⟩) h
  refine ⟨l, ⟨ao, cap, hv, hcap, hl⟩, hmx, fun f hf => ?_⟩
  obtain ⟨i, hi, rfl⟩ := List.getElem_of_mem hf
  have := hsz i hi
  rwa [List.getD_eq_getElem?_getD, List.getElem?_eq_getElem hi] at this
end

end Go.Proofs.YthenjegmigeieaaGreat

/- What came in for the laws of rules: a program with what its bodies have room for, facts. -/
namespace Go.Proofs.YthenjegmigeieaaGreat
open Go.RowKit

section
variable {H : Type} {enc : TypeId × Value → H} {w : World} {base : Nat} {spare : Nat → Bool} {held : Bool}

theorem open_plitsC {fuel : Nat} {v : Value} {x : DataW H × List MemPlace} (h : DataW.trod enc Tryz.prog w base spare held fuel 38 [v] = some x) : ∃ l, PLitsV w v l ∧ l.length ≤ 9223372036854775807 ∧ (∀ i, i < l.length → LitFit (Sc.litD l i)) ∧ CapOk v := by
  obtain ⟨ao, l, cap, hv, hcp, hmx, hl⟩ := open_rowC Tryz.underlying38 P_cells84 (by decide) (⟨0, 0, 0, []⟩ : Sc.Lit) (fun b off x => PLitIn w b off x ∧ LitFit x) (fun n cs' y b off hlen hc h2 => by
    obtain ⟨y0, y1, y2, y3, k, _, g0, g1, g2, g3⟩ := trod_struct4 Tryz.underlying49 h2
    obtain ⟨v0, v1, v2, v3, rfl⟩ := list4 hlen
    simp [A_cells3, P_cells64] at g0 g1 g2 g3
    obtain ⟨k0, e0, _, _⟩ := DataW.trod_int Tryz.underlying3 g0
    obtain ⟨k1, e1, _, _⟩ := DataW.trod_int Tryz.underlying3 g1
    obtain ⟨k2, e2, _, _⟩ := DataW.trod_int Tryz.underlying3 g2
    obtain ⟨l3, hl3, hm3⟩ := open_pterms g3
    simp at e0 e1 e2
    subst e0 e1 e2
    exact ⟨⟨k0, k1, k2, l3⟩, ⟨hc 0 (by decide), hc 1 (by decide), hc 2 (by decide), v3, hc 3 (by decide), hl3⟩, hm3⟩) h
  refine ⟨l, ⟨ao, cap, hv, ?_⟩, hmx, ?_, fun ao2 n2 c2 h2 => by rw [hv] at h2; injection h2 with _ e1 e2; subst e1 e2; exact hcp⟩
  · rcases hl with h | ⟨b, off, he, hc⟩
    · exact .inl h
    · exact .inr ⟨b, off, he, fun i hi => (hc i hi).1⟩
  · intro i hi
    rcases hl with h | ⟨b, off, he, hc⟩
    · rw [h] at hi; simp at hi
    · exact (hc i hi).2
theorem open_prulesC {fuel : Nat} {v : Value} {x : DataW H × List MemPlace} (h : DataW.trod enc Tryz.prog w base spare held fuel 24 [v] = some x) : ∃ l, PRulesV w v l ∧ l.length ≤ 9223372036854775807 ∧ (∀ i, i < l.length → RuleFit (Sc.ruleD l i)) ∧ RulesCap w v := by
  obtain ⟨ao, l, cap, hv, _, hmx, hl⟩ := open_rowC Tryz.underlying24 P_cells67 (by decide) (⟨0, [], 0, [], 0⟩ : Sc.Rule) (fun b off x => PRuleIn w b off x ∧ RuleFit x ∧ ∃ u, w.cell? ⟨b, off + 3, none⟩ = some u ∧ CapOk u) (fun n cs' y b off hlen hc h2 => by
    obtain ⟨y0, y1, y2, y3, y4, k, _, g0, g1, g2, g3, g4⟩ := trod_struct5 Tryz.underlying40 h2
    obtain ⟨v0, v1, v2, v3, v4, rfl⟩ := list5 hlen
    simp [A_cells3, P_cells64, P_cells65] at g0 g1 g2 g3 g4
    obtain ⟨k0, e0, _, _⟩ := DataW.trod_int Tryz.underlying3 g0
    obtain ⟨l1, hl1, hm1⟩ := open_pterms g1
    obtain ⟨k2, e2, _, _⟩ := DataW.trod_int Tryz.underlying3 g2
    obtain ⟨l3, hl3, hm3, hf3, hcp3⟩ := open_plitsC g3
    obtain ⟨k4, e4, _, _⟩ := DataW.trod_int Tryz.underlying3 g4
    simp at e0 e2 e4
    subst e0 e2 e4
    exact ⟨⟨k0, l1, k2, l3, k4⟩, ⟨hc 0 (by decide), ⟨v1, hc 1 (by decide), hl1⟩, hc 2 (by decide), ⟨v3, hc 3 (by decide), hl3⟩, hc 4 (by decide)⟩, ⟨hm1, hm3, hf3⟩, v3, hc 3 (by decide), hcp3⟩) h
  refine ⟨l, ⟨ao, cap, hv, ?_⟩, hmx, ?_, ?_⟩
  · rcases hl with h | ⟨b, off, he, hc⟩
    · exact .inl h
    · exact .inr ⟨b, off, he, fun i hi => (hc i hi).1⟩
  · intro i hi
    rcases hl with h | ⟨b, off, he, hc⟩
    · rw [h] at hi; simp at hi
    · exact (hc i hi).2.1
  · intro b off n cap2 hv2 k hk u hu
    rw [hv] at hv2
    injection hv2 with e1 e2 e3
    subst e1 e2 e3
    rcases hl with h | ⟨b2, off2, he, hc⟩
    · rw [h] at hk; simp at hk
    · injection he with he
      injection he with e1 e2
      subst e1 e2
      obtain ⟨u2, hu2, hok⟩ := (hc k hk).2.2
      rw [hu2] at hu
      injection hu with hu
      subst hu
      exact hok
theorem open_progC {fuel : Nat} {va vn vr : Value} {x : DataW H × List MemPlace} (h : DataW.trod enc Tryz.prog w base spare held fuel 26 [va, vn, vr] = some x) : ∃ p, ProgV w va vn vr p ∧ ProgFit p ∧ RulesCap w vr := by
  obtain ⟨y0, y1, y2, n, _, g0, g1, g2⟩ := trod_struct3 Tryz.underlying26 h
  simp [P_cells22, P_cells23, P_cells24] at g0 g1 g2
  obtain ⟨l0, hl0, hm0⟩ := open_ints g0
  obtain ⟨l1, hl1, hm1⟩ := open_strs g1
  obtain ⟨l2, hl2, hm2, hf2, hcp2⟩ := open_prulesC g2
  exact ⟨⟨l0, l1, l2⟩, ⟨hl0, hl1, hl2⟩, ⟨hm0, hm1, hm2, hf2⟩, hcp2⟩
end
end Go.Proofs.YthenjegmigeieaaGreat

/- The closed facts of the row, one by one. -/
namespace Go.Proofs.YthenjegmigeieaaGreat
open Go.ChangeShapes Go.WideShapes Go.ChangeAt Go.RowKit
theorem rulMore_and {a b : Bool} (ha : a = true) (hb : b = true) : (a && b) = true := by rw [ha, hb]; rfl
theorem rulMore_j1 : Rows.ruleMoreUptoRow.wf (OpenSpec.ofChange (Rows.OpenSpec.upto Rows.ruleMoreSpec).bare) = true := by kernel_rfl
theorem rulMore_j2 : laidOutB Tryz.prog = true := by kernel_rfl
theorem rulMore_j3 : mapsRowed Tryz.prog = true := by kernel_rfl
theorem rulMore_j4 : Tryz.f5.params.all (Tryz.prog.readableRec ·) = true := by kernel_rfl
theorem rulMore_j5 : namedTie Tryz.prog Rows.ruleMoreUptoRow.named (Rows.OpenSpec.upto Rows.ruleMoreSpec).bare.vars = true := by kernel_rfl
theorem rulMore_j6 : (Rows.ruleMoreUptoRow.stops == []) = true := by kernel_rfl
theorem rulMore_j7 : (Tryz.prog.stops == []) = true := by kernel_rfl
theorem rulMore_j8 : (Rows.ruleMoreUptoRow.knobs == []) = true := by kernel_rfl
theorem rulMore_j9 : (Tryz.prog.stopKnobs == []) = true := by kernel_rfl
theorem rulMore_j10 : (Rows.ruleMoreUptoRow.inPlace == Tryz.prog.inPlace 5) = true := by kernel_rfl
theorem rulMore_j11 : (Rows.ruleMoreUptoRow.unfollowed == Tryz.prog.unfollowed 5) = true := by kernel_rfl
theorem rulMore_j12 : (Rows.ruleMoreUptoRow.recurses == Tryz.prog.recurses 5) = true := by kernel_rfl
theorem rulMore_j13 : (Rows.ruleMoreUptoRow.named == Tryz.prog.varsNamed 5) = true := by kernel_rfl
theorem rulMore_j14 : (Rows.ruleMoreUptoRow.maps == (Tryz.f5.params.toList ++ (Rows.OpenSpec.upto Rows.ruleMoreSpec).bare.plain.varTypes Tryz.prog).any (Tryz.prog.mapsRec ·)) = true := by kernel_rfl
theorem rulMore_j15 : (Rows.ruleMoreUptoRow.ifaces == (Tryz.f5.params.toList ++ (Rows.OpenSpec.upto Rows.ruleMoreSpec).bare.plain.varTypes Tryz.prog).any (Tryz.prog.ifacesRec ·)) = true := by kernel_rfl
theorem rulMore_j16 : (Rows.ruleMoreUptoRow.mapsOut == Tryz.prog.mapsAmong Tryz.f5.resultTypes.toList) = true := by kernel_rfl
theorem rulMore_j17 : (Rows.ruleMoreUptoRow.loops == (Tryz.f5.params.toList ++ (Rows.OpenSpec.upto Rows.ruleMoreSpec).bare.plain.varTypes Tryz.prog).any (Tryz.prog.loopsFrom ·)) = true := by kernel_rfl
theorem rulMore_j18 : (Rows.ruleMoreUptoRow.wideKeys == (Tryz.f5.params.toList ++ (Rows.OpenSpec.upto Rows.ruleMoreSpec).bare.plain.varTypes Tryz.prog ++ Tryz.f5.resultTypes.toList).any (Tryz.prog.wideKeysFrom ·)) = true := by kernel_rfl
theorem rulMore_j19 : (Rows.OpenSpec.upto Rows.ruleMoreSpec).bare.vars.all (Tryz.prog.varReadable ·) = true := by kernel_rfl
theorem rulMore_j20 : Tryz.f5.resultTypes.all (fun t => Tryz.prog.readableRec t && decide (t < Tryz.prog.types.size)) = true := by kernel_rfl
theorem rulMore_j21 : (Rows.ruleMoreUptoRow.ifacesOut == Tryz.f5.resultTypes.toList.any (Tryz.prog.ifacesRec ·)) = true := by kernel_rfl
theorem rulMore_j22 : (Rows.ruleMoreUptoRow.loopsOut == Tryz.f5.resultTypes.toList.any (Tryz.prog.loopsFrom ·)) = true := by kernel_rfl
theorem rulMore_j23 : (Rows.ruleMoreUptoRow.plainKeys == Tryz.prog.plainKeys) = true := by kernel_rfl
theorem rulMore_j24 : Rows.ruleMoreUptoRow.shortTexts.isNone = true := by kernel_rfl
theorem rulMore_j25 : Tryz.prog.stopsHeard = true := by kernel_rfl
theorem rulMore_j26 : Tryz.prog.mayEnter = true := by kernel_rfl
theorem rulMore_j27 : (Rows.ruleMoreUptoRow.lifted == Tryz.prog.liftsFinal) = true := by kernel_rfl
theorem rulMore_j28 : (Tryz.prog.make == some Rows.ruleMoreUptoRow.make) = true := by kernel_rfl
theorem rulMore_j29 : (Rows.ruleMoreUptoRow.kinds == (if Rows.ruleMoreUptoRow.domain.isEmpty then [] else Tryz.f5.params.toList.map fun t => match Tryz.prog.underlying t with | some (.int k) => some k | _ => none)) = true := by kernel_rfl
theorem rulMore_j30 : (Rows.ruleMoreUptoRow.pinned == Rows.ruleMoreUptoRow.pinnedBy) = true := by kernel_rfl
theorem rulMore_j31 : (Rows.ruleMoreUptoRow.veiled == (Tryz.f5.params.toList ++ (Rows.OpenSpec.upto Rows.ruleMoreSpec).bare.plain.varTypes Tryz.prog ++ Tryz.f5.resultTypes.toList).any (Tryz.prog.veiledRec ·)) = true := by kernel_rfl
theorem rulMore_j32 : Rows.ruleMoreUptoRow.veiledFits Tryz.prog Tryz.f5.params.toList (Tryz.f5.params.toList ++ (Rows.OpenSpec.upto Rows.ruleMoreSpec).bare.plain.varTypes Tryz.prog ++ Tryz.f5.resultTypes.toList) = true := by kernel_rfl
set_option maxRecDepth 100000 in
theorem rulMore_facts : joinedFacts Tryz.prog 5 Tryz.f5 ((Rows.OpenSpec.upto Rows.ruleMoreSpec).bare) Rows.ruleMoreUptoRow = true := by
  unfold joinedFacts
  exact rulMore_and (rulMore_and (rulMore_and (rulMore_and (rulMore_and (rulMore_and (rulMore_and (rulMore_and (rulMore_and (rulMore_and (rulMore_and (rulMore_and (rulMore_and (rulMore_and (rulMore_and (rulMore_and (rulMore_and (rulMore_and (rulMore_and (rulMore_and (rulMore_and (rulMore_and (rulMore_and (rulMore_and (rulMore_and (rulMore_and (rulMore_and (rulMore_and (rulMore_and (rulMore_and (rulMore_and rulMore_j1 rulMore_j2) rulMore_j3) rulMore_j4) rulMore_j5) rulMore_j6) rulMore_j7) rulMore_j8) rulMore_j9) rulMore_j10) rulMore_j11) rulMore_j12) rulMore_j13) rulMore_j14) rulMore_j15) rulMore_j16) rulMore_j17) rulMore_j18) rulMore_j19) rulMore_j20) rulMore_j21) rulMore_j22) rulMore_j23) rulMore_j24) rulMore_j25) rulMore_j26) rulMore_j27) rulMore_j28) rulMore_j29) rulMore_j30) rulMore_j31) rulMore_j32
end Go.Proofs.YthenjegmigeieaaGreat

