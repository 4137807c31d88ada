/- Own texts, one behind the other (part 8). -/
import Derived.Test.YtgpaleifhcdjnaaGreatDoorBundleG
import Derived.Test.YtgpaleifhcdjnaaGreatDoorRows
import Derived.Test.YtgpaleifhcdjnaaGreatDoorCards
import Derived.Test.YtgpaleifhcdjnaaGreatDoorTie
/- The document's IsSafe. -/
namespace Go.Proofs.YtgpaleifhcdjnaaGreatDoor
open Go.RowKit

/-- What stands while IsSafe goes on. -/
structure QInv (w : World) (rb : Obj) (R : Nat) (bs : List Bool) (wr : World) : Prop where
  bel : Below w.heap.size w wr
  box : wr.heap[w.heap.size]? = some rb
  row : wr.heap[R]? = some (.cells (bs.map Value.bool).toArray 4 (0, 0))
  r0 : w.heap.size < R
theorem QInv.below {w wr w2 : World} {rb : Obj} {R : Nat} {bs : List Bool} (h : QInv w rb R bs wr) (hb : Below wr.heap.size wr w2) : QInv w rb R bs w2 :=
  ⟨h.bel.trans (hb.mono h.bel.size), (hb.block _ (heap_lt h.box)).trans h.box, (hb.block _ (heap_lt h.row)).trans h.row, h.r0⟩
theorem QInv.set {w wr : World} {rb : Obj} {R : Nat} {bs : List Bool} (h : QInv w rb R bs wr) (k : Nat) : QInv w rb R (bs.set k true) (wr.setCell ⟨R, k, none⟩ (.bool true)) := by
  have h0 := h.r0
  refine ⟨h.bel.setCell (p := ⟨R, k, none⟩) (Nat.le_of_lt h0) _, ?_, ?_, h0⟩
  · rw [Below.heap_setCell _ _ _ _ (show ¬ w.heap.size = R by omega)]; exact h.box
  · rw [Lib.heap_setCell_same h.row]
    simp [List.map_set]
theorem QInv.at_ {w wr : World} {rb : Obj} {R : Nat} {bs : List Bool} (h : QInv w rb R bs wr) (i : Nat) (hi : i < bs.length) : wr.cell? ⟨R, i, none⟩ = some (.bool (bs.getD i false)) := by
  rw [Lib.cell_of_heap h.row]
  simp [List.getD_eq_getElem?_getD, hi]
theorem bind_one {bs : List Bool} {x : Sc.Lit} (h : x.kind = 1) : Sc.bindAll bs (x.terms.drop 0) = Sc.bindLit bs x := by
  unfold Sc.bindLit Sc.binds
  rw [if_pos h, List.drop_zero]
theorem bind_four {bs : List Bool} {x : Sc.Lit} (h : x.kind = 4) (h0 : Sc.known bs (Sc.termD x.terms 0) = true) (h1 : Sc.known bs (Sc.termD x.terms 1) = true) : Sc.bindAll bs (x.terms.drop 2) = Sc.bindLit bs x := by
  unfold Sc.bindLit Sc.binds
  rw [if_neg (by rw [h]; decide), if_pos ⟨h, h0, h1⟩]
theorem bind_not {bs : List Bool} {x : Sc.Lit} (h : ¬ x.kind = 1) (h4 : ¬ (x.kind = 4 ∧ Sc.known bs (Sc.termD x.terms 0) = true ∧ Sc.known bs (Sc.termD x.terms 1) = true)) : Sc.bindLit bs x = bs := by
  unfold Sc.bindLit Sc.binds
  rw [if_neg h, if_neg h4]
  rfl
theorem take_all (bs : List Bool) (l : List Sc.Term) (m : Nat) (h : m < l.length) : (l.take (m + 1)).all (Sc.known bs) = ((l.take m).all (Sc.known bs) && Sc.known bs (Sc.termD l m)) := by
  rw [List.take_succ_eq_append_getElem h, List.all_append]
  simp [Sc.termD, List.getD_eq_getElem?_getD, h]

set_option maxRecDepth 100000 in
set_option maxHeartbeats 4000000 in
theorem rpSafe_any (r : Sc.Rule) (vt vb : Value) (w : World) (hL : PLitsV w vb r.body) (hG : RuleGood r) :
    Calls Tryz.prog 66 #[pruleVal r vt vb] w fun e w' => e = .returned (.bool (Sc.safe r)) ∧ Below w.heap.size w w' := by
  obtain ⟨pred, ts, fold, body, vars⟩ := r
  obtain ⟨h0, h8, h4, hG⟩ := hG
  obtain ⟨nv, hnv⟩ : ∃ nv : Nat, vars = nv := ⟨vars.toNat, by simp only at h0; omega⟩
  subst hnv
  simp only [Int.toNat_natCast] at *
  obtain ⟨ab, cb, rfl, hL⟩ := hL
  have hmk := run_make_row' (P := Tryz.prog) 160 4 (.bool false) 1 Tryz.underlying160 (by kernel_rfl) rfl .i64 .i64 nv (by omega) (by omega)
  have hst : QInv w (.cells #[.int .i64 pred, vt, .int .i64 fold, .slice ab body.length cb, .int .i64 nv] 67) (w.heap.size + 1) (List.replicate nv false) ((w.alloc (.cells #[.int .i64 pred, vt, .int .i64 fold, .slice ab body.length cb, .int .i64 nv] 67)).alloc (.cells (madeCells #[Value.bool false] nv) 4)) := by
    have h := two_blocks (w := w) (o1 := (.cells #[.int .i64 pred, vt, .int .i64 fold, .slice ab body.length cb, .int .i64 nv] 67)) (o2 := .cells (madeCells #[Value.bool false] nv) 4) (Below.refl _ _)
    exact ⟨below_two w _ _, h.1, by rw [← made_bools]; exact h.2, by omega⟩
  have HS : Hid (Sc.safe ⟨pred, ts, fold, body, nv⟩ = (Sc.rounds body (body.length + 1) (List.replicate nv false)).all id) := by
    show _ = _
    rw [Sc.rounds_enough]
    rfl
  have hlen0 : (List.replicate nv false).length = nv := by simp
  go_enter Tryz.func66, Tryz.ntmps66
  go_wp2_with fail
  generalize (w.alloc (.cells #[.int .i64 pred, vt, .int .i64 fold, .slice ab body.length cb, .int .i64 nv] 67)).alloc (.cells (madeCells #[Value.bool false] nv) 4) = w0 at *
  generalize hR : w.heap.size + 1 = R at *
  clear hR
  generalize List.replicate nv false = bz at *
  generalize hrb : Obj.cells #[.int .i64 pred, vt, .int .i64 fold, .slice ab body.length cb, .int .i64 nv] 67 = rb at *
  have HRB : Hid _ := hrb
  clear hrb
  go_loopw [4] (fun i wr => ∃ (k : Nat) (bs : List Bool), k ≤ body.length + 1 ∧ i = .int .i64 k ∧ QInv w rb R bs wr ∧ bs.length = nv ∧ Sc.rounds body (body.length + 1 - k) bs = Sc.rounds body (body.length + 1) bz) (fun i _ => body.length + 1 - (intOf i).toNat)
  case atStart => exact ⟨0, bz, Nat.zero_le _, rfl, hst, hlen0, rfl⟩
  case round =>
    obtain ⟨k, bs0, hk, rfl, hI, hn0, hrd⟩ := hrel
    have HR : Hid _ := hrd
    clear hrd hst hlen0
    have cb3 : wr.cell? ⟨w.heap.size, 3, none⟩ = some (.slice ab body.length cb) := by rw [Lib.cell_of_heap (hI.box.trans (congrArg some HRB.out.symm))]; rfl
    by_cases hlt : k ≤ body.length
    · have gk : decide ((k : Int) ≤ (body.length : Int)) = true := decide_eq_true (by omega)
      have gk' : decide (k ≤ body.length) = true := decide_eq_true hlt
      go_wp2_with fail
      go_loopw [5] (fun i wq => ∃ (j : Nat) (bs : List Bool), j ≤ body.length ∧ i = .int .i64 j ∧ QInv w rb R bs wq ∧ bs.length = nv ∧ (body.drop j).foldl Sc.bindLit bs = Sc.round body bs0) (fun i _ => body.length - (intOf i).toNat)
      case atStart => exact ⟨0, bs0, Nat.zero_le _, rfl, hI, hn0, rfl⟩
      case round =>
        clear hI cb3 hn0
        obtain ⟨j, bs1, hj, rfl, hI, hn1, hfd⟩ := hrel
        have HFD : Hid _ := hfd
        clear hfd
        have cb3 : wr.cell? ⟨w.heap.size, 3, none⟩ = some (.slice ab body.length cb) := by rw [Lib.cell_of_heap (hI.box.trans (congrArg some HRB.out.symm))]; rfl
        by_cases hjl : j < body.length
        · obtain ⟨b, off, rfl, p0, p1, p2, v, p3, hT⟩ := plits_at hL j hjl
          have hT0 := hT
          obtain ⟨at_, ct, rfl, _, hTA⟩ := hT
          have HTA : Hid (PTermsAt w at_ (Sc.litD body j).terms) := hTA
          have q0 := cell_below hI.bel p0
          have q1 := cell_below hI.bel p1
          have q2 := cell_below hI.bel p2
          have q3 := cell_below hI.bel p3
          have hg := hG j hjl
          have HF2 : Hid ((body.drop (j + 1)).foldl Sc.bindLit (Sc.bindLit bs1 (Sc.litD body j)) = Sc.round body bs0) := (foldl_drop Sc.bindLit ⟨0, 0, 0, []⟩ body j hjl bs1).symm.trans HFD.out
          have hb1 : Below wr.heap.size wr (wr.alloc (.cells #[.int .i64 (Sc.litD body j).kind, .int .i64 (Sc.litD body j).op, .int .i64 (Sc.litD body j).pred, .slice at_ (Sc.litD body j).terms.length ct] 84)) := (Below.refl _ _).alloc (Nat.le_refl _) _
          have hlb := heap_alloc_new wr (.cells #[.int .i64 (Sc.litD body j).kind, .int .i64 (Sc.litD body j).op, .int .i64 (Sc.litD body j).pred, .slice at_ (Sc.litD body j).terms.length ct] 84)
          have hI3 := hI.below hb1
          have HNE : Hid (¬ wr.heap.size = R) := by have := heap_lt hI.row; show ¬ _; omega
          clear p0 p1 p2 p3 hb1 hI HFD hTA hT0
          generalize hx : Sc.litD body j = x at *
          clear hx
          go_upto_region 10 with fail
          generalize wr.alloc (.cells #[.int .i64 x.kind, .int .i64 x.op, .int .i64 x.pred, .slice at_ x.terms.length ct] 84) = wz at *
          generalize hLB : wr.heap.size = LB at *
          clear hLB q0 q1 q2 q3 cb3
          have l0 : wz.cell? ⟨LB, 0, none⟩ = some (.int .i64 x.kind) := by rw [Lib.cell_of_heap hlb]; rfl
          have l3 : wz.cell? ⟨LB, 3, none⟩ = some (.slice at_ x.terms.length ct) := by rw [Lib.cell_of_heap hlb]; rfl
          cases gk4 : (x.kind == 4)
          · have hk4 : ¬ x.kind = 4 := by simpa using gk4
            cases gk1 : (x.kind == 1)
            · have hk1 : ¬ x.kind = 1 := by simpa using gk1
              have HBN : Hid (Sc.bindLit bs1 x = bs1) := bind_not hk1 (fun h => hk4 h.1)
              go_wp2_with fail
              by_cases hz : x.terms.length = 0
              · have gz : decide ((0 : Int) < (x.terms.length : Int)) = false := decide_eq_false (by omega)
                have gz' : decide (0 < x.terms.length) = false := decide_eq_false (by omega)
                have HV : Hid ((body.drop (j + 1)).foldl Sc.bindLit bs1 = Sc.round body bs0) := by
                  show _ = _
                  rw [← HF2.out, HBN.out]
                refine wp_loop_rounds 1 ?_
                rw [rounds_succ]
                go_wp2_with fail
                go_roundw
                case rel => exact ⟨j + 1, _, by omega, by go_num, hI3, hn1, HV.out⟩
                case measure => simp [intOf]; omega
              · have gz : decide ((0 : Int) < (x.terms.length : Int)) = true := decide_eq_true (by omega)
                have gz' : decide (0 < x.terms.length) = true := decide_eq_true (by omega)
                have HV : Hid ((body.drop (j + 1)).foldl Sc.bindLit bs1 = Sc.round body bs0) := by
                  show _ = _
                  rw [← HF2.out, HBN.out]
                refine wp_loop_rounds 1 ?_
                rw [rounds_succ]
                go_wp2_with fail
                go_roundw
                case rel => exact ⟨j + 1, _, by omega, by go_num, hI3, hn1, HV.out⟩
                case measure => simp [intOf]; omega
            · have hk1 : x.kind = 1 := by simpa using gk1
              have HBB : Hid (Sc.bindAll bs1 (x.terms.drop 0) = Sc.bindLit bs1 x) := bind_one hk1
              have HLEN : Hid (0 ≤ x.terms.length) := Nat.zero_le _
              have hfit := hg.2.2
              clear hk1 hk4
              go_wp2_with fail
              go_loopw [9] (fun i wz => ∃ (m : Nat) (bs : List Bool), 0 ≤ m ∧ m ≤ x.terms.length ∧ i = .int .i64 m ∧ QInv w rb R bs wz ∧ wz.heap[LB]? = some (.cells #[.int .i64 x.kind, .int .i64 x.op, .int .i64 x.pred, .slice at_ x.terms.length ct] 84) ∧ bs.length = nv ∧ Sc.bindAll bs (x.terms.drop m) = Sc.bindLit bs1 x) (fun i _ => x.terms.length - (intOf i).toNat)
              case atStart => exact ⟨0, bs1, Nat.le_refl _, HLEN.out, rfl, hI3, hlb, hn1, HBB.out⟩
              case round =>
                clear hI3 hlb l0 l3
                obtain ⟨m, bs2, hfm, hm, rfl, hI, hlb, hn2, hbd⟩ := hrel
                have HBD : Hid _ := hbd
                clear hbd
                have l0 : wr.cell? ⟨LB, 0, none⟩ = some (.int .i64 x.kind) := by rw [Lib.cell_of_heap hlb]; rfl
                have l3 : wr.cell? ⟨LB, 3, none⟩ = some (.slice at_ x.terms.length ct) := by rw [Lib.cell_of_heap hlb]; rfl
                by_cases hml : m < x.terms.length
                · obtain ⟨b3, off3, rfl, hc⟩ := pterms_at HTA.out m hml
                  obtain ⟨r0, r1⟩ := hc m hml
                  have s0 := cell_below hI.bel r0
                  have s1 := cell_below hI.bel r1
                  have hvm := hg.2.1 _ (termD_mem hml)
                  have HB2 : Hid (Sc.bindAll (Sc.bind1 bs2 (Sc.termD x.terms m)) (x.terms.drop (m + 1)) = Sc.bindLit bs1 x) := (foldl_drop Sc.bind1 ⟨0, 0⟩ x.terms m hml bs2).symm.trans HBD.out
                  clear HBD r0 r1 hc
                  have hRlt := heap_lt hI.row
                  generalize hT0 : Sc.termD x.terms m = t0 at *
                  clear hT0
                  obtain ⟨var, nn⟩ := t0
                  have hvm : var < nv := hvm
                  by_cases h5 : 0 ≤ var
                  · have g5 : decide (0 ≤ var) = true := decide_eq_true h5
                    obtain ⟨kv, rfl⟩ : ∃ kv : Nat, var = kv := ⟨var.toNat, by omega⟩
                    have hkl : kv < nv := by omega
                    have hcR := hI.at_ kv (by omega)
                    have hfR := Lib.frozen_of_heap hI.row kv
                    have hI4 := hI.set kv
                    have hlb4 := (Below.heap_setCell wr ⟨R, kv, none⟩ (.bool true) LB HNE.out).trans hlb
                    have HV : Hid (Sc.bindAll (bs2.set kv true) (x.terms.drop (m + 1)) = Sc.bindLit bs1 x) := by
                      show _ = _
                      rw [← HB2.out]
                      simp [Sc.bind1]
                    have hn4 : (bs2.set kv true).length = nv := by rw [List.length_set]; exact hn2
                    clear HB2
                    go_wp2_with fail
                    go_roundw
                    case rel => exact ⟨m + 1, _, by omega, by omega, by go_num, hI4, hlb4, hn4, HV.out⟩
                    case measure => simp [intOf]; omega
                  · have g5 : decide (0 ≤ var) = false := decide_eq_false h5
                    have HV : Hid (Sc.bindAll bs2 (x.terms.drop (m + 1)) = Sc.bindLit bs1 x) := by
                      show _ = _
                      rw [← HB2.out]
                      simp [Sc.bind1, h5]
                    clear HB2
                    go_wp2_with fail
                    go_roundw
                    case rel => exact ⟨m + 1, _, by omega, by omega, by go_num, hI, hlb, hn2, HV.out⟩
                    case measure => simp [intOf]; omega
                · have hend : Sc.bindAll bs2 (x.terms.drop m) = bs2 := by rw [List.drop_of_length_le (by omega)]; rfl
                  have HV : Hid ((body.drop (j + 1)).foldl Sc.bindLit bs2 = Sc.round body bs0) := by
                    show _ = _
                    rw [← HF2.out, ← HBD.out, hend]
                  clear hend HBD
                  go_wp2_with fail
                  go_roundw
                  case rel => exact ⟨j + 1, _, by omega, by go_num, hI, hn2, HV.out⟩
                  case measure => simp [intOf]; omega
          · have hk4 : x.kind = 4 := by simpa using gk4
            have hl3 : x.terms.length = 3 := hg.1 hk4
            go_wp2_with fail
            go_loopw [7, 8] (fun f i wq => ∃ (m fv : Nat), m ≤ 2 ∧ i = .int .i64 m ∧ f = .int .i64 fv ∧ wq = wz ∧ fv = if (x.terms.take m).all (Sc.known bs1) then 2 else 3) (fun _ i _ => 2 - (intOf i).toNat)
            case atStart => exact ⟨0, 2, Nat.zero_le _, rfl, rfl, rfl, rfl⟩
            case round =>
              obtain ⟨m, fv, hm, rfl, rfl, rfl, hfv⟩ := hrel
              have HFV : Hid _ := hfv
              clear hfv
              by_cases hm2 : m < 2
              · have gm : decide ((m : Int) < 2) = true := decide_eq_true (by omega)
                have hml : m < x.terms.length := by omega
                obtain ⟨b3, off3, rfl, hc⟩ := pterms_at HTA.out m hml
                obtain ⟨r0, r1⟩ := hc m hml
                have s0 := cell_below hI3.bel r0
                have s1 := cell_below hI3.bel r1
                have hvm := hg.2.1 _ (termD_mem hml)
                have HTK : Hid ((x.terms.take (m + 1)).all (Sc.known bs1) = ((x.terms.take m).all (Sc.known bs1) && Sc.known bs1 (Sc.termD x.terms m))) := take_all _ _ _ hml
                clear r0 r1 hc
                generalize hT0 : Sc.termD x.terms m = t0 at *
                clear hT0
                obtain ⟨var, nn⟩ := t0
                have hvm : var < nv := hvm
                by_cases h5 : 0 ≤ var
                · have g5 : decide (0 ≤ var) = true := decide_eq_true h5
                  obtain ⟨kv, rfl⟩ : ∃ kv : Nat, var = kv := ⟨var.toNat, by omega⟩
                  have hkl : kv < nv := by omega
                  have hcR := hI3.at_ kv (by omega)
                  have hKN : Sc.known bs1 ⟨kv, nn⟩ = bs1.getD kv false := by
                    unfold Sc.known
                    have : decide ((kv : Int) < 0) = false := decide_eq_false (by omega)
                    simp [this]
                  rw [hKN] at HTK
                  clear hKN
                  generalize bs1.getD kv false = bb at *
                  cases bb
                  · have HV : Hid (3 = if (x.terms.take (m + 1)).all (Sc.known bs1) then 2 else 3) := by show _ = _; rw [HTK.out, Bool.and_false]; rfl
                    clear HTK
                    go_wp2_with fail
                    go_roundw
                    case rel => exact ⟨m + 1, 3, by omega, by go_num, by trivial, by trivial, HV.out⟩
                    case measure => simp [intOf]; omega
                  · have HV : Hid (fv = if (x.terms.take (m + 1)).all (Sc.known bs1) then 2 else 3) := by show _ = _; rw [HTK.out, Bool.and_true]; exact HFV.out
                    clear HTK
                    go_wp2_with fail
                    go_roundw
                    case rel => exact ⟨m + 1, fv, by omega, by go_num, by trivial, by trivial, HV.out⟩
                    case measure => simp [intOf]; omega
                · have g5 : decide (0 ≤ var) = false := decide_eq_false h5
                  have hKN : Sc.known bs1 ⟨var, nn⟩ = true := by
                    unfold Sc.known
                    have : decide (var < 0) = true := decide_eq_true (by omega)
                    simp [this]
                  have HV : Hid (fv = if (x.terms.take (m + 1)).all (Sc.known bs1) then 2 else 3) := by show _ = _; rw [HTK.out, hKN, Bool.and_true]; exact HFV.out
                  clear HTK hKN
                  go_wp2_with fail
                  go_roundw
                  case rel => exact ⟨m + 1, fv, by omega, by go_num, by trivial, by trivial, HV.out⟩
                  case measure => simp [intOf]; omega
              · have gm : decide ((m : Int) < 2) = false := decide_eq_false (by omega)
                obtain rfl : m = 2 := by omega
                have HTK : Hid ((x.terms.take 2).all (Sc.known bs1) = (Sc.known bs1 (Sc.termD x.terms 0) && Sc.known bs1 (Sc.termD x.terms 1))) := by
                  show _ = _
                  rw [take_all _ _ 1 (by omega), take_all _ _ 0 (by omega), List.take_zero]
                  simp
                cases hkn : (Sc.known bs1 (Sc.termD x.terms 0) && Sc.known bs1 (Sc.termD x.terms 1))
                · have hf : fv = 3 := by rw [HFV.out, HTK.out, hkn]; rfl
                  subst hf
                  have HBN : Hid (Sc.bindLit bs1 x = bs1) := bind_not (by rw [hk4]; decide) (fun h => by rw [h.2.1, h.2.2] at hkn; cases hkn)
                  have gz : decide ((3 : Int) < (x.terms.length : Int)) = false := decide_eq_false (by omega)
                  have gz' : decide (3 < x.terms.length) = false := decide_eq_false (by omega)
                  clear hk4 HFV HTK
                  go_wp2_with fail
                  have HV : Hid ((body.drop (j + 1)).foldl Sc.bindLit bs1 = Sc.round body bs0) := by
                    show _ = _
                    rw [← HF2.out, HBN.out]
                  refine wp_loop_rounds 1 ?_
                  rw [rounds_succ]
                  go_wp2_with fail
                  go_roundw
                  case rel => exact ⟨j + 1, _, by omega, by go_num, hI3, hn1, HV.out⟩
                  case measure => simp [intOf]; omega
                · have hf : fv = 2 := by rw [HFV.out, HTK.out, hkn]; rfl
                  subst hf
                  rw [Bool.and_eq_true] at hkn
                  have HBB : Hid (Sc.bindAll bs1 (x.terms.drop 2) = Sc.bindLit bs1 x) := bind_four hk4 hkn.1 hkn.2
                  have HLEN : Hid (2 ≤ x.terms.length) := by show _ ≤ _; omega
                  have hfit := hg.2.2
                  have gk1 : (x.kind == 1) = false := by rw [hk4]; rfl
                  clear hk4 hl3 hkn HFV HTK
                  go_wp2_with fail
                  go_loopw [9] (fun i wz => ∃ (m : Nat) (bs : List Bool), 2 ≤ m ∧ m ≤ x.terms.length ∧ i = .int .i64 m ∧ QInv w rb R bs wz ∧ wz.heap[LB]? = some (.cells #[.int .i64 x.kind, .int .i64 x.op, .int .i64 x.pred, .slice at_ x.terms.length ct] 84) ∧ bs.length = nv ∧ Sc.bindAll bs (x.terms.drop m) = Sc.bindLit bs1 x) (fun i _ => x.terms.length - (intOf i).toNat)
                  case atStart => exact ⟨2, bs1, Nat.le_refl _, HLEN.out, rfl, hI3, hlb, hn1, HBB.out⟩
                  case round =>
                    clear hI3 hlb l0 l3
                    obtain ⟨m, bs2, hfm, hm, rfl, hI, hlb, hn2, hbd⟩ := hrel
                    have HBD : Hid _ := hbd
                    clear hbd
                    have l0 : wr.cell? ⟨LB, 0, none⟩ = some (.int .i64 x.kind) := by rw [Lib.cell_of_heap hlb]; rfl
                    have l3 : wr.cell? ⟨LB, 3, none⟩ = some (.slice at_ x.terms.length ct) := by rw [Lib.cell_of_heap hlb]; rfl
                    by_cases hml : m < x.terms.length
                    · obtain ⟨b3, off3, rfl, hc⟩ := pterms_at HTA.out m hml
                      obtain ⟨r0, r1⟩ := hc m hml
                      have s0 := cell_below hI.bel r0
                      have s1 := cell_below hI.bel r1
                      have hvm := hg.2.1 _ (termD_mem hml)
                      have HB2 : Hid (Sc.bindAll (Sc.bind1 bs2 (Sc.termD x.terms m)) (x.terms.drop (m + 1)) = Sc.bindLit bs1 x) := (foldl_drop Sc.bind1 ⟨0, 0⟩ x.terms m hml bs2).symm.trans HBD.out
                      clear HBD r0 r1 hc
                      have hRlt := heap_lt hI.row
                      generalize hT0 : Sc.termD x.terms m = t0 at *
                      clear hT0
                      obtain ⟨var, nn⟩ := t0
                      have hvm : var < nv := hvm
                      by_cases h5 : 0 ≤ var
                      · have g5 : decide (0 ≤ var) = true := decide_eq_true h5
                        obtain ⟨kv, rfl⟩ : ∃ kv : Nat, var = kv := ⟨var.toNat, by omega⟩
                        have hkl : kv < nv := by omega
                        have hcR := hI.at_ kv (by omega)
                        have hfR := Lib.frozen_of_heap hI.row kv
                        have hI4 := hI.set kv
                        have hlb4 := (Below.heap_setCell wr ⟨R, kv, none⟩ (.bool true) LB HNE.out).trans hlb
                        have HV : Hid (Sc.bindAll (bs2.set kv true) (x.terms.drop (m + 1)) = Sc.bindLit bs1 x) := by
                          show _ = _
                          rw [← HB2.out]
                          simp [Sc.bind1]
                        have hn4 : (bs2.set kv true).length = nv := by rw [List.length_set]; exact hn2
                        clear HB2
                        go_wp2_with fail
                        go_roundw
                        case rel => exact ⟨m + 1, _, by omega, by omega, by go_num, hI4, hlb4, hn4, HV.out⟩
                        case measure => simp [intOf]; omega
                      · have g5 : decide (0 ≤ var) = false := decide_eq_false h5
                        have HV : Hid (Sc.bindAll bs2 (x.terms.drop (m + 1)) = Sc.bindLit bs1 x) := by
                          show _ = _
                          rw [← HB2.out]
                          simp [Sc.bind1, h5]
                        clear HB2
                        go_wp2_with fail
                        go_roundw
                        case rel => exact ⟨m + 1, _, by omega, by omega, by go_num, hI, hlb, hn2, HV.out⟩
                        case measure => simp [intOf]; omega
                    · have hend : Sc.bindAll bs2 (x.terms.drop m) = bs2 := by rw [List.drop_of_length_le (by omega)]; rfl
                      have HV : Hid ((body.drop (j + 1)).foldl Sc.bindLit bs2 = Sc.round body bs0) := by
                        show _ = _
                        rw [← HF2.out, ← HBD.out, hend]
                      clear hend HBD
                      go_wp2_with fail
                      go_roundw
                      case rel => exact ⟨j + 1, _, by omega, by go_num, hI, hn2, HV.out⟩
                      case measure => simp [intOf]; omega
        · have hend : (body.drop j).foldl Sc.bindLit bs1 = bs1 := by rw [List.drop_of_length_le (by omega)]; rfl
          have HV : Hid (Sc.rounds body (body.length + 1 - (k + 1)) bs1 = Sc.rounds body (body.length + 1) bz) := by
            show _ = _
            rw [← HR.out, rounds_step body _ k (by omega), ← HFD.out, hend]
          clear hend
          go_wp2_with fail
          go_roundw
          case rel => exact ⟨k + 1, _, by omega, by go_num, hI, hn1, HV.out⟩
          case measure => simp [intOf]; omega
    · have gk : decide ((k : Int) ≤ (body.length : Int)) = false := decide_eq_false (by omega)
      have gk' : decide (k ≤ body.length) = false := decide_eq_false hlt
      have HV : Hid (bs0 = Sc.rounds body (body.length + 1) bz) := by
        show _ = _
        have := HR.out
        rw [show k = body.length + 1 by omega, Nat.sub_self] at this
        exact this
      have cb4 : wr.cell? ⟨w.heap.size, 4, none⟩ = some (.int .i64 nv) := by rw [Lib.cell_of_heap (hI.box.trans (congrArg some HRB.out.symm))]; rfl
      clear HR
      go_wp2_with fail
      go_loopw [10] (fun i wq => ∃ m : Nat, m ≤ nv ∧ i = .int .i64 m ∧ wq = wr ∧ bs0.all id = (bs0.drop m).all id) (fun i _ => nv - (intOf i).toNat)
      case atStart => exact ⟨0, Nat.zero_le _, rfl, rfl, rfl⟩
      case round =>
        obtain ⟨m, hm, rfl, rfl, hall⟩ := hrel
        have HAL : Hid _ := hall
        clear hall
        by_cases hml : m < nv
        · have hcR := hI.at_ m (by omega)
          have hRlt := heap_lt hI.row
          have HD : Hid (bs0.all id = (bs0.getD m false && (bs0.drop (m + 1)).all id)) := HAL.out.trans (all_drop _ _ _ m (by omega))
          clear HAL
          generalize bs0.getD m false = bb at *
          cases bb
          · have HV2 : Hid (Sc.safe ⟨pred, ts, fold, body, nv⟩ = false) := by show _ = _; rw [HS.out, ← HV.out, HD.out]; rfl
            have hbel := hI.bel
            go_wp2_with fail
            go_ret
            exact ⟨by rw [HV2.out]; rfl, hbel⟩
          · have HV2 : Hid (bs0.all id = (bs0.drop (m + 1)).all id) := by show _ = _; rw [HD.out]; rfl
            clear HD
            go_wp2_with fail
            go_roundw
            case rel => exact ⟨m + 1, by omega, by go_num, by trivial, HV2.out⟩
            case measure => simp [intOf]; omega
        · have HV2 : Hid (Sc.safe ⟨pred, ts, fold, body, nv⟩ = true) := by show _ = _; rw [HS.out, ← HV.out, HAL.out, List.drop_of_length_le (by omega)]; rfl
          have hbel := hI.bel
          go_wp2_with fail
          go_ret
          exact ⟨by rw [HV2.out]; rfl, hbel⟩

end Go.Proofs.YtgpaleifhcdjnaaGreatDoor

/- The document's check of a rule. -/
namespace Go.Proofs.YtgpaleifhcdjnaaGreatDoor
open Go.RowKit

theorem ints_cell {w y : World} {b off : Nat} {ar : List Int} (h : IntsAt w (some ⟨b, off, none⟩) ar) (n : Nat) (hn : n < ar.length) (hb : Below w.heap.size w y) : y.cell? ⟨b, off + n, none⟩ = some (.int .i64 (Sc.intD ar n)) := by
  obtain ⟨b', off', e, hc⟩ := ints_at h n hn
  obtain ⟨rfl, rfl⟩ : b = b' ∧ off = off' := by simpa using e
  exact cell_below hb hc

set_option maxRecDepth 100000 in
set_option maxHeartbeats 8000000 in
theorem rpRule_any (ar : List Int) (va vn vr : Value) (r : Sc.Rule) (vt vb : Value) (w : World) (har : ar.length ≤ 9223372036854775807) (hA : IntsV w va ar) (hT : PTermsV w vt r.terms) (hL : PLitsV w vb r.body) (hF : RuleFit r) :
    Calls Tryz.prog 28 #[progVal va vn vr, pruleVal r vt vb] w fun e w' => e = .returned (.int .i64 (Sc.ruleErr ar r)) ∧ Below w.heap.size w w' := by
  obtain ⟨ao, cap, rfl, hA⟩ := hA
  obtain ⟨pred, ts, fold, body, vars⟩ := r
  have HT : Hid (PTermsV w vt ts) := hT
  have HL : Hid (PLitsV w vb body) := hL
  have HFT : Hid (ts.length ≤ 9223372036854775807) := hF.1
  have HFB : Hid (∀ i, i < body.length → LitFit (Sc.litD body i)) := hF.2.2
  have hfb : body.length ≤ 9223372036854775807 := hF.2.1
  obtain ⟨at_, ct, rfl, _, _⟩ := hT
  obtain ⟨ab, cb, rfl, hLA⟩ := hL
  have hLA : PLitsAt w ab body := hLA
  have hA : IntsAt w ao ar := hA
  simp only at HT HL
  clear hF
  have hR := RB.start w (.cells #[.slice ao ar.length cap, vn, vr] 26) (.cells #[.int .i64 pred, .slice at_ ts.length ct, .int .i64 fold, .slice ab body.length cb, .int .i64 vars] 67)
  have HE0 : Hid (Sc.ruleErr ar ⟨pred, ts, fold, body, vars⟩ = if Sc.isPred ar pred then
    Sc.thn (if (ts.length : Int) ≠ Sc.intD ar pred.toNat then 1 else 0) (
    Sc.thn (if Tr.between vars 0 8 then 0 else 3) (
    Sc.thn (Sc.termsErr vars ts) (
    Sc.thn (if Tr.between fold 0 4 then 0 else 7) (
    Sc.thn (if fold ≠ 0 ∧ (ts.length = 0 ∨ body.length = 0) then 1 else 0) (
    Sc.thn (if 4 < body.length then 2 else 0) (
    Sc.thn (Sc.first (Sc.litAll ar vars) body) (if Sc.safe ⟨pred, ts, fold, body, vars⟩ then 0 else 4)))))))
  else 5) := rfl
  go_enter Tryz.func28, Tryz.ntmps28
  go_wp2_with fail
  refine (btw_any _ _ _ _).mono ?_
  rintro e w2 ⟨he, hw2⟩
  subst hw2
  cases g1 : Sc.isPred ar pred
  · have hbt : Tr.between pred 0 ((ar.length : Int) - 1) = false := g1
    rw [hbt] at he
    subst he
    have HV : Hid (Sc.ruleErr ar ⟨pred, ts, fold, body, vars⟩ = 5) := by show _ = _; rw [HE0.out, g1]; rfl
    clear HE0 hLA hA hbt
    go_wp2_with fail
    go_ret
    exact ⟨by rw [HV.out]; rfl, hR.bel⟩
  have hbt : Tr.between pred 0 ((ar.length : Int) - 1) = true := g1
  rw [hbt] at he
  subst he
  clear hbt
  obtain ⟨k, rfl, hk⟩ := nat_of g1
  obtain ⟨b, off, rfl, hc⟩ := ints_at hA k hk
  have HA2 : Hid (IntsAt w (some ⟨b, off, none⟩) ar) := hA
  have hq := cell_below hR.bel hc
  rw [g1, if_pos rfl, Int.toNat_natCast] at HE0
  clear hc hA
  go_upto_region 4 with fail
  generalize (w.alloc (.cells #[.slice (some ⟨b, off, none⟩) ar.length cap, vn, vr] 26)).alloc (.cells #[.int .i64 k, .slice at_ ts.length ct, .int .i64 fold, .slice ab body.length cb, .int .i64 vars] 67) = w1 at *
  have c1 : w1.cell? ⟨w.heap.size, 0, none⟩ = some (.slice (some ⟨b, off, none⟩) ar.length cap) := by rw [Lib.cell_of_heap hR.b1]; rfl
  have d0 : w1.cell? ⟨w.heap.size + 1, 0, none⟩ = some (.int .i64 k) := by rw [Lib.cell_of_heap hR.b2]; rfl
  have d1 : w1.cell? ⟨w.heap.size + 1, 1, none⟩ = some (.slice at_ ts.length ct) := by rw [Lib.cell_of_heap hR.b2]; rfl
  have d2 : w1.cell? ⟨w.heap.size + 1, 2, none⟩ = some (.int .i64 fold) := by rw [Lib.cell_of_heap hR.b2]; rfl
  have d3 : w1.cell? ⟨w.heap.size + 1, 3, none⟩ = some (.slice ab body.length cb) := by rw [Lib.cell_of_heap hR.b2]; rfl
  have d4 : w1.cell? ⟨w.heap.size + 1, 4, none⟩ = some (.int .i64 vars) := by rw [Lib.cell_of_heap hR.b2]; rfl
  cases g2 : ((ts.length : Int) != Sc.intD ar k)
  rotate_left
  · have h2 : ¬ (ts.length : Int) = Sc.intD ar k := by simpa using g2
    have HV : Hid (Sc.ruleErr ar ⟨k, ts, fold, body, vars⟩ = 1) := by show _ = _; rw [HE0.out, if_pos h2]; rfl
    clear HE0 h2
    go_region_held3 (fun y => y.cell? ⟨w.heap.size, 0, none⟩ = some (.slice (some ⟨b, off, none⟩) ar.length cap) ∧ y.cell? ⟨w.heap.size + 1, 0, none⟩ = some (.int .i64 k) ∧ y.cell? ⟨w.heap.size + 1, 1, none⟩ = some (.slice at_ ts.length ct) ∧ y.cell? ⟨b, off + k, none⟩ = some (.int .i64 (Sc.intD ar k))) (go_keep) (fail)
    have hbd := hR.bel.drew
    go_wp2_with fail
    go_ret
    exact ⟨by rw [HV.out]; rfl, hbd⟩
  have h2 : (ts.length : Int) = Sc.intD ar k := by simpa using g2
  rw [if_neg (by simp [h2]), Sc.thn_zero] at HE0
  clear h2
  go_region_held3 (fun y => y.cell? ⟨w.heap.size, 0, none⟩ = some (.slice (some ⟨b, off, none⟩) ar.length cap) ∧ y.cell? ⟨w.heap.size + 1, 0, none⟩ = some (.int .i64 k) ∧ y.cell? ⟨w.heap.size + 1, 1, none⟩ = some (.slice at_ ts.length ct) ∧ y.cell? ⟨b, off + k, none⟩ = some (.int .i64 (Sc.intD ar k))) (go_keep) (fail)
  have hR := hR.drew
  clear c1 d0 d1 d2 d3 d4 hq
  generalize w1.drew = wd at *
  have c1 : wd.cell? ⟨w.heap.size, 0, none⟩ = some (.slice (some ⟨b, off, none⟩) ar.length cap) := by rw [Lib.cell_of_heap hR.b1]; rfl
  have d0 : wd.cell? ⟨w.heap.size + 1, 0, none⟩ = some (.int .i64 k) := by rw [Lib.cell_of_heap hR.b2]; rfl
  have d1 : wd.cell? ⟨w.heap.size + 1, 1, none⟩ = some (.slice at_ ts.length ct) := by rw [Lib.cell_of_heap hR.b2]; rfl
  have d2 : wd.cell? ⟨w.heap.size + 1, 2, none⟩ = some (.int .i64 fold) := by rw [Lib.cell_of_heap hR.b2]; rfl
  have d3 : wd.cell? ⟨w.heap.size + 1, 3, none⟩ = some (.slice ab body.length cb) := by rw [Lib.cell_of_heap hR.b2]; rfl
  have d4 : wd.cell? ⟨w.heap.size + 1, 4, none⟩ = some (.int .i64 vars) := by rw [Lib.cell_of_heap hR.b2]; rfl
  go_wp2_with fail
  refine (btw_any _ _ _ _).mono ?_
  rintro e w2 ⟨he, rfl⟩
  cases g3 : Tr.between vars 0 8
  · rw [g3] at he
    subst he
    have HV : Hid (Sc.ruleErr ar ⟨k, ts, fold, body, vars⟩ = 3) := by show _ = _; rw [HE0.out, g3]; rfl
    clear HE0
    go_wp2_with fail
    go_ret
    exact ⟨by rw [HV.out]; rfl, hR.bel⟩
  rw [g3] at he
  subst he
  rw [g3, if_pos rfl, Sc.thn_zero] at HE0
  have hv08 : 0 ≤ vars ∧ vars ≤ 8 := by
    simp [Tr.between] at g3
    exact g3
  obtain ⟨hv0, hv8⟩ := hv08
  go_wp2_with fail
  refine Calls.mono (rpTerms_any ts vars _ _ ⟨hv0, hv8⟩ HFT.out (ptermsV_below HT.out hR.bel)) ?_
  rintro e w3 ⟨rfl, rfl⟩
  by_cases h4 : Sc.termsErr vars ts = 0
  rotate_left
  · have g4 : (Sc.termsErr vars ts != 0) = true := by simpa using h4
    have HV : Hid (Sc.ruleErr ar ⟨k, ts, fold, body, vars⟩ = Sc.termsErr vars ts) := by show _ = _; rw [HE0.out, Sc.thn_ne _ h4]
    clear HE0
    go_wp2_with fail
    go_ret
    exact ⟨by rw [HV.out]; rfl, hR.bel⟩
  have g4 : (Sc.termsErr vars ts != 0) = false := by simpa using h4
  rw [h4, Sc.thn_zero] at HE0
  rw [h4]
  clear h4 HFT HT g4
  go_wp2_with fail
  refine (btw_any _ _ _ _).mono ?_
  rintro e w2 ⟨he, rfl⟩
  cases g5 : Tr.between fold 0 4
  · rw [g5] at he
    subst he
    have HV : Hid (Sc.ruleErr ar ⟨k, ts, fold, body, vars⟩ = 7) := by show _ = _; rw [HE0.out, g5]; rfl
    clear HE0
    go_wp2_with fail
    go_ret
    exact ⟨by rw [HV.out]; rfl, hR.bel⟩
  rw [g5] at he
  subst he
  rw [g5, if_pos rfl, Sc.thn_zero] at HE0
  have hf0 : 0 ≤ fold := by
    simp [Tr.between] at g5
    exact g5.1
  by_cases h6 : fold ≠ 0 ∧ (ts.length = 0 ∨ body.length = 0)
  · have HV : Hid (Sc.ruleErr ar ⟨k, ts, fold, body, vars⟩ = 1) := by show _ = _; rw [HE0.out, if_pos h6]; rfl
    clear HE0
    have g6 : decide (0 < fold) = true := decide_eq_true (by omega)
    by_cases h7 : ts.length = 0
    · have g7 : ((ts.length : Int) == 0) = true := by simp [h7]
      clear h6 h7
      go_wp2_with fail
      go_ret
      exact ⟨by rw [HV.out]; rfl, hR.bel⟩
    · have g7 : ((ts.length : Int) == 0) = false := by simp; exact fun e => h7 (by rw [e]; rfl)
      have h8 : body.length = 0 := h6.2.resolve_left h7
      have g8 : ((body.length : Int) == 0) = true := by simp [h8]
      clear h6 h7 h8
      go_wp2_with fail
      go_ret
      exact ⟨by rw [HV.out]; rfl, hR.bel⟩
  rw [if_neg h6, Sc.thn_zero] at HE0
  go_upto_region 13 with fail
  go_cut [59] (fun v wx => v = .bool false ∧ wx = w2)
  case first =>
    by_cases g6 : 0 < fold
    · have g6' : decide (0 < fold) = true := decide_eq_true g6
      have h9 : ¬ (ts.length = 0 ∨ body.length = 0) := fun h => h6 ⟨by omega, h⟩
      have g7 : ((ts.length : Int) == 0) = false := by simp; exact fun e => h9 (.inl (by rw [e]; rfl))
      have g8 : ((body.length : Int) == 0) = false := by simp; exact fun e => h9 (.inr (by rw [e]; rfl))
      clear h6 h9
      go_wp2_with fail
      go_meet
      exact ⟨rfl, rfl⟩
    · have g6' : decide (0 < fold) = false := decide_eq_false g6
      clear h6
      go_wp2_with fail
      go_meet
      exact ⟨rfl, rfl⟩
  case rest =>
    obtain ⟨rfl, rfl⟩ := hcut
    clear h6
    by_cases h8 : 4 < body.length
    · have HV : Hid (Sc.ruleErr ar ⟨k, ts, fold, body, vars⟩ = 2) := by show _ = _; rw [HE0.out, if_pos h8]; rfl
      have g8 : decide (4 < body.length) = true := decide_eq_true h8
      have g8' : decide ((4 : Int) < (body.length : Int)) = true := decide_eq_true (by omega)
      clear HE0
      go_wp2_with fail
      go_ret
      exact ⟨by rw [HV.out]; rfl, hR.bel⟩
    have g8 : decide (4 < body.length) = false := decide_eq_false h8
    have g8' : decide ((4 : Int) < (body.length : Int)) = false := decide_eq_false (by omega)
    rw [if_neg h8, Sc.thn_zero] at HE0
    go_wp2_with fail
    clear c1 d0 d1 d2 d3 d4
    go_loopw [7] (fun i wr => ∃ j : Nat, j ≤ body.length ∧ i = .int .i64 j ∧ RB w (.cells #[.slice (some ⟨b, off, none⟩) ar.length cap, vn, vr] 26) (.cells #[.int .i64 k, .slice at_ ts.length ct, .int .i64 fold, .slice ab body.length cb, .int .i64 vars] 67) wr ∧ Sc.first (Sc.litAll ar vars) body = Sc.first (Sc.litAll ar vars) (body.drop j)) (fun i _ => body.length - (intOf i).toNat)
    case atStart => exact ⟨0, Nat.zero_le _, rfl, hR, rfl⟩
    case round =>
      clear hR
      obtain ⟨j, hj, rfl, hR, hfj⟩ := hrel
      have HFJ : Hid _ := hfj
      clear hfj
      have c1 : wr.cell? ⟨w.heap.size, 0, none⟩ = some (.slice (some ⟨b, off, none⟩) ar.length cap) := by rw [Lib.cell_of_heap hR.b1]; rfl
      have d0 : wr.cell? ⟨w.heap.size + 1, 0, none⟩ = some (.int .i64 k) := by rw [Lib.cell_of_heap hR.b2]; rfl
      have d1 : wr.cell? ⟨w.heap.size + 1, 1, none⟩ = some (.slice at_ ts.length ct) := by rw [Lib.cell_of_heap hR.b2]; rfl
      have d2 : wr.cell? ⟨w.heap.size + 1, 2, none⟩ = some (.int .i64 fold) := by rw [Lib.cell_of_heap hR.b2]; rfl
      have d3 : wr.cell? ⟨w.heap.size + 1, 3, none⟩ = some (.slice ab body.length cb) := by rw [Lib.cell_of_heap hR.b2]; rfl
      have d4 : wr.cell? ⟨w.heap.size + 1, 4, none⟩ = some (.int .i64 vars) := by rw [Lib.cell_of_heap hR.b2]; rfl
      by_cases hjl : j < body.length
      · obtain ⟨b3, off3, rfl, p0, p1, p2, v, p3, hTv⟩ := plits_at hLA j hjl
        have HTV : Hid (PTermsV w v (Sc.litD body j).terms) := hTv
        obtain ⟨av, cv, rfl, _, _⟩ := hTv
        have q0 := cell_below hR.bel p0
        have q1 := cell_below hR.bel p1
        have q2 := cell_below hR.bel p2
        have q3 := cell_below hR.bel p3
        have HFD : Hid (Sc.first (Sc.litAll ar vars) body = Sc.thn (Sc.litAll ar vars (Sc.litD body j)) (Sc.first (Sc.litAll ar vars) (body.drop (j + 1)))) := HFJ.out.trans (Sc.first_drop _ _ _ j hjl)
        have HFI : Hid (LitFit (Sc.litD body j)) := HFB.out j hjl
        have hb1 : Below wr.heap.size wr (wr.alloc (.cells #[.int .i64 (Sc.litD body j).kind, .int .i64 (Sc.litD body j).op, .int .i64 (Sc.litD body j).pred, .slice av (Sc.litD body j).terms.length cv] 84)) := (Below.refl _ _).alloc (Nat.le_refl _) _
        have hlb := heap_alloc_new wr (.cells #[.int .i64 (Sc.litD body j).kind, .int .i64 (Sc.litD body j).op, .int .i64 (Sc.litD body j).pred, .slice av (Sc.litD body j).terms.length cv] 84)
        have hR1 := hR.below hb1
        clear p0 p1 p2 p3 hb1 HFJ hLA HL
        generalize hx : Sc.litD body j = x at *
        clear hx
        obtain ⟨kind, op, pd, xt⟩ := x
        simp only at *
        go_upto_region 21 with fail
        clear hR c1 d0 d1 d2 d3 d4 q0 q1 q2 q3
        generalize wr.alloc (.cells #[.int .i64 kind, .int .i64 op, .int .i64 pd, .slice av xt.length cv] 84) = wz at *
        generalize hLB : wr.heap.size = LB at *
        clear hLB
        have hR := hR1
        have c1 : wz.cell? ⟨w.heap.size, 0, none⟩ = some (.slice (some ⟨b, off, none⟩) ar.length cap) := by rw [Lib.cell_of_heap hR.b1]; rfl
        have d0 : wz.cell? ⟨w.heap.size + 1, 0, none⟩ = some (.int .i64 k) := by rw [Lib.cell_of_heap hR.b2]; rfl
        have d1 : wz.cell? ⟨w.heap.size + 1, 1, none⟩ = some (.slice at_ ts.length ct) := by rw [Lib.cell_of_heap hR.b2]; rfl
        have d2 : wz.cell? ⟨w.heap.size + 1, 2, none⟩ = some (.int .i64 fold) := by rw [Lib.cell_of_heap hR.b2]; rfl
        have d3 : wz.cell? ⟨w.heap.size + 1, 3, none⟩ = some (.slice (some ⟨b3, off3, none⟩) body.length cb) := by rw [Lib.cell_of_heap hR.b2]; rfl
        have d4 : wz.cell? ⟨w.heap.size + 1, 4, none⟩ = some (.int .i64 vars) := by rw [Lib.cell_of_heap hR.b2]; rfl
        clear hR
        have l0 : wz.cell? ⟨LB, 0, none⟩ = some (.int .i64 kind) := by rw [Lib.cell_of_heap hlb]; rfl
        have l1 : wz.cell? ⟨LB, 1, none⟩ = some (.int .i64 op) := by rw [Lib.cell_of_heap hlb]; rfl
        have l2 : wz.cell? ⟨LB, 2, none⟩ = some (.int .i64 pd) := by rw [Lib.cell_of_heap hlb]; rfl
        have l3 : wz.cell? ⟨LB, 3, none⟩ = some (.slice av xt.length cv) := by rw [Lib.cell_of_heap hlb]; rfl
        go_wp2_with fail
        refine (btw_any _ _ _ _).mono ?_
        rintro e w2 ⟨he, rfl⟩
        cases g9 : Tr.between kind 1 4
        · rw [g9] at he
          subst he
          have hkk : ¬ kind = 1 ∧ ¬ kind = 2 ∧ ¬ kind = 3 ∧ ¬ kind = 4 := by
            simp [Tr.between] at g9
            omega
          have HLE : Sc.litErr ar ⟨kind, op, pd, xt⟩ = 7 := by simp [Sc.litErr, hkk.1, hkk.2.1, hkk.2.2.1, hkk.2.2.2]
          have HV : Hid (Sc.ruleErr ar ⟨k, ts, fold, body, vars⟩ = 7) := by show _ = _; rw [HE0.out, HFD.out, Sc.litAll, HLE]; rfl
          clear HE0 HFD HLE
          go_wp2_with fail
          go_ret
          exact ⟨by rw [HV.out]; rfl, hR1.bel⟩
        rw [g9] at he
        subst he
        have hkk : kind = 1 ∨ kind = 2 ∨ kind = 3 ∨ kind = 4 := by
          simp [Tr.between] at g9
          omega
        clear g9
        rcases hkk with rfl | rfl | rfl | rfl
        · skip
          cases g3 : (op != 0)
          rotate_left
          · have h3 : ¬ op = 0 := by simpa using g3
            have HLE : Sc.litErr ar ⟨1, op, pd, xt⟩ = 3 := by rw [Sc.litErr, if_pos (by simp), if_pos h3]
            have HV : Hid (Sc.ruleErr ar ⟨k, ts, fold, body, vars⟩ = 3) := by show _ = _; rw [HE0.out, HFD.out, Sc.litAll, HLE]; rfl
            clear HE0 HFD HLE
            go_wp2_with fail
            go_ret
            exact ⟨by rw [HV.out]; rfl, hR1.bel⟩
          have h3 : op = 0 := by simpa using g3
          go_wp2_with fail
          refine (btw_any _ _ _ _).mono ?_
          rintro e w2 ⟨he, rfl⟩
          cases g4 : Sc.isPred ar pd
          · have hbt : Tr.between pd 0 ((ar.length : Int) - 1) = false := g4
            rw [hbt] at he
            subst he
            clear hbt
            have HLE : Sc.litErr ar ⟨1, op, pd, xt⟩ = 5 := by rw [Sc.litErr, if_pos (by simp), if_neg (by simpa using h3)]; simp only [g4]; rfl
            have HV : Hid (Sc.ruleErr ar ⟨k, ts, fold, body, vars⟩ = 5) := by show _ = _; rw [HE0.out, HFD.out, Sc.litAll, HLE]; rfl
            clear HE0 HFD HLE
            go_wp2_with fail
            go_ret
            exact ⟨by rw [HV.out]; rfl, hR1.bel⟩
          have hbt : Tr.between pd 0 ((ar.length : Int) - 1) = true := g4
          rw [hbt] at he
          subst he
          clear hbt
          obtain ⟨kp, rfl, hkp⟩ := nat_of g4
          have hq := ints_cell HA2.out kp hkp hR1.bel
          have HL1 : Sc.litErr ar ⟨1, op, kp, xt⟩ = if (xt.length : Int) ≠ Sc.intD ar kp then 1 else 0 := by
            rw [Sc.litErr, if_pos (by simp), if_neg (by simpa using h3)]
            simp only [g4]
            rfl
          go_upto_region 28 with fail
          cases g5 : ((xt.length : Int) != Sc.intD ar kp)
          · have h5 : (xt.length : Int) = Sc.intD ar kp := by simpa using g5
            have HL0 : Sc.litErr ar ⟨1, op, kp, xt⟩ = 0 := by rw [HL1, if_neg (by simp [h5])]
            clear HL1 h5
            go_region_held3 (fun y => y.cell? ⟨w.heap.size, 0, none⟩ = some (.slice (some ⟨b, off, none⟩) ar.length cap) ∧ y.cell? ⟨LB, 2, none⟩ = some (.int .i64 kp) ∧ y.cell? ⟨LB, 3, none⟩ = some (.slice av xt.length cv) ∧ y.cell? ⟨b, off + kp, none⟩ = some (.int .i64 (Sc.intD ar kp))) (go_keep) (fail)
            have hRd := hR1.drew
            have hld := (show w2.drew.heap[LB]? = _ from hlb)
            clear c1 d0 d1 d2 d3 d4 hq l0 l1 l2 l3 hlb hR1
            generalize w2.drew = wy at *
            have l3 : wy.cell? ⟨LB, 3, none⟩ = some (.slice av xt.length cv) := by rw [Lib.cell_of_heap hld]; rfl
            have d4 : wy.cell? ⟨w.heap.size + 1, 4, none⟩ = some (.int .i64 vars) := by rw [Lib.cell_of_heap hRd.b2]; rfl
            have HLE : Sc.litErr ar ⟨1, op, kp, xt⟩ = 0 := by exact HL0
            go_wp2_with fail
            refine Calls.mono (rpTerms_any xt vars _ _ ⟨by omega, by omega⟩ HFI.out (ptermsV_below HTV.out hRd.bel)) ?_
            rintro e w5 ⟨rfl, rfl⟩
            by_cases h10 : Sc.termsErr vars xt = 0
            rotate_left
            · have g10 : (Sc.termsErr vars xt != 0) = true := by simpa using h10
              have HV : Hid (Sc.ruleErr ar ⟨k, ts, fold, body, vars⟩ = Sc.termsErr vars xt) := by show _ = _; rw [HE0.out, HFD.out, Sc.litAll, HLE, Sc.thn_zero, Sc.thn_ne _ h10, Sc.thn_ne _ h10]
              clear HE0 HFD HLE
              go_wp2_with fail
              go_ret
              exact ⟨by rw [HV.out]; rfl, hRd.bel⟩
            have g10 : (Sc.termsErr vars xt != 0) = false := by simpa using h10
            have HV : Hid (Sc.first (Sc.litAll ar vars) body = Sc.first (Sc.litAll ar vars) (body.drop (j + 1))) := by show _ = _; rw [HFD.out, Sc.litAll, HLE, Sc.thn_zero, h10, Sc.thn_zero]
            clear HFD HLE
            rw [h10]
            go_wp2_with fail
            go_roundw
            case rel => exact ⟨j + 1, by omega, by go_num, hRd, HV.out⟩
            case measure => simp [intOf]; omega
          · have h5 : ¬ (xt.length : Int) = Sc.intD ar kp := by simpa using g5
            have HL0 : Sc.litErr ar ⟨1, op, kp, xt⟩ = 1 := by rw [HL1, if_pos h5]
            clear HL1 h5
            have HV : Hid (Sc.ruleErr ar ⟨k, ts, fold, body, vars⟩ = 1) := by show _ = _; rw [HE0.out, HFD.out, Sc.litAll, HL0]; rfl
            clear HE0 HFD HL0
            go_region_held3 (fun y => y.cell? ⟨w.heap.size, 0, none⟩ = some (.slice (some ⟨b, off, none⟩) ar.length cap) ∧ y.cell? ⟨LB, 2, none⟩ = some (.int .i64 kp) ∧ y.cell? ⟨LB, 3, none⟩ = some (.slice av xt.length cv) ∧ y.cell? ⟨b, off + kp, none⟩ = some (.int .i64 (Sc.intD ar kp))) (go_keep) (fail)
            have hbd := hR1.bel.drew
            go_wp2_with fail
            go_ret
            exact ⟨by rw [HV.out]; rfl, hbd⟩
        · skip
          cases g3 : (op != 0)
          rotate_left
          · have h3 : ¬ op = 0 := by simpa using g3
            have HLE : Sc.litErr ar ⟨2, op, pd, xt⟩ = 3 := by rw [Sc.litErr, if_pos (by simp), if_pos h3]
            have HV : Hid (Sc.ruleErr ar ⟨k, ts, fold, body, vars⟩ = 3) := by show _ = _; rw [HE0.out, HFD.out, Sc.litAll, HLE]; rfl
            clear HE0 HFD HLE
            go_wp2_with fail
            go_ret
            exact ⟨by rw [HV.out]; rfl, hR1.bel⟩
          have h3 : op = 0 := by simpa using g3
          go_wp2_with fail
          refine (btw_any _ _ _ _).mono ?_
          rintro e w2 ⟨he, rfl⟩
          cases g4 : Sc.isPred ar pd
          · have hbt : Tr.between pd 0 ((ar.length : Int) - 1) = false := g4
            rw [hbt] at he
            subst he
            clear hbt
            have HLE : Sc.litErr ar ⟨2, op, pd, xt⟩ = 5 := by rw [Sc.litErr, if_pos (by simp), if_neg (by simpa using h3)]; simp only [g4]; rfl
            have HV : Hid (Sc.ruleErr ar ⟨k, ts, fold, body, vars⟩ = 5) := by show _ = _; rw [HE0.out, HFD.out, Sc.litAll, HLE]; rfl
            clear HE0 HFD HLE
            go_wp2_with fail
            go_ret
            exact ⟨by rw [HV.out]; rfl, hR1.bel⟩
          have hbt : Tr.between pd 0 ((ar.length : Int) - 1) = true := g4
          rw [hbt] at he
          subst he
          clear hbt
          obtain ⟨kp, rfl, hkp⟩ := nat_of g4
          have hq := ints_cell HA2.out kp hkp hR1.bel
          have HL1 : Sc.litErr ar ⟨2, op, kp, xt⟩ = if (xt.length : Int) ≠ Sc.intD ar kp then 1 else 0 := by
            rw [Sc.litErr, if_pos (by simp), if_neg (by simpa using h3)]
            simp only [g4]
            rfl
          go_upto_region 28 with fail
          cases g5 : ((xt.length : Int) != Sc.intD ar kp)
          · have h5 : (xt.length : Int) = Sc.intD ar kp := by simpa using g5
            have HL0 : Sc.litErr ar ⟨2, op, kp, xt⟩ = 0 := by rw [HL1, if_neg (by simp [h5])]
            clear HL1 h5
            go_region_held3 (fun y => y.cell? ⟨w.heap.size, 0, none⟩ = some (.slice (some ⟨b, off, none⟩) ar.length cap) ∧ y.cell? ⟨LB, 2, none⟩ = some (.int .i64 kp) ∧ y.cell? ⟨LB, 3, none⟩ = some (.slice av xt.length cv) ∧ y.cell? ⟨b, off + kp, none⟩ = some (.int .i64 (Sc.intD ar kp))) (go_keep) (fail)
            have hRd := hR1.drew
            have hld := (show w2.drew.heap[LB]? = _ from hlb)
            clear c1 d0 d1 d2 d3 d4 hq l0 l1 l2 l3 hlb hR1
            generalize w2.drew = wy at *
            have l3 : wy.cell? ⟨LB, 3, none⟩ = some (.slice av xt.length cv) := by rw [Lib.cell_of_heap hld]; rfl
            have d4 : wy.cell? ⟨w.heap.size + 1, 4, none⟩ = some (.int .i64 vars) := by rw [Lib.cell_of_heap hRd.b2]; rfl
            have HLE : Sc.litErr ar ⟨2, op, kp, xt⟩ = 0 := by exact HL0
            go_wp2_with fail
            refine Calls.mono (rpTerms_any xt vars _ _ ⟨by omega, by omega⟩ HFI.out (ptermsV_below HTV.out hRd.bel)) ?_
            rintro e w5 ⟨rfl, rfl⟩
            by_cases h10 : Sc.termsErr vars xt = 0
            rotate_left
            · have g10 : (Sc.termsErr vars xt != 0) = true := by simpa using h10
              have HV : Hid (Sc.ruleErr ar ⟨k, ts, fold, body, vars⟩ = Sc.termsErr vars xt) := by show _ = _; rw [HE0.out, HFD.out, Sc.litAll, HLE, Sc.thn_zero, Sc.thn_ne _ h10, Sc.thn_ne _ h10]
              clear HE0 HFD HLE
              go_wp2_with fail
              go_ret
              exact ⟨by rw [HV.out]; rfl, hRd.bel⟩
            have g10 : (Sc.termsErr vars xt != 0) = false := by simpa using h10
            have HV : Hid (Sc.first (Sc.litAll ar vars) body = Sc.first (Sc.litAll ar vars) (body.drop (j + 1))) := by show _ = _; rw [HFD.out, Sc.litAll, HLE, Sc.thn_zero, h10, Sc.thn_zero]
            clear HFD HLE
            rw [h10]
            go_wp2_with fail
            go_roundw
            case rel => exact ⟨j + 1, by omega, by go_num, hRd, HV.out⟩
            case measure => simp [intOf]; omega
          · have h5 : ¬ (xt.length : Int) = Sc.intD ar kp := by simpa using g5
            have HL0 : Sc.litErr ar ⟨2, op, kp, xt⟩ = 1 := by rw [HL1, if_pos h5]
            clear HL1 h5
            have HV : Hid (Sc.ruleErr ar ⟨k, ts, fold, body, vars⟩ = 1) := by show _ = _; rw [HE0.out, HFD.out, Sc.litAll, HL0]; rfl
            clear HE0 HFD HL0
            go_region_held3 (fun y => y.cell? ⟨w.heap.size, 0, none⟩ = some (.slice (some ⟨b, off, none⟩) ar.length cap) ∧ y.cell? ⟨LB, 2, none⟩ = some (.int .i64 kp) ∧ y.cell? ⟨LB, 3, none⟩ = some (.slice av xt.length cv) ∧ y.cell? ⟨b, off + kp, none⟩ = some (.int .i64 (Sc.intD ar kp))) (go_keep) (fail)
            have hbd := hR1.bel.drew
            go_wp2_with fail
            go_ret
            exact ⟨by rw [HV.out]; rfl, hbd⟩
        · skip
          go_wp2_with fail
          refine (btw_any _ _ _ _).mono ?_
          rintro e w2 ⟨he, rfl⟩
          cases g3 : Tr.between op 1 4
          · rw [g3] at he
            subst he
            have HLE : Sc.litErr ar ⟨3, op, pd, xt⟩ = 3 := by rw [Sc.litErr, if_neg (by simp), if_pos rfl]; simp only [g3]; rfl
            have HV : Hid (Sc.ruleErr ar ⟨k, ts, fold, body, vars⟩ = 3) := by show _ = _; rw [HE0.out, HFD.out, Sc.litAll, HLE]; rfl
            clear HE0 HFD HLE
            go_wp2_with fail
            go_ret
            exact ⟨by rw [HV.out]; rfl, hR1.bel⟩
          rw [g3] at he
          subst he
          cases g4 : (pd != 0)
          rotate_left
          · have h4 : ¬ pd = 0 := by simpa using g4
            have HLE : Sc.litErr ar ⟨3, op, pd, xt⟩ = 1 := by rw [Sc.litErr, if_neg (by simp), if_pos rfl]; simp only [g3]; simp [h4]
            have HV : Hid (Sc.ruleErr ar ⟨k, ts, fold, body, vars⟩ = 1) := by show _ = _; rw [HE0.out, HFD.out, Sc.litAll, HLE]; rfl
            clear HE0 HFD HLE
            go_wp2_with fail
            go_ret
            exact ⟨by rw [HV.out]; rfl, hR1.bel⟩
          have h4 : pd = 0 := by simpa using g4
          by_cases h5 : xt.length = 2
          rotate_left
          · have g5 : ((xt.length : Int) != 2) = true := by simp; omega
            have HLE : Sc.litErr ar ⟨3, op, pd, xt⟩ = 1 := by rw [Sc.litErr, if_neg (by simp), if_pos rfl]; simp only [g3]; simp [h5]
            have HV : Hid (Sc.ruleErr ar ⟨k, ts, fold, body, vars⟩ = 1) := by show _ = _; rw [HE0.out, HFD.out, Sc.litAll, HLE]; rfl
            clear HE0 HFD HLE
            go_wp2_with fail
            go_ret
            exact ⟨by rw [HV.out]; rfl, hR1.bel⟩
          have g5 : ((xt.length : Int) != 2) = false := by rw [h5]; rfl
          have HL0 : Sc.litErr ar ⟨3, op, pd, xt⟩ = 0 := by rw [Sc.litErr, if_neg (by simp), if_pos rfl]; simp only [g3]; simp [h4, h5]
          clear h4 h5
          have HLE : Sc.litErr ar ⟨3, op, pd, xt⟩ = 0 := by exact HL0
          go_wp2_with fail
          refine Calls.mono (rpTerms_any xt vars _ _ ⟨by omega, by omega⟩ HFI.out (ptermsV_below HTV.out hR1.bel)) ?_
          rintro e w5 ⟨rfl, rfl⟩
          by_cases h10 : Sc.termsErr vars xt = 0
          rotate_left
          · have g10 : (Sc.termsErr vars xt != 0) = true := by simpa using h10
            have HV : Hid (Sc.ruleErr ar ⟨k, ts, fold, body, vars⟩ = Sc.termsErr vars xt) := by show _ = _; rw [HE0.out, HFD.out, Sc.litAll, HLE, Sc.thn_zero, Sc.thn_ne _ h10, Sc.thn_ne _ h10]
            clear HE0 HFD HLE
            go_wp2_with fail
            go_ret
            exact ⟨by rw [HV.out]; rfl, hR1.bel⟩
          have g10 : (Sc.termsErr vars xt != 0) = false := by simpa using h10
          have HV : Hid (Sc.first (Sc.litAll ar vars) body = Sc.first (Sc.litAll ar vars) (body.drop (j + 1))) := by show _ = _; rw [HFD.out, Sc.litAll, HLE, Sc.thn_zero, h10, Sc.thn_zero]
          clear HFD HLE
          rw [h10]
          go_wp2_with fail
          go_roundw
          case rel => exact ⟨j + 1, by omega, by go_num, hR1, HV.out⟩
          case measure => simp [intOf]; omega
        · skip
          go_wp2_with fail
          refine (btw_any _ _ _ _).mono ?_
          rintro e w2 ⟨he, rfl⟩
          cases g3 : Tr.between op 5 7
          · rw [g3] at he
            subst he
            have HLE : Sc.litErr ar ⟨4, op, pd, xt⟩ = 3 := by rw [Sc.litErr, if_neg (by simp), if_neg (by simp), if_pos rfl]; simp only [g3]; rfl
            have HV : Hid (Sc.ruleErr ar ⟨k, ts, fold, body, vars⟩ = 3) := by show _ = _; rw [HE0.out, HFD.out, Sc.litAll, HLE]; rfl
            clear HE0 HFD HLE
            go_wp2_with fail
            go_ret
            exact ⟨by rw [HV.out]; rfl, hR1.bel⟩
          rw [g3] at he
          subst he
          cases g4 : (pd != 0)
          rotate_left
          · have h4 : ¬ pd = 0 := by simpa using g4
            have HLE : Sc.litErr ar ⟨4, op, pd, xt⟩ = 1 := by rw [Sc.litErr, if_neg (by simp), if_neg (by simp), if_pos rfl]; simp only [g3]; simp [h4]
            have HV : Hid (Sc.ruleErr ar ⟨k, ts, fold, body, vars⟩ = 1) := by show _ = _; rw [HE0.out, HFD.out, Sc.litAll, HLE]; rfl
            clear HE0 HFD HLE
            go_wp2_with fail
            go_ret
            exact ⟨by rw [HV.out]; rfl, hR1.bel⟩
          have h4 : pd = 0 := by simpa using g4
          by_cases h5 : xt.length = 3
          rotate_left
          · have g5 : ((xt.length : Int) != 3) = true := by simp; omega
            have HLE : Sc.litErr ar ⟨4, op, pd, xt⟩ = 1 := by rw [Sc.litErr, if_neg (by simp), if_neg (by simp), if_pos rfl]; simp only [g3]; simp [h5]
            have HV : Hid (Sc.ruleErr ar ⟨k, ts, fold, body, vars⟩ = 1) := by show _ = _; rw [HE0.out, HFD.out, Sc.litAll, HLE]; rfl
            clear HE0 HFD HLE
            go_wp2_with fail
            go_ret
            exact ⟨by rw [HV.out]; rfl, hR1.bel⟩
          have g5 : ((xt.length : Int) != 3) = false := by rw [h5]; rfl
          have HL0 : Sc.litErr ar ⟨4, op, pd, xt⟩ = 0 := by rw [Sc.litErr, if_neg (by simp), if_neg (by simp), if_pos rfl]; simp only [g3]; simp [h4, h5]
          clear h4 h5
          have HLE : Sc.litErr ar ⟨4, op, pd, xt⟩ = 0 := by exact HL0
          go_wp2_with fail
          refine Calls.mono (rpTerms_any xt vars _ _ ⟨by omega, by omega⟩ HFI.out (ptermsV_below HTV.out hR1.bel)) ?_
          rintro e w5 ⟨rfl, rfl⟩
          by_cases h10 : Sc.termsErr vars xt = 0
          rotate_left
          · have g10 : (Sc.termsErr vars xt != 0) = true := by simpa using h10
            have HV : Hid (Sc.ruleErr ar ⟨k, ts, fold, body, vars⟩ = Sc.termsErr vars xt) := by show _ = _; rw [HE0.out, HFD.out, Sc.litAll, HLE, Sc.thn_zero, Sc.thn_ne _ h10, Sc.thn_ne _ h10]
            clear HE0 HFD HLE
            go_wp2_with fail
            go_ret
            exact ⟨by rw [HV.out]; rfl, hR1.bel⟩
          have g10 : (Sc.termsErr vars xt != 0) = false := by simpa using h10
          have HV : Hid (Sc.first (Sc.litAll ar vars) body = Sc.first (Sc.litAll ar vars) (body.drop (j + 1))) := by show _ = _; rw [HFD.out, Sc.litAll, HLE, Sc.thn_zero, h10, Sc.thn_zero]
          clear HFD HLE
          rw [h10]
          go_wp2_with fail
          go_roundw
          case rel => exact ⟨j + 1, by omega, by go_num, hR1, HV.out⟩
          case measure => simp [intOf]; omega
      · have hz : Sc.first (Sc.litAll ar vars) body = 0 := by rw [HFJ.out, List.drop_of_length_le (by omega)]; rfl
        have hgood : RuleGood ⟨k, ts, fold, body, vars⟩ := ⟨by show 0 ≤ vars; omega, by show vars ≤ 8; omega, by show body.length ≤ 4; omega, fun i hi => lit_good (first_zero hz _ (litD_mem hi)) (by show 0 ≤ vars; omega) (HFB.out i hi)⟩
        rw [hz, Sc.thn_zero] at HE0
        clear HFJ hz hLA
        go_wp2_with fail
        refine Calls.mono (rpSafe_any ⟨k, ts, fold, body, vars⟩ _ _ _ (plitsV_below HL.out hR.bel) hgood) ?_
        rintro e w2 ⟨he, hb2⟩
        have hbb := hR.bel.trans (hb2.mono hR.bel.size)
        cases h11 : Sc.safe ⟨k, ts, fold, body, vars⟩
        · rw [h11] at he HE0
          subst he
          have HV : Hid (Sc.ruleErr ar ⟨k, ts, fold, body, vars⟩ = 4) := by show _ = _; rw [HE0.out]; rfl
          clear HE0 hgood h11
          go_wp2_with fail
          go_ret
          exact ⟨by rw [HV.out]; rfl, hbb⟩
        · rw [h11] at he HE0
          subst he
          have HV : Hid (Sc.ruleErr ar ⟨k, ts, fold, body, vars⟩ = 0) := by show _ = _; rw [HE0.out]; rfl
          clear HE0 hgood h11
          go_wp2_with fail
          go_ret
          exact ⟨by rw [HV.out]; rfl, hbb⟩

end Go.Proofs.YtgpaleifhcdjnaaGreatDoor

/- The document's check of a program. -/
namespace Go.Proofs.YtgpaleifhcdjnaaGreatDoor
open Go.RowKit

/-- A box that stands. -/
structure PB (w : World) (o : Obj) (wr : World) : Prop where
  bel : Below w.heap.size w wr
  box : wr.heap[w.heap.size]? = some o
theorem PB.below {w wr w2 : World} {o : Obj} (h : PB w o wr) (hb : Below wr.heap.size wr w2) : PB w o w2 :=
  ⟨h.bel.trans (hb.mono h.bel.size), (hb.block _ (heap_lt h.box)).trans h.box⟩
theorem PB.start (w : World) (o : Obj) : PB w o (w.alloc o) := ⟨(Below.refl _ _).alloc (Nat.le_refl _) _, heap_alloc_new w o⟩
theorem PB.drew {w wr : World} {o : Obj} (h : PB w o wr) : PB w o wr.drew := ⟨h.bel.drew, h.box⟩
theorem contains_drop (l : List (List UInt8)) (s : List UInt8) (k : Nat) (h : k < l.length) : (l.drop k).contains s = ((Sc.strD l k == s) || (l.drop (k + 1)).contains s) := by
  rw [List.drop_eq_getElem_cons h, List.contains_cons]
  have : Sc.strD l k = l[k] := by simp [Sc.strD, List.getD_eq_getElem?_getD, h]
  rw [this, Bool.beq_comm]
theorem strD_take (ns : List (List UInt8)) (j m : Nat) (h : m < j) : Sc.strD (ns.take j) m = Sc.strD ns m := by
  simp [Sc.strD, List.getD_eq_getElem?_getD, h]

set_option maxRecDepth 100000 in
set_option maxHeartbeats 4000000 in
theorem CheckProgram_any (p : Sc.Prog) (va vn vr : Value) (w : World) (hP : ProgV w va vn vr p) (hF : ProgFit p) :
    Calls Tryz.prog 7 #[progVal va vn vr] w fun e w' => e = .returned (.int .i64 (Sc.check p)) ∧ Below w.heap.size w w' := by
  obtain ⟨ar, ns, rs⟩ := p
  obtain ⟨hA, hN, hL⟩ := hP
  have HA : Hid (IntsV w va ar) := hA
  obtain ⟨ao, cap, rfl, hA⟩ := hA
  obtain ⟨an, cn, rfl, hN⟩ := hN
  obtain ⟨al, cl, rfl, hL⟩ := hL
  have hA : IntsAt w ao ar := hA
  have hN : StrsAt w an ns := hN
  have hL : PRulesAt w al rs := hL
  have HFR : Hid (∀ i, i < rs.length → RuleFit (Sc.ruleD rs i)) := hF.rs
  clear hF
  have hst := PB.start w (.cells #[.slice ao ar.length cap, .slice an ns.length cn, .slice al rs.length cl] 26)
  have HE0 : Hid (Sc.check ⟨ar, ns, rs⟩ = if 10 < ar.length ∨ 12 < rs.length then 2 else if ¬ ns.length = ar.length then 1 else Sc.thn (Sc.first (Sc.predErr ar ns) (List.range ns.length)) (Sc.first (Sc.ruleErr ar) rs)) := rfl
  by_cases h1 : 10 < ar.length
  · have HV : Hid (Sc.check ⟨ar, ns, rs⟩ = 2) := by show _ = _; rw [HE0.out, if_pos (.inl h1)]
    have g1 : decide (10 < ar.length) = true := decide_eq_true h1
    have g1' : decide ((10 : Int) < (ar.length : Int)) = true := decide_eq_true (by omega)
    clear HE0 hA hN hL
    go_enter Tryz.func7, Tryz.ntmps7
    go_wp2_with fail
    go_ret
    exact ⟨by rw [HV.out]; rfl, hst.bel⟩
  have g1 : decide (10 < ar.length) = false := decide_eq_false h1
  have g1' : decide ((10 : Int) < (ar.length : Int)) = false := decide_eq_false (by omega)
  by_cases h2 : 12 < rs.length
  · have HV : Hid (Sc.check ⟨ar, ns, rs⟩ = 2) := by show _ = _; rw [HE0.out, if_pos (.inr h2)]
    have g2 : decide (12 < rs.length) = true := decide_eq_true h2
    have g2' : decide ((12 : Int) < (rs.length : Int)) = true := decide_eq_true (by omega)
    clear HE0 hA hN hL
    go_enter Tryz.func7, Tryz.ntmps7
    go_wp2_with fail
    go_ret
    exact ⟨by rw [HV.out]; rfl, hst.bel⟩
  have g2 : decide (12 < rs.length) = false := decide_eq_false h2
  have g2' : decide ((12 : Int) < (rs.length : Int)) = false := decide_eq_false (by omega)
  rw [if_neg (fun h => h.elim h1 h2)] at HE0
  by_cases h3 : ns.length = ar.length
  rotate_left
  · have HV : Hid (Sc.check ⟨ar, ns, rs⟩ = 1) := by show _ = _; rw [HE0.out, if_pos h3]
    have g3 : ((ns.length : Int) != (ar.length : Int)) = true := by simp; omega
    have g3' : (ns.length != ar.length) = true := by simp; omega
    clear HE0 hA hN hL
    go_enter Tryz.func7, Tryz.ntmps7
    go_wp2_with fail
    go_ret
    exact ⟨by rw [HV.out]; rfl, hst.bel⟩
  rw [if_neg (fun h => h h3)] at HE0
  have H3 : Hid (ns.length = ar.length) := h3
  have g3 : ((ns.length : Int) != (ar.length : Int)) = false := by simp; omega
  have g3' : (ns.length != ar.length) = false := by simp; omega
  have h10 : ns.length ≤ 10 := by omega
  clear h3
  go_enter Tryz.func7, Tryz.ntmps7
  go_wp2_with fail
  go_loopw [3] (fun i wr => ∃ j : Nat, j ≤ ns.length ∧ i = .int .i64 j ∧ PB w (.cells #[.slice ao ar.length cap, .slice an ns.length cn, .slice al rs.length cl] 26) wr ∧ Sc.first (Sc.predErr ar ns) (List.range ns.length) = Sc.first (Sc.predErr ar ns) ((List.range ns.length).drop j)) (fun i _ => ns.length - (intOf i).toNat)
  case atStart => exact ⟨0, Nat.zero_le _, rfl, hst, rfl⟩
  case round =>
    clear hst
    obtain ⟨j, hj, rfl, hR, hfj⟩ := hrel
    have HFJ : Hid _ := hfj
    clear hfj
    have c0 : wr.cell? ⟨w.heap.size, 0, none⟩ = some (.slice ao ar.length cap) := by rw [Lib.cell_of_heap hR.box]; rfl
    have c1 : wr.cell? ⟨w.heap.size, 1, none⟩ = some (.slice an ns.length cn) := by rw [Lib.cell_of_heap hR.box]; rfl
    by_cases hjl : j < ns.length
    · obtain ⟨b, off, rfl, p0⟩ := strs_at hN j hjl
      have hja : j < ar.length := by rw [← H3.out]; exact hjl
      obtain ⟨b2, off2, rfl, p1⟩ := ints_at hA j hja
      have q0 := cell_below hR.bel p0
      have q1 := cell_below hR.bel p1
      have HNC : Hid (∀ y m, Below w.heap.size w y → m < ns.length → y.cell? ⟨b, off + m, none⟩ = some (.string ⟨(Sc.strD ns m).toArray⟩)) := by
        intro y m hy hm
        obtain ⟨b', off', e, hc⟩ := strs_at hN m hm
        obtain ⟨rfl, rfl⟩ : b = b' ∧ off = off' := by simpa using e
        exact cell_below hy hc
      have HFD : Hid (Sc.first (Sc.predErr ar ns) (List.range ns.length) = Sc.thn (Sc.predErr ar ns j) (Sc.first (Sc.predErr ar ns) ((List.range ns.length).drop (j + 1)))) := HFJ.out.trans (pred_drop ar ns j hjl)
      have HPE : Hid (Sc.predErr ar ns j = Sc.thn (if Tr.between (Sc.intD ar j) 0 3 then 0 else 3) (Sc.thn (if Tr.isName (Sc.strD ns j) then 0 else 1) (if (ns.take j).contains (Sc.strD ns j) then 6 else 0))) := rfl
      clear p0 p1 hA hN hL HFJ
      generalize Sc.intD ar j = a at *
      generalize hs : Sc.strD ns j = s at *
      have HSJ : Hid _ := hs
      clear hs
      go_wp2_with fail
      refine (btw_any _ _ _ _).mono ?_
      rintro e w2 ⟨he, rfl⟩
      cases g4 : Tr.between a 0 3
      · rw [g4] at he
        subst he
        have HV : Hid (Sc.check ⟨ar, ns, rs⟩ = 3) := by show _ = _; rw [HE0.out, HFD.out, HPE.out, g4]; rfl
        clear HE0 HFD HPE
        go_wp2_with fail
        go_ret
        exact ⟨by rw [HV.out]; rfl, hR.bel⟩
      rw [g4] at he
      subst he
      rw [g4, if_pos rfl, Sc.thn_zero] at HPE
      go_wp2_with fail
      refine (refName_any s _).mono ?_
      rintro e w3 ⟨he, rfl⟩
      cases h5 : Tr.isName s
      · rw [h5] at he
        subst he
        have HV : Hid (Sc.check ⟨ar, ns, rs⟩ = 1) := by show _ = _; rw [HE0.out, HFD.out, HPE.out, h5]; rfl
        clear HE0 HFD HPE
        go_wp2_with fail
        go_ret
        exact ⟨by rw [HV.out]; rfl, hR.bel⟩
      rw [h5] at he
      subst he
      rw [h5, if_pos rfl, Sc.thn_zero] at HPE
      clear c0 c1 q0 q1 g4 h5
      go_wp2_with fail
      go_loopw [4] (fun i wq => ∃ m : Nat, m ≤ j ∧ i = .int .i64 m ∧ PB w (.cells #[.slice (some ⟨b2, off2, none⟩) ar.length cap, .slice (some ⟨b, off, none⟩) ns.length cn, .slice al rs.length cl] 26) wq ∧ (ns.take j).contains s = ((ns.take j).drop m).contains s) (fun i _ => j - (intOf i).toNat)
      case atStart => exact ⟨0, Nat.zero_le _, rfl, hR, rfl⟩
      case round =>
        clear hR
        obtain ⟨m, hm, rfl, hR, hct⟩ := hrel
        have HCT : Hid _ := hct
        clear hct
        have c1 : wr.cell? ⟨w.heap.size, 1, none⟩ = some (.slice (some ⟨b, off, none⟩) ns.length cn) := by rw [Lib.cell_of_heap hR.box]; rfl
        by_cases hml : m < j
        · have q0 := HNC.out _ m hR.bel (by omega)
          have q1 := HNC.out _ j hR.bel hjl
          rw [HSJ.out] at q1
          have hlt2 : m < (ns.take j).length := by rw [List.length_take]; omega
          have HCD : Hid ((ns.take j).contains s = ((Sc.strD ns m == s) || ((ns.take j).drop (m + 1)).contains s)) := by
            show _ = _
            rw [HCT.out, contains_drop _ _ m hlt2, strD_take ns j m hml]
          clear HCT hlt2
          have hml2 : m < ns.length := by omega
          go_upto_region 15 with fail
          cases g6 : (Sc.strD ns m == s)
          · have HV : Hid ((ns.take j).contains s = ((ns.take j).drop (m + 1)).contains s) := by show _ = _; rw [HCD.out, g6]; rfl
            clear HCD
            go_region_held3 (fun y => y.cell? ⟨w.heap.size, 1, none⟩ = some (.slice (some ⟨b, off, none⟩) ns.length cn) ∧ y.cell? ⟨b, off + m, none⟩ = some (.string ⟨(Sc.strD ns m).toArray⟩) ∧ y.cell? ⟨b, off + j, none⟩ = some (.string ⟨s.toArray⟩)) (go_keep) (fail)
            have hRd := hR.drew
            go_wp2_with fail
            go_roundw
            case rel => exact ⟨m + 1, by omega, by go_num, hRd, HV.out⟩
            case measure => simp [intOf]; omega
          · have HV : Hid (Sc.check ⟨ar, ns, rs⟩ = 6) := by show _ = _; rw [HE0.out, HFD.out, HPE.out, HCD.out, g6]; rfl
            clear HCD HE0 HFD HPE
            go_region_held3 (fun y => y.cell? ⟨w.heap.size, 1, none⟩ = some (.slice (some ⟨b, off, none⟩) ns.length cn) ∧ y.cell? ⟨b, off + m, none⟩ = some (.string ⟨(Sc.strD ns m).toArray⟩) ∧ y.cell? ⟨b, off + j, none⟩ = some (.string ⟨s.toArray⟩)) (go_keep) (fail)
            have hRd := hR.drew.bel
            go_wp2_with fail
            go_ret
            exact ⟨by rw [HV.out]; rfl, hRd⟩
        · have hz : (ns.take j).contains s = false := by rw [HCT.out, List.drop_of_length_le (by rw [List.length_take]; omega)]; rfl
          have HV : Hid (Sc.first (Sc.predErr ar ns) (List.range ns.length) = Sc.first (Sc.predErr ar ns) ((List.range ns.length).drop (j + 1))) := by show _ = _; rw [HFD.out, HPE.out, hz]; rfl
          clear HFD HPE HCT hz
          go_wp2_with fail
          go_roundw
          case rel => exact ⟨j + 1, by omega, by go_num, hR, HV.out⟩
          case measure => simp [intOf]; omega
    · have hz : Sc.first (Sc.predErr ar ns) (List.range ns.length) = 0 := by rw [HFJ.out, List.drop_of_length_le (by simp; omega)]; rfl
      rw [hz, Sc.thn_zero] at HE0
      have har : ar.length ≤ 9223372036854775807 := by omega
      clear HFJ hz hA hN
      go_wp2_with fail
      go_loopw [5] (fun i wr => ∃ j : Nat, j ≤ rs.length ∧ i = .int .i64 j ∧ PB w (.cells #[.slice ao ar.length cap, .slice an ns.length cn, .slice al rs.length cl] 26) wr ∧ Sc.first (Sc.ruleErr ar) rs = Sc.first (Sc.ruleErr ar) (rs.drop j)) (fun i _ => rs.length - (intOf i).toNat)
      case atStart => exact ⟨0, Nat.zero_le _, rfl, hR, rfl⟩
      case round =>
        clear hR c0 c1
        obtain ⟨j, hj, rfl, hR, hfj⟩ := hrel
        have HFJ : Hid _ := hfj
        clear hfj
        have c0 : wr.cell? ⟨w.heap.size, 0, none⟩ = some (.slice ao ar.length cap) := by rw [Lib.cell_of_heap hR.box]; rfl
        have c1 : wr.cell? ⟨w.heap.size, 1, none⟩ = some (.slice an ns.length cn) := by rw [Lib.cell_of_heap hR.box]; rfl
        have c2 : wr.cell? ⟨w.heap.size, 2, none⟩ = some (.slice al rs.length cl) := by rw [Lib.cell_of_heap hR.box]; rfl
        by_cases hjl : j < rs.length
        · obtain ⟨b, off, rfl, p0, ⟨vt, p1, hT⟩, p2, ⟨vb, p3, hB⟩, p4⟩ := prules_at hL j hjl
          have HT : Hid (PTermsV w vt (Sc.ruleD rs j).terms) := hT
          have HB : Hid (PLitsV w vb (Sc.ruleD rs j).body) := hB
          obtain ⟨at_, ct, rfl, _, _⟩ := hT
          obtain ⟨ab, cb, rfl, _⟩ := hB
          have q0 := cell_below hR.bel p0
          have q1 := cell_below hR.bel p1
          have q2 := cell_below hR.bel p2
          have q3 := cell_below hR.bel p3
          have q4 := cell_below hR.bel p4
          have HFD : Hid (Sc.first (Sc.ruleErr ar) rs = Sc.thn (Sc.ruleErr ar (Sc.ruleD rs j)) (Sc.first (Sc.ruleErr ar) (rs.drop (j + 1)))) := HFJ.out.trans (Sc.first_drop _ _ _ j hjl)
          have HFI : Hid (RuleFit (Sc.ruleD rs j)) := HFR.out j hjl
          clear p0 p1 p2 p3 p4 HFJ hL
          generalize hx : Sc.ruleD rs j = x at *
          clear hx
          have HRU : Hid (∀ y, (PB w (.cells #[.slice ao ar.length cap, .slice an ns.length cn, .slice (some ⟨b, off, none⟩) rs.length cl] 26) y ∧ y.cell? ⟨w.heap.size, 0, none⟩ = some (.slice ao ar.length cap) ∧ y.cell? ⟨w.heap.size, 1, none⟩ = some (.slice an ns.length cn) ∧ y.cell? ⟨w.heap.size, 2, none⟩ = some (.slice (some ⟨b, off, none⟩) rs.length cl) ∧ y.cell? ⟨b, off + j * 5, none⟩ = some (.int .i64 x.pred) ∧ y.cell? ⟨b, off + j * 5 + 1, none⟩ = some (.slice at_ x.terms.length ct) ∧ y.cell? ⟨b, off + j * 5 + 2, none⟩ = some (.int .i64 x.fold) ∧ y.cell? ⟨b, off + j * 5 + 3, none⟩ = some (.slice ab x.body.length cb) ∧ y.cell? ⟨b, off + j * 5 + 4, none⟩ = some (.int .i64 x.vars)) → Calls Tryz.prog 28 #[progVal (.slice ao ar.length cap) (.slice an ns.length cn) (.slice (some ⟨b, off, none⟩) rs.length cl), pruleVal x (.slice at_ x.terms.length ct) (.slice ab x.body.length cb)] y fun e w' => e = .returned (.int .i64 (Sc.ruleErr ar x)) ∧ (PB w (.cells #[.slice ao ar.length cap, .slice an ns.length cn, .slice (some ⟨b, off, none⟩) rs.length cl] 26) w' ∧ w'.cell? ⟨w.heap.size, 0, none⟩ = some (.slice ao ar.length cap) ∧ w'.cell? ⟨w.heap.size, 1, none⟩ = some (.slice an ns.length cn) ∧ w'.cell? ⟨w.heap.size, 2, none⟩ = some (.slice (some ⟨b, off, none⟩) rs.length cl) ∧ w'.cell? ⟨b, off + j * 5, none⟩ = some (.int .i64 x.pred) ∧ w'.cell? ⟨b, off + j * 5 + 1, none⟩ = some (.slice at_ x.terms.length ct) ∧ w'.cell? ⟨b, off + j * 5 + 2, none⟩ = some (.int .i64 x.fold) ∧ w'.cell? ⟨b, off + j * 5 + 3, none⟩ = some (.slice ab x.body.length cb) ∧ w'.cell? ⟨b, off + j * 5 + 4, none⟩ = some (.int .i64 x.vars))) := by
            rintro y ⟨hPB, k0, k1, k2, k3, k4, k5, k6, k7⟩
            refine Calls.mono (rpRule_any ar _ _ _ x _ _ y har (intsV_below HA.out hPB.bel) (ptermsV_below HT.out hPB.bel) (plitsV_below HB.out hPB.bel) HFI.out) ?_
            rintro e w' ⟨rfl, hb⟩
            exact ⟨rfl, hPB.below hb, cell_below hb k0, cell_below hb k1, cell_below hb k2, cell_below hb k3, cell_below hb k4, cell_below hb k5, cell_below hb k6, cell_below hb k7⟩
          have hRd := hR.drew
          clear HT HB HFI
          go_upto_region 20 with fail
          go_region_held3 (fun y => (PB w (.cells #[.slice ao ar.length cap, .slice an ns.length cn, .slice (some ⟨b, off, none⟩) rs.length cl] 26) y ∧ y.cell? ⟨w.heap.size, 0, none⟩ = some (.slice ao ar.length cap) ∧ y.cell? ⟨w.heap.size, 1, none⟩ = some (.slice an ns.length cn) ∧ y.cell? ⟨w.heap.size, 2, none⟩ = some (.slice (some ⟨b, off, none⟩) rs.length cl) ∧ y.cell? ⟨b, off + j * 5, none⟩ = some (.int .i64 x.pred) ∧ y.cell? ⟨b, off + j * 5 + 1, none⟩ = some (.slice at_ x.terms.length ct) ∧ y.cell? ⟨b, off + j * 5 + 2, none⟩ = some (.int .i64 x.fold) ∧ y.cell? ⟨b, off + j * 5 + 3, none⟩ = some (.slice ab x.body.length cb) ∧ y.cell? ⟨b, off + j * 5 + 4, none⟩ = some (.int .i64 x.vars))) (go_keep) ((go_at_call 28; refine Calls.mono (HRU.out _ ?_) ?_; (simp [*]); rintro e w2 ⟨rfl, h1, h2, h3, h4, h5, h6, h7, h8, h9⟩))
          have hR2 := h1
          clear h2 h3 h4 h5 h6 h7 h8 h9 HRU
          by_cases h9 : Sc.ruleErr ar x = 0
          rotate_left
          · have HV : Hid (Sc.check ⟨ar, ns, rs⟩ = Sc.ruleErr ar x) := by show _ = _; rw [HE0.out, HFD.out, Sc.thn_ne _ h9]
            have g9 : (Sc.ruleErr ar x != 0) = true := by simpa using h9
            clear HE0 HFD h9
            go_wp2_with fail
            go_ret
            exact ⟨by rw [HV.out]; rfl, hR2.bel⟩
          have HV : Hid (Sc.first (Sc.ruleErr ar) rs = Sc.first (Sc.ruleErr ar) (rs.drop (j + 1))) := by show _ = _; rw [HFD.out, h9, Sc.thn_zero]
          rw [h9]
          clear HFD h9
          go_wp2_with fail
          go_roundw
          case rel => exact ⟨j + 1, by omega, by go_num, hR2, HV.out⟩
          case measure => simp [intOf]; omega
        · have HV : Hid (Sc.check ⟨ar, ns, rs⟩ = 0) := by show _ = _; rw [HE0.out, HFJ.out, List.drop_of_length_le (by omega)]; rfl
          clear HE0 hL
          go_wp2_with fail
          go_ret
          exact ⟨by rw [HV.out]; rfl, hR.bel⟩

end Go.Proofs.YtgpaleifhcdjnaaGreatDoor

/- The document's ResolveOf, walked. -/
namespace Go.Proofs.YtgpaleifhcdjnaaGreatDoor
open Go.RowKit

abbrev zsObj : Obj := .cells #[.slice none 0 0, .slice none 0 0, .slice none 0 0, .slice none 0 0, .int .i64 0, .int .i64 0] 80
theorem RoQ.start {w w1 : World} {tv : Value} (hT : w1.heap[w.heap.size]? = some (.cells #[tv] 36)) (hP : w1.heap[w.heap.size + 1]? = some zpObj) (hb : Below w.heap.size w w1) :
    RoQ (w1.heap.size + 1) w1.heap.size w.heap.size (w.heap.size + 1) tv w ⟨[], []⟩ [] (0, 0) (.slice none 0 0) (.slice none 0 0) (.slice none 0 0) (.slice none 0 0) [] (w1.alloc zsObj) := by
  have hba : Below w1.heap.size w1 (w1.alloc zsObj) := (Below.refl _ _).alloc (Nat.le_refl _) _
  have h1 := heap_lt hT
  have h2 := heap_lt hP
  exact ⟨⟨heap_alloc_new w1 zsObj, World.ownsRow_nil _ _ _ _, World.ownsRow_nil _ _ _ _, World.ownsRow_nil _ _ _ _, fun g h _ => (by cases h), by omega, by simp⟩, (hba.block _ h1).trans hT, (hba.block _ h2).trans hP, World.ownsRow_nil _ _ _ _, fun _ hp => absurd hp (by simp), FrL.of_below (hb.trans (hba.mono hb.size)) (Nat.le_refl _), h1, h2, Nat.le_refl _, by omega⟩
theorem RoQ.cells {B X T P : Nat} {tv : Value} {w : World} {st : Sc.St} {vs : List (List UInt8)} {E : Int × Int} {va vn vr vv : Value} {q : List (Sc.Rule × Value × Value)} {wr : World} (h : RoQ B X T P tv w st vs E va vn vr vv q wr) :
    wr.cell? ⟨T, 0, none⟩ = some tv ∧ wr.cell? ⟨X, 0, none⟩ = some va ∧ wr.cell? ⟨X, 1, none⟩ = some vn ∧ wr.cell? ⟨X, 2, none⟩ = some vr ∧ wr.cell? ⟨X, 3, none⟩ = some vv ∧ wr.cell? ⟨X, 4, none⟩ = some (.int .i64 E.1) ∧ wr.cell? ⟨X, 5, none⟩ = some (.int .i64 E.2) ∧ wr.frozen? ⟨X, 2, none⟩ = false ∧ wr.frozen? ⟨X, 3, none⟩ = false :=
  ⟨by rw [Lib.cell_of_heap h.tb]; rfl, by rw [Lib.cell_of_heap h.rq.box]; rfl, by rw [Lib.cell_of_heap h.rq.box]; rfl, by rw [Lib.cell_of_heap h.rq.box]; rfl, by rw [Lib.cell_of_heap h.rq.box]; rfl, by rw [Lib.cell_of_heap h.rq.box]; rfl, by rw [Lib.cell_of_heap h.rq.box]; rfl, Lib.frozen_of_heap h.rq.box 2, Lib.frozen_of_heap h.rq.box 3⟩

abbrev foArr (r : Tr.Rule) (v u : Value) : Array Value := #[.int .i64 r.at_, .string ⟨r.name.toArray⟩, v, .int .i64 r.fold, u]
theorem RuQ.start {B X T P : Nat} {tv : Value} {w : World} {st : Sc.St} {vs : List (List UInt8)} {E : Int × Int} {va vn vr vv : Value} {q : List (Sc.Rule × Value × Value)} {wr : World} (h : RoQ B X T P tv w st vs E va vn vr vv q wr) (x : Tr.Rule) (v u : Value) (fold : Int) :
    RuQ w.heap.size B X wr ⟨st, [], E⟩ va vn vr (.slice none 0 0) (foArr x v u) wr.heap.size (wr.heap.size + 1) 0 fold (.slice none 0 0) (.slice none 0 0) [] [] (((wr.alloc (.cells (foArr x v u) 57)).setCell ⟨X, 3, none⟩ (.slice none 0 0)).alloc (.cells #[.int .i64 0, .slice none 0 0, .int .i64 fold, .slice none 0 0, .int .i64 0] 67)) := by
  have hxb := h.rq.xb
  have hsz := h.rq.sz
  have htx := h.tx
  have hwt := h.wt
  have b1 : Below wr.heap.size wr (wr.alloc (.cells (foArr x v u) 57)) := (Below.refl _ _).alloc (Nat.le_refl _) _
  have hs := SetB.one X (wr.alloc (.cells (foArr x v u) 57)) 3 (.slice none 0 0)
  have e1 := heap_alloc_new wr (.cells (foArr x v u) 57)
  have b2 : Below _ ((wr.alloc (.cells (foArr x v u) 57)).setCell ⟨X, 3, none⟩ (.slice none 0 0)) (((wr.alloc (.cells (foArr x v u) 57)).setCell ⟨X, 3, none⟩ (.slice none 0 0)).alloc (.cells #[.int .i64 0, .slice none 0 0, .int .i64 fold, .slice none 0 0, .int .i64 0] 67)) := (Below.refl _ _).alloc (Nat.le_refl _) _
  have e2 := heap_alloc_new ((wr.alloc (.cells (foArr x v u) 57)).setCell ⟨X, 3, none⟩ (.slice none 0 0)) (.cells #[.int .i64 0, .slice none 0 0, .int .i64 fold, .slice none 0 0, .int .i64 0] 67)
  have s1 : ((wr.alloc (.cells (foArr x v u) 57)).setCell ⟨X, 3, none⟩ (.slice none 0 0)).heap.size = wr.heap.size + 1 := by simp
  rw [s1] at e2
  have e3 := (hs.block wr.heap.size (by omega)).trans e1
  exact ⟨((h.rq.below b1).clear).below b2, (b2.block _ (by rw [s1]; omega)).trans e3, e2, World.ownsRow_nil _ _ _ _, fun _ hp => absurd hp (by simp), ⟨⟨none, 0, rfl, .inl rfl⟩, capV_nil⟩, ((FrL.of_below b1 h.fr.size).setX hs (by omega)).trans (FrL.of_below b2 (by rw [s1]; have := h.fr.size; omega)), Nat.le_refl _, by omega, by omega, hsz, by omega⟩
theorem predQ_E {B0 B X : Nat} {st : Sc.St} {vs : List (List UInt8)} {vr vv : Value} {E : Int × Int} {at_ n : Int} {name : List UInt8} {w w' : World} {e : Ending} (h : PredQ B0 B X st vs vr vv E.1 E.2 at_ n name w e w') :
    ∃ va vn, e = .returned (.int .i64 (st.names.idxOf name)) ∧ FrL B0 X w w' ∧ RqI B X (st.with name n) vs va vn vr vv (Sc.predE st at_ name n E).1 (Sc.predE st at_ name n E).2 w' := by
  obtain ⟨va, vn, h1, h2, h3⟩ := h
  refine ⟨va, vn, h1, h2, ?_⟩
  unfold Sc.predE
  split
  · rename_i hc
    rw [if_pos hc] at h3
    exact h3
  · rename_i hc
    rw [if_neg hc] at h3
    exact h3

theorem resolve_end0 {l : List Tr.Rule} {acc : List Sc.Rule} {st : Sc.St} {E : Int × Int} (hc : Tr.check l = 0) (h : Sc.rulesQ l ⟨[], []⟩ (0, 0) = (acc, st, E)) :
    if E.2 = 0 then Sc.resolve l = .inr ⟨st.arity, st.names, acc⟩ ∧ Sc.resolveOf l = (if Sc.check ⟨st.arity, st.names, acc⟩ = 0 then (⟨st.arity, st.names, acc⟩, 0, 0) else (⟨[], [], []⟩, 0, Sc.check ⟨st.arity, st.names, acc⟩)) else Sc.resolveOf l = (⟨[], [], []⟩, E.1, E.2) := by
  have hq := Sc.resolve_Q l (fun r hr x hx => ((Sc.qfit_of hc).2 r hr).2 x hx)
  rw [h] at hq
  have hv : Sc.resolveOf l = match Sc.resolve l with | .inl e => (⟨[], [], []⟩, e.1, e.2) | .inr p => if Sc.check p = 0 then (p, 0, 0) else (⟨[], [], []⟩, 0, Sc.check p) := if_pos hc
  rcases hr : Sc.resolve l with e | p
  · rw [hr] at hq hv
    simp only at hq hv
    obtain ⟨h1, h2⟩ := hq
    subst h1
    rw [if_neg h2]
    exact hv
  · rw [hr] at hq hv
    simp only at hq hv
    obtain ⟨h1, h2⟩ := hq
    subst h1
    rw [if_pos rfl]
    subst h2
    exact ⟨rfl, hv⟩
theorem resolve_bad9 {l : List Tr.Rule} {acc : List Sc.Rule} {st : Sc.St} {E : Int × Int} (hc : Tr.check l = 0) (h : Sc.rulesQ l ⟨[], []⟩ (0, 0) = (acc, st, E)) (h0 : ¬ E.2 = 0) : Sc.resolveOf l = (⟨[], [], []⟩, E.1, E.2) := by
  have h9 := resolve_end0 hc h
  rw [if_neg h0] at h9
  exact h9
theorem resolve_good9 {l : List Tr.Rule} {acc : List Sc.Rule} {st : Sc.St} {E : Int × Int} (hc : Tr.check l = 0) (h : Sc.rulesQ l ⟨[], []⟩ (0, 0) = (acc, st, E)) (h0 : E.2 = 0) : Sc.resolve l = .inr ⟨st.arity, st.names, acc⟩ ∧ Sc.resolveOf l = (if Sc.check ⟨st.arity, st.names, acc⟩ = 0 then (⟨st.arity, st.names, acc⟩, 0, 0) else (⟨[], [], []⟩, 0, Sc.check ⟨st.arity, st.names, acc⟩)) := by
  have h9 := resolve_end0 hc h
  rw [if_pos h0] at h9
  exact h9

set_option maxRecDepth 100000 in
set_option maxHeartbeats 4000000 in
theorem ResolveOf_any (l : List Tr.Rule) (v : Value) (w : World) (hV : RulesV w v l) :
    Calls Tryz.prog 13 #[treeVal v] w fun e w' => ∃ va vn vr, e = .returned (.tuple #[progVal va vn vr, .int .i64 (Sc.resolveOf l).2.1, .int .i64 (Sc.resolveOf l).2.2]) ∧ (∀ z, Agree w.heap.size w' z → ProgV z va vn vr (Sc.resolveOf l).1) ∧ Below w.heap.size w w' := by
  obtain ⟨i0, hi, hy0, hy1, hy2⟩ := info_parts A_info84
  obtain ⟨j0, hj, hz0, hz1, hz2⟩ := info_parts A_info67
  obtain ⟨ao, cap, rfl, hA⟩ := id hV
  have HV0 : Hid (RulesV w (.slice ao l.length cap) l) := hV
  have HA : Hid (RulesAt w ao l) := hA
  have t2 := two_blocks (w := w) (o1 := .cells #[.slice ao l.length cap] 36) (o2 := (.cells #[.slice none 0 0, .slice none 0 0, .slice none 0 0] 26)) (Below.refl _ _)
  have b2 := below_two w (.cells #[.slice ao l.length cap] 36) (.cells #[.slice none 0 0, .slice none 0 0, .slice none 0 0] 26)
  clear hV hA
  go_enter Tryz.func13, Tryz.ntmps13
  go_wp2_with fail
  generalize hw2 : ((w.alloc (.cells #[.slice ao l.length cap] 36)).alloc (.cells #[.slice none 0 0, .slice none 0 0, .slice none 0 0] 26)) = w2 at *
  clear hw2
  refine Calls.mono (CheckTree_any l _ _ (rulesV_below HV0.out b2)) ?_
  rintro e w1 ⟨rfl, hb1⟩
  have hT1 := (hb1.block _ (heap_lt t2.1)).trans t2.1
  have hP1 := (hb1.block _ (heap_lt t2.2)).trans t2.2
  have hbw := b2.trans (hb1.mono b2.size)
  clear t2 b2 hb1
  by_cases hc : Tr.check l = 0
  · have HC : Hid (Tr.check l = 0) := hc
    have hc' : (Tr.check l != 0) = false := by simp [hc]
    clear hc
    have hl12 := (Sc.qfit_of HC.out).1
    have HFT : Hid (∀ r, r ∈ l → Sc.QFit r ∧ ∀ x, x ∈ r.body → 1 ≤ x.kind) := (Sc.qfit_of HC.out).2
    have hst := RoQ.start hT1 hP1 hbw
    obtain ⟨X, hX⟩ : ∃ X, X = w1.heap.size := ⟨_, rfl⟩
    clear hT1 hP1
    go_wp2_with fail
    generalize w1.alloc (.cells #[.slice none 0 0, .slice none 0 0, .slice none 0 0, .slice none 0 0, .int .i64 0, .int .i64 0] 80) = w4 at *
    rw [← hX] at hst ⊢
    clear hX hbw
    go_loopw [6] (fun i wr => ∃ (j : Nat) (q : List (Sc.Rule × Value × Value)) (st : Sc.St) (vs : List (List UInt8)) (E : Int × Int) (va vn vr vv : Value), j ≤ l.length ∧ i = .int .i64 j ∧ RoQ (X + 1) X w.heap.size (w.heap.size + 1) (.slice ao l.length cap) w st vs E va vn vr vv q wr ∧ Sc.onQ (q.map (·.1)) (Sc.rulesQ (l.drop j) st E) = Sc.rulesQ l ⟨[], []⟩ (0, 0) ∧ q.length ≤ j ∧ st.names.length ≤ 5 * j ∧ st.arity.length = st.names.length) (fun i _ => l.length - (intOf i).toNat)
    case atStart => exact ⟨0, [], ⟨[], []⟩, [], (0, 0), _, _, _, _, Nat.zero_le _, rfl, hst, Sc.onQ_nil _, Nat.le_refl _, Nat.zero_le _, rfl⟩
    case round =>
      clear hst
      obtain ⟨wo, hwo⟩ : ∃ wo, wo = wr := ⟨_, rfl⟩
      subst hwo
      obtain ⟨j, q, st, vs, E, va, vn, vr, vv, hj', rfl, hI, hgo, hql, hsn, hse⟩ := hrel
      have HGO : Hid _ := hgo
      have HSE : Hid _ := hse
      clear hgo hse
      obtain ⟨aor, capr, rfl⟩ := own_slice hI.ow
      obtain ⟨aoa, capa, rfl⟩ := own_slice hI.rq.oa
      obtain ⟨aon, capn, rfl⟩ := own_slice hI.rq.on
      obtain ⟨aov, capv, rfl⟩ := own_slice hI.rq.ov
      obtain ⟨c0, x0, x1, x2, x3, x4, x5, xf2, xf3⟩ := hI.cells
      by_cases hjl : j < l.length
      · cases he : (E.2 == 0)
        · have HEn : Hid (¬ E.2 = 0) := by show ¬ _; simpa using he
          have HEND : Hid (Sc.rulesQ l ⟨[], []⟩ (0, 0) = (q.map (·.1), st, E)) := HGO.out.symm.trans (Sc.onQ_end (.inr HEn.out))
          obtain ⟨o0, o1, o2, of0, of1, of2⟩ : wo.cell? ⟨w.heap.size + 1, 0, none⟩ = some (.slice none 0 0) ∧ wo.cell? ⟨w.heap.size + 1, 1, none⟩ = some (.slice none 0 0) ∧ wo.cell? ⟨w.heap.size + 1, 2, none⟩ = some (.slice none 0 0) ∧ wo.frozen? ⟨w.heap.size + 1, 0, none⟩ = false ∧ wo.frozen? ⟨w.heap.size + 1, 1, none⟩ = false ∧ wo.frozen? ⟨w.heap.size + 1, 2, none⟩ = false := ⟨by rw [Lib.cell_of_heap hI.pb]; rfl, by rw [Lib.cell_of_heap hI.pb]; rfl, by rw [Lib.cell_of_heap hI.pb]; rfl, Lib.frozen_of_heap hI.pb 0, Lib.frozen_of_heap hI.pb 1, Lib.frozen_of_heap hI.pb 2⟩
          have HV : Hid (Sc.resolveOf l = (⟨[], [], []⟩, E.1, E.2)) := resolve_bad9 HC.out HEND.out HEn.out
          have HFin : Hid (∀ w9, SetB (w.heap.size + 1) wo w9 → Below w.heap.size w w9) := fun w9 h9 => ⟨h9.os.trans hI.fr.os, h9.tape.trans hI.fr.tape, h9.output.trans hI.fr.output, by rw [h9.size]; exact hI.fr.size, fun k hk => (h9.block k (by omega)).trans (hI.fr.low k hk)⟩
          have hne : (E.2 != 0) = true := by simpa using HEn.out
          clear hI HEND HGO HSE x0 x1 x2 x3 xf2 xf3 HA HV0 HFT
          go_upto_region 24 with fail
          go_region_law fail
          all_goals go_wp2_with fail
          all_goals refine bodyPost_ret (v := .tuple #[progVal (.slice none 0 0) (.slice none 0 0) (.slice none 0 0), .int .i64 E.1, .int .i64 E.2]) (by simp [results, Tryz.results13, go_sem, o0, o1, o2]) rfl ⟨_, _, _, by rw [HV.out], by rw [HV.out]; exact fun _ _ => progV_nil _, HFin.out _ ?_⟩
          all_goals exact (((SetB.one _ _ _ _).trans (SetB.one _ _ _ _)).trans (SetB.one _ _ _ _)).drew
        · have HE0 : Hid (E.2 = 0) := by show E.2 = 0; simpa using he
          obtain ⟨b, off, rfl, p0, p1, ⟨tv, p2, hTv⟩, p3, lv, p4, hLv⟩ := rules_at HA.out j hjl
          have q0 := cell_low p0 hI.fr.low
          have q1 := cell_low p1 hI.fr.low
          have q2 := cell_low p2 hI.fr.low
          have q3 := cell_low p3 hI.fr.low
          have q4 := cell_low p4 hI.fr.low
          have hmem : Tr.ruleD l j ∈ l := by simp [Tr.ruleD, hjl]
          have hfit := (HFT.out _ hmem).1
          have hbody : (Tr.ruleD l j).body.length ≤ 4 := hfit.bn
          have htn : (Tr.ruleD l j).terms.length ≤ 3 := hfit.tn
          have HQF : Hid (Sc.QFit (Tr.ruleD l j)) := hfit
          have HTV : Hid (TermsV w tv (Tr.ruleD l j).terms) := hTv
          obtain ⟨at2, ct2, rfl, _⟩ := hTv
          obtain ⟨ab2, cb2, rfl, hLA⟩ := hLv
          have HLA : Hid (LitsAt w ab2 (Tr.ruleD l j).body) := hLA
          have HGO2 : Hid _ := (Sc.onQ_step hjl HE0.out).symm.trans HGO.out
          clear p0 p1 p2 p3 p4 HGO hfit hmem hLA
          generalize hx : Tr.ruleD l j = x at *
          clear hx
          have hR0 := RuQ.start hI x (.slice at2 x.terms.length ct2) (.slice ab2 x.body.length cb2) x.fold
          have hsz := hI.rq.sz
          have hwr := hI.fr.size
          have hB0 := hR0.b0
          have xf3a : (wo.alloc (.cells (foArr x (.slice at2 x.terms.length ct2) (.slice ab2 x.body.length cb2)) 57)).frozen? ⟨X, 3, none⟩ = false := Lib.frozen_of_heap (hI.rq.below ((Below.refl _ _).alloc (Nat.le_refl _) (.cells (foArr x (.slice at2 x.terms.length ct2) (.slice ab2 x.body.length cb2)) 57))).box 3
          have x3a : (wo.alloc (.cells (foArr x (.slice at2 x.terms.length ct2) (.slice ab2 x.body.length cb2)) 57)).cell? ⟨X, 3, none⟩ = some (.slice aov vs.length capv) := by rw [Lib.cell_of_heap (hI.rq.below ((Below.refl _ _).alloc (Nat.le_refl _) (.cells (foArr x (.slice at2 x.terms.length ct2) (.slice ab2 x.body.length cb2)) 57))).box]; rfl
          go_upto_region 9 with fail
          clear x0 x1 x2 x3 x4 x5 xf2 xf3 x3a xf3a c0 q0 q1 q2 q3 q4
          have hfo : ((wo.alloc (.cells (foArr x (.slice at2 x.terms.length ct2) (.slice ab2 x.body.length cb2)) 57)).setCell ⟨X, 3, none⟩ (.slice none 0 0)).heap[wo.heap.size]? = some (.cells (foArr x (.slice at2 x.terms.length ct2) (.slice ab2 x.body.length cb2)) 57) := ((SetB.one X _ 3 (.slice none 0 0)).block _ (by omega)).trans (heap_alloc_new wo _)
          have m3 : ((wo.alloc (.cells (foArr x (.slice at2 x.terms.length ct2) (.slice ab2 x.body.length cb2)) 57)).setCell ⟨X, 3, none⟩ (.slice none 0 0)).cell? ⟨wo.heap.size, 3, none⟩ = some (.int .i64 x.fold) := by rw [Lib.cell_of_heap hfo]; rfl
          go_upto_region 10 with fail
          clear hfo m3
          generalize ((wo.alloc (.cells (foArr x (.slice at2 x.terms.length ct2) (.slice ab2 x.body.length cb2)) 57)).setCell ⟨X, 3, none⟩ (.slice none 0 0)).alloc (.cells #[.int .i64 0, .slice none 0 0, .int .i64 x.fold, .slice none 0 0, .int .i64 0] 67) = z0 at *
          have m0 : z0.cell? ⟨wo.heap.size, 0, none⟩ = some (.int .i64 x.at_) := by rw [Lib.cell_of_heap hR0.fb]; rfl
          have m1 : z0.cell? ⟨wo.heap.size, 1, none⟩ = some (.string ⟨x.name.toArray⟩) := by rw [Lib.cell_of_heap hR0.fb]; rfl
          have m2 : z0.cell? ⟨wo.heap.size, 2, none⟩ = some (.slice at2 x.terms.length ct2) := by rw [Lib.cell_of_heap hR0.fb]; rfl
          go_wp2_with fail
          refine Calls.mono (predQ_any w.heap.size (X + 1) X st [] _ _ _ _ E.1 E.2 x.at_ x.terms.length x.name z0 hR0.rq hB0 HSE.out (by omega)) ?_
          intro e z1 hpq
          obtain ⟨va1, vn1, rfl, hf1, hq1⟩ := predQ_E hpq
          have hR1 := RuQ.step (s2 := ⟨st.with x.name x.terms.length, [], Sc.predE st x.at_ x.name x.terms.length E⟩) hR0 hq1 hf1
          clear hpq hf1 hq1 hR0 m0 m1 m2
          obtain ⟨k, hk⟩ : ∃ k : Int, k = (st.names.idxOf x.name : Int) := ⟨_, rfl⟩
          rw [← hk]
          have HK : Hid (k = (st.names.idxOf x.name : Int)) := hk
          clear hk
          obtain ⟨y0, -, -, -, -, yf0, -, -, -⟩ := hR1.cells
          have hR2 := RuQ.rebox (k2 := k) hR1 (SetB.one (wo.heap.size + 1) z1 0 (.int .i64 k)) (by rw [Lib.heap_setCell_same hR1.bx]; rfl) hR1.tm
          clear hR1
          go_upto_region 11 with fail
          clear y0 yf0
          generalize z1.setCell ⟨wo.heap.size + 1, 0, none⟩ (.int .i64 k) = z2 at *
          have m0 : z2.cell? ⟨wo.heap.size, 0, none⟩ = some (.int .i64 x.at_) := by rw [Lib.cell_of_heap hR2.fb]; rfl
          have m2 : z2.cell? ⟨wo.heap.size, 2, none⟩ = some (.slice at2 x.terms.length ct2) := by rw [Lib.cell_of_heap hR2.fb]; rfl
          go_wp2_with fail
          refine Calls.mono (termsQ_any w.heap.size (X + 1) X _ [] _ _ _ _ _ x.at_ x.terms _ w z2 hR2.rq hB0 rfl (fun i h => (hR2.fr.low i h).trans (hI.fr.low i h)) HTV.out HQF.out.tz (by simp; omega)) ?_
          rintro e z3 ⟨vo, vv3, rfl, hown3, hq3, hf3⟩
          obtain ⟨aot, capt, rfl⟩ := own_slice hown3
          have hT3 : PTermsP (X + 1) z3 (.slice aot (Sc.termsGo x.terms []).length capt) (Sc.termsGo x.terms []) := ⟨RowP.mono (rowP_own (k := 2) (cs := (Sc.termsGo x.terms []).map ptCells) (by intro c hc; obtain ⟨t, _, rfl⟩ := List.mem_map.mp hc; rfl) (by rw [List.length_map]; exact hown3)) (by have := hR2.fr.size; omega), capV_own hown3⟩
          have hR3 := RuQ.step (s2 := Sc.ruleB x st E) hR2 hq3 hf3
          obtain ⟨-, y1, -, -, -, -, yf1, -, -⟩ := hR3.cells
          have hR4 := RuQ.rebox (k2 := k) hR3 (SetB.one (wo.heap.size + 1) z3 1 (.slice aot (Sc.termsGo x.terms []).length capt)) (by rw [Lib.heap_setCell_same hR3.bx]; rfl) hT3
          clear hR3 hR2 hown3 hq3 hf3 hT3 m0 m2
          have HTL : Hid (∃ tl, tl = Sc.termsGo x.terms []) := ⟨_, rfl⟩
          obtain ⟨tl, htl⟩ := HTL.out
          rw [← htl] at hR4 ⊢
          have HTLE : Hid (tl = Sc.termsGo x.terms []) := htl
          clear htl HTL
          go_upto_region 12 with fail
          clear y1 yf1
          generalize z3.setCell ⟨wo.heap.size + 1, 1, none⟩ (.slice aot tl.length capt) = z4 at *
          go_wp2_with fail
          have hn1 : (Sc.ruleB x st E).st.names.length ≤ 5 * j + 1 := by have := Sc.with_len st x.name x.terms.length; show (st.with x.name x.terms.length).names.length ≤ _; omega
          have hv1 : (Sc.ruleB x st E).vs.length ≤ 3 := by have := varsGo_len x.terms []; simp at this; show (Sc.varsGo x.terms []).length ≤ 3; omega
          have HS1 : Hid ((Sc.ruleB x st E).st.arity.length = (Sc.ruleB x st E).st.names.length) := Sc.with_eq st x.name x.terms.length HSE.out
          go_loopw [9] (fun i wq => ∃ (m : Nat) (qs : List (Sc.Lit × Value)) (s : Sc.Qs) (va2 vn2 vv2 vb : Value), m ≤ x.body.length ∧ i = .int .i64 m ∧ RuQ w.heap.size (X + 1) X wo s va2 vn2 (.slice aor q.length capr) vv2 (foArr x (.slice at2 x.terms.length ct2) (.slice ab2 x.body.length cb2)) wo.heap.size (wo.heap.size + 1) k x.fold (.slice aot tl.length capt) vb tl qs wq ∧ qs.map (·.1) ++ Sc.litsQ (x.body.drop m) s = Sc.litsQ x.body (Sc.ruleB x st E) ∧ Sc.litsN (x.body.drop m) s = Sc.litsN x.body (Sc.ruleB x st E) ∧ qs.length ≤ m ∧ s.st.names.length ≤ 5 * j + 1 + m ∧ s.vs.length ≤ 3 + 3 * m ∧ s.st.arity.length = s.st.names.length) (fun i _ => x.body.length - (intOf i).toNat)
          case atStart => exact ⟨0, [], _, _, _, _, _, Nat.zero_le _, rfl, hR4, rfl, rfl, Nat.le_refl _, hn1, hv1, HS1.out⟩
          case round =>
            clear hR4 hn1 hv1 HS1
            obtain ⟨m, qs, s, va2, vn2, vv2, vb, hm, rfl, hR, hg1, hg2, hqs, hsn2, hvn2, hse2⟩ := hrel
            obtain ⟨wq, hwq0⟩ : ∃ wq, wq = wr := ⟨_, rfl⟩
            subst hwq0
            have HQ1 : Hid _ := hg1
            have HQ2 : Hid _ := hg2
            have HSE2 : Hid _ := hse2
            clear hg1 hg2 hse2
            obtain ⟨aob, capb, rfl⟩ := own_slice hR.ow
            by_cases hml : m < x.body.length
            · obtain ⟨b3, off3, rfl, p0, p1, p2, p3, lv, p4, hTv⟩ := lits_at HLA.out m hml
              have hlw : ∀ k, k < w.heap.size → wq.heap[k]? = w.heap[k]? := fun k hk => (hR.fr.low k hk).trans (hI.fr.low k hk)
              have q0 := cell_low p0 hlw
              have q1 := cell_low p1 hlw
              have q2 := cell_low p2 hlw
              have q3 := cell_low p3 hlw
              have q4 := cell_low p4 hlw
              have m4 : wq.cell? ⟨wo.heap.size, 4, none⟩ = some (.slice (some ⟨b3, off3, none⟩) x.body.length cb2) := by rw [Lib.cell_of_heap hR.fb]; rfl
              have HTV3 : Hid (TermsV w lv (Tr.litD x.body m).terms) := hTv
              obtain ⟨at3, ct3, rfl, _⟩ := hTv
              obtain ⟨f1, hlt3, f3⟩ := HQF.out.bl m hml
              have HTZ : Hid (∀ t, t ∈ (Tr.litD x.body m).terms → t.var.isEmpty = false → t.n = 0) := f3
              have HG1 : Hid (qs.map (·.1) ++ (Sc.litQ (Tr.litD x.body m) s :: Sc.litsQ (x.body.drop (m + 1)) (Sc.litN (Tr.litD x.body m) s)) = Sc.litsQ x.body (Sc.ruleB x st E)) := by show _ = _; rw [← Sc.litsQ_drop x.body m hml]; exact HQ1.out
              have HG2 : Hid (Sc.litsN (x.body.drop (m + 1)) (Sc.litN (Tr.litD x.body m) s) = Sc.litsN x.body (Sc.ruleB x st E)) := by show _ = _; rw [← Sc.litsN_drop x.body m hml]; exact HQ2.out
              have HNL : Hid ((Sc.litN (Tr.litD x.body m) s).st.names.length ≤ 5 * j + 1 + (m + 1) ∧ (Sc.litN (Tr.litD x.body m) s).vs.length ≤ 3 + 3 * (m + 1) ∧ (Sc.litN (Tr.litD x.body m) s).st.arity.length = (Sc.litN (Tr.litD x.body m) s).st.names.length) :=
                ⟨by have := Sc.litSt_len (Tr.litD x.body m) s.st; show (Sc.litSt _ _).names.length ≤ _; omega, by have := varsGo_len (Tr.litD x.body m).terms s.vs; show (Sc.varsGo _ _).length ≤ _; omega, Sc.litSt_eq _ _ HSE2.out⟩
              clear p0 p1 p2 p3 p4 HQ1 HQ2 hlw f3
              generalize hy : Tr.litD x.body m = y at *
              clear hy
              go_upto_region 16 with fail
              have hb1 : Below wq.heap.size wq (wq.alloc (.cells #[.int .i64 y.kind, .int .i64 y.at_, .int .i64 y.op, .string ⟨y.name.toArray⟩, .slice at3 y.terms.length ct3] 61)) := (Below.refl _ _).alloc (Nat.le_refl _) _
              have hLo := heap_alloc_new wq (.cells #[.int .i64 y.kind, .int .i64 y.at_, .int .i64 y.op, .string ⟨y.name.toArray⟩, .slice at3 y.terms.length ct3] 61)
              have hRl := hR.below hb1
              have hsl : (wq.alloc (.cells #[.int .i64 y.kind, .int .i64 y.at_, .int .i64 y.op, .string ⟨y.name.toArray⟩, .slice at3 y.terms.length ct3] 61)).heap.size = wq.heap.size + 1 := by simp
              have hltv : ∀ g, (Value.slice aob qs.length capb).ownBlock = some g → g < wq.heap.size + 1 := fun g hg => Nat.lt_succ_of_lt (hR.ow.lt g hg).2
              have hwq := hR.fr.size
              clear hR hb1 q0 q1 q2 q3 q4 m4
              generalize wq.alloc (.cells #[.int .i64 y.kind, .int .i64 y.at_, .int .i64 y.op, .string ⟨y.name.toArray⟩, .slice at3 y.terms.length ct3] 61) = zl at *
              have k0 : zl.cell? ⟨wq.heap.size, 0, none⟩ = some (.int .i64 y.kind) := by rw [Lib.cell_of_heap hLo]; rfl
              have k2 : zl.cell? ⟨wq.heap.size, 2, none⟩ = some (.int .i64 y.op) := by rw [Lib.cell_of_heap hLo]; rfl
              go_upto_region 17 with fail
              clear k0 k2
              have hb2 : Below zl.heap.size zl (zl.alloc (.cells #[.int .i64 y.kind, .int .i64 y.op, .int .i64 0, .slice none 0 0] 84)) := (Below.refl _ _).alloc (Nat.le_refl _) _
              have hZo := heap_alloc_new zl (.cells #[.int .i64 y.kind, .int .i64 y.op, .int .i64 0, .slice none 0 0] 84)
              have hRz := hRl.below hb2
              have hLo2 := (hb2.block _ (heap_lt hLo)).trans hLo
              rw [hsl] at hZo
              have hlt := hltv
              clear hRl hb2 hLo hltv
              generalize zl.alloc (.cells #[.int .i64 y.kind, .int .i64 y.op, .int .i64 0, .slice none 0 0] 84) = zz at *
              have k0 : zz.cell? ⟨wq.heap.size, 0, none⟩ = some (.int .i64 y.kind) := by rw [Lib.cell_of_heap hLo2]; rfl
              have k1 : zz.cell? ⟨wq.heap.size, 1, none⟩ = some (.int .i64 y.at_) := by rw [Lib.cell_of_heap hLo2]; rfl
              have k2 : zz.cell? ⟨wq.heap.size, 2, none⟩ = some (.int .i64 y.op) := by rw [Lib.cell_of_heap hLo2]; rfl
              have k3 : zz.cell? ⟨wq.heap.size, 3, none⟩ = some (.string ⟨y.name.toArray⟩) := by rw [Lib.cell_of_heap hLo2]; rfl
              have k4 : zz.cell? ⟨wq.heap.size, 4, none⟩ = some (.slice at3 y.terms.length ct3) := by rw [Lib.cell_of_heap hLo2]; rfl
              by_cases hk2 : y.kind ≤ 2
              · have HKK0 : Hid (Sc.litK y s = (s.st.names.idxOf y.name : Int)) := if_pos hk2
                have HS0 : Hid (Sc.litN y s = ⟨s.st.with y.name y.terms.length, Sc.varsGo y.terms s.vs, Sc.errsGo y.at_ y.terms (Sc.predE s.st y.at_ y.name y.terms.length s.E)⟩) := by show _ = _; unfold Sc.litN Sc.litSt Sc.litE1; rw [if_pos hk2, if_pos hk2]
                have HSN := HS0
                go_wp2_with fail
                refine Calls.mono (predQ_any w.heap.size (X + 1) X s.st s.vs _ _ _ _ s.E.1 s.E.2 y.at_ y.terms.length y.name zz hRz.rq hB0 HSE2.out (by omega)) ?_
                intro e z6 hpq
                obtain ⟨va6, vn6, rfl, hf6, hq6⟩ := predQ_E hpq
                have hR6 := RuQ.step (s2 := ⟨s.st.with y.name y.terms.length, s.vs, Sc.predE s.st y.at_ y.name y.terms.length s.E⟩) hRz hq6 hf6
                have hLo6 := hf6.box hLo2 (by omega) (by decide) (by decide)
                have hZo6 := hf6.box hZo (by omega) (by decide) (by decide)
                clear hpq hf6 hq6 hRz hLo2 hZo
                obtain ⟨kk, hkk⟩ : ∃ k : Int, k = (s.st.names.idxOf y.name : Int) := ⟨_, rfl⟩
                rw [← hkk]
                have HKK : Hid (kk = Sc.litK y s) := hkk.trans HKK0.out.symm
                clear hkk HKK0
                have n2 : z6.cell? ⟨wq.heap.size + 1, 2, none⟩ = some (.int .i64 0) := by rw [Lib.cell_of_heap hZo6]; rfl
                have nf2 : z6.frozen? ⟨wq.heap.size + 1, 2, none⟩ = false := Lib.frozen_of_heap hZo6 2
                have hs7 := SetB.one (wq.heap.size + 1) z6 2 (.int .i64 kk)
                have hR7 := RuQ.setZ hR6 hs7 hZo6 hlt (by omega)
                have hLo7 := (hs7.block wq.heap.size (by omega)).trans hLo6
                have hZo7 : (z6.setCell ⟨wq.heap.size + 1, 2, none⟩ (.int .i64 kk)).heap[wq.heap.size + 1]? = some (.cells #[.int .i64 y.kind, .int .i64 y.op, .int .i64 kk, .slice none 0 0] 84) := by rw [Lib.heap_setCell_same hZo6]; rfl
                clear hR6 hLo6 hZo6 hs7
                go_upto_region 19 with fail
                clear n2 nf2
                generalize z6.setCell ⟨wq.heap.size + 1, 2, none⟩ (.int .i64 kk) = z7 at *
                clear k0 k1 k2 k3 k4
                obtain ⟨l1, l4⟩ : z7.cell? ⟨wq.heap.size, 1, none⟩ = some (.int .i64 y.at_) ∧ z7.cell? ⟨wq.heap.size, 4, none⟩ = some (.slice at3 y.terms.length ct3) := ⟨by rw [Lib.cell_of_heap hLo7]; rfl, by rw [Lib.cell_of_heap hLo7]; rfl⟩
                go_wp2_with fail
                refine Calls.mono (termsQ_any w.heap.size (X + 1) X _ _ _ _ _ _ _ y.at_ y.terms _ w z7 hR7.rq hB0 rfl (fun i h => (hR7.fr.low i h).trans (hI.fr.low i h)) HTV3.out HTZ.out (by show s.vs.length + y.terms.length ≤ 1000; omega)) ?_
                rintro e z8 ⟨vo, vv8, rfl, hown8, hq8, hf8⟩
                obtain ⟨aol, capl, rfl⟩ := own_slice hown8
                have hT8 : PTermsP (X + 1) z8 (.slice aol (Sc.termsGo y.terms s.vs).length capl) (Sc.termsGo y.terms s.vs) := ⟨RowP.mono (rowP_own (k := 2) (cs := (Sc.termsGo y.terms s.vs).map ptCells) (by intro c hc; obtain ⟨t, _, rfl⟩ := List.mem_map.mp hc; rfl) (by rw [List.length_map]; exact hown8)) (by have := hR7.fr.size; omega), capV_own hown8⟩
                have hR8 := RuQ.step (s2 := Sc.litN y s) hR7 (by rw [HSN.out]; exact hq8) hf8
                have hZo8 := hf8.box hZo7 (by omega) (by decide) (by decide)
                have n3 : z8.cell? ⟨wq.heap.size + 1, 3, none⟩ = some (.slice none 0 0) := by rw [Lib.cell_of_heap hZo8]; rfl
                have nf3 : z8.frozen? ⟨wq.heap.size + 1, 3, none⟩ = false := Lib.frozen_of_heap hZo8 3
                have hs9 := SetB.one (wq.heap.size + 1) z8 3 (.slice aol (Sc.termsGo y.terms s.vs).length capl)
                have hR9 := RuQ.setZ hR8 hs9 hZo8 hlt (by omega)
                have hT9 := RuQ.keepT hs9 hZo8 (by decide) hT8
                have hZo9 : (z8.setCell ⟨wq.heap.size + 1, 3, none⟩ (.slice aol (Sc.termsGo y.terms s.vs).length capl)).heap[wq.heap.size + 1]? = some (.cells #[.int .i64 y.kind, .int .i64 y.op, .int .i64 kk, .slice aol (Sc.termsGo y.terms s.vs).length capl] 84) := by rw [Lib.heap_setCell_same hZo8]; rfl
                clear hown8 hq8 hf8 hT8 hR8 hZo8 hs9 hR7 hLo7 hZo7 l1 l4
                obtain ⟨tl2, htl2⟩ : ∃ tl2, tl2 = Sc.termsGo y.terms s.vs := ⟨_, rfl⟩
                have HLY : Hid ((⟨y.kind, y.op, kk, tl2⟩ : Sc.Lit) = Sc.litQ y s) := by show _ = _; rw [htl2, HKK.out]; rfl
                have htlen : tl2.length ≤ 3 := by rw [htl2, termsGo_length]; exact hlt3
                rw [← htl2] at hR9 hT9 hZo9 ⊢
                clear htl2
                go_upto_region 20 with fail
                clear n3 nf3
                generalize z8.setCell ⟨wq.heap.size + 1, 3, none⟩ (.slice aol tl2.length capl) = z9 at *
                obtain ⟨-, -, -, d3, -, -, -, df3, -⟩ := hR9.cells
                have e0 : z9.cell? ⟨wq.heap.size + 1, 0, none⟩ = some (.int .i64 y.kind) := by rw [Lib.cell_of_heap hZo9]; rfl
                have e1 : z9.cell? ⟨wq.heap.size + 1, 1, none⟩ = some (.int .i64 y.op) := by rw [Lib.cell_of_heap hZo9]; rfl
                have e2 : z9.cell? ⟨wq.heap.size + 1, 2, none⟩ = some (.int .i64 kk) := by rw [Lib.cell_of_heap hZo9]; rfl
                have e3 : z9.cell? ⟨wq.heap.size + 1, 3, none⟩ = some (.slice aol tl2.length capl) := by rw [Lib.cell_of_heap hZo9]; rfl
                have hz9 := heap_lt hR9.bx
                go_wp2_with (at_builtin; refine wpList_append_own _ rfl (.tmp 89) (.tmp 91) 65 rfl (wo.heap.size + 1 + 1) 84 i0 _ 4 48 Tryz.underlying65 hi hy0 hy1 hy2 rfl (by decide) _ _ _ rfl (hR9.ow.alloc _) ⟨z9.heap.size, 0, none⟩ 1 1 (plCells (⟨y.kind, y.op, kk, tl2⟩, .slice aol tl2.length capl)) rfl rfl ?c1 ?c2 ?c3 ?c4 ?c5 ?_)
                case c1 => exact news_plit _ _ _
                case c2 => exact one_plit _ _ _ _
                case c3 => unfold maxLen; omega
                case c4 => omega
                case c5 => simp; omega
                intro vb' z10 hown10 hgrow10 _
                obtain ⟨aob9, capb9, rfl⟩ := own_slice hown10
                have hba : Below z9.heap.size z9 (z9.alloc (.cells #[.int .i64 y.kind, .int .i64 y.op, .int .i64 kk, .slice aol tl2.length capl] 84)) := (Below.refl _ _).alloc (Nat.le_refl _) _
                have hRa := hR9.below hba
                have hTa : PTermsP (X + 1) (z9.alloc (.cells #[.int .i64 y.kind, .int .i64 y.op, .int .i64 kk, .slice aol tl2.length capl] 84)) (.slice aol tl2.length capl) tl2 := ⟨RowP.keep (E := (· = 130)) hT9.1 (fun b cur e fz _ _ hh => hba.block b (heap_lt hh)) rfl, hT9.2⟩
                have hRb := RuQ.put (x := ⟨y.kind, y.op, kk, tl2⟩) hRa hgrow10 hown10 hTa
                have hbx := grown_cells hgrow10 hRa.ow hRa.bx (by decide)
                have g3 : z10.cell? ⟨wo.heap.size + 1, 3, none⟩ = some (.slice aob qs.length capb) := by rw [Lib.cell_of_heap hbx]; rfl
                have gf3 : z10.frozen? ⟨wo.heap.size + 1, 3, none⟩ = false := Lib.frozen_of_heap hbx 3
                clear hRa hTa hba hbx hown10 hgrow10 hR9 hT9 hZo9 d3 df3 e0 e1 e2 e3
                go_wp2_with fail
                go_roundw
                case rel => exact ⟨m + 1, qs ++ [(⟨y.kind, y.op, kk, tl2⟩, _)], Sc.litN y s, _, _, _, _, by omega, by go_num, hRb, by have h7 := HG1.out; rw [← HLY.out] at h7; simpa using h7, HG2.out, by rw [List.length_append]; simp; omega, HNL.out.1, HNL.out.2.1, HNL.out.2.2⟩
                case measure => simp [intOf]; omega
              · have hk3 : 2 < y.kind := by omega
                have HSN : Hid (Sc.litN y s = ⟨s.st, Sc.varsGo y.terms s.vs, Sc.errsGo y.at_ y.terms s.E⟩) := by show _ = _; unfold Sc.litN Sc.litSt Sc.litE1; rw [if_neg hk2, if_neg hk2]
                obtain ⟨kk, hkk⟩ : ∃ k : Int, k = 0 := ⟨_, rfl⟩
                have HKK : Hid (kk = Sc.litK y s) := hkk.trans (if_neg hk2).symm
                go_upto_region 19 with fail
                rw [← hkk] at hZo
                have hR7 := RuQ.step (s2 := ⟨s.st, s.vs, s.E⟩) hRz hRz.rq (FrL.of_below (Below.refl _ _) (by have := hRz.fr.size; omega))
                have hLo7 := hLo2
                have hZo7 := hZo
                clear hRz hLo2 hZo hkk
                generalize zz = z7 at *
                clear k0 k1 k2 k3 k4
                obtain ⟨l1, l4⟩ : z7.cell? ⟨wq.heap.size, 1, none⟩ = some (.int .i64 y.at_) ∧ z7.cell? ⟨wq.heap.size, 4, none⟩ = some (.slice at3 y.terms.length ct3) := ⟨by rw [Lib.cell_of_heap hLo7]; rfl, by rw [Lib.cell_of_heap hLo7]; rfl⟩
                go_wp2_with fail
                refine Calls.mono (termsQ_any w.heap.size (X + 1) X _ _ _ _ _ _ _ y.at_ y.terms _ w z7 hR7.rq hB0 rfl (fun i h => (hR7.fr.low i h).trans (hI.fr.low i h)) HTV3.out HTZ.out (by show s.vs.length + y.terms.length ≤ 1000; omega)) ?_
                rintro e z8 ⟨vo, vv8, rfl, hown8, hq8, hf8⟩
                obtain ⟨aol, capl, rfl⟩ := own_slice hown8
                have hT8 : PTermsP (X + 1) z8 (.slice aol (Sc.termsGo y.terms s.vs).length capl) (Sc.termsGo y.terms s.vs) := ⟨RowP.mono (rowP_own (k := 2) (cs := (Sc.termsGo y.terms s.vs).map ptCells) (by intro c hc; obtain ⟨t, _, rfl⟩ := List.mem_map.mp hc; rfl) (by rw [List.length_map]; exact hown8)) (by have := hR7.fr.size; omega), capV_own hown8⟩
                have hR8 := RuQ.step (s2 := Sc.litN y s) hR7 (by rw [HSN.out]; exact hq8) hf8
                have hZo8 := hf8.box hZo7 (by omega) (by decide) (by decide)
                have n3 : z8.cell? ⟨wq.heap.size + 1, 3, none⟩ = some (.slice none 0 0) := by rw [Lib.cell_of_heap hZo8]; rfl
                have nf3 : z8.frozen? ⟨wq.heap.size + 1, 3, none⟩ = false := Lib.frozen_of_heap hZo8 3
                have hs9 := SetB.one (wq.heap.size + 1) z8 3 (.slice aol (Sc.termsGo y.terms s.vs).length capl)
                have hR9 := RuQ.setZ hR8 hs9 hZo8 hlt (by omega)
                have hT9 := RuQ.keepT hs9 hZo8 (by decide) hT8
                have hZo9 : (z8.setCell ⟨wq.heap.size + 1, 3, none⟩ (.slice aol (Sc.termsGo y.terms s.vs).length capl)).heap[wq.heap.size + 1]? = some (.cells #[.int .i64 y.kind, .int .i64 y.op, .int .i64 kk, .slice aol (Sc.termsGo y.terms s.vs).length capl] 84) := by rw [Lib.heap_setCell_same hZo8]; rfl
                clear hown8 hq8 hf8 hT8 hR8 hZo8 hs9 hR7 hLo7 hZo7 l1 l4
                obtain ⟨tl2, htl2⟩ : ∃ tl2, tl2 = Sc.termsGo y.terms s.vs := ⟨_, rfl⟩
                have HLY : Hid ((⟨y.kind, y.op, kk, tl2⟩ : Sc.Lit) = Sc.litQ y s) := by show _ = _; rw [htl2, HKK.out]; rfl
                have htlen : tl2.length ≤ 3 := by rw [htl2, termsGo_length]; exact hlt3
                rw [← htl2] at hR9 hT9 hZo9 ⊢
                clear htl2
                go_upto_region 20 with fail
                clear n3 nf3
                generalize z8.setCell ⟨wq.heap.size + 1, 3, none⟩ (.slice aol tl2.length capl) = z9 at *
                obtain ⟨-, -, -, d3, -, -, -, df3, -⟩ := hR9.cells
                have e0 : z9.cell? ⟨wq.heap.size + 1, 0, none⟩ = some (.int .i64 y.kind) := by rw [Lib.cell_of_heap hZo9]; rfl
                have e1 : z9.cell? ⟨wq.heap.size + 1, 1, none⟩ = some (.int .i64 y.op) := by rw [Lib.cell_of_heap hZo9]; rfl
                have e2 : z9.cell? ⟨wq.heap.size + 1, 2, none⟩ = some (.int .i64 kk) := by rw [Lib.cell_of_heap hZo9]; rfl
                have e3 : z9.cell? ⟨wq.heap.size + 1, 3, none⟩ = some (.slice aol tl2.length capl) := by rw [Lib.cell_of_heap hZo9]; rfl
                have hz9 := heap_lt hR9.bx
                go_wp2_with (at_builtin; refine wpList_append_own _ rfl (.tmp 89) (.tmp 91) 65 rfl (wo.heap.size + 1 + 1) 84 i0 _ 4 48 Tryz.underlying65 hi hy0 hy1 hy2 rfl (by decide) _ _ _ rfl (hR9.ow.alloc _) ⟨z9.heap.size, 0, none⟩ 1 1 (plCells (⟨y.kind, y.op, kk, tl2⟩, .slice aol tl2.length capl)) rfl rfl ?c1 ?c2 ?c3 ?c4 ?c5 ?_)
                case c1 => exact news_plit _ _ _
                case c2 => exact one_plit _ _ _ _
                case c3 => unfold maxLen; omega
                case c4 => omega
                case c5 => simp; omega
                intro vb' z10 hown10 hgrow10 _
                obtain ⟨aob9, capb9, rfl⟩ := own_slice hown10
                have hba : Below z9.heap.size z9 (z9.alloc (.cells #[.int .i64 y.kind, .int .i64 y.op, .int .i64 kk, .slice aol tl2.length capl] 84)) := (Below.refl _ _).alloc (Nat.le_refl _) _
                have hRa := hR9.below hba
                have hTa : PTermsP (X + 1) (z9.alloc (.cells #[.int .i64 y.kind, .int .i64 y.op, .int .i64 kk, .slice aol tl2.length capl] 84)) (.slice aol tl2.length capl) tl2 := ⟨RowP.keep (E := (· = 130)) hT9.1 (fun b cur e fz _ _ hh => hba.block b (heap_lt hh)) rfl, hT9.2⟩
                have hRb := RuQ.put (x := ⟨y.kind, y.op, kk, tl2⟩) hRa hgrow10 hown10 hTa
                have hbx := grown_cells hgrow10 hRa.ow hRa.bx (by decide)
                have g3 : z10.cell? ⟨wo.heap.size + 1, 3, none⟩ = some (.slice aob qs.length capb) := by rw [Lib.cell_of_heap hbx]; rfl
                have gf3 : z10.frozen? ⟨wo.heap.size + 1, 3, none⟩ = false := Lib.frozen_of_heap hbx 3
                clear hRa hTa hba hbx hown10 hgrow10 hR9 hT9 hZo9 d3 df3 e0 e1 e2 e3
                go_wp2_with fail
                go_roundw
                case rel => exact ⟨m + 1, qs ++ [(⟨y.kind, y.op, kk, tl2⟩, _)], Sc.litN y s, _, _, _, _, by omega, by go_num, hRb, by have h7 := HG1.out; rw [← HLY.out] at h7; simpa using h7, HG2.out, by rw [List.length_append]; simp; omega, HNL.out.1, HNL.out.2.1, HNL.out.2.2⟩
                case measure => simp [intOf]; omega
            · have hme : m = x.body.length := by omega
              obtain ⟨aov2, capv2, rfl⟩ := own_slice hR.rq.ov
              have HRX : Hid ((⟨k, tl, x.fold, qs.map (·.1), s.vs.length⟩ : Sc.Rule) = Sc.ruleQ x st E ∧ s = Sc.ruleN x st E) := by
                have h1 := HQ1.out
                have h2 := HQ2.out
                rw [List.drop_of_length_le (by omega)] at h1 h2
                simp only [Sc.litsQ, List.append_nil] at h1
                simp only [Sc.litsN] at h2
                refine ⟨?_, h2⟩
                unfold Sc.ruleQ
                rw [HK.out, HTLE.out, h1, ← h2]
              have m4 : wq.cell? ⟨wo.heap.size, 4, none⟩ = some (.slice ab2 x.body.length cb2) := by rw [Lib.cell_of_heap hR.fb]; rfl
              have v3 : wq.cell? ⟨X, 3, none⟩ = some (.slice aov2 s.vs.length capv2) := by rw [Lib.cell_of_heap hR.rq.box]; rfl
              obtain ⟨-, -, -, -, d4, -, -, -, df4⟩ := hR.cells
              have hs5 := SetB.one (wo.heap.size + 1) wq 4 (.int .i64 s.vs.length)
              obtain ⟨hq5, hT5, hL5, hf5⟩ := hR.fin hs5
              have hY5 : (wq.setCell ⟨wo.heap.size + 1, 4, none⟩ (.int .i64 s.vs.length)).heap[wo.heap.size + 1]? = some (.cells #[.int .i64 k, .slice aot tl.length capt, .int .i64 x.fold, .slice aob qs.length capb, .int .i64 s.vs.length] 67) := by rw [Lib.heap_setCell_same hR.bx]; rfl
              have hO5 := hI.step (E2 := s.E) hq5 hf5
              have hnn : s.st.names.length ≤ 5 * (j + 1) := by omega
              clear hR hs5 hq5 hf5 hI hme HQ1 HQ2
              go_upto_region 22 with fail
              clear m4 v3 d4 df4
              generalize wq.setCell ⟨wo.heap.size + 1, 4, none⟩ (.int .i64 s.vs.length) = z5 at *
              obtain ⟨-, -, -, r2, -, -, -, rf2, -⟩ := hO5.cells
              have d0 : z5.cell? ⟨wo.heap.size + 1, 0, none⟩ = some (.int .i64 k) := by rw [Lib.cell_of_heap hY5]; rfl
              have d1 : z5.cell? ⟨wo.heap.size + 1, 1, none⟩ = some (.slice aot tl.length capt) := by rw [Lib.cell_of_heap hY5]; rfl
              have d2 : z5.cell? ⟨wo.heap.size + 1, 2, none⟩ = some (.int .i64 x.fold) := by rw [Lib.cell_of_heap hY5]; rfl
              have d3 : z5.cell? ⟨wo.heap.size + 1, 3, none⟩ = some (.slice aob qs.length capb) := by rw [Lib.cell_of_heap hY5]; rfl
              have d4 : z5.cell? ⟨wo.heap.size + 1, 4, none⟩ = some (.int .i64 s.vs.length) := by rw [Lib.cell_of_heap hY5]; rfl
              have hz5 := heap_lt hY5
              obtain ⟨qL, hqL⟩ : ∃ qL : List Sc.Lit, qL = qs.map (·.1) := ⟨_, rfl⟩
              have hlen : qs.length = qL.length := by rw [hqL, List.length_map]
              rw [← hqL] at hL5 HRX
              clear hqL
              rw [hlen] at hL5 hY5 d3
              go_wp2_with (at_builtin; refine wpList_append_own _ rfl (.tmp 100) (.tmp 102) 24 rfl (X + 1) 67 j0 _ 5 72 Tryz.underlying24 hj hz0 hz1 hz2 rfl (by decide) _ _ _ rfl (hO5.ow.alloc _) ⟨z5.heap.size, 0, none⟩ 1 1 (prCells (⟨k, tl, x.fold, qL, s.vs.length⟩, .slice aot tl.length capt, .slice aob qL.length capb)) rfl rfl ?c1 ?c2 ?c3 ?c4 ?c5 ?_)
              case c1 => exact news_prule _ _ _ _
              case c2 => exact one_prule _ _ _ _ _ _ _
              case c3 => unfold maxLen; omega
              case c4 => omega
              case c5 => simp; omega
              intro vr' z6 hown6 hgrow6 _
              obtain ⟨aor9, capr9, rfl⟩ := own_slice hown6
              have hba : Below z5.heap.size z5 (z5.alloc (.cells #[.int .i64 k, .slice aot tl.length capt, .int .i64 x.fold, .slice aob qL.length capb, .int .i64 s.vs.length] 67)) := (Below.refl _ _).alloc (Nat.le_refl _) _
              have hOa := hO5.below hba
              have hP6 := RoQ.put (x := ⟨k, tl, x.fold, qL, s.vs.length⟩) hOa hgrow6 hown6 (hT5.keep (keeps_below _ hba)) (hL5.keep (keeps_below _ hba))
              have hbx := grown_cells hgrow6 hOa.ow hOa.rq.box (by decide)
              have g3 : z6.cell? ⟨X, 2, none⟩ = some (.slice aor q.length capr) := by rw [Lib.cell_of_heap hbx]; rfl
              have gf3 : z6.frozen? ⟨X, 2, none⟩ = false := Lib.frozen_of_heap hbx 2
              have HGO3 : Hid (Sc.onQ ((q ++ [((⟨k, tl, x.fold, qL, s.vs.length⟩ : Sc.Rule), Value.slice aot tl.length capt, Value.slice aob qL.length capb)]).map (·.1)) (Sc.rulesQ (l.drop (j + 1)) s.st s.E) = Sc.rulesQ l ⟨[], []⟩ (0, 0)) := by
                show _ = _
                rw [List.map_append]
                show Sc.onQ (q.map (·.1) ++ [(⟨k, tl, x.fold, qL, s.vs.length⟩ : Sc.Rule)]) _ = _
                rw [HRX.out.1]
                rw [congrArg Sc.Qs.st HRX.out.2, congrArg Sc.Qs.E HRX.out.2]
                exact HGO2.out
              clear hOa hba hbx hown6 hgrow6 hO5 hT5 hL5 hY5 d0 d1 d2 d3 d4 r2 rf2 HRX HGO2
              go_wp2_with fail
              go_roundw
              case rel => exact ⟨j + 1, _, s.st, s.vs, s.E, _, _, _, _, by omega, by go_num, hP6, HGO3.out, by rw [List.length_append]; simp; omega, hnn, HSE2.out⟩
              case measure => simp [intOf]; omega
      · have hbox := hI.rq.box
        have HEND : Hid (Sc.rulesQ l ⟨[], []⟩ (0, 0) = (q.map (·.1), st, E)) := HGO.out.symm.trans (Sc.onQ_end (.inl hjl))
        obtain ⟨o0, o1, o2, of0, of1, of2⟩ : wo.cell? ⟨w.heap.size + 1, 0, none⟩ = some (.slice none 0 0) ∧ wo.cell? ⟨w.heap.size + 1, 1, none⟩ = some (.slice none 0 0) ∧ wo.cell? ⟨w.heap.size + 1, 2, none⟩ = some (.slice none 0 0) ∧ wo.frozen? ⟨w.heap.size + 1, 0, none⟩ = false ∧ wo.frozen? ⟨w.heap.size + 1, 1, none⟩ = false ∧ wo.frozen? ⟨w.heap.size + 1, 2, none⟩ = false := ⟨by rw [Lib.cell_of_heap hI.pb]; rfl, by rw [Lib.cell_of_heap hI.pb]; rfl, by rw [Lib.cell_of_heap hI.pb]; rfl, Lib.frozen_of_heap hI.pb 0, Lib.frozen_of_heap hI.pb 1, Lib.frozen_of_heap hI.pb 2⟩
        cases he : (E.2 == 0)
        · have HEn : Hid (¬ E.2 = 0) := by show ¬ _; simpa using he
          have HV : Hid (Sc.resolveOf l = (⟨[], [], []⟩, E.1, E.2)) := resolve_bad9 HC.out HEND.out HEn.out
          have HFin : Hid (∀ w9, SetB (w.heap.size + 1) wo w9 → Below w.heap.size w w9) := fun w9 h9 => ⟨h9.os.trans hI.fr.os, h9.tape.trans hI.fr.tape, h9.output.trans hI.fr.output, by rw [h9.size]; exact hI.fr.size, fun k hk => (h9.block k (by omega)).trans (hI.fr.low k hk)⟩
          have hne : (E.2 != 0) = true := by simpa using HEn.out
          clear hbox hI HEND HGO HSE x0 x1 x2 x3 xf2 xf3 HA HV0 HFT
          go_upto_region 24 with fail
          go_region_law fail
          all_goals go_wp2_with fail
          all_goals refine bodyPost_ret (v := .tuple #[progVal (.slice none 0 0) (.slice none 0 0) (.slice none 0 0), .int .i64 E.1, .int .i64 E.2]) (by simp [results, Tryz.results13, go_sem, o0, o1, o2]) rfl ⟨_, _, _, by rw [HV.out], by rw [HV.out]; exact fun _ _ => progV_nil _, HFin.out _ ?_⟩
          all_goals exact (((SetB.one _ _ _ _).trans (SetB.one _ _ _ _)).trans (SetB.one _ _ _ _)).drew
        · have HE0 : Hid (E.2 = 0) := by show E.2 = 0; simpa using he
          obtain ⟨pp, hpp⟩ : ∃ pp : Sc.Prog, pp = ⟨st.arity, st.names, q.map (·.1)⟩ := ⟨_, rfl⟩
          have HV : Hid (Sc.resolve l = .inr pp ∧ Sc.resolveOf l = (if Sc.check pp = 0 then (pp, 0, 0) else (⟨[], [], []⟩, 0, Sc.check pp))) := by rw [hpp]; exact resolve_good9 HC.out HEND.out HE0.out
          have HPF : Hid (ProgFit pp) := resolve_fit HV.out.1 HC.out (by rw [hpp]; exact HSE.out)
          have HPV : Hid (∀ z : World, (∀ g, X + 1 ≤ g → g < wo.heap.size → z.heap[g]? = wo.heap[g]?) → ProgV z (.slice aoa st.arity.length capa) (.slice aon st.names.length capn) (.slice aor q.length capr) pp) := fun z hz => by rw [hpp]; exact hI.prog hz
          have hne : (E.2 != 0) = false := by simpa using HE0.out
          have hpx := hI.px
          have hxs := hI.rq.sz
          have hbw : Below w.heap.size w wo := ⟨hI.fr.os, hI.fr.tape, hI.fr.output, hI.fr.size, hI.fr.low⟩
          have hP := hI.pb
          clear hI HEND HGO HSE xf2 xf3 HA HV0 HFT hpp
          go_wp2_with fail
          refine Calls.mono (CheckProgram_any pp _ _ _ wo (HPV.out wo (fun _ _ _ => rfl)) HPF.out) ?_
          rintro e w5 ⟨rfl, hb5⟩
          have hP5 := (hb5.block _ (heap_lt hP)).trans hP
          have hbw5 := hbw.trans (hb5.mono hbw.size)
          clear o0 o1 o2 of0 of1 of2 x0 x1 x2 x3 x4 x5 c0
          have o0 : w5.cell? ⟨w.heap.size + 1, 0, none⟩ = some (.slice none 0 0) := by rw [Lib.cell_of_heap hP5]; rfl
          have o1 : w5.cell? ⟨w.heap.size + 1, 1, none⟩ = some (.slice none 0 0) := by rw [Lib.cell_of_heap hP5]; rfl
          have o2 : w5.cell? ⟨w.heap.size + 1, 2, none⟩ = some (.slice none 0 0) := by rw [Lib.cell_of_heap hP5]; rfl
          have of0 : w5.frozen? ⟨w.heap.size + 1, 0, none⟩ = false := Lib.frozen_of_heap hP5 0
          have of1 : w5.frozen? ⟨w.heap.size + 1, 1, none⟩ = false := Lib.frozen_of_heap hP5 1
          have of2 : w5.frozen? ⟨w.heap.size + 1, 2, none⟩ = false := Lib.frozen_of_heap hP5 2
          have HFin : Hid (∀ w9, SetB (w.heap.size + 1) w5 w9 → Below w.heap.size w w9 ∧ ∀ z, Agree w.heap.size w9 z → ProgV z (.slice aoa st.arity.length capa) (.slice aon st.names.length capn) (.slice aor q.length capr) pp) := fun w9 h9 => ⟨⟨h9.os.trans hbw5.os, h9.tape.trans hbw5.tape, h9.output.trans hbw5.output, by rw [h9.size]; exact hbw5.size, fun k hk => (h9.block k (by omega)).trans (hbw5.block k hk)⟩, fun z hz => HPV.out z (fun g h1 h2 => (hz g (by omega) (by rw [h9.size]; exact Nat.lt_of_lt_of_le h2 hb5.size)).trans ((h9.block g (by omega)).trans (hb5.block g h2)))⟩
          have hq5 := hb5.block X (by omega)
          have hxw : w5.heap[X]? = wo.heap[X]? := hq5
          have y0 : w5.cell? ⟨X, 0, none⟩ = some (.slice aoa st.arity.length capa) := by rw [Lib.cell_of_heap (hxw.trans hbox)]; rfl
          have y1 : w5.cell? ⟨X, 1, none⟩ = some (.slice aon st.names.length capn) := by rw [Lib.cell_of_heap (hxw.trans hbox)]; rfl
          have y2 : w5.cell? ⟨X, 2, none⟩ = some (.slice aor q.length capr) := by rw [Lib.cell_of_heap (hxw.trans hbox)]; rfl
          clear hbw hbw5 hb5 hP hP5 hq5 hxw hbox HPV HPF
          by_cases hcp : Sc.check pp = 0
          · have HV2 : Hid (Sc.resolveOf l = (pp, 0, 0)) := by have h9 := HV.out.2; rw [if_pos hcp] at h9; exact h9
            have hcn : (Sc.check pp != 0) = false := by simp [hcp]
            have HCP : Hid (Sc.check pp = 0) := hcp
            clear hcp HV
            go_wp2_with fail
            refine bodyPost_ret (v := .tuple #[progVal (.slice aoa st.arity.length capa) (.slice aon st.names.length capn) (.slice aor q.length capr), .int .i64 0, .int .i64 (Sc.check pp)]) (by simp [results, Tryz.results13, go_sem, o0, o1, o2]) rfl ⟨_, _, _, by rw [HV2.out, HCP.out], by rw [HV2.out]; exact (HFin.out _ (((SetB.one _ _ _ _).trans (SetB.one _ _ _ _)).trans (SetB.one _ _ _ _))).2, (HFin.out _ (((SetB.one _ _ _ _).trans (SetB.one _ _ _ _)).trans (SetB.one _ _ _ _))).1⟩
          · have HV2 : Hid (Sc.resolveOf l = (⟨[], [], []⟩, 0, Sc.check pp)) := by have h9 := HV.out.2; rw [if_neg hcp] at h9; exact h9
            have hcn : (Sc.check pp != 0) = true := by simpa using hcp
            clear hcp HV
            go_wp2_with fail
            refine bodyPost_ret (v := .tuple #[progVal (.slice none 0 0) (.slice none 0 0) (.slice none 0 0), .int .i64 0, .int .i64 (Sc.check pp)]) (by simp [results, Tryz.results13, go_sem, o0, o1, o2]) rfl ⟨_, _, _, by rw [HV2.out], by rw [HV2.out]; exact fun _ _ => progV_nil _, (HFin.out _ (((SetB.one _ _ _ _).trans (SetB.one _ _ _ _)).trans (SetB.one _ _ _ _))).1⟩
  · have hc' : (Tr.check l != 0) = true := by simpa using hc
    have HV : Hid (Sc.resolveOf l = (⟨[], [], []⟩, 0, 4)) := if_neg hc
    have o0 : w1.cell? ⟨w.heap.size + 1, 0, none⟩ = some (.slice none 0 0) := by rw [Lib.cell_of_heap hP1]; rfl
    have o1 : w1.cell? ⟨w.heap.size + 1, 1, none⟩ = some (.slice none 0 0) := by rw [Lib.cell_of_heap hP1]; rfl
    have o2 : w1.cell? ⟨w.heap.size + 1, 2, none⟩ = some (.slice none 0 0) := by rw [Lib.cell_of_heap hP1]; rfl
    have of0 : w1.frozen? ⟨w.heap.size + 1, 0, none⟩ = false := Lib.frozen_of_heap hP1 0
    have of1 : w1.frozen? ⟨w.heap.size + 1, 1, none⟩ = false := Lib.frozen_of_heap hP1 1
    have of2 : w1.frozen? ⟨w.heap.size + 1, 2, none⟩ = false := Lib.frozen_of_heap hP1 2
    have HFin : Hid (∀ w9, SetB (w.heap.size + 1) w1 w9 → Below w.heap.size w w9) := fun w9 h9 => ⟨h9.os.trans hbw.os, h9.tape.trans hbw.tape, h9.output.trans hbw.output, by rw [h9.size]; exact hbw.size, fun k hk => (h9.block k (by omega)).trans (hbw.block k hk)⟩
    clear hT1 hP1 hbw hc
    go_wp2_with fail
    refine bodyPost_ret (v := .tuple #[progVal (.slice none 0 0) (.slice none 0 0) (.slice none 0 0), .int .i64 0, .int .i64 4]) (by simp [results, Tryz.results13, go_sem, o0, o1, o2]) rfl ⟨_, _, _, by rw [HV.out], by rw [HV.out]; exact fun _ _ => progV_nil _, HFin.out _ (((SetB.one _ _ _ _).trans (SetB.one _ _ _ _)).trans (SetB.one _ _ _ _))⟩

end Go.Proofs.YtgpaleifhcdjnaaGreatDoor

/- A tree that Check passes has no string longer than a text. -/
namespace Go.Proofs.YtgpaleifhcdjnaaGreatDoor

theorem tok_short {k : Int} {t : List UInt8} (h : Tk.isTok k t = true) : t.length ≤ 5000 := by
  unfold Tk.isTok at h
  exact (of_decide_eq_true h).2.1
theorem name_short {t : List UInt8} (h : Tr.isName t = true) : t.length ≤ 5000 := by
  unfold Tr.isName at h
  exact tok_short (Bool.and_eq_true _ _ ▸ h).1
theorem terms_short {l : List Tr.Term} (h : Tr.termsOk l = true) : ∀ t, t ∈ l → t.var.length ≤ 5000 := by
  intro t ht
  have h1 := List.all_eq_true.mp h t ht
  unfold Tr.termOk at h1
  cases hv : t.var.isEmpty
  · rw [hv, if_neg (by simp)] at h1
    exact tok_short (Bool.and_eq_true _ _ ▸ h1).2
  · rw [List.isEmpty_iff.mp hv]
    simp
theorem lit_short {x : Tr.Lit} (h : Tr.litOk x = true) : x.name.length ≤ 5000 := by
  unfold Tr.litOk at h
  have h2 := (Bool.and_eq_true _ _ ▸ h).2
  by_cases h3 : x.kind = 1 ∨ x.kind = 2
  · rw [if_pos h3] at h2
    exact name_short (Bool.and_eq_true _ _ ▸ h2).2
  · rw [if_neg h3] at h2
    have he : x.name.isEmpty = true := by
      by_cases h4 : x.kind = 3
      · rw [if_pos h4] at h2
        simp only [Bool.and_eq_true] at h2
        exact h2.1.2
      · rw [if_neg h4] at h2
        by_cases h5 : x.kind = 4
        · rw [if_pos h5] at h2
          simp only [Bool.and_eq_true] at h2
          exact h2.1.2
        · rw [if_neg h5] at h2
          cases h2
    rw [List.isEmpty_iff.mp he]
    simp
theorem names_of_check {l : List Tr.Rule} (h : Tr.check l = 0) : TrNames l := by
  obtain ⟨_, ha⟩ := Sc.check_ok h
  intro r hr
  have hok := List.all_eq_true.mp ha r hr
  obtain ⟨k1, k2⟩ := Sc.rule_parts hok
  have hn : Tr.isName r.name = true := by
    unfold Tr.ruleOk at hok
    simp only [Bool.and_eq_true] at hok
    exact hok.1.1.1
  refine ⟨name_short hn, terms_short k1, fun x hx => ?_⟩
  have hx2 := List.all_eq_true.mp k2 x hx
  exact ⟨lit_short hx2, terms_short (Sc.lit_terms hx2)⟩

end Go.Proofs.YtgpaleifhcdjnaaGreatDoor

