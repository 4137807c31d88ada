/- Own texts, one behind the other (part 11). -/
import Derived.Test.YtmfaodapofamfaaGreatBundleJ
import Derived.Test.YtmfaodapofamfaaGreatRows
import Derived.ProofKit
import Derived.JoinedOf
/- The law GossipTells: Missing and Round answer just what the document says. -/
namespace Go.Proofs.YtmfaodapofamfaaGreat
open Go.RowKit

theorem IdS.kn {l : List Wr.Id} {w w' : World} {v : Value} (h : IdS l w v) (k : Kn w w') : IdS l w' v := by
  obtain ⟨a, n, c, e, h⟩ := h
  exact ⟨a, n, c, e, k.ids h⟩
theorem CpU.kn {l : List Wr.Up} {w w' : World} {v : Value} (h : CpU l w v) (k : Kn w w') : CpU l w' v := by
  obtain ⟨a, n, c, e, h⟩ := h
  exact ⟨a, n, c, e, h.kn k⟩
theorem cpv_u {l : List Wr.Up} {w : World} {v : Value} {R : List Uv} (h1 : UpsV w v R) (h2 : ∀ x, x ∈ R → UvOk w x) (h3 : ups R = l) : CpU l w v := by
  obtain ⟨a, c, rfl, _⟩ := id h1
  exact ⟨a, _, c, rfl, R, h1, h2, h3⟩
def ToN (M : List Wr.Up) (g : Int) (ob : Bool) (w : World) (v : Value) : Prop := ∃ a1 n1 c1 a2 n2 c2, v = .tuple #[.agg #[.slice a1 n1 c1, .slice a2 n2 c2], .bool ob] ∧ ReE M g w (.slice a1 n1 c1) (.slice a2 n2 c2)
theorem ToN.kn {M : List Wr.Up} {g : Int} {ob : Bool} {w w' : World} {v : Value} (h : ToN M g ob w v) (k : Kn w w') : ToN M g ob w' v := by
  obtain ⟨a1, n1, c1, a2, n2, c2, e, h⟩ := h
  exact ⟨a1, n1, c1, a2, n2, c2, e, h.kn k⟩
def TrN (M : List Wr.Up) (g : Int) (w : World) (v : Value) : Prop := ∃ a1 n1 c1 a2 n2 c2, v = .agg #[.slice a1 n1 c1, .slice a2 n2 c2] ∧ ReE M g w (.slice a1 n1 c1) (.slice a2 n2 c2)
theorem TrN.kn {M : List Wr.Up} {g : Int} {w w' : World} {v : Value} (h : TrN M g w v) (k : Kn w w') : TrN M g w' v := by
  obtain ⟨a1, n1, c1, a2, n2, c2, e, h⟩ := h
  exact ⟨a1, n1, c1, a2, n2, c2, e, h.kn k⟩
def glD (s B : Nat) (M : List Wr.Up) (g : Int) (a : Act) (w : World) : Prop := ∃ F, a.tmps.getD s undef = .pointer (some ⟨F, 0, none⟩) ∧ B ≤ F ∧ ∃ a1 n1 c1 a2 n2 c2, w.heap[F]? = some (.cells #[.slice a1 n1 c1, .slice a2 n2 c2] 24) ∧ ReE M g w (.slice a1 n1 c1) (.slice a2 n2 c2)
/-- Some replica. -/
def AnyR (w : World) (u1 u2 : Value) : Prop := ∃ hq wq, UpsV w u1 hq ∧ UpsV w u2 wq ∧ ∀ y, y ∈ hq ++ wq → UvOk w y
theorem AnyR.kn {w w' : World} {u1 u2 : Value} (h : AnyR w u1 u2) (k : Kn w w') : AnyR w' u1 u2 := by
  obtain ⟨hq, wq, h1, h2, h3⟩ := h
  exact ⟨hq, wq, h1.kn k, h2.kn k, fun y hy => (h3 y hy).kn k⟩
theorem anyR_nil (w : World) : AnyR w (.slice none 0 0) (.slice none 0 0) := ⟨[], [], ups_nil w, ups_nil w, fun y hy => by cases hy⟩
theorem ReE.any {M : List Wr.Up} {g : Int} {w : World} {v1 v2 : Value} (h : ReE M g w v1 v2) : AnyR w v1 v2 := by
  by_cases e : g = 0
  · obtain ⟨hq, wq, h1, h2, h3, _⟩ := h.1 e
    exact ⟨hq, wq, h1, h2, h3⟩
  · obtain ⟨rfl, rfl⟩ := h.2 e
    exact anyR_nil w
theorem repIs_rep {M : List Wr.Up} {E : Int} {w : World} {v1 v2 u1 u2 : Value} (hf : E = 0 → Fair M) (h : ReE M E w v1 v2) (k : AnyR w u1 u2) (k0 : E = 0 → RepI M w u1 u2) :
    Calls Tryz.prog 16 #[.agg #[v1, v2], .int .i64 E, .int .i64 E, .agg #[u1, u2]] w fun e w' => e = .returned (.bool true) ∧ Below w.heap.size w w' := by
  by_cases e : E = 0
  · obtain ⟨hq, wq, h1, h2, h3, h4, _, hn⟩ := (h.1 e).ok (hf e)
    obtain ⟨hr, wr, r1, r2, r3, r4, _, rn⟩ := (k0 e).ok (hf e)
    obtain ⟨e1, e2⟩ := h4.one r4
    have hl := (hf e).len
    exact replicaIs_same hq wq hr wr v1 v2 u1 u2 E w h1 h2 r1 r2 (fun _ => ⟨e1, e2⟩) (fun h => absurd e h) (by omega) h3 r3
  · obtain ⟨rfl, rfl⟩ := h.2 e
    obtain ⟨hr, wr, r1, r2, r3⟩ := k
    exact replicaIs_same [] [] hr wr _ _ u1 u2 E w (ups_nil w) (ups_nil w) r1 r2 (fun h => absurd h e) (fun _ => ⟨rfl, rfl⟩) ⟨by decide, by decide⟩ (fun y hy => by cases hy) r3
theorem Gs.tell_fair {h w us : List Wr.Up} (o : Dg.Ok h w) (hu : ∀ u, u ∈ us → Wr.check u = 0) (he : Gs.tellErr (h ++ w) us = 0) : Fair (Dg.mores (h ++ w) us) := by
  refine ⟨Dg.mores_nodup o.nd, Dg.mores_check o.each hu, ?_⟩
  unfold Gs.tellErr at he
  split at he
  · cases he
  · omega
def glT14 (B : Nat) (a1 : Option Addr) (n1 c1 : Nat) (a2 : Option Addr) (n2 c2 : Nat) (a3 : Option Addr) (n3 c3 : Nat) (a4 : Option Addr) (n4 c4 : Nat) (hs : List Wr.Id) (us M : List Wr.Up) (g : Int) (ob : Bool) (tQ : Nat) (vQ : Value) (WQ : World) : Prop :=
  match tQ with
  | 56 => vQ = .agg #[.slice a1 n1 c1, .slice a2 n2 c2]
  | 57 => vQ = .agg #[.slice a3 n3 c3, .slice a4 n4 c4]
  | 58 => vQ = .agg #[.slice a1 n1 c1, .slice a2 n2 c2]
  | 59 => IdS hs WQ vQ
  | 60 => CpU us WQ vQ
  | 61 => ToN M g ob WQ vQ
  | 55 => ToN M g ob WQ vQ
  | 62 => TrN M g WQ vQ
  | 63 => vQ = .bool ob
  | 17 => Bxp B WQ vQ
  | 18 => vQ = .bool ob
  | _ => True
theorem glT14_mono (B : Nat) (a1 : Option Addr) (n1 c1 : Nat) (a2 : Option Addr) (n2 c2 : Nat) (a3 : Option Addr) (n3 c3 : Nat) (a4 : Option Addr) (n4 c4 : Nat) (hs : List Wr.Id) (us M : List Wr.Up) (g : Int) (ob : Bool) (C : Nat) (tQ : Nat) (vQ : Value) (W W' : World) (hb : Rb C W W') (h : glT14 B a1 n1 c1 a2 n2 c2 a3 n3 c3 a4 n4 c4 hs us M g ob tQ vQ W) : glT14 B a1 n1 c1 a2 n2 c2 a3 n3 c3 a4 n4 c4 hs us M g ob tQ vQ W' := by
  revert h
  unfold glT14
  split <;> (intro h; first | exact h | exact IdS.kn h hb.2.1 | exact CpU.kn h hb.2.1 | exact ToN.kn h hb.2.1 | exact TrN.kn h hb.2.1 | exact Bxp.rb h hb)
def glT15 (B : Nat) (a1 : Option Addr) (n1 c1 : Nat) (a2 : Option Addr) (n2 c2 : Nat) (a3 : Option Addr) (n3 c3 : Nat) (a4 : Option Addr) (n4 c4 : Nat) (hs : List Wr.Id) (us M : List Wr.Up) (g : Int) (ob : Bool) (tQ : Nat) (vQ : Value) (WQ : World) : Prop :=
  match tQ with
  | 65 => vQ = .agg #[.slice a1 n1 c1, .slice a2 n2 c2]
  | 66 => vQ = .agg #[.slice a3 n3 c3, .slice a4 n4 c4]
  | 67 => vQ = .agg #[.slice a1 n1 c1, .slice a2 n2 c2]
  | 68 => IdS hs WQ vQ
  | 69 => CpU us WQ vQ
  | 70 => ToN M g ob WQ vQ
  | 64 => ToN M g ob WQ vQ
  | 71 => TrN M g WQ vQ
  | 72 => vQ = .bool ob
  | 19 => Bxp B WQ vQ
  | 20 => vQ = .bool ob
  | _ => True
theorem glT15_mono (B : Nat) (a1 : Option Addr) (n1 c1 : Nat) (a2 : Option Addr) (n2 c2 : Nat) (a3 : Option Addr) (n3 c3 : Nat) (a4 : Option Addr) (n4 c4 : Nat) (hs : List Wr.Id) (us M : List Wr.Up) (g : Int) (ob : Bool) (C : Nat) (tQ : Nat) (vQ : Value) (W W' : World) (hb : Rb C W W') (h : glT15 B a1 n1 c1 a2 n2 c2 a3 n3 c3 a4 n4 c4 hs us M g ob tQ vQ W) : glT15 B a1 n1 c1 a2 n2 c2 a3 n3 c3 a4 n4 c4 hs us M g ob tQ vQ W' := by
  revert h
  unfold glT15
  split <;> (intro h; first | exact h | exact IdS.kn h hb.2.1 | exact CpU.kn h hb.2.1 | exact ToN.kn h hb.2.1 | exact TrN.kn h hb.2.1 | exact Bxp.rb h hb)

set_option maxRecDepth 100000 in
set_option maxHeartbeats 16000000 in
theorem gossipTells_any (hq wq ph pw : List Uv) (ids : List Wr.Id) (hv wv jv kv iv : Value) (w : World) (hV : UpsV w hv hq) (wV : UpsV w wv wq) (jV : UpsV w jv ph) (kV : UpsV w kv pw) (iV : IdsV w iv ids) (hl : hq.length ≤ 4611686018427387903 ∧ wq.length ≤ 4611686018427387903) (jl : ph.length ≤ 4611686018427387903 ∧ pw.length ≤ 4611686018427387903) (hil : ids.length ≤ 4611686018427387903) (hok : ∀ y, y ∈ hq ++ wq → UvOk w y) (jok : ∀ y, y ∈ ph ++ pw → UvOk w y) :
    Calls Tryz.prog 5 #[.agg #[hv, wv], .agg #[jv, kv], iv] w fun e w' => e = .returned (.bool true) ∧ Below w.heap.size w w' := by
  obtain ⟨ah, ch, rfl, q1, q2⟩ := id hV
  obtain ⟨aw, cw, rfl, q3, q4⟩ := id wV
  obtain ⟨aj, cj, rfl, q5, q6⟩ := id jV
  obtain ⟨ak, ck, rfl, q7, q8⟩ := id kV
  obtain ⟨ai, ci, rfl, q9, q10⟩ := id iV
  clear q1 q2 q3 q4 q5 q6 q7 q8 q9 q10
  obtain ⟨c1, hc1⟩ : ∃ c, c = Dg.check (ups hq) (ups wq) := ⟨_, rfl⟩
  obtain ⟨c2, hc2⟩ : ∃ c, c = Dg.check (ups ph) (ups pw) := ⟨_, rfl⟩
  obtain ⟨E1, hE1⟩ : ∃ c, c = Gs.missErr (ups hq) (ups wq) ids := ⟨_, rfl⟩
  obtain ⟨E2, hE2⟩ : ∃ c, c = Gs.roundErr (ups hq) (ups wq) (ups ph) (ups pw) := ⟨_, rfl⟩
  have HR : Hid (∀ z, Kn w z → UpsV z (.slice ah hq.length ch) hq ∧ UpsV z (.slice aw wq.length cw) wq ∧ (∀ y, y ∈ hq ++ wq → UvOk z y) ∧ IdsV z (.slice ai ids.length ci) ids) := fun z hz => ⟨hV.kn hz, wV.kn hz, (fun y hy => (hok y hy).kn hz), hz.ids iV⟩
  have HJ : Hid (∀ z, Kn w z → UpsV z (.slice aj ph.length cj) ph ∧ UpsV z (.slice ak pw.length ck) pw ∧ (∀ y, y ∈ ph ++ pw → UvOk z y)) := fun z hz => ⟨jV.kn hz, kV.kn hz, fun y hy => (jok y hy).kn hz⟩
  have H21 : Hid (∀ z, Kn w z → Calls Tryz.prog 21 #[.agg #[.slice ah hq.length ch, .slice aw wq.length cw], .slice ai ids.length ci] z fun e w' => ∃ (v : Value) (R : List Uv), e = .returned (.tuple #[v, .int .i64 E1]) ∧ UpsV w' v R ∧ (∀ x, x ∈ R → UvOk w' x) ∧ ups R = Gs.missOut (ups hq) (ups wq) ids ∧ Below z.heap.size z w') := fun z hz => by
    obtain ⟨k1, k2, k3, k4⟩ := HR.out z hz
    rw [hE1]
    exact Missing_any hq wq _ _ ids _ z k1 k2 hl k3 k4 (by omega)
  have H22 : Hid (∀ z, Kn w z → Calls Tryz.prog 22 #[.agg #[.slice ah hq.length ch, .slice aw wq.length cw], .agg #[.slice aj ph.length cj, .slice ak pw.length ck]] z fun e w' => ∃ a1 n1 c1 a2 n2 c2 a3 n3 c3 a4 n4 c4, e = .returned (.tuple #[.agg #[.slice a1 n1 c1, .slice a2 n2 c2], .agg #[.slice a3 n3 c3, .slice a4 n4 c4], .int .i64 E2]) ∧ ReE (Dg.mores (ups hq ++ ups wq) (Gs.missing (ups ph) (Dg.heads (ups hq)))) E2 w' (.slice a1 n1 c1) (.slice a2 n2 c2) ∧ ReE (Dg.mores (ups ph ++ ups pw) (Gs.missing (ups hq) (Dg.heads (ups ph)))) E2 w' (.slice a3 n3 c3) (.slice a4 n4 c4) ∧ Below z.heap.size z w') := fun z hz => by
    obtain ⟨k1, k2, k3, _⟩ := HR.out z hz
    obtain ⟨l1, l2, l3⟩ := HJ.out z hz
    rw [hE2]
    exact Round_any hq wq ph pw _ _ _ _ z k1 k2 l1 l2 hl jl k3 l3
  have H9A : Hid (∀ z, Kn w z → Calls Tryz.prog 9 #[.agg #[.slice ah hq.length ch, .slice aw wq.length cw]] z fun e w' => e = .returned (.int .i64 c1) ∧ Below z.heap.size z w') := fun z hz => by
    obtain ⟨k1, k2, k3, _⟩ := HR.out z hz
    rw [hc1]
    exact CheckReplica_any hq wq _ _ z k1 k2 hl k3
  have H9B : Hid (∀ z, Kn w z → Calls Tryz.prog 9 #[.agg #[.slice aj ph.length cj, .slice ak pw.length ck]] z fun e w' => e = .returned (.int .i64 c2) ∧ Below z.heap.size z w') := fun z hz => by
    obtain ⟨k1, k2, k3⟩ := HJ.out z hz
    rw [hc2]
    exact CheckReplica_any ph pw _ _ z k1 k2 jl k3
  have HO1 : Hid (c1 = 0 → Dg.Ok (ups hq) (ups wq)) := fun h => Dg.check_ok.mp (hc1 ▸ h)
  have HO2 : Hid (c2 = 0 → Dg.Ok (ups ph) (ups pw)) := fun h => Dg.check_ok.mp (hc2 ▸ h)
  have hchk1 : c1 = 0 → (hq.length ≤ 200 ∧ ph.length = ph.length) ∧ ∀ y, y ∈ hq → Wr.check y.u = 0 := fun h => by
    have h1 := (HO1.out h).few
    rw [ups_length, ups_length] at h1
    exact ⟨⟨by omega, rfl⟩, fun y hy => (HO1.out h).each y.u (List.mem_append_left _ (List.mem_map_of_mem hy))⟩
  have hchk2 : c2 = 0 → ph.length ≤ 200 ∧ ∀ y, y ∈ ph → Wr.check y.u = 0 := fun h => by
    have h1 := (HO2.out h).few
    rw [ups_length, ups_length] at h1
    exact ⟨by omega, fun y hy => (HO2.out h).each y.u (List.mem_append_left _ (List.mem_map_of_mem hy))⟩
  have H23 : Hid (c1 = 0 → ∀ z, Kn w z → Calls Tryz.prog 23 #[.agg #[.slice ah hq.length ch, .slice aw wq.length cw], .slice ai ids.length ci] z fun e w' => ∃ v, e = .returned v ∧ CpU (Gs.missing (ups hq) ids) w' v ∧ Below z.heap.size z w') := fun h z hz => by
    obtain ⟨k1, k2, k3, k4⟩ := HR.out z hz
    refine (MissingOf_any hq wq _ _ ids _ z k1 k2 (hchk1 h).1.1 (fun y hy => ⟨k3 y (List.mem_append_left _ hy), (hchk1 h).2 y hy⟩) k4 (by omega) (Dg.rise_nodup (HO1.out h).rh)).mono ?_
    rintro e w' ⟨v, R, rfl, r1, r2, r3, r4⟩
    exact ⟨v, rfl, cpv_u r1 r2 r3, r4⟩
  have HHA : Hid (c1 = 0 → ∀ z, Kn w z → Calls Tryz.prog 12 #[.agg #[.slice ah hq.length ch, .slice aw wq.length cw]] z fun e w' => ∃ v', e = .returned v' ∧ IdsV w' v' (Dg.heads (ups hq)) ∧ Below z.heap.size z w') := fun h z hz => by
    obtain ⟨k1, k2, k3, k4⟩ := HR.out z hz
    exact HeadsAre_any hq wq _ _ z k1 k2 (hchk1 h).1.1 (fun y hy => ⟨k3 y (List.mem_append_left _ hy), (hchk1 h).2 y hy⟩)
  have HHB : Hid (c2 = 0 → ∀ z, Kn w z → Calls Tryz.prog 12 #[.agg #[.slice aj ph.length cj, .slice ak pw.length ck]] z fun e w' => ∃ v', e = .returned v' ∧ IdsV w' v' (Dg.heads (ups ph)) ∧ Below z.heap.size z w') := fun h z hz => by
    obtain ⟨k1, k2, k3⟩ := HJ.out z hz
    exact HeadsAre_any ph pw _ _ z k1 k2 (hchk2 h).1 (fun y hy => ⟨k3 y (List.mem_append_left _ hy), (hchk2 h).2 y hy⟩)
  have HMA : Hid (c1 = 0 → c2 = 0 → ∀ z v, Kn w z → IdsV z v (Dg.heads (ups hq)) → Calls Tryz.prog 23 #[.agg #[.slice aj ph.length cj, .slice ak pw.length ck], v] z fun e w' => ∃ v, e = .returned v ∧ CpU (Gs.missing (ups ph) (Dg.heads (ups hq))) w' v ∧ Below z.heap.size z w') := fun h0 h z v hz hi => by
    obtain ⟨k1, k2, k3⟩ := HJ.out z hz
    have hle := heads_le hq
    have hq200 := (hchk1 h0).1.1
    refine (MissingOf_any ph pw _ _ (Dg.heads (ups hq)) v z k1 k2 (hchk2 h).1 (fun y hy => ⟨k3 y (List.mem_append_left _ hy), (hchk2 h).2 y hy⟩) hi (by omega) (Dg.rise_nodup (HO2.out h).rh)).mono ?_
    rintro e w' ⟨v, R, rfl, r1, r2, r3, r4⟩
    exact ⟨v, rfl, cpv_u r1 r2 r3, r4⟩
  have HMB : Hid (c1 = 0 → c2 = 0 → ∀ z v, Kn w z → IdsV z v (Dg.heads (ups ph)) → Calls Tryz.prog 23 #[.agg #[.slice ah hq.length ch, .slice aw wq.length cw], v] z fun e w' => ∃ v, e = .returned v ∧ CpU (Gs.missing (ups hq) (Dg.heads (ups ph))) w' v ∧ Below z.heap.size z w') := fun h h0 z v hz hi => by
    obtain ⟨k1, k2, k3, _⟩ := HR.out z hz
    have hle := heads_le ph
    have hq200 := (hchk2 h0).1
    refine (MissingOf_any hq wq _ _ (Dg.heads (ups ph)) v z k1 k2 (hchk1 h).1.1 (fun y hy => ⟨k3 y (List.mem_append_left _ hy), (hchk1 h).2 y hy⟩) hi (by omega) (Dg.rise_nodup (HO1.out h).rh)).mono ?_
    rintro e w' ⟨v, R, rfl, r1, r2, r3, r4⟩
    exact ⟨v, rfl, cpv_u r1 r2 r3, r4⟩
  have hmc1 : c2 = 0 → ∀ u, u ∈ (Gs.missing (ups ph) (Dg.heads (ups hq))) → Wr.check u = 0 := fun h u hu => (HO2.out h).each u (List.mem_append_left _ (List.mem_filter.mp hu).1)
  have hmc2 : c1 = 0 → ∀ u, u ∈ (Gs.missing (ups hq) (Dg.heads (ups ph))) → Wr.check u = 0 := fun h u hu => (HO1.out h).each u (List.mem_append_left _ (List.mem_filter.mp hu).1)
  have hml1 : c2 = 0 → ((Gs.missing (ups ph) (Dg.heads (ups hq)))).length ≤ 200 := fun h => by
    have h2 := List.length_filter_le (fun u => !Gs.knows (ups ph) (Dg.heads (ups hq)) u) (ups ph)
    have h3 := (hchk2 h).1
    rw [ups_length] at h2
    unfold Gs.missing
    omega
  have hml2 : c1 = 0 → ((Gs.missing (ups hq) (Dg.heads (ups ph)))).length ≤ 200 := fun h => by
    have h2 := List.length_filter_le (fun u => !Gs.knows (ups hq) (Dg.heads (ups ph)) u) (ups hq)
    have h3 := (hchk1 h).1.1
    rw [ups_length] at h2
    unfold Gs.missing
    omega
  obtain ⟨g1, HG1E⟩ : ∃ e, Hid (e = Gs.tellErr (ups hq ++ ups wq) (Gs.missing (ups ph) (Dg.heads (ups hq)))) := ⟨_, rfl⟩
  obtain ⟨g2, HG2E⟩ : ∃ e, Hid (e = Gs.tellErr (ups ph ++ ups pw) (Gs.missing (ups hq) (Dg.heads (ups ph)))) := ⟨_, rfl⟩
  obtain ⟨ob1, HOB1⟩ : ∃ e, Hid (e = decide (g1 = 0)) := ⟨_, rfl⟩
  obtain ⟨ob2, HOB2⟩ : ∃ e, Hid (e = decide (g2 = 0)) := ⟨_, rfl⟩
  have HTA : Hid (c1 = 0 → c2 = 0 → ∀ z v, Kn w z → CpV (Gs.missing (ups ph) (Dg.heads (ups hq))) z v → Calls Tryz.prog 24 #[.agg #[.slice ah hq.length ch, .slice aw wq.length cw], v] z fun e w' => ∃ v, e = .returned v ∧ ToN (Dg.mores (ups hq ++ ups wq) (Gs.missing (ups ph) (Dg.heads (ups hq)))) g1 ob1 w' v ∧ Below z.heap.size z w') := fun h0 h z v hz hi => by
    obtain ⟨k1, k2, k3, _⟩ := HR.out z hz
    obtain ⟨R, r1, r2, r3⟩ := hi
    have hle := congrArg List.length r3
    rw [ups_length] at hle
    have h200 := hml1 h
    refine (TellOf_any hq wq R _ _ v z k1 k2 r1 k3 (fun y hy => ⟨r2 y hy, hmc1 h y.u (by rw [← r3]; exact List.mem_map_of_mem hy)⟩) (by omega) (HO1.out h0)).mono ?_
    rintro e w' ⟨a1, n1, c1, a2, n2, c2, rfl, s1, s2⟩
    rw [r3, ← HG1E.out] at s1 ⊢
    exact ⟨_, rfl, ⟨a1, n1, c1, a2, n2, c2, by rw [HOB1.out], s1⟩, s2⟩
  have HTB : Hid (c1 = 0 → c2 = 0 → ∀ z v, Kn w z → CpV (Gs.missing (ups hq) (Dg.heads (ups ph))) z v → Calls Tryz.prog 24 #[.agg #[.slice aj ph.length cj, .slice ak pw.length ck], v] z fun e w' => ∃ v, e = .returned v ∧ ToN (Dg.mores (ups ph ++ ups pw) (Gs.missing (ups hq) (Dg.heads (ups ph)))) g2 ob2 w' v ∧ Below z.heap.size z w') := fun h h0 z v hz hi => by
    obtain ⟨k1, k2, k3⟩ := HJ.out z hz
    obtain ⟨R, r1, r2, r3⟩ := hi
    have hle := congrArg List.length r3
    rw [ups_length] at hle
    have h200 := hml2 h
    refine (TellOf_any ph pw R _ _ v z k1 k2 r1 k3 (fun y hy => ⟨r2 y hy, hmc2 h y.u (by rw [← r3]; exact List.mem_map_of_mem hy)⟩) (by omega) (HO2.out h0)).mono ?_
    rintro e w' ⟨a1, n1, c1, a2, n2, c2, rfl, s1, s2⟩
    rw [r3, ← HG2E.out] at s1 ⊢
    exact ⟨_, rfl, ⟨a1, n1, c1, a2, n2, c2, by rw [HOB2.out], s1⟩, s2⟩
  have HFF1 : Hid (c1 = 0 → c2 = 0 → g1 = 0 → Fair (Dg.mores (ups hq ++ ups wq) (Gs.missing (ups ph) (Dg.heads (ups hq))))) := fun h0 h hg => Gs.tell_fair (HO1.out h0) (hmc1 h) (HG1E.out.symm.trans hg)
  have HFF2 : Hid (c1 = 0 → c2 = 0 → g2 = 0 → Fair (Dg.mores (ups ph ++ ups pw) (Gs.missing (ups hq) (Dg.heads (ups ph))))) := fun h h0 hg => Gs.tell_fair (HO2.out h0) (hmc2 h) (HG2E.out.symm.trans hg)
  have HK1 : Hid (g1 = 0 ∨ g1 = 2) := by show _ ∨ _; rw [HG1E.out]; exact Gs.tell_two _ _
  have HK2 : Hid (g2 = 0 ∨ g2 = 2) := by show _ ∨ _; rw [HG2E.out]; exact Gs.tell_two _ _
  have HE1N : Hid (c1 ≠ 0 → E1 = c1) := fun h => by rw [hE1]; unfold Gs.missErr; rw [if_pos (by rw [← hc1]; exact h), hc1]
  have HE1L : Hid (c1 = 0 → 200 < ids.length → E1 = 2) := fun h h2 => by rw [hE1]; unfold Gs.missErr; rw [if_neg (fun h9 => h9 (hc1.symm.trans h)), if_pos h2]
  have HE1Z : Hid (c1 = 0 → ids.length ≤ 200 → E1 = 0) := fun h h2 => by rw [hE1]; unfold Gs.missErr; rw [if_neg (fun h9 => h9 (hc1.symm.trans h)), if_neg (by omega)]
  have HE2N : Hid (c1 ≠ 0 → E2 = c1) := fun h => by rw [hE2]; unfold Gs.roundErr; rw [if_pos (by rw [← hc1]; exact h), hc1]
  have HE2M : Hid (c1 = 0 → c2 ≠ 0 → E2 = c2) := fun h h2 => by rw [hE2]; unfold Gs.roundErr; rw [if_neg (fun h9 => h9 (hc1.symm.trans h)), if_pos (by rw [← hc2]; exact h2), hc2]
  have HE2Z : Hid (c1 = 0 → c2 = 0 → E2 = if g1 ≠ 0 ∨ g2 ≠ 0 then 2 else 0) := fun h h2 => by rw [hE2]; unfold Gs.roundErr; rw [if_neg (fun h9 => h9 (hc1.symm.trans h)), if_neg (fun h9 => h9 (hc2.symm.trans h2)), ← HG1E.out, ← HG2E.out]
  have HMO : Hid (Gs.missOut (ups hq) (ups wq) ids = if E1 = 0 then Gs.missing (ups hq) ids else []) := by show _ = _; rw [hE1]; rfl
  have HLM : Hid ((Gs.missOut (ups hq) (ups wq) ids).length ≤ 1000) := by
    show List.length _ ≤ 1000
    unfold Gs.missOut
    split
    · rename_i h9
      have hc0 : c1 = 0 := by
        rw [hc1]
        unfold Gs.missErr at h9
        by_cases hh : Dg.check (ups hq) (ups wq) = 0
        · exact hh
        · rw [if_pos hh] at h9
          exact absurd h9 hh
      have h2 := List.length_filter_le (fun u => !Gs.knows (ups hq) ids u) (ups hq)
      have h3 := (hchk1 hc0).1.1
      rw [ups_length] at h2
      unfold Gs.missing
      omega
    · exact Nat.zero_le _
  clear hV wV jV kV iV hok jok hc1 hc2 hE1 hE2 hl jl hchk1 hchk2 hmc1 hmc2 hml1 hml2
  have hu0 := heap_alloc_new w (.cells #[.slice ah hq.length ch, .slice aw wq.length cw] 24)
  have hg0 := new_below w (.cells #[.slice ah hq.length ch, .slice aw wq.length cw] 24)
  have hz0 : (w.alloc (.cells #[.slice ah hq.length ch, .slice aw wq.length cw] 24)).heap.size = w.heap.size + 1 := by simp
  have hu1 := heap_alloc_new (w.alloc (.cells #[.slice ah hq.length ch, .slice aw wq.length cw] 24)) (.cells #[.slice aj ph.length cj, .slice ak pw.length ck] 24)
  have hg1 := new_below (w.alloc (.cells #[.slice ah hq.length ch, .slice aw wq.length cw] 24)) (.cells #[.slice aj ph.length cj, .slice ak pw.length ck] 24)
  rw [hz0] at hu1
  have hu0' := (hg1.block _ (by rw [hz0]; omega)).trans hu0
  have hgg := hg0.trans (hg1.mono hg0.size)
  go_enter Tryz.func5, Tryz.ntmps5
  go_upto_region 1 with fail
  clear hu0 hg0 hz0 hg1
  generalize (w.alloc (.cells #[.slice ah hq.length ch, .slice aw wq.length cw] 24)).alloc (.cells #[.slice aj ph.length cj, .slice ak pw.length ck] 24) = w1 at *
  have HXC : Hid (∀ z, Below w1.heap.size w1 z → z.cell? ⟨w.heap.size, 0, none⟩ = some (.slice ah hq.length ch) ∧ z.cell? ⟨w.heap.size, 1, none⟩ = some (.slice aw wq.length cw) ∧ z.cell? ⟨w.heap.size + 1, 0, none⟩ = some (.slice aj ph.length cj) ∧ z.cell? ⟨w.heap.size + 1, 1, none⟩ = some (.slice ak pw.length ck)) := fun z hz => ⟨cell_below hz (by rw [Lib.cell_of_heap hu0']; rfl), cell_below hz (by rw [Lib.cell_of_heap hu0']; rfl), cell_below hz (by rw [Lib.cell_of_heap hu1]; rfl), cell_below hz (by rw [Lib.cell_of_heap hu1]; rfl)⟩
  have HG1 : Hid (Below w.heap.size w w1) := hgg
  have hs1 : w.heap.size + 1 < w1.heap.size := (Array.getElem?_eq_some_iff.1 hu1).1
  clear hu0' hu1 hgg
  obtain ⟨x0, x1, x2, x3⟩ := HXC.out w1 (Below.refl _ _)
  go_upto_region 2 with (go_at_call 21; refine Calls.mono (H21.out w1 (Kn.below HG1.out)) ?_; rintro _ w2 ⟨v7, R, rfl, hRV, hRO, hRU, hb2⟩; obtain ⟨a7, c7, rfl, hj⟩ := id hRV; clear hj)
  have HB2 : Hid (Below w1.heap.size w1 w2) := hb2
  have HRV2 : Hid (UpsV w2 (.slice a7 R.length c7) R) := hRV
  have HRO2 : Hid (∀ x, x ∈ R → UvOk w2 x) := hRO
  have HRU : Hid (ups R = Gs.missOut (ups hq) (ups wq) ids) := hRU
  have HRL : Hid (R.length ≤ 1000) := by
    show R.length ≤ 1000
    have h9 := congrArg List.length hRU
    rw [ups_length] at h9
    rw [h9]
    exact HLM.out
  clear hRV hRO hRU hb2 x0 x1 x2 x3 H21 HLM
  obtain ⟨x0, x1, x2, x3⟩ := HXC.out w2 HB2.out
  go_upto_region 3 with (go_at_call 22; refine Calls.mono (H22.out w2 (Kn.below (HG1.out.trans (HB2.out.mono HG1.out.size)))) ?_; rintro _ w3 ⟨x1a, x2a, x3a, x4a, x5a, x6a, y1a, y2a, y3a, y4a, y5a, y6a, rfl, hRX, hRY, hb3⟩)
  have b7 := heap_alloc_new w3 (.cells #[.slice x1a x2a x3a, .slice x4a x5a x6a] 24)
  have g7 := new_below w3 (.cells #[.slice x1a x2a x3a, .slice x4a x5a x6a] 24)
  have b8 := heap_alloc_new (w3.alloc (.cells #[.slice x1a x2a x3a, .slice x4a x5a x6a] 24)) (.cells #[.slice y1a y2a y3a, .slice y4a y5a y6a] 24)
  have g8 := new_below (w3.alloc (.cells #[.slice x1a x2a x3a, .slice x4a x5a x6a] 24)) (.cells #[.slice y1a y2a y3a, .slice y4a y5a y6a] 24)
  have hz : (w3.alloc (.cells #[.slice x1a x2a x3a, .slice x4a x5a x6a] 24)).heap.size = w3.heap.size + 1 := by simp
  rw [hz] at b8
  have b7' := (g8.block _ (by rw [hz]; exact Nat.lt_succ_self _)).trans b7
  have g78 := g7.trans (g8.mono g7.size)
  generalize (w3.alloc (.cells #[.slice x1a x2a x3a, .slice x4a x5a x6a] 24)).alloc (.cells #[.slice y1a y2a y3a, .slice y4a y5a y6a] 24) = w4 at *
  have hb34 := hb3.trans (g78.mono hb3.size)
  have HB4 : Hid (Below w1.heap.size w1 w4) := HB2.out.trans (hb34.mono HB2.out.size)
  have HRX4 : Hid (ReE (Dg.mores (ups hq ++ ups wq) (Gs.missing (ups ph) (Dg.heads (ups hq)))) E2 w4 (.slice x1a x2a x3a) (.slice x4a x5a x6a)) := hRX.kn (Kn.below g78)
  have HRY4 : Hid (ReE (Dg.mores (ups ph ++ ups pw) (Gs.missing (ups hq) (Dg.heads (ups ph)))) E2 w4 (.slice y1a y2a y3a) (.slice y4a y5a y6a)) := hRY.kn (Kn.below g78)
  have HRV4 : Hid (UpsV w4 (.slice a7 R.length c7) R) := HRV2.out.kc (Kc.below hb34)
  have HRO4 : Hid (∀ x, x ∈ R → UvOk w4 x) := fun x hx => (HRO2.out x hx).below hb34
  have HYY : Hid (w4.heap[w3.heap.size]? = some (.cells #[.slice x1a x2a x3a, .slice x4a x5a x6a] 24) ∧ w4.heap[w3.heap.size + 1]? = some (.cells #[.slice y1a y2a y3a, .slice y4a y5a y6a] 24)) := ⟨b7', b8⟩
  clear b7 g7 b8 g8 hz b7' g78 hb34 hb3 hRX hRY x0 x1 x2 x3 H22 HB2 HRV2 HRO2
  generalize w3.heap.size = Y at *
  obtain ⟨x0, x1, x2, x3⟩ := HXC.out w4 HB4.out
  go_upto_region 4 with (go_at_call 9; refine Calls.mono (H9A.out w4 (Kn.below (HG1.out.trans (HB4.out.mono HG1.out.size)))) ?_; rintro _ w5 ⟨rfl, hb5⟩)
  have HB5 : Hid (Below w1.heap.size w1 w5) := HB4.out.trans (hb5.mono HB4.out.size)
  have HRX : Hid (ReE (Dg.mores (ups hq ++ ups wq) (Gs.missing (ups ph) (Dg.heads (ups hq)))) E2 w5 (.slice x1a x2a x3a) (.slice x4a x5a x6a)) := HRX4.out.kn (Kn.below hb5)
  have HRY : Hid (ReE (Dg.mores (ups ph ++ ups pw) (Gs.missing (ups hq) (Dg.heads (ups ph)))) E2 w5 (.slice y1a y2a y3a) (.slice y4a y5a y6a)) := HRY4.out.kn (Kn.below hb5)
  have HRV : Hid (UpsV w5 (.slice a7 R.length c7) R) := HRV4.out.kc (Kc.below hb5)
  have HRO : Hid (∀ x, x ∈ R → UvOk w5 x) := fun x hx => (HRO4.out x hx).below hb5
  have HY5 : Hid (w5.heap[Y]? = some (.cells #[.slice x1a x2a x3a, .slice x4a x5a x6a] 24) ∧ w5.heap[Y + 1]? = some (.cells #[.slice y1a y2a y3a, .slice y4a y5a y6a] 24)) := ⟨(hb5.block _ (Array.getElem?_eq_some_iff.1 HYY.out.1).1).trans HYY.out.1, (hb5.block _ (Array.getElem?_eq_some_iff.1 HYY.out.2).1).trans HYY.out.2⟩
  have hY5 : Y + 1 < w5.heap.size := (Array.getElem?_eq_some_iff.1 HY5.out.2).1
  clear hb5 x0 x1 x2 x3 H9A HB4 HRX4 HRY4 HRV4 HRO4 HYY
  by_cases h0 : c1 = 0
  case neg =>
    have d0 : decide (c1 = 0) = false := decide_eq_false h0
    obtain rfl : E1 = c1 := HE1N.out h0
    obtain rfl : E2 = E1 := HE2N.out h0
    have hne : E2 ≠ 0 := h0
    have HW : Hid (Below w5.heap.size w5 w5) := Below.refl _ _
    have HMW : Hid (CpV (Gs.missOut (ups hq) (ups wq) ids) w5 (.slice none 0 0)) := ⟨[], ups_nil _, (fun x hx => by cases hx), by rw [HMO.out, if_neg h0]; rfl⟩
    go_upto_region 19 with fail
    have bP := heap_alloc_new w5 (.cells #[.slice none 0 0, .slice none 0 0] 24)
    have gP := new_below w5 (.cells #[.slice none 0 0, .slice none 0 0] 24)
    have bQ := heap_alloc_new (w5.alloc (.cells #[.slice none 0 0, .slice none 0 0] 24)) (.cells #[.slice none 0 0, .slice none 0 0] 24)
    have gQ := new_below (w5.alloc (.cells #[.slice none 0 0, .slice none 0 0] 24)) (.cells #[.slice none 0 0, .slice none 0 0] 24)
    have hzP : (w5.alloc (.cells #[.slice none 0 0, .slice none 0 0] 24)).heap.size = w5.heap.size + 1 := by simp
    rw [hzP] at bQ
    have bP' := (gQ.block _ (by rw [hzP]; exact Nat.lt_succ_self _)).trans bP
    have gPQ := gP.trans (gQ.mono gP.size)
    generalize (w5.alloc (.cells #[.slice none 0 0, .slice none 0 0] 24)).alloc (.cells #[.slice none 0 0, .slice none 0 0] 24) = wZ at *
    have HPZ : Hid (wZ.heap[w5.heap.size]? = some (.cells #[.slice none 0 0, .slice none 0 0] 24) ∧ wZ.heap[w5.heap.size + 1]? = some (.cells #[.slice none 0 0, .slice none 0 0] 24)) := ⟨bP', bQ⟩
    have hWZ := HW.out.trans (gPQ.mono HW.out.size)
    have HKW : Hid (Kn w5 wZ) := Kn.below hWZ
    have HBF : Hid (Below w.heap.size w wZ) := (HG1.out.trans (HB5.out.mono HG1.out.size)).trans (hWZ.mono (HG1.out.trans (HB5.out.mono HG1.out.size)).size)
    have HYW : Hid (wZ.heap[Y]? = some (.cells #[.slice x1a x2a x3a, .slice x4a x5a x6a] 24) ∧ wZ.heap[Y + 1]? = some (.cells #[.slice y1a y2a y3a, .slice y4a y5a y6a] 24)) := ⟨(hWZ.block _ (by omega)).trans HY5.out.1, (hWZ.block _ hY5).trans HY5.out.2⟩
    have HMV : Hid (CpV (Gs.missOut (ups hq) (ups wq) ids) wZ (.slice none 0 0)) := HMW.out.kn (Kn.below gPQ)
    have HAP : Hid (AnyR wZ (.slice none 0 0) (.slice none 0 0)) := anyR_nil _
    have HAQ : Hid (AnyR wZ (.slice none 0 0) (.slice none 0 0)) := anyR_nil _
    have HP0 : Hid (E2 = 0 → RepI (Dg.mores (ups hq ++ ups wq) (Gs.missing (ups ph) (Dg.heads (ups hq)))) wZ (.slice none 0 0) (.slice none 0 0)) := fun h => absurd h hne
    have HQ0 : Hid (E2 = 0 → RepI (Dg.mores (ups ph ++ ups pw) (Gs.missing (ups hq) (Dg.heads (ups ph)))) wZ (.slice none 0 0) (.slice none 0 0)) := fun h => absurd h hne
    have HFA : Hid (E2 = 0 → Fair (Dg.mores (ups hq ++ ups wq) (Gs.missing (ups ph) (Dg.heads (ups hq))))) := fun h => absurd h hne
    have HFB : Hid (E2 = 0 → Fair (Dg.mores (ups ph ++ ups pw) (Gs.missing (ups hq) (Dg.heads (ups ph))))) := fun h => absurd h hne
    have HPB := HPZ
    clear bP gP bQ gQ hzP bP' gPQ hWZ HPZ
    generalize w5.heap.size = PB at *
    have HCF : Hid (∀ z, Below wZ.heap.size wZ z → (z.cell? ⟨Y, 0, none⟩ = some (.slice x1a x2a x3a) ∧ z.cell? ⟨Y, 1, none⟩ = some (.slice x4a x5a x6a)) ∧ (z.cell? ⟨Y + 1, 0, none⟩ = some (.slice y1a y2a y3a) ∧ z.cell? ⟨Y + 1, 1, none⟩ = some (.slice y4a y5a y6a)) ∧ (z.cell? ⟨PB, 0, none⟩ = some (.slice none 0 0) ∧ z.cell? ⟨PB, 1, none⟩ = some (.slice none 0 0)) ∧ z.cell? ⟨PB + 1, 0, none⟩ = some (.slice none 0 0) ∧ z.cell? ⟨PB + 1, 1, none⟩ = some (.slice none 0 0)) := fun z hz =>
      ⟨⟨cell_below hz (by rw [Lib.cell_of_heap HYW.out.1]; rfl), cell_below hz (by rw [Lib.cell_of_heap HYW.out.1]; rfl)⟩, ⟨cell_below hz (by rw [Lib.cell_of_heap HYW.out.2]; rfl), cell_below hz (by rw [Lib.cell_of_heap HYW.out.2]; rfl)⟩, ⟨cell_below hz (by rw [Lib.cell_of_heap HPB.out.1]; rfl), cell_below hz (by rw [Lib.cell_of_heap HPB.out.1]; rfl)⟩, cell_below hz (by rw [Lib.cell_of_heap HPB.out.2]; rfl), cell_below hz (by rw [Lib.cell_of_heap HPB.out.2]; rfl)⟩
    have H26 : Hid (∀ z, Below wZ.heap.size wZ z → Calls Tryz.prog 26 #[.slice a7 R.length c7, .slice none 0 0] z fun e w' => e = .returned (.bool true) ∧ Below z.heap.size z w') := fun z hz => by
      obtain ⟨L9, l1, l2, l3⟩ := HMV.out
      have hk := HKW.out.trans (Kn.below hz)
      exact SameUpdates_same R L9 _ _ z (HRV.out.kn hk) (l1.kn (Kn.below hz)) (HRU.out.trans l3.symm) HRL.out (fun x hx => (HRO.out x hx).kn hk) (fun x hx => (l2 x hx).kn (Kn.below hz))
    have H16A : Hid (∀ z, Below wZ.heap.size wZ z → Calls Tryz.prog 16 #[.agg #[.slice x1a x2a x3a, .slice x4a x5a x6a], .int .i64 E2, .int .i64 E2, .agg #[.slice none 0 0, .slice none 0 0]] z fun e w' => e = .returned (.bool true) ∧ Below z.heap.size z w') := fun z hz => repIs_rep HFA.out (HRX.out.kn (HKW.out.trans (Kn.below hz))) (HAP.out.kn (Kn.below hz)) (fun h => (HP0.out h).kn (Kn.below hz))
    have H16B : Hid (∀ z, Below wZ.heap.size wZ z → Calls Tryz.prog 16 #[.agg #[.slice y1a y2a y3a, .slice y4a y5a y6a], .int .i64 E2, .int .i64 E2, .agg #[.slice none 0 0, .slice none 0 0]] z fun e w' => e = .returned (.bool true) ∧ Below z.heap.size z w') := fun z hz => repIs_rep HFB.out (HRY.out.kn (HKW.out.trans (Kn.below hz))) (HAQ.out.kn (Kn.below hz)) (fun h => (HQ0.out h).kn (Kn.below hz))
    obtain ⟨⟨x0, x1⟩, ⟨x2, x3⟩, ⟨x4, x5⟩, x6, x7⟩ := HCF.out wZ (Below.refl _ _)
    go_wp2_with (first
      | (go_at_call 25; refine Calls.mono (gossipBegun_any _) ?_; rintro _ z1 ⟨rfl, hz1⟩; clear x0 x1 x2 x3 x4 x5 x6 x7)
      | (go_at_call 26; refine Calls.mono (H26.out _ hz1) ?_; rintro _ z2 ⟨rfl, hz2'⟩; have hz2 := hz1.trans (hz2'.mono hz1.size); clear hz2'; obtain ⟨⟨x0, x1⟩, ⟨x2, x3⟩, ⟨x4, x5⟩, x6, x7⟩ := HCF.out z2 hz2)
      | (go_at_call 16; with_reducible refine Calls.mono (H16A.out _ hz2) ?_; rintro _ z3 ⟨rfl, hz3'⟩; have hz3 := hz2.trans (hz3'.mono hz2.size); clear hz3' x0 x1 x2 x3 x4 x5 x6 x7; obtain ⟨⟨x0, x1⟩, ⟨x2, x3⟩, ⟨x4, x5⟩, x6, x7⟩ := HCF.out z3 hz3)
      | (go_at_call 16; with_reducible refine Calls.mono (H16B.out _ hz3) ?_; rintro _ z4 ⟨rfl, hz4'⟩; have hz4 := hz3.trans (hz4'.mono hz3.size); clear hz4'))
    go_ret
    exact ⟨rfl, HBF.out.trans (hz4.mono HBF.out.size)⟩
  subst h0
  replace HO1 : Hid (Dg.Ok (ups hq) (ups wq)) := HO1.out rfl
  replace H23 : Hid (∀ z, Kn w z → _) := H23.out rfl
  replace HHA : Hid (∀ z, Kn w z → _) := HHA.out rfl
  replace HMA : Hid (c2 = 0 → _) := HMA.out rfl
  replace HMB : Hid (c2 = 0 → _) := HMB.out rfl
  replace HTA : Hid (c2 = 0 → _) := HTA.out rfl
  replace HTB : Hid (c2 = 0 → _) := HTB.out rfl
  replace HFF1 : Hid (c2 = 0 → _) := HFF1.out rfl
  replace HFF2 : Hid (c2 = 0 → _) := HFF2.out rfl
  replace HE1L : Hid (200 < ids.length → E1 = 2) := HE1L.out rfl
  replace HE1Z : Hid (ids.length ≤ 200 → E1 = 0) := HE1Z.out rfl
  replace HE2M : Hid (c2 ≠ 0 → E2 = c2) := HE2M.out rfl
  replace HE2Z : Hid (c2 = 0 → E2 = if g1 ≠ 0 ∨ g2 ≠ 0 then 2 else 0) := HE2Z.out rfl
  clear HE1N HE2N
  have kw5 : Kn w w5 := Kn.below (HG1.out.trans (HB5.out.mono HG1.out.size))
  have HKW5 : Hid (Kn w w5) := kw5
  clear kw5
  by_cases h1 : ids.length ≤ 200
  case neg =>
    have d1 : decide ((200 : Int) < (ids.length : Int)) = true := decide_eq_true (by omega)
    have d1' : decide ((ids.length : Int) > 200) = true := decide_eq_true (by omega)
    obtain rfl : E1 = 2 := HE1L.out (by omega)
    go_upto_region 7 with fail
    obtain ⟨x0, x1, x2, x3⟩ := HXC.out w5 HB5.out
    go_upto_region 9 with (go_at_call 9; refine Calls.mono (H9B.out w5 HKW5.out) ?_; rintro _ w6 ⟨rfl, hb6⟩)
    have HW6 : Hid (Below w5.heap.size w5 w6) := hb6
    clear x0 x1 x2 x3 hb6
    have HMW : Hid (CpV (Gs.missOut (ups hq) (ups wq) ids) w6 (.slice none 0 0)) := ⟨[], ups_nil _, (fun x hx => by cases hx), by rw [HMO.out, if_neg (by decide)]; rfl⟩
    have HW : Hid (Below w5.heap.size w5 w6) := HW6.out
    by_cases h2 : c2 = 0
    case neg =>
      have d2 : decide (c2 = 0) = false := decide_eq_false h2
      obtain rfl : E2 = c2 := HE2M.out h2
      have hne : E2 ≠ 0 := h2
      go_upto_region 19 with fail
      have bP := heap_alloc_new w6 (.cells #[.slice none 0 0, .slice none 0 0] 24)
      have gP := new_below w6 (.cells #[.slice none 0 0, .slice none 0 0] 24)
      have bQ := heap_alloc_new (w6.alloc (.cells #[.slice none 0 0, .slice none 0 0] 24)) (.cells #[.slice none 0 0, .slice none 0 0] 24)
      have gQ := new_below (w6.alloc (.cells #[.slice none 0 0, .slice none 0 0] 24)) (.cells #[.slice none 0 0, .slice none 0 0] 24)
      have hzP : (w6.alloc (.cells #[.slice none 0 0, .slice none 0 0] 24)).heap.size = w6.heap.size + 1 := by simp
      rw [hzP] at bQ
      have bP' := (gQ.block _ (by rw [hzP]; exact Nat.lt_succ_self _)).trans bP
      have gPQ := gP.trans (gQ.mono gP.size)
      generalize (w6.alloc (.cells #[.slice none 0 0, .slice none 0 0] 24)).alloc (.cells #[.slice none 0 0, .slice none 0 0] 24) = wZ at *
      have HPZ : Hid (wZ.heap[w6.heap.size]? = some (.cells #[.slice none 0 0, .slice none 0 0] 24) ∧ wZ.heap[w6.heap.size + 1]? = some (.cells #[.slice none 0 0, .slice none 0 0] 24)) := ⟨bP', bQ⟩
      have hWZ := HW.out.trans (gPQ.mono HW.out.size)
      have HKW : Hid (Kn w5 wZ) := Kn.below hWZ
      have HBF : Hid (Below w.heap.size w wZ) := (HG1.out.trans (HB5.out.mono HG1.out.size)).trans (hWZ.mono (HG1.out.trans (HB5.out.mono HG1.out.size)).size)
      have HYW : Hid (wZ.heap[Y]? = some (.cells #[.slice x1a x2a x3a, .slice x4a x5a x6a] 24) ∧ wZ.heap[Y + 1]? = some (.cells #[.slice y1a y2a y3a, .slice y4a y5a y6a] 24)) := ⟨(hWZ.block _ (by omega)).trans HY5.out.1, (hWZ.block _ hY5).trans HY5.out.2⟩
      have HMV : Hid (CpV (Gs.missOut (ups hq) (ups wq) ids) wZ (.slice none 0 0)) := HMW.out.kn (Kn.below gPQ)
      have HAP : Hid (AnyR wZ (.slice none 0 0) (.slice none 0 0)) := anyR_nil _
      have HAQ : Hid (AnyR wZ (.slice none 0 0) (.slice none 0 0)) := anyR_nil _
      have HP0 : Hid (E2 = 0 → RepI (Dg.mores (ups hq ++ ups wq) (Gs.missing (ups ph) (Dg.heads (ups hq)))) wZ (.slice none 0 0) (.slice none 0 0)) := fun h => absurd h hne
      have HQ0 : Hid (E2 = 0 → RepI (Dg.mores (ups ph ++ ups pw) (Gs.missing (ups hq) (Dg.heads (ups ph)))) wZ (.slice none 0 0) (.slice none 0 0)) := fun h => absurd h hne
      have HFA : Hid (E2 = 0 → Fair (Dg.mores (ups hq ++ ups wq) (Gs.missing (ups ph) (Dg.heads (ups hq))))) := fun h => absurd h hne
      have HFB : Hid (E2 = 0 → Fair (Dg.mores (ups ph ++ ups pw) (Gs.missing (ups hq) (Dg.heads (ups ph))))) := fun h => absurd h hne
      have HPB := HPZ
      clear bP gP bQ gQ hzP bP' gPQ hWZ HPZ
      generalize w6.heap.size = PB at *
      have HCF : Hid (∀ z, Below wZ.heap.size wZ z → (z.cell? ⟨Y, 0, none⟩ = some (.slice x1a x2a x3a) ∧ z.cell? ⟨Y, 1, none⟩ = some (.slice x4a x5a x6a)) ∧ (z.cell? ⟨Y + 1, 0, none⟩ = some (.slice y1a y2a y3a) ∧ z.cell? ⟨Y + 1, 1, none⟩ = some (.slice y4a y5a y6a)) ∧ (z.cell? ⟨PB, 0, none⟩ = some (.slice none 0 0) ∧ z.cell? ⟨PB, 1, none⟩ = some (.slice none 0 0)) ∧ z.cell? ⟨PB + 1, 0, none⟩ = some (.slice none 0 0) ∧ z.cell? ⟨PB + 1, 1, none⟩ = some (.slice none 0 0)) := fun z hz =>
        ⟨⟨cell_below hz (by rw [Lib.cell_of_heap HYW.out.1]; rfl), cell_below hz (by rw [Lib.cell_of_heap HYW.out.1]; rfl)⟩, ⟨cell_below hz (by rw [Lib.cell_of_heap HYW.out.2]; rfl), cell_below hz (by rw [Lib.cell_of_heap HYW.out.2]; rfl)⟩, ⟨cell_below hz (by rw [Lib.cell_of_heap HPB.out.1]; rfl), cell_below hz (by rw [Lib.cell_of_heap HPB.out.1]; rfl)⟩, cell_below hz (by rw [Lib.cell_of_heap HPB.out.2]; rfl), cell_below hz (by rw [Lib.cell_of_heap HPB.out.2]; rfl)⟩
      have H26 : Hid (∀ z, Below wZ.heap.size wZ z → Calls Tryz.prog 26 #[.slice a7 R.length c7, .slice none 0 0] z fun e w' => e = .returned (.bool true) ∧ Below z.heap.size z w') := fun z hz => by
        obtain ⟨L9, l1, l2, l3⟩ := HMV.out
        have hk := HKW.out.trans (Kn.below hz)
        exact SameUpdates_same R L9 _ _ z (HRV.out.kn hk) (l1.kn (Kn.below hz)) (HRU.out.trans l3.symm) HRL.out (fun x hx => (HRO.out x hx).kn hk) (fun x hx => (l2 x hx).kn (Kn.below hz))
      have H16A : Hid (∀ z, Below wZ.heap.size wZ z → Calls Tryz.prog 16 #[.agg #[.slice x1a x2a x3a, .slice x4a x5a x6a], .int .i64 E2, .int .i64 E2, .agg #[.slice none 0 0, .slice none 0 0]] z fun e w' => e = .returned (.bool true) ∧ Below z.heap.size z w') := fun z hz => repIs_rep HFA.out (HRX.out.kn (HKW.out.trans (Kn.below hz))) (HAP.out.kn (Kn.below hz)) (fun h => (HP0.out h).kn (Kn.below hz))
      have H16B : Hid (∀ z, Below wZ.heap.size wZ z → Calls Tryz.prog 16 #[.agg #[.slice y1a y2a y3a, .slice y4a y5a y6a], .int .i64 E2, .int .i64 E2, .agg #[.slice none 0 0, .slice none 0 0]] z fun e w' => e = .returned (.bool true) ∧ Below z.heap.size z w') := fun z hz => repIs_rep HFB.out (HRY.out.kn (HKW.out.trans (Kn.below hz))) (HAQ.out.kn (Kn.below hz)) (fun h => (HQ0.out h).kn (Kn.below hz))
      obtain ⟨⟨x0, x1⟩, ⟨x2, x3⟩, ⟨x4, x5⟩, x6, x7⟩ := HCF.out wZ (Below.refl _ _)
      go_wp2_with (first
        | (go_at_call 25; refine Calls.mono (gossipBegun_any _) ?_; rintro _ z1 ⟨rfl, hz1⟩; clear x0 x1 x2 x3 x4 x5 x6 x7)
        | (go_at_call 26; refine Calls.mono (H26.out _ hz1) ?_; rintro _ z2 ⟨rfl, hz2'⟩; have hz2 := hz1.trans (hz2'.mono hz1.size); clear hz2'; obtain ⟨⟨x0, x1⟩, ⟨x2, x3⟩, ⟨x4, x5⟩, x6, x7⟩ := HCF.out z2 hz2)
        | (go_at_call 16; with_reducible refine Calls.mono (H16A.out _ hz2) ?_; rintro _ z3 ⟨rfl, hz3'⟩; have hz3 := hz2.trans (hz3'.mono hz2.size); clear hz3' x0 x1 x2 x3 x4 x5 x6 x7; obtain ⟨⟨x0, x1⟩, ⟨x2, x3⟩, ⟨x4, x5⟩, x6, x7⟩ := HCF.out z3 hz3)
        | (go_at_call 16; with_reducible refine Calls.mono (H16B.out _ hz3) ?_; rintro _ z4 ⟨rfl, hz4'⟩; have hz4 := hz3.trans (hz4'.mono hz3.size); clear hz4'))
      go_ret
      exact ⟨rfl, HBF.out.trans (hz4.mono HBF.out.size)⟩
    subst h2
    replace HO2 : Hid (Dg.Ok (ups ph) (ups pw)) := HO2.out rfl
    replace HHB : Hid (∀ z, Kn w z → _) := HHB.out rfl
    replace HMA : Hid (∀ z v, Kn w z → _) := HMA.out rfl
    replace HMB : Hid (∀ z v, Kn w z → _) := HMB.out rfl
    replace HTA : Hid (∀ z v, Kn w z → _) := HTA.out rfl
    replace HTB : Hid (∀ z v, Kn w z → _) := HTB.out rfl
    replace HFF1 : Hid (g1 = 0 → _) := HFF1.out rfl
    replace HFF2 : Hid (g2 = 0 → _) := HFF2.out rfl
    replace HE2Z : Hid (E2 = if g1 ≠ 0 ∨ g2 ≠ 0 then 2 else 0) := HE2Z.out rfl
    clear HE2M
    go_upto_region 14 with fail
    have bP := heap_alloc_new w6 (.cells #[.slice none 0 0, .slice none 0 0] 24)
    have gP := new_below w6 (.cells #[.slice none 0 0, .slice none 0 0] 24)
    have bQ := heap_alloc_new (w6.alloc (.cells #[.slice none 0 0, .slice none 0 0] 24)) (.cells #[.slice none 0 0, .slice none 0 0] 24)
    have gQ := new_below (w6.alloc (.cells #[.slice none 0 0, .slice none 0 0] 24)) (.cells #[.slice none 0 0, .slice none 0 0] 24)
    have hzP : (w6.alloc (.cells #[.slice none 0 0, .slice none 0 0] 24)).heap.size = w6.heap.size + 1 := by simp
    rw [hzP] at bQ
    have bP' := (gQ.block _ (by rw [hzP]; exact Nat.lt_succ_self _)).trans bP
    have gPQ := gP.trans (gQ.mono gP.size)
    generalize (w6.alloc (.cells #[.slice none 0 0, .slice none 0 0] 24)).alloc (.cells #[.slice none 0 0, .slice none 0 0] 24) = wZ at *
    have HPZ : Hid (wZ.heap[w6.heap.size]? = some (.cells #[.slice none 0 0, .slice none 0 0] 24) ∧ wZ.heap[w6.heap.size + 1]? = some (.cells #[.slice none 0 0, .slice none 0 0] 24)) := ⟨bP', bQ⟩
    have hWZ := HW.out.trans (gPQ.mono HW.out.size)
    have HBW : Hid (Below w1.heap.size w1 wZ) := HB5.out.trans (hWZ.mono HB5.out.size)
    have HKW : Hid (Kn w wZ) := HKW5.out.trans (Kn.below hWZ)
    have HRBZ : Hid (Rb w.heap.size w5 wZ) := Rb.of hWZ (HG1.out.trans (HB5.out.mono HG1.out.size)).size
    have HYZ : Hid (wZ.heap[Y]? = some (.cells #[.slice x1a x2a x3a, .slice x4a x5a x6a] 24) ∧ wZ.heap[Y + 1]? = some (.cells #[.slice y1a y2a y3a, .slice y4a y5a y6a] 24)) := ⟨(hWZ.block _ (by omega)).trans HY5.out.1, (hWZ.block _ hY5).trans HY5.out.2⟩
    have HMZ : Hid (CpV (Gs.missOut (ups hq) (ups wq) ids) wZ (.slice none 0 0)) := HMW.out.kn (Kn.below gPQ)
    have hPl : Y + 1 < w6.heap.size := Nat.lt_of_lt_of_le hY5 HW.out.size
    have hPs : w.heap.size ≤ w6.heap.size := Nat.le_trans (HG1.out.trans (HB5.out.mono HG1.out.size)).size HW.out.size
    clear bP gP bQ gQ hzP bP' gPQ hWZ HMW
    generalize w6.heap.size = PB at *
    refine wp_region_tabR (Rb wZ.heap.size) (fun _ _ _ => Rb.trans) (fun _ => Rb.draw _ _) (glT14 wZ.heap.size ah hq.length ch aw wq.length cw aj ph.length cj ak pw.length ck (Dg.heads (ups hq)) (Gs.missing (ups ph) (Dg.heads (ups hq))) (Dg.mores (ups hq ++ ups wq) (Gs.missing (ups ph) (Dg.heads (ups hq)))) g1 ob1) 10 (glD 17 wZ.heap.size (Dg.mores (ups hq ++ ups wq) (Gs.missing (ups ph) (Dg.heads (ups hq)))) g1) (by decide) (by kernel_rfl) (by kernel_rfl) (glT14_mono _ _ _ _ _ _ _ _ _ _ _ _ _ _ _ _ _ _ _) ?hop14_b ?hend14_b
    case hop14_b =>
      refine AllOpsI.cons (fun a y h => ?_) ?_
      · have e3 : a.eval (.tmp 3) = (.pointer (some ⟨w.heap.size, 0, none⟩) : Value) := h.old 3 (by kernel_rfl)
        obtain ⟨x0, x1, x2, x3⟩ := HXC.out y (HBW.out.trans (h.below.1.mono HBW.out.size))
        refine opOkR_val (v := .agg #[.slice ah hq.length ch, .slice aw wq.length cw]) (w' := y) (wanted_none rfl) ?_ (fun t ht => by cases ht; exact rfl) (Rb.refl _ _) (fun h9 => absurd h9 (by decide)) (fun h9 => absurd h9 (by decide))
        have ec : ∀ v, a.eval (.const v) = v := fun _ => rfl
        generalize a.eval = ev at *
        clear h
        go_simp
      refine AllOpsI.cons (fun a y h => ?_) ?_
      · have e4 : a.eval (.tmp 4) = (.pointer (some ⟨w.heap.size + 1, 0, none⟩) : Value) := h.old 4 (by kernel_rfl)
        obtain ⟨x0, x1, x2, x3⟩ := HXC.out y (HBW.out.trans (h.below.1.mono HBW.out.size))
        refine opOkR_val (v := .agg #[.slice aj ph.length cj, .slice ak pw.length ck]) (w' := y) (wanted_none rfl) ?_ (fun t ht => by cases ht; exact rfl) (Rb.refl _ _) (fun h9 => absurd h9 (by decide)) (fun h9 => absurd h9 (by decide))
        have ec : ∀ v, a.eval (.const v) = v := fun _ => rfl
        generalize a.eval = ev at *
        clear h
        go_simp
      refine AllOpsI.cons (fun a y h => ?_) ?_
      · have e3 : a.eval (.tmp 3) = (.pointer (some ⟨w.heap.size, 0, none⟩) : Value) := h.old 3 (by kernel_rfl)
        obtain ⟨x0, x1, x2, x3⟩ := HXC.out y (HBW.out.trans (h.below.1.mono HBW.out.size))
        refine opOkR_val (v := .agg #[.slice ah hq.length ch, .slice aw wq.length cw]) (w' := y) (wanted_none rfl) ?_ (fun t ht => by cases ht; exact rfl) (Rb.refl _ _) (fun h9 => absurd h9 (by decide)) (fun h9 => absurd h9 (by decide))
        have ec : ∀ v, a.eval (.const v) = v := fun _ => rfl
        generalize a.eval = ev at *
        clear h
        go_simp
      refine AllOpsI.cons (fun a y h => ?_) ?_
      · have e58 : a.eval (.tmp 58) = (.agg #[.slice ah hq.length ch, .slice aw wq.length cw] : Value) := h.of 58 (by kernel_rfl)
        refine opOkR_call (f := 12) (args := #[.agg #[.slice ah hq.length ch, .slice aw wq.length cw]]) (wanted_none rfl) ?_ ?_
        · have ec : ∀ v, a.eval (.const v) = v := fun _ => rfl
          have ef : ∀ f, a.eval (.func f) = .func (.func f) #[] #[] := fun _ => rfl
          generalize a.eval = ev at *
          clear h
          go_simp
        · refine Calls.mono (HHA.out y (HKW.out.trans h.below.2.1)) ?_
          rintro _ y2 ⟨v, rfl, hv, hb2⟩
          exact ⟨_, rfl, fun t ht => by cases ht; exact ids_of hv, Rb.of hb2 h.below.1.size, fun h9 => absurd h9 (by decide), fun h9 => absurd h9 (by decide)⟩
      refine AllOpsI.cons (fun a y h => ?_) ?_
      · have e57 : a.eval (.tmp 57) = (.agg #[.slice aj ph.length cj, .slice ak pw.length ck] : Value) := h.of 57 (by kernel_rfl)
        have t59 : IdS (Dg.heads (ups hq)) y (a.eval (.tmp 59)) := h.of 59 (by kernel_rfl)
        obtain ⟨i1, i2, i3, e59, hi⟩ := t59
        refine opOkR_call (f := 23) (args := #[.agg #[.slice aj ph.length cj, .slice ak pw.length ck], .slice i1 i2 i3]) (wanted_none rfl) ?_ ?_
        · have ec : ∀ v, a.eval (.const v) = v := fun _ => rfl
          have ef : ∀ f, a.eval (.func f) = .func (.func f) #[] #[] := fun _ => rfl
          generalize a.eval = ev at *
          clear h
          go_simp
        · refine Calls.mono (HMA.out y _ (HKW.out.trans h.below.2.1) hi) ?_
          rintro _ y2 ⟨v, rfl, hv, hb2⟩
          exact ⟨_, rfl, fun t ht => by cases ht; exact hv, Rb.of hb2 h.below.1.size, fun h9 => absurd h9 (by decide), fun h9 => absurd h9 (by decide)⟩
      refine AllOpsI.cons (fun a y h => ?_) ?_
      · have e56 : a.eval (.tmp 56) = (.agg #[.slice ah hq.length ch, .slice aw wq.length cw] : Value) := h.of 56 (by kernel_rfl)
        have t60 : CpU (Gs.missing (ups ph) (Dg.heads (ups hq))) y (a.eval (.tmp 60)) := h.of 60 (by kernel_rfl)
        obtain ⟨i1, i2, i3, e60, hi⟩ := t60
        refine opOkR_call (f := 24) (args := #[.agg #[.slice ah hq.length ch, .slice aw wq.length cw], .slice i1 i2 i3]) (wanted_none rfl) ?_ ?_
        · have ec : ∀ v, a.eval (.const v) = v := fun _ => rfl
          have ef : ∀ f, a.eval (.func f) = .func (.func f) #[] #[] := fun _ => rfl
          generalize a.eval = ev at *
          clear h
          go_simp
        · refine Calls.mono (HTA.out y _ (HKW.out.trans h.below.2.1) hi) ?_
          rintro _ y2 ⟨v, rfl, hv, hb2⟩
          exact ⟨_, rfl, fun t ht => by cases ht; exact hv, Rb.of hb2 h.below.1.size, fun h9 => absurd h9 (by decide), fun h9 => absurd h9 (by decide)⟩
      refine AllOpsI.cons (fun a y h => ?_) ?_
      · have t61 : ToN (Dg.mores (ups hq ++ ups wq) (Gs.missing (ups ph) (Dg.heads (ups hq)))) g1 ob1 y (a.eval (.tmp 61)) := h.of 61 (by kernel_rfl)
        obtain ⟨d1, d2, d3, d4, d5, d6, e61, hR⟩ := t61
        refine opOkR_val (v := .tuple #[.agg #[.slice d1 d2 d3, .slice d4 d5 d6], .bool ob1]) (w' := y) (wanted_none rfl) ?_ (fun t ht => by cases ht; exact ⟨_, _, _, _, _, _, rfl, hR⟩) (Rb.refl _ _) (fun h9 => absurd h9 (by decide)) (fun h9 => absurd h9 (by decide))
        have ec : ∀ v, a.eval (.const v) = v := fun _ => rfl
        generalize a.eval = ev at *
        clear h
        go_simp
      refine AllOpsI.cons (fun a y h => ?_) ?_
      · have t55 : ToN (Dg.mores (ups hq ++ ups wq) (Gs.missing (ups ph) (Dg.heads (ups hq)))) g1 ob1 y (a.eval (.tmp 55)) := h.of 55 (by kernel_rfl)
        obtain ⟨d1, d2, d3, d4, d5, d6, e55, hR⟩ := t55
        refine opOkR_val (v := .agg #[.slice d1 d2 d3, .slice d4 d5 d6]) (w' := y) (wanted_none rfl) ?_ (fun t ht => by cases ht; exact ⟨_, _, _, _, _, _, rfl, hR⟩) (Rb.refl _ _) (fun h9 => absurd h9 (by decide)) (fun h9 => absurd h9 (by decide))
        have ec : ∀ v, a.eval (.const v) = v := fun _ => rfl
        generalize a.eval = ev at *
        clear h
        go_simp
      refine AllOpsI.cons (fun a y h => ?_) ?_
      · have t55 : ToN (Dg.mores (ups hq ++ ups wq) (Gs.missing (ups ph) (Dg.heads (ups hq)))) g1 ob1 y (a.eval (.tmp 55)) := h.of 55 (by kernel_rfl)
        obtain ⟨d1, d2, d3, d4, d5, d6, e55, hR⟩ := t55
        refine opOkR_val (v := .bool ob1) (w' := y) (wanted_none rfl) ?_ (fun t ht => by cases ht; exact rfl) (Rb.refl _ _) (fun h9 => absurd h9 (by decide)) (fun _ _ hD => by obtain ⟨F, e3, h8, h7⟩ := hD; exact ⟨F, (put_get_ne (by decide)).trans e3, h8, h7⟩)
        have ec : ∀ v, a.eval (.const v) = v := fun _ => rfl
        generalize a.eval = ev at *
        clear h
        go_simp
      refine AllOpsI.cons (fun a y h => ?_) ?_
      · refine opOkR_val (v := .pointer (some ⟨y.heap.size, 0, none⟩)) (w' := y.alloc (.cells #[.slice none 0 0, .slice none 0 0] 24)) (wanted_none rfl) ?_ (fun t ht => by cases ht; exact bxp_new _ y h.below.1.size) (Rb.of (new_below y _) h.below.1.size) (fun h9 => absurd h9 (by decide)) (fun h9 => absurd h9 (by decide))
        have ec : ∀ v, a.eval (.const v) = v := fun _ => rfl
        generalize a.eval = ev at *
        clear h
        go_simp
      refine AllOpsI.cons (fun a y h => ?_) ?_
      · have t17 : Bxp wZ.heap.size y (a.eval (.tmp 17)) := h.of 17 (by kernel_rfl)
        have t62 : TrN (Dg.mores (ups hq ++ ups wq) (Gs.missing (ups ph) (Dg.heads (ups hq)))) g1 y (a.eval (.tmp 62)) := h.of 62 (by kernel_rfl)
        obtain ⟨d1, d2, d3, d4, d5, d6, e62, hR⟩ := t62
        obtain ⟨F, e17, ⟨r1, r2, r3, r4, r5, r6, hF⟩, hFl⟩ := t17
        have z0 : y.cell? ⟨F, 0, none⟩ = some (.slice r1 r2 r3) := by rw [Lib.cell_of_heap hF]; rfl
        have y0 := Lib.frozen_of_heap hF 0
        have k1 : (y.setCell ⟨F, 0, none⟩ (.slice d1 d2 d3)).heap[F]? = some (.cells #[.slice d1 d2 d3, .slice r4 r5 r6] 24) := by rw [Lib.heap_setCell_same hF]; rfl
        have z1 : (y.setCell ⟨F, 0, none⟩ (.slice d1 d2 d3)).cell? ⟨F, 1, none⟩ = some (.slice r4 r5 r6) := by rw [Lib.cell_of_heap k1]; rfl
        have y1 := Lib.frozen_of_heap k1 1
        refine opOkR_void (w' := two y F (.slice d1 d2 d3) (.slice d4 d5 d6)) (wanted_none rfl) ?_ rfl (Rb.two hF hFl) (fun _ => ⟨F, e17, hFl, _, _, _, _, _, _, two_heap hF, hR.kn (two_kn hF)⟩) (fun _ h9 => absurd rfl h9)
        unfold two
        generalize a.eval = ev at *
        clear h hR
        go_simp
      refine AllOpsI.cons (fun a y h => ?_) ?_
      · have e63 : a.eval (.tmp 63) = (.bool ob1 : Value) := h.of 63 (by kernel_rfl)
        refine opOkR_val (v := .bool ob1) (w' := y) (wanted_none rfl) ?_ (fun t ht => by cases ht; exact rfl) (Rb.refl _ _) (fun h9 => absurd h9 (by decide)) (fun _ _ hD => by obtain ⟨F, e3, h8, h7⟩ := hD; exact ⟨F, (put_get_ne (by decide)).trans e3, h8, h7⟩)
        have ec : ∀ v, a.eval (.const v) = v := fun _ => rfl
        generalize a.eval = ev at *
        clear h
        go_simp
      exact AllOpsI.nil
    rintro ⟨tm, df⟩ y14 hI hD hdE hszE hstE hTE
    obtain ⟨F14, kb, hF14l, d141, d142, d143, d144, d145, d146, hF14, hR14⟩ := hD
    have ke : tm.getD 18 undef = (.bool ob1 : Value) := hTE 18 (by decide)
    obtain rfl : df = [] := hdE
    have HRB14 : Hid (Rb wZ.heap.size wZ y14) := hI
    have HF14 : Hid (y14.heap[F14]? = some (.cells #[.slice d141 d142 d143, .slice d144 d145 d146] 24) ∧ wZ.heap.size ≤ F14) := ⟨hF14, hF14l⟩
    have HR14 : Hid (ReE (Dg.mores (ups hq ++ ups wq) (Gs.missing (ups ph) (Dg.heads (ups hq)))) g1 y14 (.slice d141 d142 d143) (.slice d144 d145 d146)) := hR14
    clear hI hTE hF14 hF14l hR14
    have hF8 := tmps_fold [56, 57, 58, 59, 60, 61, 55, 62, 63, 17, 18] tm _ (hszE.trans (by rfl)) hstE
    clear hszE hstE
    simp only [] at kb
    simp only [List.foldl_cons, List.foldl_nil, kb, ke] at hF8
    clear kb ke
    generalize tm.getD 56 undef = x56 at hF8
    generalize tm.getD 57 undef = x57 at hF8
    generalize tm.getD 58 undef = x58 at hF8
    generalize tm.getD 59 undef = x59 at hF8
    generalize tm.getD 60 undef = x60 at hF8
    generalize tm.getD 61 undef = x61 at hF8
    generalize tm.getD 55 undef = x55 at hF8
    generalize tm.getD 62 undef = x62 at hF8
    generalize tm.getD 63 undef = x63 at hF8
    simp only [List.setIfInBounds_toArray, List.set_cons_zero, List.set_cons_succ] at hF8
    subst hF8
    go_upto_region 15 with fail
    have HBZ := HBW
    have HKZ := HKW
    replace HBW : Hid (Below w1.heap.size w1 y14) := HBZ.out.trans (HRB14.out.1.mono HBZ.out.size)
    replace HKW : Hid (Kn w y14) := HKZ.out.trans HRB14.out.2.1
    refine wp_region_tabR (Rb y14.heap.size) (fun _ _ _ => Rb.trans) (fun _ => Rb.draw _ _) (glT15 y14.heap.size aj ph.length cj ak pw.length ck ah hq.length ch aw wq.length cw (Dg.heads (ups ph)) (Gs.missing (ups hq) (Dg.heads (ups ph))) (Dg.mores (ups ph ++ ups pw) (Gs.missing (ups hq) (Dg.heads (ups ph)))) g2 ob2) 10 (glD 19 y14.heap.size (Dg.mores (ups ph ++ ups pw) (Gs.missing (ups hq) (Dg.heads (ups ph)))) g2) (by decide) (by kernel_rfl) (by kernel_rfl) (glT15_mono _ _ _ _ _ _ _ _ _ _ _ _ _ _ _ _ _ _ _) ?hop15_b ?hend15_b
    case hop15_b =>
      refine AllOpsI.cons (fun a y h => ?_) ?_
      · have e4 : a.eval (.tmp 4) = (.pointer (some ⟨w.heap.size + 1, 0, none⟩) : Value) := h.old 4 (by kernel_rfl)
        obtain ⟨x0, x1, x2, x3⟩ := HXC.out y (HBW.out.trans (h.below.1.mono HBW.out.size))
        refine opOkR_val (v := .agg #[.slice aj ph.length cj, .slice ak pw.length ck]) (w' := y) (wanted_none rfl) ?_ (fun t ht => by cases ht; exact rfl) (Rb.refl _ _) (fun h9 => absurd h9 (by decide)) (fun h9 => absurd h9 (by decide))
        have ec : ∀ v, a.eval (.const v) = v := fun _ => rfl
        generalize a.eval = ev at *
        clear h
        go_simp
      refine AllOpsI.cons (fun a y h => ?_) ?_
      · have e3 : a.eval (.tmp 3) = (.pointer (some ⟨w.heap.size, 0, none⟩) : Value) := h.old 3 (by kernel_rfl)
        obtain ⟨x0, x1, x2, x3⟩ := HXC.out y (HBW.out.trans (h.below.1.mono HBW.out.size))
        refine opOkR_val (v := .agg #[.slice ah hq.length ch, .slice aw wq.length cw]) (w' := y) (wanted_none rfl) ?_ (fun t ht => by cases ht; exact rfl) (Rb.refl _ _) (fun h9 => absurd h9 (by decide)) (fun h9 => absurd h9 (by decide))
        have ec : ∀ v, a.eval (.const v) = v := fun _ => rfl
        generalize a.eval = ev at *
        clear h
        go_simp
      refine AllOpsI.cons (fun a y h => ?_) ?_
      · have e4 : a.eval (.tmp 4) = (.pointer (some ⟨w.heap.size + 1, 0, none⟩) : Value) := h.old 4 (by kernel_rfl)
        obtain ⟨x0, x1, x2, x3⟩ := HXC.out y (HBW.out.trans (h.below.1.mono HBW.out.size))
        refine opOkR_val (v := .agg #[.slice aj ph.length cj, .slice ak pw.length ck]) (w' := y) (wanted_none rfl) ?_ (fun t ht => by cases ht; exact rfl) (Rb.refl _ _) (fun h9 => absurd h9 (by decide)) (fun h9 => absurd h9 (by decide))
        have ec : ∀ v, a.eval (.const v) = v := fun _ => rfl
        generalize a.eval = ev at *
        clear h
        go_simp
      refine AllOpsI.cons (fun a y h => ?_) ?_
      · have e67 : a.eval (.tmp 67) = (.agg #[.slice aj ph.length cj, .slice ak pw.length ck] : Value) := h.of 67 (by kernel_rfl)
        refine opOkR_call (f := 12) (args := #[.agg #[.slice aj ph.length cj, .slice ak pw.length ck]]) (wanted_none rfl) ?_ ?_
        · have ec : ∀ v, a.eval (.const v) = v := fun _ => rfl
          have ef : ∀ f, a.eval (.func f) = .func (.func f) #[] #[] := fun _ => rfl
          generalize a.eval = ev at *
          clear h
          go_simp
        · refine Calls.mono (HHB.out y (HKW.out.trans h.below.2.1)) ?_
          rintro _ y2 ⟨v, rfl, hv, hb2⟩
          exact ⟨_, rfl, fun t ht => by cases ht; exact ids_of hv, Rb.of hb2 h.below.1.size, fun h9 => absurd h9 (by decide), fun h9 => absurd h9 (by decide)⟩
      refine AllOpsI.cons (fun a y h => ?_) ?_
      · have e66 : a.eval (.tmp 66) = (.agg #[.slice ah hq.length ch, .slice aw wq.length cw] : Value) := h.of 66 (by kernel_rfl)
        have t68 : IdS (Dg.heads (ups ph)) y (a.eval (.tmp 68)) := h.of 68 (by kernel_rfl)
        obtain ⟨i1, i2, i3, e68, hi⟩ := t68
        refine opOkR_call (f := 23) (args := #[.agg #[.slice ah hq.length ch, .slice aw wq.length cw], .slice i1 i2 i3]) (wanted_none rfl) ?_ ?_
        · have ec : ∀ v, a.eval (.const v) = v := fun _ => rfl
          have ef : ∀ f, a.eval (.func f) = .func (.func f) #[] #[] := fun _ => rfl
          generalize a.eval = ev at *
          clear h
          go_simp
        · refine Calls.mono (HMB.out y _ (HKW.out.trans h.below.2.1) hi) ?_
          rintro _ y2 ⟨v, rfl, hv, hb2⟩
          exact ⟨_, rfl, fun t ht => by cases ht; exact hv, Rb.of hb2 h.below.1.size, fun h9 => absurd h9 (by decide), fun h9 => absurd h9 (by decide)⟩
      refine AllOpsI.cons (fun a y h => ?_) ?_
      · have e65 : a.eval (.tmp 65) = (.agg #[.slice aj ph.length cj, .slice ak pw.length ck] : Value) := h.of 65 (by kernel_rfl)
        have t69 : CpU (Gs.missing (ups hq) (Dg.heads (ups ph))) y (a.eval (.tmp 69)) := h.of 69 (by kernel_rfl)
        obtain ⟨i1, i2, i3, e69, hi⟩ := t69
        refine opOkR_call (f := 24) (args := #[.agg #[.slice aj ph.length cj, .slice ak pw.length ck], .slice i1 i2 i3]) (wanted_none rfl) ?_ ?_
        · have ec : ∀ v, a.eval (.const v) = v := fun _ => rfl
          have ef : ∀ f, a.eval (.func f) = .func (.func f) #[] #[] := fun _ => rfl
          generalize a.eval = ev at *
          clear h
          go_simp
        · refine Calls.mono (HTB.out y _ (HKW.out.trans h.below.2.1) hi) ?_
          rintro _ y2 ⟨v, rfl, hv, hb2⟩
          exact ⟨_, rfl, fun t ht => by cases ht; exact hv, Rb.of hb2 h.below.1.size, fun h9 => absurd h9 (by decide), fun h9 => absurd h9 (by decide)⟩
      refine AllOpsI.cons (fun a y h => ?_) ?_
      · have t70 : ToN (Dg.mores (ups ph ++ ups pw) (Gs.missing (ups hq) (Dg.heads (ups ph)))) g2 ob2 y (a.eval (.tmp 70)) := h.of 70 (by kernel_rfl)
        obtain ⟨d1, d2, d3, d4, d5, d6, e70, hR⟩ := t70
        refine opOkR_val (v := .tuple #[.agg #[.slice d1 d2 d3, .slice d4 d5 d6], .bool ob2]) (w' := y) (wanted_none rfl) ?_ (fun t ht => by cases ht; exact ⟨_, _, _, _, _, _, rfl, hR⟩) (Rb.refl _ _) (fun h9 => absurd h9 (by decide)) (fun h9 => absurd h9 (by decide))
        have ec : ∀ v, a.eval (.const v) = v := fun _ => rfl
        generalize a.eval = ev at *
        clear h
        go_simp
      refine AllOpsI.cons (fun a y h => ?_) ?_
      · have t64 : ToN (Dg.mores (ups ph ++ ups pw) (Gs.missing (ups hq) (Dg.heads (ups ph)))) g2 ob2 y (a.eval (.tmp 64)) := h.of 64 (by kernel_rfl)
        obtain ⟨d1, d2, d3, d4, d5, d6, e64, hR⟩ := t64
        refine opOkR_val (v := .agg #[.slice d1 d2 d3, .slice d4 d5 d6]) (w' := y) (wanted_none rfl) ?_ (fun t ht => by cases ht; exact ⟨_, _, _, _, _, _, rfl, hR⟩) (Rb.refl _ _) (fun h9 => absurd h9 (by decide)) (fun h9 => absurd h9 (by decide))
        have ec : ∀ v, a.eval (.const v) = v := fun _ => rfl
        generalize a.eval = ev at *
        clear h
        go_simp
      refine AllOpsI.cons (fun a y h => ?_) ?_
      · have t64 : ToN (Dg.mores (ups ph ++ ups pw) (Gs.missing (ups hq) (Dg.heads (ups ph)))) g2 ob2 y (a.eval (.tmp 64)) := h.of 64 (by kernel_rfl)
        obtain ⟨d1, d2, d3, d4, d5, d6, e64, hR⟩ := t64
        refine opOkR_val (v := .bool ob2) (w' := y) (wanted_none rfl) ?_ (fun t ht => by cases ht; exact rfl) (Rb.refl _ _) (fun h9 => absurd h9 (by decide)) (fun _ _ hD => by obtain ⟨F, e3, h8, h7⟩ := hD; exact ⟨F, (put_get_ne (by decide)).trans e3, h8, h7⟩)
        have ec : ∀ v, a.eval (.const v) = v := fun _ => rfl
        generalize a.eval = ev at *
        clear h
        go_simp
      refine AllOpsI.cons (fun a y h => ?_) ?_
      · refine opOkR_val (v := .pointer (some ⟨y.heap.size, 0, none⟩)) (w' := y.alloc (.cells #[.slice none 0 0, .slice none 0 0] 24)) (wanted_none rfl) ?_ (fun t ht => by cases ht; exact bxp_new _ y h.below.1.size) (Rb.of (new_below y _) h.below.1.size) (fun h9 => absurd h9 (by decide)) (fun h9 => absurd h9 (by decide))
        have ec : ∀ v, a.eval (.const v) = v := fun _ => rfl
        generalize a.eval = ev at *
        clear h
        go_simp
      refine AllOpsI.cons (fun a y h => ?_) ?_
      · have t19 : Bxp y14.heap.size y (a.eval (.tmp 19)) := h.of 19 (by kernel_rfl)
        have t71 : TrN (Dg.mores (ups ph ++ ups pw) (Gs.missing (ups hq) (Dg.heads (ups ph)))) g2 y (a.eval (.tmp 71)) := h.of 71 (by kernel_rfl)
        obtain ⟨d1, d2, d3, d4, d5, d6, e71, hR⟩ := t71
        obtain ⟨F, e19, ⟨r1, r2, r3, r4, r5, r6, hF⟩, hFl⟩ := t19
        have z0 : y.cell? ⟨F, 0, none⟩ = some (.slice r1 r2 r3) := by rw [Lib.cell_of_heap hF]; rfl
        have y0 := Lib.frozen_of_heap hF 0
        have k1 : (y.setCell ⟨F, 0, none⟩ (.slice d1 d2 d3)).heap[F]? = some (.cells #[.slice d1 d2 d3, .slice r4 r5 r6] 24) := by rw [Lib.heap_setCell_same hF]; rfl
        have z1 : (y.setCell ⟨F, 0, none⟩ (.slice d1 d2 d3)).cell? ⟨F, 1, none⟩ = some (.slice r4 r5 r6) := by rw [Lib.cell_of_heap k1]; rfl
        have y1 := Lib.frozen_of_heap k1 1
        refine opOkR_void (w' := two y F (.slice d1 d2 d3) (.slice d4 d5 d6)) (wanted_none rfl) ?_ rfl (Rb.two hF hFl) (fun _ => ⟨F, e19, hFl, _, _, _, _, _, _, two_heap hF, hR.kn (two_kn hF)⟩) (fun _ h9 => absurd rfl h9)
        unfold two
        generalize a.eval = ev at *
        clear h hR
        go_simp
      refine AllOpsI.cons (fun a y h => ?_) ?_
      · have e72 : a.eval (.tmp 72) = (.bool ob2 : Value) := h.of 72 (by kernel_rfl)
        refine opOkR_val (v := .bool ob2) (w' := y) (wanted_none rfl) ?_ (fun t ht => by cases ht; exact rfl) (Rb.refl _ _) (fun h9 => absurd h9 (by decide)) (fun _ _ hD => by obtain ⟨F, e3, h8, h7⟩ := hD; exact ⟨F, (put_get_ne (by decide)).trans e3, h8, h7⟩)
        have ec : ∀ v, a.eval (.const v) = v := fun _ => rfl
        generalize a.eval = ev at *
        clear h
        go_simp
      exact AllOpsI.nil
    rintro ⟨tm, df⟩ y15 hI hD hdE hszE hstE hTE
    obtain ⟨F15, kb, hF15l, d151, d152, d153, d154, d155, d156, hF15, hR15⟩ := hD
    have ke : tm.getD 20 undef = (.bool ob2 : Value) := hTE 20 (by decide)
    obtain rfl : df = [] := hdE
    have HRB15 : Hid (Rb y14.heap.size y14 y15) := hI
    have HF15 : Hid (y15.heap[F15]? = some (.cells #[.slice d151 d152 d153, .slice d154 d155 d156] 24) ∧ y14.heap.size ≤ F15) := ⟨hF15, hF15l⟩
    have HR15 : Hid (ReE (Dg.mores (ups ph ++ ups pw) (Gs.missing (ups hq) (Dg.heads (ups ph)))) g2 y15 (.slice d151 d152 d153) (.slice d154 d155 d156)) := hR15
    clear hI hTE hF15 hF15l hR15
    have hF8 := tmps_fold [65, 66, 67, 68, 69, 70, 64, 71, 72, 19, 20] tm _ (hszE.trans (by rfl)) hstE
    clear hszE hstE
    simp only [] at kb
    simp only [List.foldl_cons, List.foldl_nil, kb, ke] at hF8
    clear kb ke
    generalize tm.getD 65 undef = x65 at hF8
    generalize tm.getD 66 undef = x66 at hF8
    generalize tm.getD 67 undef = x67 at hF8
    generalize tm.getD 68 undef = x68 at hF8
    generalize tm.getD 69 undef = x69 at hF8
    generalize tm.getD 70 undef = x70 at hF8
    generalize tm.getD 64 undef = x64 at hF8
    generalize tm.getD 71 undef = x71 at hF8
    generalize tm.getD 72 undef = x72 at hF8
    simp only [List.setIfInBounds_toArray, List.set_cons_zero, List.set_cons_succ] at hF8
    subst hF8
    have hsz14 : wZ.heap.size ≤ y14.heap.size := HRB14.out.1.size
    have hPz : PB + 1 < wZ.heap.size := (Array.getElem?_eq_some_iff.1 HPZ.out.2).1
    have hF14 := HF14.out.2
    have hF15 := HF15.out.2
    have hF14l : F14 < y14.heap.size := (Array.getElem?_eq_some_iff.1 HF14.out.1).1
    have v4 : y15.heap[PB]? = some (.cells #[.slice none 0 0, .slice none 0 0] 24) := (HRB15.out.1.block _ (by omega)).trans ((HRB14.out.1.block _ (by omega)).trans HPZ.out.1)
    have v5 : y15.heap[PB + 1]? = some (.cells #[.slice none 0 0, .slice none 0 0] 24) := (HRB15.out.1.block _ (by omega)).trans ((HRB14.out.1.block _ (by omega)).trans HPZ.out.2)
    have vY1 : y15.heap[Y]? = some (.cells #[.slice x1a x2a x3a, .slice x4a x5a x6a] 24) := (HRB15.out.1.block _ (by omega)).trans ((HRB14.out.1.block _ (by omega)).trans HYZ.out.1)
    have vY2 : y15.heap[Y + 1]? = some (.cells #[.slice y1a y2a y3a, .slice y4a y5a y6a] 24) := (HRB15.out.1.block _ (by omega)).trans ((HRB14.out.1.block _ (by omega)).trans HYZ.out.2)
    have vA : y15.heap[F14]? = some (.cells #[.slice d141 d142 d143, .slice d144 d145 d146] 24) := (HRB15.out.1.block _ hF14l).trans HF14.out.1
    have q0 : y15.cell? ⟨F14, 0, none⟩ = some (.slice d141 d142 d143) := by rw [Lib.cell_of_heap vA]; rfl
    have q1 : y15.cell? ⟨F14, 1, none⟩ = some (.slice d144 d145 d146) := by rw [Lib.cell_of_heap vA]; rfl
    have q2 : y15.cell? ⟨F15, 0, none⟩ = some (.slice d151 d152 d153) := by rw [Lib.cell_of_heap HF15.out.1]; rfl
    have q3 : y15.cell? ⟨F15, 1, none⟩ = some (.slice d154 d155 d156) := by rw [Lib.cell_of_heap HF15.out.1]; rfl
    obtain ⟨s0, s1, s2, s3, s4, s5⟩ := box_store (u := .slice d141 d142 d143) (v := .slice d144 d145 d146) v4 (by omega : F15 ≠ PB) q2 q3
    have v6 : (two y15 PB (.slice d141 d142 d143) (.slice d144 d145 d146)).heap[PB + 1]? = some (.cells #[.slice none 0 0, .slice none 0 0] 24) := (two_other (by omega)).trans v5
    obtain ⟨s6, s7, s8, s9, _, _⟩ := box_store (u := .slice d151 d152 d153) (v := .slice d154 d155 d156) v6 (by omega : F15 ≠ PB + 1) s4 s5
    have hk1 := two_kn (u := .slice d141 d142 d143) (v := .slice d144 d145 d146) v4
    have hk2 := two_kn (u := .slice d151 d152 d153) (v := .slice d154 d155 d156) v6
    have HPB8 : Hid ((two (two y15 PB (.slice d141 d142 d143) (.slice d144 d145 d146)) (PB + 1) (.slice d151 d152 d153) (.slice d154 d155 d156)).heap[PB]? = some (.cells #[.slice d141 d142 d143, .slice d144 d145 d146] 24) ∧ (two (two y15 PB (.slice d141 d142 d143) (.slice d144 d145 d146)) (PB + 1) (.slice d151 d152 d153) (.slice d154 d155 d156)).heap[PB + 1]? = some (.cells #[.slice d151 d152 d153, .slice d154 d155 d156] 24)) := ⟨(two_other (by omega)).trans (two_heap v4), two_heap v6⟩
    have HYW8 : Hid ((two (two y15 PB (.slice d141 d142 d143) (.slice d144 d145 d146)) (PB + 1) (.slice d151 d152 d153) (.slice d154 d155 d156)).heap[Y]? = some (.cells #[.slice x1a x2a x3a, .slice x4a x5a x6a] 24) ∧ (two (two y15 PB (.slice d141 d142 d143) (.slice d144 d145 d146)) (PB + 1) (.slice d151 d152 d153) (.slice d154 d155 d156)).heap[Y + 1]? = some (.cells #[.slice y1a y2a y3a, .slice y4a y5a y6a] 24)) := ⟨(two_other (by omega)).trans ((two_other (by omega)).trans vY1), (two_other (by omega)).trans ((two_other (by omega)).trans vY2)⟩
    have HK8 : Hid (Kn w5 (two (two y15 PB (.slice d141 d142 d143) (.slice d144 d145 d146)) (PB + 1) (.slice d151 d152 d153) (.slice d154 d155 d156))) := (((HRBZ.out.2.1.trans HRB14.out.2.1).trans HRB15.out.2.1).trans hk1).trans hk2
    have hbl : Below w.heap.size w y15 := HG1.out.trans (((HBZ.out.mono (by omega)).trans (HRB14.out.1.mono (by omega))).trans (HRB15.out.1.mono (by omega)))
    have HB8 : Hid (Below w.heap.size w (two (two y15 PB (.slice d141 d142 d143) (.slice d144 d145 d146)) (PB + 1) (.slice d151 d152 d153) (.slice d154 d155 d156))) := two_below (two_below hbl (by omega) _ _) (by omega) _ _
    have HM8 : Hid (CpV (Gs.missOut (ups hq) (ups wq) ids) (two (two y15 PB (.slice d141 d142 d143) (.slice d144 d145 d146)) (PB + 1) (.slice d151 d152 d153) (.slice d154 d155 d156)) (.slice none 0 0)) := (((HMZ.out.kn HRB14.out.2.1).kn HRB15.out.2.1).kn hk1).kn hk2
    have HE14 : Hid (ReE (Dg.mores (ups hq ++ ups wq) (Gs.missing (ups ph) (Dg.heads (ups hq)))) g1 (two (two y15 PB (.slice d141 d142 d143) (.slice d144 d145 d146)) (PB + 1) (.slice d151 d152 d153) (.slice d154 d155 d156)) (.slice d141 d142 d143) (.slice d144 d145 d146)) := ((HR14.out.kn HRB15.out.2.1).kn hk1).kn hk2
    have HE15 : Hid (ReE (Dg.mores (ups ph ++ ups pw) (Gs.missing (ups hq) (Dg.heads (ups ph)))) g2 (two (two y15 PB (.slice d141 d142 d143) (.slice d144 d145 d146)) (PB + 1) (.slice d151 d152 d153) (.slice d154 d155 d156)) (.slice d151 d152 d153) (.slice d154 d155 d156)) := (HR15.out.kn hk1).kn hk2
    unfold two at s6 s7 s8 s9
    clear v4 v5 v6 vY1 vY2 vA hk1 hk2 hbl HR14 HR15 HMZ HF14 HF15 HPZ HYZ HRB14 HRB15 HRBZ hF14 hF15 hF14l hsz14 hPz HBZ HKZ HBW HKW
    go_upto_region 16 with fail
    refine wp_mid (fun a0 a w' => w' = (two (two y15 PB (.slice d141 d142 d143) (.slice d144 d145 d146)) (PB + 1) (.slice d151 d152 d153) (.slice d154 d155 d156)).drew ∧ a = ⟨(a0.tmps.setIfInBounds 73 (.agg #[.slice d141 d142 d143, .slice d144 d145 d146])).setIfInBounds 74 (.agg #[.slice d151 d152 d153, .slice d154 d155 d156]), a0.defers⟩) ?first16b ?rest16b
    case first16b =>
      go_region
      refine ⟨rfl, rfl, ?_⟩
      simp only [List.setIfInBounds_toArray, List.set_cons_zero, List.set_cons_succ]
    clear s0 s1 s2 s3 s4 s5 s6 s7 s8 s9 q0 q1 q2 q3
    rintro a wN ⟨hw, ha⟩
    simp only [List.setIfInBounds_toArray, List.set_cons_zero, List.set_cons_succ] at ha
    subst ha
    generalize (two (two y15 PB (.slice d141 d142 d143) (.slice d144 d145 d146)) (PB + 1) (.slice d151 d152 d153) (.slice d154 d155 d156)) = w8 at *
    have hbd : Below w8.heap.size w8 wN := by rw [hw]; exact (Below.refl _ _).drew
    have HKW : Hid (Kn w5 wN) := HK8.out.trans (Kn.below hbd)
    have HBF : Hid (Below w.heap.size w wN) := HB8.out.trans (hbd.mono HB8.out.size)
    have HYW : Hid (wN.heap[Y]? = some (.cells #[.slice x1a x2a x3a, .slice x4a x5a x6a] 24) ∧ wN.heap[Y + 1]? = some (.cells #[.slice y1a y2a y3a, .slice y4a y5a y6a] 24)) := ⟨(hbd.block _ (Array.getElem?_eq_some_iff.1 HYW8.out.1).1).trans HYW8.out.1, (hbd.block _ (Array.getElem?_eq_some_iff.1 HYW8.out.2).1).trans HYW8.out.2⟩
    have HPB : Hid (wN.heap[PB]? = some (.cells #[.slice d141 d142 d143, .slice d144 d145 d146] 24) ∧ wN.heap[PB + 1]? = some (.cells #[.slice d151 d152 d153, .slice d154 d155 d156] 24)) := ⟨(hbd.block _ (Array.getElem?_eq_some_iff.1 HPB8.out.1).1).trans HPB8.out.1, (hbd.block _ (Array.getElem?_eq_some_iff.1 HPB8.out.2).1).trans HPB8.out.2⟩
    have HMV : Hid (CpV (Gs.missOut (ups hq) (ups wq) ids) wN (.slice none 0 0)) := HM8.out.kn (Kn.below hbd)
    have HN14 : Hid (ReE (Dg.mores (ups hq ++ ups wq) (Gs.missing (ups ph) (Dg.heads (ups hq)))) g1 wN (.slice d141 d142 d143) (.slice d144 d145 d146)) := HE14.out.kn (Kn.below hbd)
    have HN15 : Hid (ReE (Dg.mores (ups ph ++ ups pw) (Gs.missing (ups hq) (Dg.heads (ups ph)))) g2 wN (.slice d151 d152 d153) (.slice d154 d155 d156)) := HE15.out.kn (Kn.below hbd)
    have HAP : Hid (AnyR wN (.slice d141 d142 d143) (.slice d144 d145 d146)) := HN14.out.any
    have HAQ : Hid (AnyR wN (.slice d151 d152 d153) (.slice d154 d155 d156)) := HN15.out.any
    clear hw hbd HK8 HB8 HYW8 HPB8 HM8 HE14 HE15
    by_cases hz : g1 = 0 ∧ g2 = 0
    · obtain ⟨z1', z2'⟩ := hz
      obtain rfl : ob1 = true := by rw [HOB1.out]; exact decide_eq_true z1'
      obtain rfl : ob2 = true := by rw [HOB2.out]; exact decide_eq_true z2'
      obtain rfl : E2 = 0 := by rw [HE2Z.out, if_neg]; rintro (h | h); exact h z1'; exact h z2'
      have HP0 : Hid ((0 : Int) = 0 → RepI (Dg.mores (ups hq ++ ups wq) (Gs.missing (ups ph) (Dg.heads (ups hq)))) wN (.slice d141 d142 d143) (.slice d144 d145 d146)) := fun _ => HN14.out.1 z1'
      have HQ0 : Hid ((0 : Int) = 0 → RepI (Dg.mores (ups ph ++ ups pw) (Gs.missing (ups hq) (Dg.heads (ups ph)))) wN (.slice d151 d152 d153) (.slice d154 d155 d156)) := fun _ => HN15.out.1 z2'
      have HFA : Hid ((0 : Int) = 0 → Fair (Dg.mores (ups hq ++ ups wq) (Gs.missing (ups ph) (Dg.heads (ups hq))))) := fun _ => HFF1.out z1'
      have HFB : Hid ((0 : Int) = 0 → Fair (Dg.mores (ups ph ++ ups pw) (Gs.missing (ups hq) (Dg.heads (ups ph))))) := fun _ => HFF2.out z2'
      clear z1' z2' HN14 HN15
      go_upto_region 19 with fail
      have HCF : Hid (∀ z, Below wN.heap.size wN z → (z.cell? ⟨Y, 0, none⟩ = some (.slice x1a x2a x3a) ∧ z.cell? ⟨Y, 1, none⟩ = some (.slice x4a x5a x6a)) ∧ (z.cell? ⟨Y + 1, 0, none⟩ = some (.slice y1a y2a y3a) ∧ z.cell? ⟨Y + 1, 1, none⟩ = some (.slice y4a y5a y6a)) ∧ (z.cell? ⟨PB, 0, none⟩ = some (.slice d141 d142 d143) ∧ z.cell? ⟨PB, 1, none⟩ = some (.slice d144 d145 d146)) ∧ z.cell? ⟨PB + 1, 0, none⟩ = some (.slice d151 d152 d153) ∧ z.cell? ⟨PB + 1, 1, none⟩ = some (.slice d154 d155 d156)) := fun z hz =>
        ⟨⟨cell_below hz (by rw [Lib.cell_of_heap HYW.out.1]; rfl), cell_below hz (by rw [Lib.cell_of_heap HYW.out.1]; rfl)⟩, ⟨cell_below hz (by rw [Lib.cell_of_heap HYW.out.2]; rfl), cell_below hz (by rw [Lib.cell_of_heap HYW.out.2]; rfl)⟩, ⟨cell_below hz (by rw [Lib.cell_of_heap HPB.out.1]; rfl), cell_below hz (by rw [Lib.cell_of_heap HPB.out.1]; rfl)⟩, cell_below hz (by rw [Lib.cell_of_heap HPB.out.2]; rfl), cell_below hz (by rw [Lib.cell_of_heap HPB.out.2]; rfl)⟩
      have H26 : Hid (∀ z, Below wN.heap.size wN z → Calls Tryz.prog 26 #[.slice a7 R.length c7, .slice none 0 0] z fun e w' => e = .returned (.bool true) ∧ Below z.heap.size z w') := fun z hz => by
        obtain ⟨L9, l1, l2, l3⟩ := HMV.out
        have hk := HKW.out.trans (Kn.below hz)
        exact SameUpdates_same R L9 _ _ z (HRV.out.kn hk) (l1.kn (Kn.below hz)) (HRU.out.trans l3.symm) HRL.out (fun x hx => (HRO.out x hx).kn hk) (fun x hx => (l2 x hx).kn (Kn.below hz))
      have H16A : Hid (∀ z, Below wN.heap.size wN z → Calls Tryz.prog 16 #[.agg #[.slice x1a x2a x3a, .slice x4a x5a x6a], .int .i64 0, .int .i64 0, .agg #[.slice d141 d142 d143, .slice d144 d145 d146]] z fun e w' => e = .returned (.bool true) ∧ Below z.heap.size z w') := fun z hz => repIs_rep HFA.out (HRX.out.kn (HKW.out.trans (Kn.below hz))) (HAP.out.kn (Kn.below hz)) (fun h => (HP0.out h).kn (Kn.below hz))
      have H16B : Hid (∀ z, Below wN.heap.size wN z → Calls Tryz.prog 16 #[.agg #[.slice y1a y2a y3a, .slice y4a y5a y6a], .int .i64 0, .int .i64 0, .agg #[.slice d151 d152 d153, .slice d154 d155 d156]] z fun e w' => e = .returned (.bool true) ∧ Below z.heap.size z w') := fun z hz => repIs_rep HFB.out (HRY.out.kn (HKW.out.trans (Kn.below hz))) (HAQ.out.kn (Kn.below hz)) (fun h => (HQ0.out h).kn (Kn.below hz))
      obtain ⟨⟨x0, x1⟩, ⟨x2, x3⟩, ⟨x4, x5⟩, x6, x7⟩ := HCF.out wN (Below.refl _ _)
      go_wp2_with (first
        | (go_at_call 25; refine Calls.mono (gossipBegun_any _) ?_; rintro _ z1 ⟨rfl, hz1⟩; clear x0 x1 x2 x3 x4 x5 x6 x7)
        | (go_at_call 26; refine Calls.mono (H26.out _ hz1) ?_; rintro _ z2 ⟨rfl, hz2'⟩; have hz2 := hz1.trans (hz2'.mono hz1.size); clear hz2'; obtain ⟨⟨x0, x1⟩, ⟨x2, x3⟩, ⟨x4, x5⟩, x6, x7⟩ := HCF.out z2 hz2)
        | (go_at_call 16; with_reducible refine Calls.mono (H16A.out _ hz2) ?_; rintro _ z3 ⟨rfl, hz3'⟩; have hz3 := hz2.trans (hz3'.mono hz2.size); clear hz3' x0 x1 x2 x3 x4 x5 x6 x7; obtain ⟨⟨x0, x1⟩, ⟨x2, x3⟩, ⟨x4, x5⟩, x6, x7⟩ := HCF.out z3 hz3)
        | (go_at_call 16; with_reducible refine Calls.mono (H16B.out _ hz3) ?_; rintro _ z4 ⟨rfl, hz4'⟩; have hz4 := hz3.trans (hz4'.mono hz3.size); clear hz4'))
      go_ret
      exact ⟨rfl, HBF.out.trans (hz4.mono HBF.out.size)⟩
    · obtain rfl : E2 = 2 := by
        rw [HE2Z.out, if_pos]
        by_cases h : g1 = 0
        · exact .inr (fun h2 => hz ⟨h, h2⟩)
        · exact .inl h
      have hne : (2 : Int) ≠ 0 := by decide
      have HP0 : Hid ((2 : Int) = 0 → RepI (Dg.mores (ups hq ++ ups wq) (Gs.missing (ups ph) (Dg.heads (ups hq)))) wN (.slice d141 d142 d143) (.slice d144 d145 d146)) := fun h => absurd h hne
      have HQ0 : Hid ((2 : Int) = 0 → RepI (Dg.mores (ups ph ++ ups pw) (Gs.missing (ups hq) (Dg.heads (ups ph)))) wN (.slice d151 d152 d153) (.slice d154 d155 d156)) := fun h => absurd h hne
      have HFA : Hid ((2 : Int) = 0 → Fair (Dg.mores (ups hq ++ ups wq) (Gs.missing (ups ph) (Dg.heads (ups hq))))) := fun h => absurd h hne
      have HFB : Hid ((2 : Int) = 0 → Fair (Dg.mores (ups ph ++ ups pw) (Gs.missing (ups hq) (Dg.heads (ups ph))))) := fun h => absurd h hne
      have HCF : Hid (∀ z, Below wN.heap.size wN z → (z.cell? ⟨Y, 0, none⟩ = some (.slice x1a x2a x3a) ∧ z.cell? ⟨Y, 1, none⟩ = some (.slice x4a x5a x6a)) ∧ (z.cell? ⟨Y + 1, 0, none⟩ = some (.slice y1a y2a y3a) ∧ z.cell? ⟨Y + 1, 1, none⟩ = some (.slice y4a y5a y6a)) ∧ (z.cell? ⟨PB, 0, none⟩ = some (.slice d141 d142 d143) ∧ z.cell? ⟨PB, 1, none⟩ = some (.slice d144 d145 d146)) ∧ z.cell? ⟨PB + 1, 0, none⟩ = some (.slice d151 d152 d153) ∧ z.cell? ⟨PB + 1, 1, none⟩ = some (.slice d154 d155 d156)) := fun z hz =>
        ⟨⟨cell_below hz (by rw [Lib.cell_of_heap HYW.out.1]; rfl), cell_below hz (by rw [Lib.cell_of_heap HYW.out.1]; rfl)⟩, ⟨cell_below hz (by rw [Lib.cell_of_heap HYW.out.2]; rfl), cell_below hz (by rw [Lib.cell_of_heap HYW.out.2]; rfl)⟩, ⟨cell_below hz (by rw [Lib.cell_of_heap HPB.out.1]; rfl), cell_below hz (by rw [Lib.cell_of_heap HPB.out.1]; rfl)⟩, cell_below hz (by rw [Lib.cell_of_heap HPB.out.2]; rfl), cell_below hz (by rw [Lib.cell_of_heap HPB.out.2]; rfl)⟩
      have H26 : Hid (∀ z, Below wN.heap.size wN z → Calls Tryz.prog 26 #[.slice a7 R.length c7, .slice none 0 0] z fun e w' => e = .returned (.bool true) ∧ Below z.heap.size z w') := fun z hz => by
        obtain ⟨L9, l1, l2, l3⟩ := HMV.out
        have hk := HKW.out.trans (Kn.below hz)
        exact SameUpdates_same R L9 _ _ z (HRV.out.kn hk) (l1.kn (Kn.below hz)) (HRU.out.trans l3.symm) HRL.out (fun x hx => (HRO.out x hx).kn hk) (fun x hx => (l2 x hx).kn (Kn.below hz))
      have H16A : Hid (∀ z, Below wN.heap.size wN z → Calls Tryz.prog 16 #[.agg #[.slice x1a x2a x3a, .slice x4a x5a x6a], .int .i64 2, .int .i64 2, .agg #[.slice d141 d142 d143, .slice d144 d145 d146]] z fun e w' => e = .returned (.bool true) ∧ Below z.heap.size z w') := fun z hz => repIs_rep HFA.out (HRX.out.kn (HKW.out.trans (Kn.below hz))) (HAP.out.kn (Kn.below hz)) (fun h => (HP0.out h).kn (Kn.below hz))
      have H16B : Hid (∀ z, Below wN.heap.size wN z → Calls Tryz.prog 16 #[.agg #[.slice y1a y2a y3a, .slice y4a y5a y6a], .int .i64 2, .int .i64 2, .agg #[.slice d151 d152 d153, .slice d154 d155 d156]] z fun e w' => e = .returned (.bool true) ∧ Below z.heap.size z w') := fun z hz => repIs_rep HFB.out (HRY.out.kn (HKW.out.trans (Kn.below hz))) (HAQ.out.kn (Kn.below hz)) (fun h => (HQ0.out h).kn (Kn.below hz))
      clear HN14 HN15 hne
      by_cases hg : g1 = 0
      · have hg2 : ¬ g2 = 0 := fun h => hz ⟨hg, h⟩
        obtain rfl : ob1 = true := by rw [HOB1.out]; exact decide_eq_true hg
        obtain rfl : ob2 = false := by rw [HOB2.out]; exact decide_eq_false hg2
        clear hg hg2 hz
        go_upto_region 19 with fail
        obtain ⟨⟨x0, x1⟩, ⟨x2, x3⟩, ⟨x4, x5⟩, x6, x7⟩ := HCF.out wN (Below.refl _ _)
        go_wp2_with (first
          | (go_at_call 25; refine Calls.mono (gossipBegun_any _) ?_; rintro _ z1 ⟨rfl, hz1⟩; clear x0 x1 x2 x3 x4 x5 x6 x7)
          | (go_at_call 26; refine Calls.mono (H26.out _ hz1) ?_; rintro _ z2 ⟨rfl, hz2'⟩; have hz2 := hz1.trans (hz2'.mono hz1.size); clear hz2'; obtain ⟨⟨x0, x1⟩, ⟨x2, x3⟩, ⟨x4, x5⟩, x6, x7⟩ := HCF.out z2 hz2)
          | (go_at_call 16; with_reducible refine Calls.mono (H16A.out _ hz2) ?_; rintro _ z3 ⟨rfl, hz3'⟩; have hz3 := hz2.trans (hz3'.mono hz2.size); clear hz3' x0 x1 x2 x3 x4 x5 x6 x7; obtain ⟨⟨x0, x1⟩, ⟨x2, x3⟩, ⟨x4, x5⟩, x6, x7⟩ := HCF.out z3 hz3)
          | (go_at_call 16; with_reducible refine Calls.mono (H16B.out _ hz3) ?_; rintro _ z4 ⟨rfl, hz4'⟩; have hz4 := hz3.trans (hz4'.mono hz3.size); clear hz4'))
        go_ret
        exact ⟨rfl, HBF.out.trans (hz4.mono HBF.out.size)⟩
      · obtain rfl : ob1 = false := by rw [HOB1.out]; exact decide_eq_false hg
        clear hg hz
        go_upto_region 19 with fail
        obtain ⟨⟨x0, x1⟩, ⟨x2, x3⟩, ⟨x4, x5⟩, x6, x7⟩ := HCF.out wN (Below.refl _ _)
        go_wp2_with (first
          | (go_at_call 25; refine Calls.mono (gossipBegun_any _) ?_; rintro _ z1 ⟨rfl, hz1⟩; clear x0 x1 x2 x3 x4 x5 x6 x7)
          | (go_at_call 26; refine Calls.mono (H26.out _ hz1) ?_; rintro _ z2 ⟨rfl, hz2'⟩; have hz2 := hz1.trans (hz2'.mono hz1.size); clear hz2'; obtain ⟨⟨x0, x1⟩, ⟨x2, x3⟩, ⟨x4, x5⟩, x6, x7⟩ := HCF.out z2 hz2)
          | (go_at_call 16; with_reducible refine Calls.mono (H16A.out _ hz2) ?_; rintro _ z3 ⟨rfl, hz3'⟩; have hz3 := hz2.trans (hz3'.mono hz2.size); clear hz3' x0 x1 x2 x3 x4 x5 x6 x7; obtain ⟨⟨x0, x1⟩, ⟨x2, x3⟩, ⟨x4, x5⟩, x6, x7⟩ := HCF.out z3 hz3)
          | (go_at_call 16; with_reducible refine Calls.mono (H16B.out _ hz3) ?_; rintro _ z4 ⟨rfl, hz4'⟩; have hz4 := hz3.trans (hz4'.mono hz3.size); clear hz4'))
        go_ret
        exact ⟨rfl, HBF.out.trans (hz4.mono HBF.out.size)⟩
  have d1 : decide ((200 : Int) < (ids.length : Int)) = false := decide_eq_false (by omega)
  have d1' : decide ((ids.length : Int) > 200) = false := decide_eq_false (by omega)
  obtain rfl : E1 = 0 := HE1Z.out h1
  have HMQ : Hid (Gs.missOut (ups hq) (ups wq) ids = Gs.missing (ups hq) ids) := by show _ = _; rw [HMO.out, if_pos rfl]
  go_upto_region 7 with fail
  obtain ⟨x0, x1, x2, x3⟩ := HXC.out w5 HB5.out
  go_upto_region 9 with (go_at_call 9; refine Calls.mono (H9B.out w5 HKW5.out) ?_; rintro _ w6 ⟨rfl, hb6⟩)
  have HW6 : Hid (Below w5.heap.size w5 w6) := hb6
  clear x0 x1 x2 x3 hb6
  obtain ⟨x0, x1, x2, x3⟩ := HXC.out w6 (HB5.out.trans (HW6.out.mono HB5.out.size))
  go_upto_region 12 with (go_at_call 23; refine Calls.mono (H23.out w6 (HKW5.out.trans (Kn.below HW6.out))) ?_; rintro _ w7 ⟨v14, rfl, hCP, hb7⟩; obtain ⟨m1, m2, m3, rfl, hCP⟩ := hCP)
  have HW : Hid (Below w5.heap.size w5 w7) := HW6.out.trans (hb7.mono HW6.out.size)
  have HMW : Hid (CpV (Gs.missOut (ups hq) (ups wq) ids) w7 (.slice m1 m2 m3)) := by rw [HMQ.out]; exact hCP
  clear x0 x1 x2 x3 hb7 hCP HW6
  by_cases h2 : c2 = 0
  case neg =>
    have d2 : decide (c2 = 0) = false := decide_eq_false h2
    obtain rfl : E2 = c2 := HE2M.out h2
    have hne : E2 ≠ 0 := h2
    go_upto_region 19 with fail
    have bP := heap_alloc_new w7 (.cells #[.slice none 0 0, .slice none 0 0] 24)
    have gP := new_below w7 (.cells #[.slice none 0 0, .slice none 0 0] 24)
    have bQ := heap_alloc_new (w7.alloc (.cells #[.slice none 0 0, .slice none 0 0] 24)) (.cells #[.slice none 0 0, .slice none 0 0] 24)
    have gQ := new_below (w7.alloc (.cells #[.slice none 0 0, .slice none 0 0] 24)) (.cells #[.slice none 0 0, .slice none 0 0] 24)
    have hzP : (w7.alloc (.cells #[.slice none 0 0, .slice none 0 0] 24)).heap.size = w7.heap.size + 1 := by simp
    rw [hzP] at bQ
    have bP' := (gQ.block _ (by rw [hzP]; exact Nat.lt_succ_self _)).trans bP
    have gPQ := gP.trans (gQ.mono gP.size)
    generalize (w7.alloc (.cells #[.slice none 0 0, .slice none 0 0] 24)).alloc (.cells #[.slice none 0 0, .slice none 0 0] 24) = wZ at *
    have HPZ : Hid (wZ.heap[w7.heap.size]? = some (.cells #[.slice none 0 0, .slice none 0 0] 24) ∧ wZ.heap[w7.heap.size + 1]? = some (.cells #[.slice none 0 0, .slice none 0 0] 24)) := ⟨bP', bQ⟩
    have hWZ := HW.out.trans (gPQ.mono HW.out.size)
    have HKW : Hid (Kn w5 wZ) := Kn.below hWZ
    have HBF : Hid (Below w.heap.size w wZ) := (HG1.out.trans (HB5.out.mono HG1.out.size)).trans (hWZ.mono (HG1.out.trans (HB5.out.mono HG1.out.size)).size)
    have HYW : Hid (wZ.heap[Y]? = some (.cells #[.slice x1a x2a x3a, .slice x4a x5a x6a] 24) ∧ wZ.heap[Y + 1]? = some (.cells #[.slice y1a y2a y3a, .slice y4a y5a y6a] 24)) := ⟨(hWZ.block _ (by omega)).trans HY5.out.1, (hWZ.block _ hY5).trans HY5.out.2⟩
    have HMV : Hid (CpV (Gs.missOut (ups hq) (ups wq) ids) wZ (.slice m1 m2 m3)) := HMW.out.kn (Kn.below gPQ)
    have HAP : Hid (AnyR wZ (.slice none 0 0) (.slice none 0 0)) := anyR_nil _
    have HAQ : Hid (AnyR wZ (.slice none 0 0) (.slice none 0 0)) := anyR_nil _
    have HP0 : Hid (E2 = 0 → RepI (Dg.mores (ups hq ++ ups wq) (Gs.missing (ups ph) (Dg.heads (ups hq)))) wZ (.slice none 0 0) (.slice none 0 0)) := fun h => absurd h hne
    have HQ0 : Hid (E2 = 0 → RepI (Dg.mores (ups ph ++ ups pw) (Gs.missing (ups hq) (Dg.heads (ups ph)))) wZ (.slice none 0 0) (.slice none 0 0)) := fun h => absurd h hne
    have HFA : Hid (E2 = 0 → Fair (Dg.mores (ups hq ++ ups wq) (Gs.missing (ups ph) (Dg.heads (ups hq))))) := fun h => absurd h hne
    have HFB : Hid (E2 = 0 → Fair (Dg.mores (ups ph ++ ups pw) (Gs.missing (ups hq) (Dg.heads (ups ph))))) := fun h => absurd h hne
    have HPB := HPZ
    clear bP gP bQ gQ hzP bP' gPQ hWZ HPZ
    generalize w7.heap.size = PB at *
    have HCF : Hid (∀ z, Below wZ.heap.size wZ z → (z.cell? ⟨Y, 0, none⟩ = some (.slice x1a x2a x3a) ∧ z.cell? ⟨Y, 1, none⟩ = some (.slice x4a x5a x6a)) ∧ (z.cell? ⟨Y + 1, 0, none⟩ = some (.slice y1a y2a y3a) ∧ z.cell? ⟨Y + 1, 1, none⟩ = some (.slice y4a y5a y6a)) ∧ (z.cell? ⟨PB, 0, none⟩ = some (.slice none 0 0) ∧ z.cell? ⟨PB, 1, none⟩ = some (.slice none 0 0)) ∧ z.cell? ⟨PB + 1, 0, none⟩ = some (.slice none 0 0) ∧ z.cell? ⟨PB + 1, 1, none⟩ = some (.slice none 0 0)) := fun z hz =>
      ⟨⟨cell_below hz (by rw [Lib.cell_of_heap HYW.out.1]; rfl), cell_below hz (by rw [Lib.cell_of_heap HYW.out.1]; rfl)⟩, ⟨cell_below hz (by rw [Lib.cell_of_heap HYW.out.2]; rfl), cell_below hz (by rw [Lib.cell_of_heap HYW.out.2]; rfl)⟩, ⟨cell_below hz (by rw [Lib.cell_of_heap HPB.out.1]; rfl), cell_below hz (by rw [Lib.cell_of_heap HPB.out.1]; rfl)⟩, cell_below hz (by rw [Lib.cell_of_heap HPB.out.2]; rfl), cell_below hz (by rw [Lib.cell_of_heap HPB.out.2]; rfl)⟩
    have H26 : Hid (∀ z, Below wZ.heap.size wZ z → Calls Tryz.prog 26 #[.slice a7 R.length c7, .slice m1 m2 m3] z fun e w' => e = .returned (.bool true) ∧ Below z.heap.size z w') := fun z hz => by
      obtain ⟨L9, l1, l2, l3⟩ := HMV.out
      have hk := HKW.out.trans (Kn.below hz)
      exact SameUpdates_same R L9 _ _ z (HRV.out.kn hk) (l1.kn (Kn.below hz)) (HRU.out.trans l3.symm) HRL.out (fun x hx => (HRO.out x hx).kn hk) (fun x hx => (l2 x hx).kn (Kn.below hz))
    have H16A : Hid (∀ z, Below wZ.heap.size wZ z → Calls Tryz.prog 16 #[.agg #[.slice x1a x2a x3a, .slice x4a x5a x6a], .int .i64 E2, .int .i64 E2, .agg #[.slice none 0 0, .slice none 0 0]] z fun e w' => e = .returned (.bool true) ∧ Below z.heap.size z w') := fun z hz => repIs_rep HFA.out (HRX.out.kn (HKW.out.trans (Kn.below hz))) (HAP.out.kn (Kn.below hz)) (fun h => (HP0.out h).kn (Kn.below hz))
    have H16B : Hid (∀ z, Below wZ.heap.size wZ z → Calls Tryz.prog 16 #[.agg #[.slice y1a y2a y3a, .slice y4a y5a y6a], .int .i64 E2, .int .i64 E2, .agg #[.slice none 0 0, .slice none 0 0]] z fun e w' => e = .returned (.bool true) ∧ Below z.heap.size z w') := fun z hz => repIs_rep HFB.out (HRY.out.kn (HKW.out.trans (Kn.below hz))) (HAQ.out.kn (Kn.below hz)) (fun h => (HQ0.out h).kn (Kn.below hz))
    obtain ⟨⟨x0, x1⟩, ⟨x2, x3⟩, ⟨x4, x5⟩, x6, x7⟩ := HCF.out wZ (Below.refl _ _)
    go_wp2_with (first
      | (go_at_call 25; refine Calls.mono (gossipBegun_any _) ?_; rintro _ z1 ⟨rfl, hz1⟩; clear x0 x1 x2 x3 x4 x5 x6 x7)
      | (go_at_call 26; refine Calls.mono (H26.out _ hz1) ?_; rintro _ z2 ⟨rfl, hz2'⟩; have hz2 := hz1.trans (hz2'.mono hz1.size); clear hz2'; obtain ⟨⟨x0, x1⟩, ⟨x2, x3⟩, ⟨x4, x5⟩, x6, x7⟩ := HCF.out z2 hz2)
      | (go_at_call 16; with_reducible refine Calls.mono (H16A.out _ hz2) ?_; rintro _ z3 ⟨rfl, hz3'⟩; have hz3 := hz2.trans (hz3'.mono hz2.size); clear hz3' x0 x1 x2 x3 x4 x5 x6 x7; obtain ⟨⟨x0, x1⟩, ⟨x2, x3⟩, ⟨x4, x5⟩, x6, x7⟩ := HCF.out z3 hz3)
      | (go_at_call 16; with_reducible refine Calls.mono (H16B.out _ hz3) ?_; rintro _ z4 ⟨rfl, hz4'⟩; have hz4 := hz3.trans (hz4'.mono hz3.size); clear hz4'))
    go_ret
    exact ⟨rfl, HBF.out.trans (hz4.mono HBF.out.size)⟩
  subst h2
  replace HO2 : Hid (Dg.Ok (ups ph) (ups pw)) := HO2.out rfl
  replace HHB : Hid (∀ z, Kn w z → _) := HHB.out rfl
  replace HMA : Hid (∀ z v, Kn w z → _) := HMA.out rfl
  replace HMB : Hid (∀ z v, Kn w z → _) := HMB.out rfl
  replace HTA : Hid (∀ z v, Kn w z → _) := HTA.out rfl
  replace HTB : Hid (∀ z v, Kn w z → _) := HTB.out rfl
  replace HFF1 : Hid (g1 = 0 → _) := HFF1.out rfl
  replace HFF2 : Hid (g2 = 0 → _) := HFF2.out rfl
  replace HE2Z : Hid (E2 = if g1 ≠ 0 ∨ g2 ≠ 0 then 2 else 0) := HE2Z.out rfl
  clear HE2M
  go_upto_region 14 with fail
  have bP := heap_alloc_new w7 (.cells #[.slice none 0 0, .slice none 0 0] 24)
  have gP := new_below w7 (.cells #[.slice none 0 0, .slice none 0 0] 24)
  have bQ := heap_alloc_new (w7.alloc (.cells #[.slice none 0 0, .slice none 0 0] 24)) (.cells #[.slice none 0 0, .slice none 0 0] 24)
  have gQ := new_below (w7.alloc (.cells #[.slice none 0 0, .slice none 0 0] 24)) (.cells #[.slice none 0 0, .slice none 0 0] 24)
  have hzP : (w7.alloc (.cells #[.slice none 0 0, .slice none 0 0] 24)).heap.size = w7.heap.size + 1 := by simp
  rw [hzP] at bQ
  have bP' := (gQ.block _ (by rw [hzP]; exact Nat.lt_succ_self _)).trans bP
  have gPQ := gP.trans (gQ.mono gP.size)
  generalize (w7.alloc (.cells #[.slice none 0 0, .slice none 0 0] 24)).alloc (.cells #[.slice none 0 0, .slice none 0 0] 24) = wZ at *
  have HPZ : Hid (wZ.heap[w7.heap.size]? = some (.cells #[.slice none 0 0, .slice none 0 0] 24) ∧ wZ.heap[w7.heap.size + 1]? = some (.cells #[.slice none 0 0, .slice none 0 0] 24)) := ⟨bP', bQ⟩
  have hWZ := HW.out.trans (gPQ.mono HW.out.size)
  have HBW : Hid (Below w1.heap.size w1 wZ) := HB5.out.trans (hWZ.mono HB5.out.size)
  have HKW : Hid (Kn w wZ) := HKW5.out.trans (Kn.below hWZ)
  have HRBZ : Hid (Rb w.heap.size w5 wZ) := Rb.of hWZ (HG1.out.trans (HB5.out.mono HG1.out.size)).size
  have HYZ : Hid (wZ.heap[Y]? = some (.cells #[.slice x1a x2a x3a, .slice x4a x5a x6a] 24) ∧ wZ.heap[Y + 1]? = some (.cells #[.slice y1a y2a y3a, .slice y4a y5a y6a] 24)) := ⟨(hWZ.block _ (by omega)).trans HY5.out.1, (hWZ.block _ hY5).trans HY5.out.2⟩
  have HMZ : Hid (CpV (Gs.missOut (ups hq) (ups wq) ids) wZ (.slice m1 m2 m3)) := HMW.out.kn (Kn.below gPQ)
  have hPl : Y + 1 < w7.heap.size := Nat.lt_of_lt_of_le hY5 HW.out.size
  have hPs : w.heap.size ≤ w7.heap.size := Nat.le_trans (HG1.out.trans (HB5.out.mono HG1.out.size)).size HW.out.size
  clear bP gP bQ gQ hzP bP' gPQ hWZ HMW
  generalize w7.heap.size = PB at *
  refine wp_region_tabR (Rb wZ.heap.size) (fun _ _ _ => Rb.trans) (fun _ => Rb.draw _ _) (glT14 wZ.heap.size ah hq.length ch aw wq.length cw aj ph.length cj ak pw.length ck (Dg.heads (ups hq)) (Gs.missing (ups ph) (Dg.heads (ups hq))) (Dg.mores (ups hq ++ ups wq) (Gs.missing (ups ph) (Dg.heads (ups hq)))) g1 ob1) 10 (glD 17 wZ.heap.size (Dg.mores (ups hq ++ ups wq) (Gs.missing (ups ph) (Dg.heads (ups hq)))) g1) (by decide) (by kernel_rfl) (by kernel_rfl) (glT14_mono _ _ _ _ _ _ _ _ _ _ _ _ _ _ _ _ _ _ _) ?hop14_s ?hend14_s
  case hop14_s =>
    refine AllOpsI.cons (fun a y h => ?_) ?_
    · have e3 : a.eval (.tmp 3) = (.pointer (some ⟨w.heap.size, 0, none⟩) : Value) := h.old 3 (by kernel_rfl)
      obtain ⟨x0, x1, x2, x3⟩ := HXC.out y (HBW.out.trans (h.below.1.mono HBW.out.size))
      refine opOkR_val (v := .agg #[.slice ah hq.length ch, .slice aw wq.length cw]) (w' := y) (wanted_none rfl) ?_ (fun t ht => by cases ht; exact rfl) (Rb.refl _ _) (fun h9 => absurd h9 (by decide)) (fun h9 => absurd h9 (by decide))
      have ec : ∀ v, a.eval (.const v) = v := fun _ => rfl
      generalize a.eval = ev at *
      clear h
      go_simp
    refine AllOpsI.cons (fun a y h => ?_) ?_
    · have e4 : a.eval (.tmp 4) = (.pointer (some ⟨w.heap.size + 1, 0, none⟩) : Value) := h.old 4 (by kernel_rfl)
      obtain ⟨x0, x1, x2, x3⟩ := HXC.out y (HBW.out.trans (h.below.1.mono HBW.out.size))
      refine opOkR_val (v := .agg #[.slice aj ph.length cj, .slice ak pw.length ck]) (w' := y) (wanted_none rfl) ?_ (fun t ht => by cases ht; exact rfl) (Rb.refl _ _) (fun h9 => absurd h9 (by decide)) (fun h9 => absurd h9 (by decide))
      have ec : ∀ v, a.eval (.const v) = v := fun _ => rfl
      generalize a.eval = ev at *
      clear h
      go_simp
    refine AllOpsI.cons (fun a y h => ?_) ?_
    · have e3 : a.eval (.tmp 3) = (.pointer (some ⟨w.heap.size, 0, none⟩) : Value) := h.old 3 (by kernel_rfl)
      obtain ⟨x0, x1, x2, x3⟩ := HXC.out y (HBW.out.trans (h.below.1.mono HBW.out.size))
      refine opOkR_val (v := .agg #[.slice ah hq.length ch, .slice aw wq.length cw]) (w' := y) (wanted_none rfl) ?_ (fun t ht => by cases ht; exact rfl) (Rb.refl _ _) (fun h9 => absurd h9 (by decide)) (fun h9 => absurd h9 (by decide))
      have ec : ∀ v, a.eval (.const v) = v := fun _ => rfl
      generalize a.eval = ev at *
      clear h
      go_simp
    refine AllOpsI.cons (fun a y h => ?_) ?_
    · have e58 : a.eval (.tmp 58) = (.agg #[.slice ah hq.length ch, .slice aw wq.length cw] : Value) := h.of 58 (by kernel_rfl)
      refine opOkR_call (f := 12) (args := #[.agg #[.slice ah hq.length ch, .slice aw wq.length cw]]) (wanted_none rfl) ?_ ?_
      · have ec : ∀ v, a.eval (.const v) = v := fun _ => rfl
        have ef : ∀ f, a.eval (.func f) = .func (.func f) #[] #[] := fun _ => rfl
        generalize a.eval = ev at *
        clear h
        go_simp
      · refine Calls.mono (HHA.out y (HKW.out.trans h.below.2.1)) ?_
        rintro _ y2 ⟨v, rfl, hv, hb2⟩
        exact ⟨_, rfl, fun t ht => by cases ht; exact ids_of hv, Rb.of hb2 h.below.1.size, fun h9 => absurd h9 (by decide), fun h9 => absurd h9 (by decide)⟩
    refine AllOpsI.cons (fun a y h => ?_) ?_
    · have e57 : a.eval (.tmp 57) = (.agg #[.slice aj ph.length cj, .slice ak pw.length ck] : Value) := h.of 57 (by kernel_rfl)
      have t59 : IdS (Dg.heads (ups hq)) y (a.eval (.tmp 59)) := h.of 59 (by kernel_rfl)
      obtain ⟨i1, i2, i3, e59, hi⟩ := t59
      refine opOkR_call (f := 23) (args := #[.agg #[.slice aj ph.length cj, .slice ak pw.length ck], .slice i1 i2 i3]) (wanted_none rfl) ?_ ?_
      · have ec : ∀ v, a.eval (.const v) = v := fun _ => rfl
        have ef : ∀ f, a.eval (.func f) = .func (.func f) #[] #[] := fun _ => rfl
        generalize a.eval = ev at *
        clear h
        go_simp
      · refine Calls.mono (HMA.out y _ (HKW.out.trans h.below.2.1) hi) ?_
        rintro _ y2 ⟨v, rfl, hv, hb2⟩
        exact ⟨_, rfl, fun t ht => by cases ht; exact hv, Rb.of hb2 h.below.1.size, fun h9 => absurd h9 (by decide), fun h9 => absurd h9 (by decide)⟩
    refine AllOpsI.cons (fun a y h => ?_) ?_
    · have e56 : a.eval (.tmp 56) = (.agg #[.slice ah hq.length ch, .slice aw wq.length cw] : Value) := h.of 56 (by kernel_rfl)
      have t60 : CpU (Gs.missing (ups ph) (Dg.heads (ups hq))) y (a.eval (.tmp 60)) := h.of 60 (by kernel_rfl)
      obtain ⟨i1, i2, i3, e60, hi⟩ := t60
      refine opOkR_call (f := 24) (args := #[.agg #[.slice ah hq.length ch, .slice aw wq.length cw], .slice i1 i2 i3]) (wanted_none rfl) ?_ ?_
      · have ec : ∀ v, a.eval (.const v) = v := fun _ => rfl
        have ef : ∀ f, a.eval (.func f) = .func (.func f) #[] #[] := fun _ => rfl
        generalize a.eval = ev at *
        clear h
        go_simp
      · refine Calls.mono (HTA.out y _ (HKW.out.trans h.below.2.1) hi) ?_
        rintro _ y2 ⟨v, rfl, hv, hb2⟩
        exact ⟨_, rfl, fun t ht => by cases ht; exact hv, Rb.of hb2 h.below.1.size, fun h9 => absurd h9 (by decide), fun h9 => absurd h9 (by decide)⟩
    refine AllOpsI.cons (fun a y h => ?_) ?_
    · have t61 : ToN (Dg.mores (ups hq ++ ups wq) (Gs.missing (ups ph) (Dg.heads (ups hq)))) g1 ob1 y (a.eval (.tmp 61)) := h.of 61 (by kernel_rfl)
      obtain ⟨d1, d2, d3, d4, d5, d6, e61, hR⟩ := t61
      refine opOkR_val (v := .tuple #[.agg #[.slice d1 d2 d3, .slice d4 d5 d6], .bool ob1]) (w' := y) (wanted_none rfl) ?_ (fun t ht => by cases ht; exact ⟨_, _, _, _, _, _, rfl, hR⟩) (Rb.refl _ _) (fun h9 => absurd h9 (by decide)) (fun h9 => absurd h9 (by decide))
      have ec : ∀ v, a.eval (.const v) = v := fun _ => rfl
      generalize a.eval = ev at *
      clear h
      go_simp
    refine AllOpsI.cons (fun a y h => ?_) ?_
    · have t55 : ToN (Dg.mores (ups hq ++ ups wq) (Gs.missing (ups ph) (Dg.heads (ups hq)))) g1 ob1 y (a.eval (.tmp 55)) := h.of 55 (by kernel_rfl)
      obtain ⟨d1, d2, d3, d4, d5, d6, e55, hR⟩ := t55
      refine opOkR_val (v := .agg #[.slice d1 d2 d3, .slice d4 d5 d6]) (w' := y) (wanted_none rfl) ?_ (fun t ht => by cases ht; exact ⟨_, _, _, _, _, _, rfl, hR⟩) (Rb.refl _ _) (fun h9 => absurd h9 (by decide)) (fun h9 => absurd h9 (by decide))
      have ec : ∀ v, a.eval (.const v) = v := fun _ => rfl
      generalize a.eval = ev at *
      clear h
      go_simp
    refine AllOpsI.cons (fun a y h => ?_) ?_
    · have t55 : ToN (Dg.mores (ups hq ++ ups wq) (Gs.missing (ups ph) (Dg.heads (ups hq)))) g1 ob1 y (a.eval (.tmp 55)) := h.of 55 (by kernel_rfl)
      obtain ⟨d1, d2, d3, d4, d5, d6, e55, hR⟩ := t55
      refine opOkR_val (v := .bool ob1) (w' := y) (wanted_none rfl) ?_ (fun t ht => by cases ht; exact rfl) (Rb.refl _ _) (fun h9 => absurd h9 (by decide)) (fun _ _ hD => by obtain ⟨F, e3, h8, h7⟩ := hD; exact ⟨F, (put_get_ne (by decide)).trans e3, h8, h7⟩)
      have ec : ∀ v, a.eval (.const v) = v := fun _ => rfl
      generalize a.eval = ev at *
      clear h
      go_simp
    refine AllOpsI.cons (fun a y h => ?_) ?_
    · refine opOkR_val (v := .pointer (some ⟨y.heap.size, 0, none⟩)) (w' := y.alloc (.cells #[.slice none 0 0, .slice none 0 0] 24)) (wanted_none rfl) ?_ (fun t ht => by cases ht; exact bxp_new _ y h.below.1.size) (Rb.of (new_below y _) h.below.1.size) (fun h9 => absurd h9 (by decide)) (fun h9 => absurd h9 (by decide))
      have ec : ∀ v, a.eval (.const v) = v := fun _ => rfl
      generalize a.eval = ev at *
      clear h
      go_simp
    refine AllOpsI.cons (fun a y h => ?_) ?_
    · have t17 : Bxp wZ.heap.size y (a.eval (.tmp 17)) := h.of 17 (by kernel_rfl)
      have t62 : TrN (Dg.mores (ups hq ++ ups wq) (Gs.missing (ups ph) (Dg.heads (ups hq)))) g1 y (a.eval (.tmp 62)) := h.of 62 (by kernel_rfl)
      obtain ⟨d1, d2, d3, d4, d5, d6, e62, hR⟩ := t62
      obtain ⟨F, e17, ⟨r1, r2, r3, r4, r5, r6, hF⟩, hFl⟩ := t17
      have z0 : y.cell? ⟨F, 0, none⟩ = some (.slice r1 r2 r3) := by rw [Lib.cell_of_heap hF]; rfl
      have y0 := Lib.frozen_of_heap hF 0
      have k1 : (y.setCell ⟨F, 0, none⟩ (.slice d1 d2 d3)).heap[F]? = some (.cells #[.slice d1 d2 d3, .slice r4 r5 r6] 24) := by rw [Lib.heap_setCell_same hF]; rfl
      have z1 : (y.setCell ⟨F, 0, none⟩ (.slice d1 d2 d3)).cell? ⟨F, 1, none⟩ = some (.slice r4 r5 r6) := by rw [Lib.cell_of_heap k1]; rfl
      have y1 := Lib.frozen_of_heap k1 1
      refine opOkR_void (w' := two y F (.slice d1 d2 d3) (.slice d4 d5 d6)) (wanted_none rfl) ?_ rfl (Rb.two hF hFl) (fun _ => ⟨F, e17, hFl, _, _, _, _, _, _, two_heap hF, hR.kn (two_kn hF)⟩) (fun _ h9 => absurd rfl h9)
      unfold two
      generalize a.eval = ev at *
      clear h hR
      go_simp
    refine AllOpsI.cons (fun a y h => ?_) ?_
    · have e63 : a.eval (.tmp 63) = (.bool ob1 : Value) := h.of 63 (by kernel_rfl)
      refine opOkR_val (v := .bool ob1) (w' := y) (wanted_none rfl) ?_ (fun t ht => by cases ht; exact rfl) (Rb.refl _ _) (fun h9 => absurd h9 (by decide)) (fun _ _ hD => by obtain ⟨F, e3, h8, h7⟩ := hD; exact ⟨F, (put_get_ne (by decide)).trans e3, h8, h7⟩)
      have ec : ∀ v, a.eval (.const v) = v := fun _ => rfl
      generalize a.eval = ev at *
      clear h
      go_simp
    exact AllOpsI.nil
  rintro ⟨tm, df⟩ y14 hI hD hdE hszE hstE hTE
  obtain ⟨F14, kb, hF14l, d141, d142, d143, d144, d145, d146, hF14, hR14⟩ := hD
  have ke : tm.getD 18 undef = (.bool ob1 : Value) := hTE 18 (by decide)
  obtain rfl : df = [] := hdE
  have HRB14 : Hid (Rb wZ.heap.size wZ y14) := hI
  have HF14 : Hid (y14.heap[F14]? = some (.cells #[.slice d141 d142 d143, .slice d144 d145 d146] 24) ∧ wZ.heap.size ≤ F14) := ⟨hF14, hF14l⟩
  have HR14 : Hid (ReE (Dg.mores (ups hq ++ ups wq) (Gs.missing (ups ph) (Dg.heads (ups hq)))) g1 y14 (.slice d141 d142 d143) (.slice d144 d145 d146)) := hR14
  clear hI hTE hF14 hF14l hR14
  have hF8 := tmps_fold [56, 57, 58, 59, 60, 61, 55, 62, 63, 17, 18] tm _ (hszE.trans (by rfl)) hstE
  clear hszE hstE
  simp only [] at kb
  simp only [List.foldl_cons, List.foldl_nil, kb, ke] at hF8
  clear kb ke
  generalize tm.getD 56 undef = x56 at hF8
  generalize tm.getD 57 undef = x57 at hF8
  generalize tm.getD 58 undef = x58 at hF8
  generalize tm.getD 59 undef = x59 at hF8
  generalize tm.getD 60 undef = x60 at hF8
  generalize tm.getD 61 undef = x61 at hF8
  generalize tm.getD 55 undef = x55 at hF8
  generalize tm.getD 62 undef = x62 at hF8
  generalize tm.getD 63 undef = x63 at hF8
  simp only [List.setIfInBounds_toArray, List.set_cons_zero, List.set_cons_succ] at hF8
  subst hF8
  go_upto_region 15 with fail
  have HBZ := HBW
  have HKZ := HKW
  replace HBW : Hid (Below w1.heap.size w1 y14) := HBZ.out.trans (HRB14.out.1.mono HBZ.out.size)
  replace HKW : Hid (Kn w y14) := HKZ.out.trans HRB14.out.2.1
  refine wp_region_tabR (Rb y14.heap.size) (fun _ _ _ => Rb.trans) (fun _ => Rb.draw _ _) (glT15 y14.heap.size aj ph.length cj ak pw.length ck ah hq.length ch aw wq.length cw (Dg.heads (ups ph)) (Gs.missing (ups hq) (Dg.heads (ups ph))) (Dg.mores (ups ph ++ ups pw) (Gs.missing (ups hq) (Dg.heads (ups ph)))) g2 ob2) 10 (glD 19 y14.heap.size (Dg.mores (ups ph ++ ups pw) (Gs.missing (ups hq) (Dg.heads (ups ph)))) g2) (by decide) (by kernel_rfl) (by kernel_rfl) (glT15_mono _ _ _ _ _ _ _ _ _ _ _ _ _ _ _ _ _ _ _) ?hop15_s ?hend15_s
  case hop15_s =>
    refine AllOpsI.cons (fun a y h => ?_) ?_
    · have e4 : a.eval (.tmp 4) = (.pointer (some ⟨w.heap.size + 1, 0, none⟩) : Value) := h.old 4 (by kernel_rfl)
      obtain ⟨x0, x1, x2, x3⟩ := HXC.out y (HBW.out.trans (h.below.1.mono HBW.out.size))
      refine opOkR_val (v := .agg #[.slice aj ph.length cj, .slice ak pw.length ck]) (w' := y) (wanted_none rfl) ?_ (fun t ht => by cases ht; exact rfl) (Rb.refl _ _) (fun h9 => absurd h9 (by decide)) (fun h9 => absurd h9 (by decide))
      have ec : ∀ v, a.eval (.const v) = v := fun _ => rfl
      generalize a.eval = ev at *
      clear h
      go_simp
    refine AllOpsI.cons (fun a y h => ?_) ?_
    · have e3 : a.eval (.tmp 3) = (.pointer (some ⟨w.heap.size, 0, none⟩) : Value) := h.old 3 (by kernel_rfl)
      obtain ⟨x0, x1, x2, x3⟩ := HXC.out y (HBW.out.trans (h.below.1.mono HBW.out.size))
      refine opOkR_val (v := .agg #[.slice ah hq.length ch, .slice aw wq.length cw]) (w' := y) (wanted_none rfl) ?_ (fun t ht => by cases ht; exact rfl) (Rb.refl _ _) (fun h9 => absurd h9 (by decide)) (fun h9 => absurd h9 (by decide))
      have ec : ∀ v, a.eval (.const v) = v := fun _ => rfl
      generalize a.eval = ev at *
      clear h
      go_simp
    refine AllOpsI.cons (fun a y h => ?_) ?_
    · have e4 : a.eval (.tmp 4) = (.pointer (some ⟨w.heap.size + 1, 0, none⟩) : Value) := h.old 4 (by kernel_rfl)
      obtain ⟨x0, x1, x2, x3⟩ := HXC.out y (HBW.out.trans (h.below.1.mono HBW.out.size))
      refine opOkR_val (v := .agg #[.slice aj ph.length cj, .slice ak pw.length ck]) (w' := y) (wanted_none rfl) ?_ (fun t ht => by cases ht; exact rfl) (Rb.refl _ _) (fun h9 => absurd h9 (by decide)) (fun h9 => absurd h9 (by decide))
      have ec : ∀ v, a.eval (.const v) = v := fun _ => rfl
      generalize a.eval = ev at *
      clear h
      go_simp
    refine AllOpsI.cons (fun a y h => ?_) ?_
    · have e67 : a.eval (.tmp 67) = (.agg #[.slice aj ph.length cj, .slice ak pw.length ck] : Value) := h.of 67 (by kernel_rfl)
      refine opOkR_call (f := 12) (args := #[.agg #[.slice aj ph.length cj, .slice ak pw.length ck]]) (wanted_none rfl) ?_ ?_
      · have ec : ∀ v, a.eval (.const v) = v := fun _ => rfl
        have ef : ∀ f, a.eval (.func f) = .func (.func f) #[] #[] := fun _ => rfl
        generalize a.eval = ev at *
        clear h
        go_simp
      · refine Calls.mono (HHB.out y (HKW.out.trans h.below.2.1)) ?_
        rintro _ y2 ⟨v, rfl, hv, hb2⟩
        exact ⟨_, rfl, fun t ht => by cases ht; exact ids_of hv, Rb.of hb2 h.below.1.size, fun h9 => absurd h9 (by decide), fun h9 => absurd h9 (by decide)⟩
    refine AllOpsI.cons (fun a y h => ?_) ?_
    · have e66 : a.eval (.tmp 66) = (.agg #[.slice ah hq.length ch, .slice aw wq.length cw] : Value) := h.of 66 (by kernel_rfl)
      have t68 : IdS (Dg.heads (ups ph)) y (a.eval (.tmp 68)) := h.of 68 (by kernel_rfl)
      obtain ⟨i1, i2, i3, e68, hi⟩ := t68
      refine opOkR_call (f := 23) (args := #[.agg #[.slice ah hq.length ch, .slice aw wq.length cw], .slice i1 i2 i3]) (wanted_none rfl) ?_ ?_
      · have ec : ∀ v, a.eval (.const v) = v := fun _ => rfl
        have ef : ∀ f, a.eval (.func f) = .func (.func f) #[] #[] := fun _ => rfl
        generalize a.eval = ev at *
        clear h
        go_simp
      · refine Calls.mono (HMB.out y _ (HKW.out.trans h.below.2.1) hi) ?_
        rintro _ y2 ⟨v, rfl, hv, hb2⟩
        exact ⟨_, rfl, fun t ht => by cases ht; exact hv, Rb.of hb2 h.below.1.size, fun h9 => absurd h9 (by decide), fun h9 => absurd h9 (by decide)⟩
    refine AllOpsI.cons (fun a y h => ?_) ?_
    · have e65 : a.eval (.tmp 65) = (.agg #[.slice aj ph.length cj, .slice ak pw.length ck] : Value) := h.of 65 (by kernel_rfl)
      have t69 : CpU (Gs.missing (ups hq) (Dg.heads (ups ph))) y (a.eval (.tmp 69)) := h.of 69 (by kernel_rfl)
      obtain ⟨i1, i2, i3, e69, hi⟩ := t69
      refine opOkR_call (f := 24) (args := #[.agg #[.slice aj ph.length cj, .slice ak pw.length ck], .slice i1 i2 i3]) (wanted_none rfl) ?_ ?_
      · have ec : ∀ v, a.eval (.const v) = v := fun _ => rfl
        have ef : ∀ f, a.eval (.func f) = .func (.func f) #[] #[] := fun _ => rfl
        generalize a.eval = ev at *
        clear h
        go_simp
      · refine Calls.mono (HTB.out y _ (HKW.out.trans h.below.2.1) hi) ?_
        rintro _ y2 ⟨v, rfl, hv, hb2⟩
        exact ⟨_, rfl, fun t ht => by cases ht; exact hv, Rb.of hb2 h.below.1.size, fun h9 => absurd h9 (by decide), fun h9 => absurd h9 (by decide)⟩
    refine AllOpsI.cons (fun a y h => ?_) ?_
    · have t70 : ToN (Dg.mores (ups ph ++ ups pw) (Gs.missing (ups hq) (Dg.heads (ups ph)))) g2 ob2 y (a.eval (.tmp 70)) := h.of 70 (by kernel_rfl)
      obtain ⟨d1, d2, d3, d4, d5, d6, e70, hR⟩ := t70
      refine opOkR_val (v := .tuple #[.agg #[.slice d1 d2 d3, .slice d4 d5 d6], .bool ob2]) (w' := y) (wanted_none rfl) ?_ (fun t ht => by cases ht; exact ⟨_, _, _, _, _, _, rfl, hR⟩) (Rb.refl _ _) (fun h9 => absurd h9 (by decide)) (fun h9 => absurd h9 (by decide))
      have ec : ∀ v, a.eval (.const v) = v := fun _ => rfl
      generalize a.eval = ev at *
      clear h
      go_simp
    refine AllOpsI.cons (fun a y h => ?_) ?_
    · have t64 : ToN (Dg.mores (ups ph ++ ups pw) (Gs.missing (ups hq) (Dg.heads (ups ph)))) g2 ob2 y (a.eval (.tmp 64)) := h.of 64 (by kernel_rfl)
      obtain ⟨d1, d2, d3, d4, d5, d6, e64, hR⟩ := t64
      refine opOkR_val (v := .agg #[.slice d1 d2 d3, .slice d4 d5 d6]) (w' := y) (wanted_none rfl) ?_ (fun t ht => by cases ht; exact ⟨_, _, _, _, _, _, rfl, hR⟩) (Rb.refl _ _) (fun h9 => absurd h9 (by decide)) (fun h9 => absurd h9 (by decide))
      have ec : ∀ v, a.eval (.const v) = v := fun _ => rfl
      generalize a.eval = ev at *
      clear h
      go_simp
    refine AllOpsI.cons (fun a y h => ?_) ?_
    · have t64 : ToN (Dg.mores (ups ph ++ ups pw) (Gs.missing (ups hq) (Dg.heads (ups ph)))) g2 ob2 y (a.eval (.tmp 64)) := h.of 64 (by kernel_rfl)
      obtain ⟨d1, d2, d3, d4, d5, d6, e64, hR⟩ := t64
      refine opOkR_val (v := .bool ob2) (w' := y) (wanted_none rfl) ?_ (fun t ht => by cases ht; exact rfl) (Rb.refl _ _) (fun h9 => absurd h9 (by decide)) (fun _ _ hD => by obtain ⟨F, e3, h8, h7⟩ := hD; exact ⟨F, (put_get_ne (by decide)).trans e3, h8, h7⟩)
      have ec : ∀ v, a.eval (.const v) = v := fun _ => rfl
      generalize a.eval = ev at *
      clear h
      go_simp
    refine AllOpsI.cons (fun a y h => ?_) ?_
    · refine opOkR_val (v := .pointer (some ⟨y.heap.size, 0, none⟩)) (w' := y.alloc (.cells #[.slice none 0 0, .slice none 0 0] 24)) (wanted_none rfl) ?_ (fun t ht => by cases ht; exact bxp_new _ y h.below.1.size) (Rb.of (new_below y _) h.below.1.size) (fun h9 => absurd h9 (by decide)) (fun h9 => absurd h9 (by decide))
      have ec : ∀ v, a.eval (.const v) = v := fun _ => rfl
      generalize a.eval = ev at *
      clear h
      go_simp
    refine AllOpsI.cons (fun a y h => ?_) ?_
    · have t19 : Bxp y14.heap.size y (a.eval (.tmp 19)) := h.of 19 (by kernel_rfl)
      have t71 : TrN (Dg.mores (ups ph ++ ups pw) (Gs.missing (ups hq) (Dg.heads (ups ph)))) g2 y (a.eval (.tmp 71)) := h.of 71 (by kernel_rfl)
      obtain ⟨d1, d2, d3, d4, d5, d6, e71, hR⟩ := t71
      obtain ⟨F, e19, ⟨r1, r2, r3, r4, r5, r6, hF⟩, hFl⟩ := t19
      have z0 : y.cell? ⟨F, 0, none⟩ = some (.slice r1 r2 r3) := by rw [Lib.cell_of_heap hF]; rfl
      have y0 := Lib.frozen_of_heap hF 0
      have k1 : (y.setCell ⟨F, 0, none⟩ (.slice d1 d2 d3)).heap[F]? = some (.cells #[.slice d1 d2 d3, .slice r4 r5 r6] 24) := by rw [Lib.heap_setCell_same hF]; rfl
      have z1 : (y.setCell ⟨F, 0, none⟩ (.slice d1 d2 d3)).cell? ⟨F, 1, none⟩ = some (.slice r4 r5 r6) := by rw [Lib.cell_of_heap k1]; rfl
      have y1 := Lib.frozen_of_heap k1 1
      refine opOkR_void (w' := two y F (.slice d1 d2 d3) (.slice d4 d5 d6)) (wanted_none rfl) ?_ rfl (Rb.two hF hFl) (fun _ => ⟨F, e19, hFl, _, _, _, _, _, _, two_heap hF, hR.kn (two_kn hF)⟩) (fun _ h9 => absurd rfl h9)
      unfold two
      generalize a.eval = ev at *
      clear h hR
      go_simp
    refine AllOpsI.cons (fun a y h => ?_) ?_
    · have e72 : a.eval (.tmp 72) = (.bool ob2 : Value) := h.of 72 (by kernel_rfl)
      refine opOkR_val (v := .bool ob2) (w' := y) (wanted_none rfl) ?_ (fun t ht => by cases ht; exact rfl) (Rb.refl _ _) (fun h9 => absurd h9 (by decide)) (fun _ _ hD => by obtain ⟨F, e3, h8, h7⟩ := hD; exact ⟨F, (put_get_ne (by decide)).trans e3, h8, h7⟩)
      have ec : ∀ v, a.eval (.const v) = v := fun _ => rfl
      generalize a.eval = ev at *
      clear h
      go_simp
    exact AllOpsI.nil
  rintro ⟨tm, df⟩ y15 hI hD hdE hszE hstE hTE
  obtain ⟨F15, kb, hF15l, d151, d152, d153, d154, d155, d156, hF15, hR15⟩ := hD
  have ke : tm.getD 20 undef = (.bool ob2 : Value) := hTE 20 (by decide)
  obtain rfl : df = [] := hdE
  have HRB15 : Hid (Rb y14.heap.size y14 y15) := hI
  have HF15 : Hid (y15.heap[F15]? = some (.cells #[.slice d151 d152 d153, .slice d154 d155 d156] 24) ∧ y14.heap.size ≤ F15) := ⟨hF15, hF15l⟩
  have HR15 : Hid (ReE (Dg.mores (ups ph ++ ups pw) (Gs.missing (ups hq) (Dg.heads (ups ph)))) g2 y15 (.slice d151 d152 d153) (.slice d154 d155 d156)) := hR15
  clear hI hTE hF15 hF15l hR15
  have hF8 := tmps_fold [65, 66, 67, 68, 69, 70, 64, 71, 72, 19, 20] tm _ (hszE.trans (by rfl)) hstE
  clear hszE hstE
  simp only [] at kb
  simp only [List.foldl_cons, List.foldl_nil, kb, ke] at hF8
  clear kb ke
  generalize tm.getD 65 undef = x65 at hF8
  generalize tm.getD 66 undef = x66 at hF8
  generalize tm.getD 67 undef = x67 at hF8
  generalize tm.getD 68 undef = x68 at hF8
  generalize tm.getD 69 undef = x69 at hF8
  generalize tm.getD 70 undef = x70 at hF8
  generalize tm.getD 64 undef = x64 at hF8
  generalize tm.getD 71 undef = x71 at hF8
  generalize tm.getD 72 undef = x72 at hF8
  simp only [List.setIfInBounds_toArray, List.set_cons_zero, List.set_cons_succ] at hF8
  subst hF8
  have hsz14 : wZ.heap.size ≤ y14.heap.size := HRB14.out.1.size
  have hPz : PB + 1 < wZ.heap.size := (Array.getElem?_eq_some_iff.1 HPZ.out.2).1
  have hF14 := HF14.out.2
  have hF15 := HF15.out.2
  have hF14l : F14 < y14.heap.size := (Array.getElem?_eq_some_iff.1 HF14.out.1).1
  have v4 : y15.heap[PB]? = some (.cells #[.slice none 0 0, .slice none 0 0] 24) := (HRB15.out.1.block _ (by omega)).trans ((HRB14.out.1.block _ (by omega)).trans HPZ.out.1)
  have v5 : y15.heap[PB + 1]? = some (.cells #[.slice none 0 0, .slice none 0 0] 24) := (HRB15.out.1.block _ (by omega)).trans ((HRB14.out.1.block _ (by omega)).trans HPZ.out.2)
  have vY1 : y15.heap[Y]? = some (.cells #[.slice x1a x2a x3a, .slice x4a x5a x6a] 24) := (HRB15.out.1.block _ (by omega)).trans ((HRB14.out.1.block _ (by omega)).trans HYZ.out.1)
  have vY2 : y15.heap[Y + 1]? = some (.cells #[.slice y1a y2a y3a, .slice y4a y5a y6a] 24) := (HRB15.out.1.block _ (by omega)).trans ((HRB14.out.1.block _ (by omega)).trans HYZ.out.2)
  have vA : y15.heap[F14]? = some (.cells #[.slice d141 d142 d143, .slice d144 d145 d146] 24) := (HRB15.out.1.block _ hF14l).trans HF14.out.1
  have q0 : y15.cell? ⟨F14, 0, none⟩ = some (.slice d141 d142 d143) := by rw [Lib.cell_of_heap vA]; rfl
  have q1 : y15.cell? ⟨F14, 1, none⟩ = some (.slice d144 d145 d146) := by rw [Lib.cell_of_heap vA]; rfl
  have q2 : y15.cell? ⟨F15, 0, none⟩ = some (.slice d151 d152 d153) := by rw [Lib.cell_of_heap HF15.out.1]; rfl
  have q3 : y15.cell? ⟨F15, 1, none⟩ = some (.slice d154 d155 d156) := by rw [Lib.cell_of_heap HF15.out.1]; rfl
  obtain ⟨s0, s1, s2, s3, s4, s5⟩ := box_store (u := .slice d141 d142 d143) (v := .slice d144 d145 d146) v4 (by omega : F15 ≠ PB) q2 q3
  have v6 : (two y15 PB (.slice d141 d142 d143) (.slice d144 d145 d146)).heap[PB + 1]? = some (.cells #[.slice none 0 0, .slice none 0 0] 24) := (two_other (by omega)).trans v5
  obtain ⟨s6, s7, s8, s9, _, _⟩ := box_store (u := .slice d151 d152 d153) (v := .slice d154 d155 d156) v6 (by omega : F15 ≠ PB + 1) s4 s5
  have hk1 := two_kn (u := .slice d141 d142 d143) (v := .slice d144 d145 d146) v4
  have hk2 := two_kn (u := .slice d151 d152 d153) (v := .slice d154 d155 d156) v6
  have HPB8 : Hid ((two (two y15 PB (.slice d141 d142 d143) (.slice d144 d145 d146)) (PB + 1) (.slice d151 d152 d153) (.slice d154 d155 d156)).heap[PB]? = some (.cells #[.slice d141 d142 d143, .slice d144 d145 d146] 24) ∧ (two (two y15 PB (.slice d141 d142 d143) (.slice d144 d145 d146)) (PB + 1) (.slice d151 d152 d153) (.slice d154 d155 d156)).heap[PB + 1]? = some (.cells #[.slice d151 d152 d153, .slice d154 d155 d156] 24)) := ⟨(two_other (by omega)).trans (two_heap v4), two_heap v6⟩
  have HYW8 : Hid ((two (two y15 PB (.slice d141 d142 d143) (.slice d144 d145 d146)) (PB + 1) (.slice d151 d152 d153) (.slice d154 d155 d156)).heap[Y]? = some (.cells #[.slice x1a x2a x3a, .slice x4a x5a x6a] 24) ∧ (two (two y15 PB (.slice d141 d142 d143) (.slice d144 d145 d146)) (PB + 1) (.slice d151 d152 d153) (.slice d154 d155 d156)).heap[Y + 1]? = some (.cells #[.slice y1a y2a y3a, .slice y4a y5a y6a] 24)) := ⟨(two_other (by omega)).trans ((two_other (by omega)).trans vY1), (two_other (by omega)).trans ((two_other (by omega)).trans vY2)⟩
  have HK8 : Hid (Kn w5 (two (two y15 PB (.slice d141 d142 d143) (.slice d144 d145 d146)) (PB + 1) (.slice d151 d152 d153) (.slice d154 d155 d156))) := (((HRBZ.out.2.1.trans HRB14.out.2.1).trans HRB15.out.2.1).trans hk1).trans hk2
  have hbl : Below w.heap.size w y15 := HG1.out.trans (((HBZ.out.mono (by omega)).trans (HRB14.out.1.mono (by omega))).trans (HRB15.out.1.mono (by omega)))
  have HB8 : Hid (Below w.heap.size w (two (two y15 PB (.slice d141 d142 d143) (.slice d144 d145 d146)) (PB + 1) (.slice d151 d152 d153) (.slice d154 d155 d156))) := two_below (two_below hbl (by omega) _ _) (by omega) _ _
  have HM8 : Hid (CpV (Gs.missOut (ups hq) (ups wq) ids) (two (two y15 PB (.slice d141 d142 d143) (.slice d144 d145 d146)) (PB + 1) (.slice d151 d152 d153) (.slice d154 d155 d156)) (.slice m1 m2 m3)) := (((HMZ.out.kn HRB14.out.2.1).kn HRB15.out.2.1).kn hk1).kn hk2
  have HE14 : Hid (ReE (Dg.mores (ups hq ++ ups wq) (Gs.missing (ups ph) (Dg.heads (ups hq)))) g1 (two (two y15 PB (.slice d141 d142 d143) (.slice d144 d145 d146)) (PB + 1) (.slice d151 d152 d153) (.slice d154 d155 d156)) (.slice d141 d142 d143) (.slice d144 d145 d146)) := ((HR14.out.kn HRB15.out.2.1).kn hk1).kn hk2
  have HE15 : Hid (ReE (Dg.mores (ups ph ++ ups pw) (Gs.missing (ups hq) (Dg.heads (ups ph)))) g2 (two (two y15 PB (.slice d141 d142 d143) (.slice d144 d145 d146)) (PB + 1) (.slice d151 d152 d153) (.slice d154 d155 d156)) (.slice d151 d152 d153) (.slice d154 d155 d156)) := (HR15.out.kn hk1).kn hk2
  unfold two at s6 s7 s8 s9
  clear v4 v5 v6 vY1 vY2 vA hk1 hk2 hbl HR14 HR15 HMZ HF14 HF15 HPZ HYZ HRB14 HRB15 HRBZ hF14 hF15 hF14l hsz14 hPz HBZ HKZ HBW HKW
  go_upto_region 16 with fail
  refine wp_mid (fun a0 a w' => w' = (two (two y15 PB (.slice d141 d142 d143) (.slice d144 d145 d146)) (PB + 1) (.slice d151 d152 d153) (.slice d154 d155 d156)).drew ∧ a = ⟨(a0.tmps.setIfInBounds 73 (.agg #[.slice d141 d142 d143, .slice d144 d145 d146])).setIfInBounds 74 (.agg #[.slice d151 d152 d153, .slice d154 d155 d156]), a0.defers⟩) ?first16s ?rest16s
  case first16s =>
    go_region
    refine ⟨rfl, rfl, ?_⟩
    simp only [List.setIfInBounds_toArray, List.set_cons_zero, List.set_cons_succ]
  clear s0 s1 s2 s3 s4 s5 s6 s7 s8 s9 q0 q1 q2 q3
  rintro a wN ⟨hw, ha⟩
  simp only [List.setIfInBounds_toArray, List.set_cons_zero, List.set_cons_succ] at ha
  subst ha
  generalize (two (two y15 PB (.slice d141 d142 d143) (.slice d144 d145 d146)) (PB + 1) (.slice d151 d152 d153) (.slice d154 d155 d156)) = w8 at *
  have hbd : Below w8.heap.size w8 wN := by rw [hw]; exact (Below.refl _ _).drew
  have HKW : Hid (Kn w5 wN) := HK8.out.trans (Kn.below hbd)
  have HBF : Hid (Below w.heap.size w wN) := HB8.out.trans (hbd.mono HB8.out.size)
  have HYW : Hid (wN.heap[Y]? = some (.cells #[.slice x1a x2a x3a, .slice x4a x5a x6a] 24) ∧ wN.heap[Y + 1]? = some (.cells #[.slice y1a y2a y3a, .slice y4a y5a y6a] 24)) := ⟨(hbd.block _ (Array.getElem?_eq_some_iff.1 HYW8.out.1).1).trans HYW8.out.1, (hbd.block _ (Array.getElem?_eq_some_iff.1 HYW8.out.2).1).trans HYW8.out.2⟩
  have HPB : Hid (wN.heap[PB]? = some (.cells #[.slice d141 d142 d143, .slice d144 d145 d146] 24) ∧ wN.heap[PB + 1]? = some (.cells #[.slice d151 d152 d153, .slice d154 d155 d156] 24)) := ⟨(hbd.block _ (Array.getElem?_eq_some_iff.1 HPB8.out.1).1).trans HPB8.out.1, (hbd.block _ (Array.getElem?_eq_some_iff.1 HPB8.out.2).1).trans HPB8.out.2⟩
  have HMV : Hid (CpV (Gs.missOut (ups hq) (ups wq) ids) wN (.slice m1 m2 m3)) := HM8.out.kn (Kn.below hbd)
  have HN14 : Hid (ReE (Dg.mores (ups hq ++ ups wq) (Gs.missing (ups ph) (Dg.heads (ups hq)))) g1 wN (.slice d141 d142 d143) (.slice d144 d145 d146)) := HE14.out.kn (Kn.below hbd)
  have HN15 : Hid (ReE (Dg.mores (ups ph ++ ups pw) (Gs.missing (ups hq) (Dg.heads (ups ph)))) g2 wN (.slice d151 d152 d153) (.slice d154 d155 d156)) := HE15.out.kn (Kn.below hbd)
  have HAP : Hid (AnyR wN (.slice d141 d142 d143) (.slice d144 d145 d146)) := HN14.out.any
  have HAQ : Hid (AnyR wN (.slice d151 d152 d153) (.slice d154 d155 d156)) := HN15.out.any
  clear hw hbd HK8 HB8 HYW8 HPB8 HM8 HE14 HE15
  by_cases hz : g1 = 0 ∧ g2 = 0
  · obtain ⟨z1', z2'⟩ := hz
    obtain rfl : ob1 = true := by rw [HOB1.out]; exact decide_eq_true z1'
    obtain rfl : ob2 = true := by rw [HOB2.out]; exact decide_eq_true z2'
    obtain rfl : E2 = 0 := by rw [HE2Z.out, if_neg]; rintro (h | h); exact h z1'; exact h z2'
    have HP0 : Hid ((0 : Int) = 0 → RepI (Dg.mores (ups hq ++ ups wq) (Gs.missing (ups ph) (Dg.heads (ups hq)))) wN (.slice d141 d142 d143) (.slice d144 d145 d146)) := fun _ => HN14.out.1 z1'
    have HQ0 : Hid ((0 : Int) = 0 → RepI (Dg.mores (ups ph ++ ups pw) (Gs.missing (ups hq) (Dg.heads (ups ph)))) wN (.slice d151 d152 d153) (.slice d154 d155 d156)) := fun _ => HN15.out.1 z2'
    have HFA : Hid ((0 : Int) = 0 → Fair (Dg.mores (ups hq ++ ups wq) (Gs.missing (ups ph) (Dg.heads (ups hq))))) := fun _ => HFF1.out z1'
    have HFB : Hid ((0 : Int) = 0 → Fair (Dg.mores (ups ph ++ ups pw) (Gs.missing (ups hq) (Dg.heads (ups ph))))) := fun _ => HFF2.out z2'
    clear z1' z2' HN14 HN15
    go_upto_region 19 with fail
    have HCF : Hid (∀ z, Below wN.heap.size wN z → (z.cell? ⟨Y, 0, none⟩ = some (.slice x1a x2a x3a) ∧ z.cell? ⟨Y, 1, none⟩ = some (.slice x4a x5a x6a)) ∧ (z.cell? ⟨Y + 1, 0, none⟩ = some (.slice y1a y2a y3a) ∧ z.cell? ⟨Y + 1, 1, none⟩ = some (.slice y4a y5a y6a)) ∧ (z.cell? ⟨PB, 0, none⟩ = some (.slice d141 d142 d143) ∧ z.cell? ⟨PB, 1, none⟩ = some (.slice d144 d145 d146)) ∧ z.cell? ⟨PB + 1, 0, none⟩ = some (.slice d151 d152 d153) ∧ z.cell? ⟨PB + 1, 1, none⟩ = some (.slice d154 d155 d156)) := fun z hz =>
      ⟨⟨cell_below hz (by rw [Lib.cell_of_heap HYW.out.1]; rfl), cell_below hz (by rw [Lib.cell_of_heap HYW.out.1]; rfl)⟩, ⟨cell_below hz (by rw [Lib.cell_of_heap HYW.out.2]; rfl), cell_below hz (by rw [Lib.cell_of_heap HYW.out.2]; rfl)⟩, ⟨cell_below hz (by rw [Lib.cell_of_heap HPB.out.1]; rfl), cell_below hz (by rw [Lib.cell_of_heap HPB.out.1]; rfl)⟩, cell_below hz (by rw [Lib.cell_of_heap HPB.out.2]; rfl), cell_below hz (by rw [Lib.cell_of_heap HPB.out.2]; rfl)⟩
    have H26 : Hid (∀ z, Below wN.heap.size wN z → Calls Tryz.prog 26 #[.slice a7 R.length c7, .slice m1 m2 m3] z fun e w' => e = .returned (.bool true) ∧ Below z.heap.size z w') := fun z hz => by
      obtain ⟨L9, l1, l2, l3⟩ := HMV.out
      have hk := HKW.out.trans (Kn.below hz)
      exact SameUpdates_same R L9 _ _ z (HRV.out.kn hk) (l1.kn (Kn.below hz)) (HRU.out.trans l3.symm) HRL.out (fun x hx => (HRO.out x hx).kn hk) (fun x hx => (l2 x hx).kn (Kn.below hz))
    have H16A : Hid (∀ z, Below wN.heap.size wN z → Calls Tryz.prog 16 #[.agg #[.slice x1a x2a x3a, .slice x4a x5a x6a], .int .i64 0, .int .i64 0, .agg #[.slice d141 d142 d143, .slice d144 d145 d146]] z fun e w' => e = .returned (.bool true) ∧ Below z.heap.size z w') := fun z hz => repIs_rep HFA.out (HRX.out.kn (HKW.out.trans (Kn.below hz))) (HAP.out.kn (Kn.below hz)) (fun h => (HP0.out h).kn (Kn.below hz))
    have H16B : Hid (∀ z, Below wN.heap.size wN z → Calls Tryz.prog 16 #[.agg #[.slice y1a y2a y3a, .slice y4a y5a y6a], .int .i64 0, .int .i64 0, .agg #[.slice d151 d152 d153, .slice d154 d155 d156]] z fun e w' => e = .returned (.bool true) ∧ Below z.heap.size z w') := fun z hz => repIs_rep HFB.out (HRY.out.kn (HKW.out.trans (Kn.below hz))) (HAQ.out.kn (Kn.below hz)) (fun h => (HQ0.out h).kn (Kn.below hz))
    obtain ⟨⟨x0, x1⟩, ⟨x2, x3⟩, ⟨x4, x5⟩, x6, x7⟩ := HCF.out wN (Below.refl _ _)
    go_wp2_with (first
      | (go_at_call 25; refine Calls.mono (gossipBegun_any _) ?_; rintro _ z1 ⟨rfl, hz1⟩; clear x0 x1 x2 x3 x4 x5 x6 x7)
      | (go_at_call 26; refine Calls.mono (H26.out _ hz1) ?_; rintro _ z2 ⟨rfl, hz2'⟩; have hz2 := hz1.trans (hz2'.mono hz1.size); clear hz2'; obtain ⟨⟨x0, x1⟩, ⟨x2, x3⟩, ⟨x4, x5⟩, x6, x7⟩ := HCF.out z2 hz2)
      | (go_at_call 16; with_reducible refine Calls.mono (H16A.out _ hz2) ?_; rintro _ z3 ⟨rfl, hz3'⟩; have hz3 := hz2.trans (hz3'.mono hz2.size); clear hz3' x0 x1 x2 x3 x4 x5 x6 x7; obtain ⟨⟨x0, x1⟩, ⟨x2, x3⟩, ⟨x4, x5⟩, x6, x7⟩ := HCF.out z3 hz3)
      | (go_at_call 16; with_reducible refine Calls.mono (H16B.out _ hz3) ?_; rintro _ z4 ⟨rfl, hz4'⟩; have hz4 := hz3.trans (hz4'.mono hz3.size); clear hz4'))
    go_ret
    exact ⟨rfl, HBF.out.trans (hz4.mono HBF.out.size)⟩
  · obtain rfl : E2 = 2 := by
      rw [HE2Z.out, if_pos]
      by_cases h : g1 = 0
      · exact .inr (fun h2 => hz ⟨h, h2⟩)
      · exact .inl h
    have hne : (2 : Int) ≠ 0 := by decide
    have HP0 : Hid ((2 : Int) = 0 → RepI (Dg.mores (ups hq ++ ups wq) (Gs.missing (ups ph) (Dg.heads (ups hq)))) wN (.slice d141 d142 d143) (.slice d144 d145 d146)) := fun h => absurd h hne
    have HQ0 : Hid ((2 : Int) = 0 → RepI (Dg.mores (ups ph ++ ups pw) (Gs.missing (ups hq) (Dg.heads (ups ph)))) wN (.slice d151 d152 d153) (.slice d154 d155 d156)) := fun h => absurd h hne
    have HFA : Hid ((2 : Int) = 0 → Fair (Dg.mores (ups hq ++ ups wq) (Gs.missing (ups ph) (Dg.heads (ups hq))))) := fun h => absurd h hne
    have HFB : Hid ((2 : Int) = 0 → Fair (Dg.mores (ups ph ++ ups pw) (Gs.missing (ups hq) (Dg.heads (ups ph))))) := fun h => absurd h hne
    have HCF : Hid (∀ z, Below wN.heap.size wN z → (z.cell? ⟨Y, 0, none⟩ = some (.slice x1a x2a x3a) ∧ z.cell? ⟨Y, 1, none⟩ = some (.slice x4a x5a x6a)) ∧ (z.cell? ⟨Y + 1, 0, none⟩ = some (.slice y1a y2a y3a) ∧ z.cell? ⟨Y + 1, 1, none⟩ = some (.slice y4a y5a y6a)) ∧ (z.cell? ⟨PB, 0, none⟩ = some (.slice d141 d142 d143) ∧ z.cell? ⟨PB, 1, none⟩ = some (.slice d144 d145 d146)) ∧ z.cell? ⟨PB + 1, 0, none⟩ = some (.slice d151 d152 d153) ∧ z.cell? ⟨PB + 1, 1, none⟩ = some (.slice d154 d155 d156)) := fun z hz =>
      ⟨⟨cell_below hz (by rw [Lib.cell_of_heap HYW.out.1]; rfl), cell_below hz (by rw [Lib.cell_of_heap HYW.out.1]; rfl)⟩, ⟨cell_below hz (by rw [Lib.cell_of_heap HYW.out.2]; rfl), cell_below hz (by rw [Lib.cell_of_heap HYW.out.2]; rfl)⟩, ⟨cell_below hz (by rw [Lib.cell_of_heap HPB.out.1]; rfl), cell_below hz (by rw [Lib.cell_of_heap HPB.out.1]; rfl)⟩, cell_below hz (by rw [Lib.cell_of_heap HPB.out.2]; rfl), cell_below hz (by rw [Lib.cell_of_heap HPB.out.2]; rfl)⟩
    have H26 : Hid (∀ z, Below wN.heap.size wN z → Calls Tryz.prog 26 #[.slice a7 R.length c7, .slice m1 m2 m3] z fun e w' => e = .returned (.bool true) ∧ Below z.heap.size z w') := fun z hz => by
      obtain ⟨L9, l1, l2, l3⟩ := HMV.out
      have hk := HKW.out.trans (Kn.below hz)
      exact SameUpdates_same R L9 _ _ z (HRV.out.kn hk) (l1.kn (Kn.below hz)) (HRU.out.trans l3.symm) HRL.out (fun x hx => (HRO.out x hx).kn hk) (fun x hx => (l2 x hx).kn (Kn.below hz))
    have H16A : Hid (∀ z, Below wN.heap.size wN z → Calls Tryz.prog 16 #[.agg #[.slice x1a x2a x3a, .slice x4a x5a x6a], .int .i64 2, .int .i64 2, .agg #[.slice d141 d142 d143, .slice d144 d145 d146]] z fun e w' => e = .returned (.bool true) ∧ Below z.heap.size z w') := fun z hz => repIs_rep HFA.out (HRX.out.kn (HKW.out.trans (Kn.below hz))) (HAP.out.kn (Kn.below hz)) (fun h => (HP0.out h).kn (Kn.below hz))
    have H16B : Hid (∀ z, Below wN.heap.size wN z → Calls Tryz.prog 16 #[.agg #[.slice y1a y2a y3a, .slice y4a y5a y6a], .int .i64 2, .int .i64 2, .agg #[.slice d151 d152 d153, .slice d154 d155 d156]] z fun e w' => e = .returned (.bool true) ∧ Below z.heap.size z w') := fun z hz => repIs_rep HFB.out (HRY.out.kn (HKW.out.trans (Kn.below hz))) (HAQ.out.kn (Kn.below hz)) (fun h => (HQ0.out h).kn (Kn.below hz))
    clear HN14 HN15 hne
    by_cases hg : g1 = 0
    · have hg2 : ¬ g2 = 0 := fun h => hz ⟨hg, h⟩
      obtain rfl : ob1 = true := by rw [HOB1.out]; exact decide_eq_true hg
      obtain rfl : ob2 = false := by rw [HOB2.out]; exact decide_eq_false hg2
      clear hg hg2 hz
      go_upto_region 19 with fail
      obtain ⟨⟨x0, x1⟩, ⟨x2, x3⟩, ⟨x4, x5⟩, x6, x7⟩ := HCF.out wN (Below.refl _ _)
      go_wp2_with (first
        | (go_at_call 25; refine Calls.mono (gossipBegun_any _) ?_; rintro _ z1 ⟨rfl, hz1⟩; clear x0 x1 x2 x3 x4 x5 x6 x7)
        | (go_at_call 26; refine Calls.mono (H26.out _ hz1) ?_; rintro _ z2 ⟨rfl, hz2'⟩; have hz2 := hz1.trans (hz2'.mono hz1.size); clear hz2'; obtain ⟨⟨x0, x1⟩, ⟨x2, x3⟩, ⟨x4, x5⟩, x6, x7⟩ := HCF.out z2 hz2)
        | (go_at_call 16; with_reducible refine Calls.mono (H16A.out _ hz2) ?_; rintro _ z3 ⟨rfl, hz3'⟩; have hz3 := hz2.trans (hz3'.mono hz2.size); clear hz3' x0 x1 x2 x3 x4 x5 x6 x7; obtain ⟨⟨x0, x1⟩, ⟨x2, x3⟩, ⟨x4, x5⟩, x6, x7⟩ := HCF.out z3 hz3)
        | (go_at_call 16; with_reducible refine Calls.mono (H16B.out _ hz3) ?_; rintro _ z4 ⟨rfl, hz4'⟩; have hz4 := hz3.trans (hz4'.mono hz3.size); clear hz4'))
      go_ret
      exact ⟨rfl, HBF.out.trans (hz4.mono HBF.out.size)⟩
    · obtain rfl : ob1 = false := by rw [HOB1.out]; exact decide_eq_false hg
      clear hg hz
      go_upto_region 19 with fail
      obtain ⟨⟨x0, x1⟩, ⟨x2, x3⟩, ⟨x4, x5⟩, x6, x7⟩ := HCF.out wN (Below.refl _ _)
      go_wp2_with (first
        | (go_at_call 25; refine Calls.mono (gossipBegun_any _) ?_; rintro _ z1 ⟨rfl, hz1⟩; clear x0 x1 x2 x3 x4 x5 x6 x7)
        | (go_at_call 26; refine Calls.mono (H26.out _ hz1) ?_; rintro _ z2 ⟨rfl, hz2'⟩; have hz2 := hz1.trans (hz2'.mono hz1.size); clear hz2'; obtain ⟨⟨x0, x1⟩, ⟨x2, x3⟩, ⟨x4, x5⟩, x6, x7⟩ := HCF.out z2 hz2)
        | (go_at_call 16; with_reducible refine Calls.mono (H16A.out _ hz2) ?_; rintro _ z3 ⟨rfl, hz3'⟩; have hz3 := hz2.trans (hz3'.mono hz2.size); clear hz3' x0 x1 x2 x3 x4 x5 x6 x7; obtain ⟨⟨x0, x1⟩, ⟨x2, x3⟩, ⟨x4, x5⟩, x6, x7⟩ := HCF.out z3 hz3)
        | (go_at_call 16; with_reducible refine Calls.mono (H16B.out _ hz3) ?_; rintro _ z4 ⟨rfl, hz4'⟩; have hz4 := hz3.trans (hz4'.mono hz3.size); clear hz4'))
      go_ret
      exact ⟨rfl, HBF.out.trans (hz4.mono HBF.out.size)⟩
end Go.Proofs.YtmfaodapofamfaaGreat

/- The closed facts of the row, one by one. -/
namespace Go.Proofs.YtmfaodapofamfaaGreat
open Go.ChangeShapes Go.WideShapes Go.ChangeAt Go.RowKit
theorem gsTells_and {a b : Bool} (ha : a = true) (hb : b = true) : (a && b) = true := by rw [ha, hb]; rfl
theorem gsTells_j1 : Rows.gossipTellsRow.wf (OpenSpec.ofChange Rows.gossipTellsSpec) = true := by kernel_rfl
theorem gsTells_j2 : laidOutB Tryz.prog = true := by kernel_rfl
theorem gsTells_j3 : mapsRowed Tryz.prog = true := by kernel_rfl
theorem gsTells_j4 : Tryz.f5.params.all (Tryz.prog.readableRec ·) = true := by kernel_rfl
theorem gsTells_j5 : namedTie Tryz.prog Rows.gossipTellsRow.named Rows.gossipTellsSpec.vars = true := by kernel_rfl
theorem gsTells_j6 : (Rows.gossipTellsRow.stops == []) = true := by kernel_rfl
theorem gsTells_j7 : (Tryz.prog.stops == []) = true := by kernel_rfl
theorem gsTells_j8 : (Rows.gossipTellsRow.knobs == []) = true := by kernel_rfl
theorem gsTells_j9 : (Tryz.prog.stopKnobs == []) = true := by kernel_rfl
theorem gsTells_j10 : (Rows.gossipTellsRow.inPlace == Tryz.prog.inPlace 5) = true := by kernel_rfl
theorem gsTells_j11 : (Rows.gossipTellsRow.unfollowed == Tryz.prog.unfollowed 5) = true := by kernel_rfl
theorem gsTells_j12 : (Rows.gossipTellsRow.recurses == Tryz.prog.recurses 5) = true := by kernel_rfl
theorem gsTells_j13 : (Rows.gossipTellsRow.named == Tryz.prog.varsNamed 5) = true := by kernel_rfl
theorem gsTells_j14 : (Rows.gossipTellsRow.maps == (Tryz.f5.params.toList ++ Rows.gossipTellsSpec.plain.varTypes Tryz.prog).any (Tryz.prog.mapsRec ·)) = true := by kernel_rfl
theorem gsTells_j15 : (Rows.gossipTellsRow.ifaces == (Tryz.f5.params.toList ++ Rows.gossipTellsSpec.plain.varTypes Tryz.prog).any (Tryz.prog.ifacesRec ·)) = true := by kernel_rfl
theorem gsTells_j16 : (Rows.gossipTellsRow.mapsOut == Tryz.prog.mapsAmong Tryz.f5.resultTypes.toList) = true := by kernel_rfl
theorem gsTells_j17 : (Rows.gossipTellsRow.loops == (Tryz.f5.params.toList ++ Rows.gossipTellsSpec.plain.varTypes Tryz.prog).any (Tryz.prog.loopsFrom ·)) = true := by kernel_rfl
theorem gsTells_j18 : (Rows.gossipTellsRow.wideKeys == (Tryz.f5.params.toList ++ Rows.gossipTellsSpec.plain.varTypes Tryz.prog ++ Tryz.f5.resultTypes.toList).any (Tryz.prog.wideKeysFrom ·)) = true := by kernel_rfl
theorem gsTells_j19 : Rows.gossipTellsSpec.vars.all (Tryz.prog.varReadable ·) = true := by kernel_rfl
theorem gsTells_j20 : Tryz.f5.resultTypes.all (fun t => Tryz.prog.readableRec t && decide (t < Tryz.prog.types.size)) = true := by kernel_rfl
theorem gsTells_j21 : (Rows.gossipTellsRow.ifacesOut == Tryz.f5.resultTypes.toList.any (Tryz.prog.ifacesRec ·)) = true := by kernel_rfl
theorem gsTells_j22 : (Rows.gossipTellsRow.loopsOut == Tryz.f5.resultTypes.toList.any (Tryz.prog.loopsFrom ·)) = true := by kernel_rfl
theorem gsTells_j23 : (Rows.gossipTellsRow.plainKeys == Tryz.prog.plainKeys) = true := by kernel_rfl
theorem gsTells_j24 : Rows.gossipTellsRow.shortTexts.isNone = true := by kernel_rfl
theorem gsTells_j25 : Tryz.prog.stopsHeard = true := by kernel_rfl
theorem gsTells_j26 : Tryz.prog.mayEnter = true := by kernel_rfl
theorem gsTells_j27 : (Rows.gossipTellsRow.lifted == Tryz.prog.liftsFinal) = true := by kernel_rfl
theorem gsTells_j28 : (Tryz.prog.make == some Rows.gossipTellsRow.make) = true := by kernel_rfl
theorem gsTells_j29 : (Rows.gossipTellsRow.kinds == (if Rows.gossipTellsRow.domain.isEmpty then [] else Tryz.f5.params.toList.map fun t => match Tryz.prog.underlying t with | some (.int k) => some k | _ => none)) = true := by kernel_rfl
theorem gsTells_j30 : (Rows.gossipTellsRow.pinned == Rows.gossipTellsRow.pinnedBy) = true := by kernel_rfl
theorem gsTells_j31 : (Rows.gossipTellsRow.veiled == (Tryz.f5.params.toList ++ Rows.gossipTellsSpec.plain.varTypes Tryz.prog ++ Tryz.f5.resultTypes.toList).any (Tryz.prog.veiledRec ·)) = true := by kernel_rfl
theorem gsTells_j32 : Rows.gossipTellsRow.veiledFits Tryz.prog Tryz.f5.params.toList (Tryz.f5.params.toList ++ Rows.gossipTellsSpec.plain.varTypes Tryz.prog ++ Tryz.f5.resultTypes.toList) = true := by kernel_rfl
set_option maxRecDepth 100000 in
theorem gsTells_facts : joinedFacts Tryz.prog 5 Tryz.f5 (Rows.gossipTellsSpec) Rows.gossipTellsRow = true := by
  unfold joinedFacts
  exact gsTells_and (gsTells_and (gsTells_and (gsTells_and (gsTells_and (gsTells_and (gsTells_and (gsTells_and (gsTells_and (gsTells_and (gsTells_and (gsTells_and (gsTells_and (gsTells_and (gsTells_and (gsTells_and (gsTells_and (gsTells_and (gsTells_and (gsTells_and (gsTells_and (gsTells_and (gsTells_and (gsTells_and (gsTells_and (gsTells_and (gsTells_and (gsTells_and (gsTells_and (gsTells_and (gsTells_and gsTells_j1 gsTells_j2) gsTells_j3) gsTells_j4) gsTells_j5) gsTells_j6) gsTells_j7) gsTells_j8) gsTells_j9) gsTells_j10) gsTells_j11) gsTells_j12) gsTells_j13) gsTells_j14) gsTells_j15) gsTells_j16) gsTells_j17) gsTells_j18) gsTells_j19) gsTells_j20) gsTells_j21) gsTells_j22) gsTells_j23) gsTells_j24) gsTells_j25) gsTells_j26) gsTells_j27) gsTells_j28) gsTells_j29) gsTells_j30) gsTells_j31) gsTells_j32
end Go.Proofs.YtmfaodapofamfaaGreat

