/- Own texts, one behind the other (part 11). -/
import Derived.Test.YtmfaodapofamfaaGreatBundleJ
import Derived.Test.YtmfaodapofamfaaGreatRows
import Derived.ProofKit
import Derived.JoinedOf
/- The law DagAny: in whatever order updates with different ids are added, the replica is the same. -/
namespace Go.Proofs.YtmfaodapofamfaaGreat
open Go.RowKit

/-- What is there of those that came in: right ones, each id once. -/
structure AllI (lq : List Uv) (k : Nat) (A : List Uv) : Prop where
  sub : ∀ x, x ∈ A → x ∈ lq ∧ Wr.check x.u = 0
  nd : ((ups A).map Wr.Up.id).Nodup
  len : A.length ≤ k
theorem AllI.start (lq : List Uv) : AllI lq 0 [] := ⟨(fun _ h => by cases h), List.nodup_nil, Nat.le_refl _⟩
theorem AllI.keep {lq A : List Uv} {k : Nat} (h : AllI lq k A) : AllI lq (k + 1) A := ⟨h.sub, h.nd, Nat.le_succ_of_le h.len⟩
theorem AllI.more {lq A : List Uv} {k : Nat} (h : AllI lq k A) (hk : k < lq.length) (hc : Wr.check (uvD lq k).u = 0) (hn : Dg.hasU (ups A) (uvD lq k).u.id = false) : AllI lq (k + 1) (A ++ [uvD lq k]) := by
  refine ⟨fun x hx => ?_, ?_, ?_⟩
  · rcases List.mem_append.mp hx with h1 | h1
    · exact h.sub x h1
    · rw [List.mem_singleton.mp h1]
      exact ⟨uvD_mem lq k hk, hc⟩
  · rw [ups_append]
    exact Dg.nodup_snoc h.nd hn
  · rw [List.length_append]
    exact Nat.succ_le_succ h.len
/-- Some of them, in another order. -/
structure OthI (A O : List Uv) : Prop where
  sub : ∀ x, x ∈ O → x ∈ A
  nd : ((ups O).map Wr.Up.id).Nodup
theorem OthI.start (A : List Uv) : OthI A [] := ⟨(fun _ h => by cases h), List.nodup_nil⟩
theorem OthI.more {A O : List Uv} (h : OthI A O) {m : Nat} (hm : m < A.length) (hn : Dg.hasU (ups O) (uvD A m).u.id = false) : OthI A (O ++ [uvD A m]) := by
  refine ⟨fun x hx => ?_, ?_⟩
  · rcases List.mem_append.mp hx with h1 | h1
    · exact h.sub x h1
    · rw [List.mem_singleton.mp h1]
      exact uvD_mem A m hm
  · rw [ups_append]
    exact Dg.nodup_snoc h.nd hn
theorem OthI.len {A O : List Uv} (h : OthI A O) : O.length ≤ A.length := by
  have := Dg.len_sub (l := ups O) (m := ups A) (Dg.nodup_id h.nd) (fun x hx => by
    obtain ⟨y, hy, rfl⟩ := List.mem_map.mp hx
    exact List.mem_map_of_mem (h.sub y hy))
  rw [ups_length, ups_length] at this
  exact this
/-- .. all from k on are there. -/
def Tail (A O : List Uv) (k : Nat) : Prop := ∀ m, k ≤ m → m < A.length → Dg.hasU (ups O) (uvD A m).u.id = true
theorem Tail.start (A O : List Uv) : Tail A O A.length := fun m h1 h2 => absurd h2 (by omega)
theorem Tail.on {A O : List Uv} {k : Nat} (h : Tail A O (k + 1)) (hk : Dg.hasU (ups O) (uvD A k).u.id = true) : Tail A O k := fun m h1 h2 => by
  by_cases e : m = k
  · subst e; exact hk
  · exact h m (by omega) h2
theorem hasU_left {l m : List Wr.Up} {x : Wr.Id} (h : Dg.hasU l x = true) : Dg.hasU (l ++ m) x = true := by
  obtain ⟨u, h1, h2⟩ := Dg.hasU_iff.mp h
  exact Dg.hasU_iff.mpr ⟨u, List.mem_append_left _ h1, h2⟩
theorem Tail.more {A O : List Uv} {k : Nat} (h : Tail A O (k + 1)) : Tail A (O ++ [uvD A k]) k := by
  have h2 : Tail A (O ++ [uvD A k]) (k + 1) := fun m h1 h2 => by rw [ups_append]; exact hasU_left (h m h1 h2)
  refine h2.on ?_
  rw [ups_append]
  exact Dg.hasU_iff.mpr ⟨_, List.mem_append_right _ (List.mem_singleton.mpr rfl), rfl⟩
theorem Tail.perm {A O : List Uv} (hA : ((ups A).map Wr.Up.id).Nodup) (hO : OthI A O) (h : Tail A O 0) : (ups A).Perm (ups O) := by
  refine Dg.perm_of hA hO.nd (fun v hv => ?_) (fun u hu => ?_)
  · obtain ⟨y, hy, rfl⟩ := List.mem_map.mp hv
    exact List.mem_map_of_mem (hO.sub y hy)
  · obtain ⟨y, hy, rfl⟩ := List.mem_map.mp hu
    obtain ⟨i, hi, rfl⟩ := List.getElem_of_mem hy
    have := h i (Nat.zero_le _) hi
    unfold uvD at this
    rw [List.getD_eq_getElem?_getD, List.getElem?_eq_getElem hi] at this
    exact this
/-- Two boxes of one's own, both with the same two slices. -/
structure TwoB (w0 w : World) (A B : Nat) (u v : Value) : Prop where
  la : w0.heap.size ≤ A
  lb : w0.heap.size ≤ B
  ne : A ≠ B
  a : w.heap[A]? = some (.cells #[u, v] 24)
  b : w.heap[B]? = some (.cells #[u, v] 24)
  rb : Rb w0.heap.size w0 w
theorem box_store {z : World} {X F : Nat} {u v x y : Value} {a1 a2 : Option Addr} {n1 c1 n2 c2 : Nat} (hF : z.heap[F]? = some (.cells #[.slice a1 n1 c1, .slice a2 n2 c2] 24)) (hX : X ≠ F) (h0 : z.cell? ⟨X, 0, none⟩ = some x) (h1 : z.cell? ⟨X, 1, none⟩ = some y) :
    z.cell? ⟨F, 0, none⟩ = some (.slice a1 n1 c1) ∧ z.frozen? ⟨F, 0, none⟩ = false ∧ (z.setCell ⟨F, 0, none⟩ u).cell? ⟨F, 1, none⟩ = some (.slice a2 n2 c2) ∧ (z.setCell ⟨F, 0, none⟩ u).frozen? ⟨F, 1, none⟩ = false ∧
    ((z.setCell ⟨F, 0, none⟩ u).setCell ⟨F, 1, none⟩ v).cell? ⟨X, 0, none⟩ = some x ∧ ((z.setCell ⟨F, 0, none⟩ u).setCell ⟨F, 1, none⟩ v).cell? ⟨X, 1, none⟩ = some y := by
  have k1 : (z.setCell ⟨F, 0, none⟩ u).heap[F]? = some (.cells #[u, .slice a2 n2 c2] 24) := by rw [Lib.heap_setCell_same hF]; rfl
  have ho : ((z.setCell ⟨F, 0, none⟩ u).setCell ⟨F, 1, none⟩ v).heap[X]? = z.heap[X]? := two_other hX
  exact ⟨by rw [Lib.cell_of_heap hF]; rfl, Lib.frozen_of_heap hF 0, by rw [Lib.cell_of_heap k1]; rfl, Lib.frozen_of_heap k1 1, by rw [cell_heap ho]; exact h0, by rw [cell_heap ho]; exact h1⟩
theorem box_two (z : World) {X : Nat} {u v : Value} (h0 : z.cell? ⟨X, 0, none⟩ = some u) (h1 : z.cell? ⟨X, 1, none⟩ = some v) :
    (z.alloc (.cells #[.slice none 0 0, .slice none 0 0] 24)).cell? ⟨X, 0, none⟩ = some u ∧ (z.alloc (.cells #[.slice none 0 0, .slice none 0 0] 24)).cell? ⟨X, 1, none⟩ = some v ∧
    ((z.alloc (.cells #[.slice none 0 0, .slice none 0 0] 24)).alloc (.cells #[.slice none 0 0, .slice none 0 0] 24)).cell? ⟨X, 0, none⟩ = some u ∧ ((z.alloc (.cells #[.slice none 0 0, .slice none 0 0] 24)).alloc (.cells #[.slice none 0 0, .slice none 0 0] 24)).cell? ⟨X, 1, none⟩ = some v ∧
    ((z.alloc (.cells #[.slice none 0 0, .slice none 0 0] 24)).alloc (.cells #[.slice none 0 0, .slice none 0 0] 24)).heap[z.heap.size]? = some (.cells #[.slice none 0 0, .slice none 0 0] 24) ∧ ((z.alloc (.cells #[.slice none 0 0, .slice none 0 0] 24)).alloc (.cells #[.slice none 0 0, .slice none 0 0] 24)).heap[z.heap.size + 1]? = some (.cells #[.slice none 0 0, .slice none 0 0] 24) ∧
    Below z.heap.size z ((z.alloc (.cells #[.slice none 0 0, .slice none 0 0] 24)).alloc (.cells #[.slice none 0 0, .slice none 0 0] 24)) := by
  have g0 := new_below z (.cells #[.slice none 0 0, .slice none 0 0] 24)
  have g1 := new_below (z.alloc (.cells #[.slice none 0 0, .slice none 0 0] 24)) (.cells #[.slice none 0 0, .slice none 0 0] 24)
  have b0 := heap_alloc_new z (.cells #[.slice none 0 0, .slice none 0 0] 24)
  have b1 := heap_alloc_new (z.alloc (.cells #[.slice none 0 0, .slice none 0 0] 24)) (.cells #[.slice none 0 0, .slice none 0 0] 24)
  have hsz : (z.alloc (.cells #[.slice none 0 0, .slice none 0 0] 24)).heap.size = z.heap.size + 1 := by simp
  rw [hsz] at b1
  exact ⟨cell_below g0 h0, cell_below g0 h1, cell_below g1 (cell_below g0 h0), cell_below g1 (cell_below g0 h1), (g1.block _ (by rw [hsz]; exact Nat.lt_succ_self _)).trans b0, b1, g0.trans (g1.mono g0.size)⟩
theorem TwoB.drew {w0 w : World} {A B : Nat} {u v : Value} (h : TwoB w0 w A B u v) : TwoB w0 w.drew A B u v := ⟨h.la, h.lb, h.ne, h.a, h.b, h.rb.trans (Rb.draw _ _)⟩
def laD (s B : Nat) (all : List Wr.Up) (a : Act) (w : World) : Prop := ∃ F, a.tmps.getD s undef = .pointer (some ⟨F, 0, none⟩) ∧ B ≤ F ∧ BoxI all w F
theorem two_new (z : World) (a1 a2 : Option Addr) (n1 c1 n2 c2 : Nat) : TwoB z ((z.alloc (.cells #[.slice a1 n1 c1, .slice a2 n2 c2] 24)).alloc (.cells #[.slice a1 n1 c1, .slice a2 n2 c2] 24)) z.heap.size (z.heap.size + 1) (.slice a1 n1 c1) (.slice a2 n2 c2) := by
  have g0 := new_below z (.cells #[.slice a1 n1 c1, .slice a2 n2 c2] 24)
  have g1 := new_below (z.alloc (.cells #[.slice a1 n1 c1, .slice a2 n2 c2] 24)) (.cells #[.slice a1 n1 c1, .slice a2 n2 c2] 24)
  have b0 := heap_alloc_new z (.cells #[.slice a1 n1 c1, .slice a2 n2 c2] 24)
  have b1 := heap_alloc_new (z.alloc (.cells #[.slice a1 n1 c1, .slice a2 n2 c2] 24)) (.cells #[.slice a1 n1 c1, .slice a2 n2 c2] 24)
  have hsz : (z.alloc (.cells #[.slice a1 n1 c1, .slice a2 n2 c2] 24)).heap.size = z.heap.size + 1 := by simp
  rw [hsz] at b1
  exact ⟨Nat.le_refl _, Nat.le_succ _, by omega, (g1.block _ (by rw [hsz]; exact Nat.lt_succ_self _)).trans b0, b1, Rb.of (g0.trans (g1.mono g0.size)) (Nat.le_refl _)⟩
theorem TwoB.swap {w0 w : World} {A B : Nat} {u v : Value} (h : TwoB w0 w A B u v) : TwoB w0 w B A u v := ⟨h.lb, h.la, Ne.symm h.ne, h.b, h.a, h.rb⟩
def laT26 (B : Nat) (e1 : Option Addr) (n1 g1 : Nat) (e2 : Option Addr) (n2 g2 : Nat) (b f nA cA k o : Nat) (va vn : Int) (b1 : Option Addr) (m1 f1 : Nat) (b2 : Option Addr) (m2 f2 : Nat) (b3 : Option Addr) (m3 f3 : Nat) (all : List Wr.Up) (tQ : Nat) (vQ : Value) (WQ : World) : Prop :=
  match tQ with
  | 142 => vQ = .agg #[.slice e1 n1 g1, .slice e2 n2 g2]
  | 143 => vQ = .slice (some ⟨b, f, none⟩) nA cA
  | 144 => vQ = .int .i64 k
  | 145 => vQ = .pointer (some ⟨b, o, none⟩)
  | 146 => vQ = .agg #[.int .i64 va, .int .i64 vn, .slice b1 m1 f1, .slice b2 m2 f2, .slice b3 m3 f3]
  | 147 => AdN all WQ vQ
  | 141 => AdN all WQ vQ
  | 148 => ReN all WQ vQ
  | 149 => vQ = .int .i64 0
  | 15 => Bxp B WQ vQ
  | 16 => vQ = .int .i64 0
  | _ => True
theorem laT26_mono (B : Nat) (e1 : Option Addr) (n1 g1 : Nat) (e2 : Option Addr) (n2 g2 : Nat) (b f nA cA k o : Nat) (va vn : Int) (b1 : Option Addr) (m1 f1 : Nat) (b2 : Option Addr) (m2 f2 : Nat) (b3 : Option Addr) (m3 f3 : Nat) (all : List Wr.Up) (C : Nat) (tQ : Nat) (vQ : Value) (W W' : World) (hb : Rb C W W') (h : laT26 B e1 n1 g1 e2 n2 g2 b f nA cA k o va vn b1 m1 f1 b2 m2 f2 b3 m3 f3 all tQ vQ W) : laT26 B e1 n1 g1 e2 n2 g2 b f nA cA k o va vn b1 m1 f1 b2 m2 f2 b3 m3 f3 all tQ vQ W' := by
  revert h
  unfold laT26
  split <;> (intro h; first | exact h | exact AdN.kn h hb.2.1 | exact ReN.kn h hb.2.1 | exact Bxp.rb h hb)
def laT27 (B : Nat) (e1 : Option Addr) (n1 g1 : Nat) (e2 : Option Addr) (n2 g2 : Nat) (b f nA cA k o : Nat) (va vn : Int) (b1 : Option Addr) (m1 f1 : Nat) (b2 : Option Addr) (m2 f2 : Nat) (b3 : Option Addr) (m3 f3 : Nat) (all : List Wr.Up) (tQ : Nat) (vQ : Value) (WQ : World) : Prop :=
  match tQ with
  | 151 => vQ = .agg #[.slice e1 n1 g1, .slice e2 n2 g2]
  | 152 => vQ = .slice (some ⟨b, f, none⟩) nA cA
  | 153 => vQ = .int .i64 k
  | 154 => vQ = .pointer (some ⟨b, o, none⟩)
  | 155 => vQ = .agg #[.int .i64 va, .int .i64 vn, .slice b1 m1 f1, .slice b2 m2 f2, .slice b3 m3 f3]
  | 156 => AdN all WQ vQ
  | 150 => AdN all WQ vQ
  | 157 => ReN all WQ vQ
  | 158 => vQ = .int .i64 0
  | 17 => Bxp B WQ vQ
  | 18 => vQ = .int .i64 0
  | _ => True
theorem laT27_mono (B : Nat) (e1 : Option Addr) (n1 g1 : Nat) (e2 : Option Addr) (n2 g2 : Nat) (b f nA cA k o : Nat) (va vn : Int) (b1 : Option Addr) (m1 f1 : Nat) (b2 : Option Addr) (m2 f2 : Nat) (b3 : Option Addr) (m3 f3 : Nat) (all : List Wr.Up) (C : Nat) (tQ : Nat) (vQ : Value) (W W' : World) (hb : Rb C W W') (h : laT27 B e1 n1 g1 e2 n2 g2 b f nA cA k o va vn b1 m1 f1 b2 m2 f2 b3 m3 f3 all tQ vQ W) : laT27 B e1 n1 g1 e2 n2 g2 b f nA cA k o va vn b1 m1 f1 b2 m2 f2 b3 m3 f3 all tQ vQ W' := by
  revert h
  unfold laT27
  split <;> (intro h; first | exact h | exact AdN.kn h hb.2.1 | exact ReN.kn h hb.2.1 | exact Bxp.rb h hb)
def laT32 (B : Nat) (e1 : Option Addr) (n1 g1 : Nat) (e2 : Option Addr) (n2 g2 : Nat) (b f nA cA o : Nat) (va vn : Int) (b1 : Option Addr) (m1 f1 : Nat) (b2 : Option Addr) (m2 f2 : Nat) (b3 : Option Addr) (m3 f3 : Nat) (all : List Wr.Up) (tQ : Nat) (vQ : Value) (WQ : World) : Prop :=
  match tQ with
  | 176 => vQ = .agg #[.slice e1 n1 g1, .slice e2 n2 g2]
  | 177 => vQ = .slice (some ⟨b, f, none⟩) nA cA
  | 178 => vQ = .pointer (some ⟨b, o, none⟩)
  | 179 => vQ = .agg #[.int .i64 va, .int .i64 vn, .slice b1 m1 f1, .slice b2 m2 f2, .slice b3 m3 f3]
  | 180 => AdN all WQ vQ
  | 175 => AdN all WQ vQ
  | 181 => ReN all WQ vQ
  | 182 => vQ = .int .i64 0
  | 19 => Bxp B WQ vQ
  | 20 => vQ = .int .i64 0
  | _ => True
theorem laT32_mono (B : Nat) (e1 : Option Addr) (n1 g1 : Nat) (e2 : Option Addr) (n2 g2 : Nat) (b f nA cA o : Nat) (va vn : Int) (b1 : Option Addr) (m1 f1 : Nat) (b2 : Option Addr) (m2 f2 : Nat) (b3 : Option Addr) (m3 f3 : Nat) (all : List Wr.Up) (C : Nat) (tQ : Nat) (vQ : Value) (W W' : World) (hb : Rb C W W') (h : laT32 B e1 n1 g1 e2 n2 g2 b f nA cA o va vn b1 m1 f1 b2 m2 f2 b3 m3 f3 all tQ vQ W) : laT32 B e1 n1 g1 e2 n2 g2 b f nA cA o va vn b1 m1 f1 b2 m2 f2 b3 m3 f3 all tQ vQ W' := by
  revert h
  unfold laT32
  split <;> (intro h; first | exact h | exact AdN.kn h hb.2.1 | exact ReN.kn h hb.2.1 | exact Bxp.rb h hb)

set_option maxRecDepth 100000 in
set_option maxHeartbeats 8000000 in
theorem dagAny_any (hq wq lq : List Uv) (ord : List Int) (hv wv lv ov : Value) (w : World) (hV : UpsV w hv hq) (wV : UpsV w wv wq) (lV : UpsV w lv lq) (oV : IntsV w ov ord) (hl : hq.length ≤ 4611686018427387903 ∧ wq.length ≤ 4611686018427387903) (hll : lq.length ≤ 4611686018427387903) (hol : ord.length ≤ 4611686018427387903) (hok : ∀ y, y ∈ hq ++ wq → UvOk w y) (lok : ∀ y, y ∈ lq → UvOk w y) :
    Calls Tryz.prog 4 #[repVal hv wv, lv, ov] w fun e w' => e = .returned (.bool true) ∧ Below w.heap.size w w' := by
  obtain ⟨ah, ch, rfl, hch, hAt⟩ := id hV
  obtain ⟨aw, cw, rfl, hcw, wAt⟩ := id wV
  obtain ⟨al, cl, rfl, hcl, lAt⟩ := id lV
  obtain ⟨ao, co, rfl, oAt⟩ := oV
  clear hch hAt hcw wAt hcl
  obtain ⟨c, hc⟩ : ∃ c, c = Dg.check (ups hq) (ups wq) := ⟨_, rfl⟩
  have HR : Hid (∀ z, Kn w z → UpsV z (.slice ah hq.length ch) hq ∧ UpsV z (.slice aw wq.length cw) wq ∧ (∀ y, y ∈ hq ++ wq → UvOk z y)) := fun z hz => ⟨hV.kn hz, wV.kn hz, fun y hy => (hok y hy).kn hz⟩
  have HL : Hid (∀ z, Below w.heap.size w z → UpsAt z al lq ∧ (∀ y, y ∈ lq → UvOk z y)) := fun z hz => ⟨lAt.kc (Kc.below hz), fun y hy => (lok y hy).below hz⟩
  have H9 : Hid (∀ z, Below w.heap.size w z → Calls Tryz.prog 9 #[.agg #[.slice ah hq.length ch, .slice aw wq.length cw]] z fun e w' => e = .returned (.int .i64 c) ∧ Below z.heap.size z w') := fun z hz => by
    obtain ⟨k1, k2, k3⟩ := HR.out z (Kn.below hz)
    rw [hc]
    exact CheckReplica_any hq wq _ _ z k1 k2 hl k3
  have HOK : Hid (c = 0 → Dg.Ok (ups hq) (ups wq)) := fun h => Dg.check_ok.mp (hc ▸ h)
  have HOA : Hid (IntsAt w ao ord) := oAt
  clear hV wV lV hok lok lAt oAt hc
  have b0 := heap_alloc_new w (.cells #[.slice ah hq.length ch, .slice aw wq.length cw] 24)
  have g0 := new_below w (.cells #[.slice ah hq.length ch, .slice aw wq.length cw] 24)
  go_enter Tryz.func4, Tryz.ntmps4
  go_upto_region 1 with fail
  generalize w.alloc (.cells #[.slice ah hq.length ch, .slice aw wq.length cw] 24) = w1 at *
  have HX1 : Hid (∀ z, Below w1.heap.size w1 z → z.cell? ⟨w.heap.size, 0, none⟩ = some (.slice ah hq.length ch) ∧ z.cell? ⟨w.heap.size, 1, none⟩ = some (.slice aw wq.length cw)) := fun z hz => ⟨cell_below hz (by rw [Lib.cell_of_heap b0]; rfl), cell_below hz (by rw [Lib.cell_of_heap b0]; rfl)⟩
  have HG1 : Hid (Below w.heap.size w w1) := g0
  clear b0 g0
  go_wp2_with fail
  refine Calls.mono (dagBegun_any w1) ?_
  rintro _ w2 ⟨rfl, hb2⟩
  have HX2 : Hid (∀ z, Below w2.heap.size w2 z → z.cell? ⟨w.heap.size, 0, none⟩ = some (.slice ah hq.length ch) ∧ z.cell? ⟨w.heap.size, 1, none⟩ = some (.slice aw wq.length cw)) := fun z hz => HX1.out z (hb2.trans (hz.mono hb2.size))
  have HG2 : Hid (Below w.heap.size w w2) := HG1.out.trans (hb2.mono HG1.out.size)
  clear hb2 HX1 HG1
  obtain ⟨x0, x1⟩ := HX2.out w2 (Below.refl _ _)
  go_wp2_with fail
  refine Calls.mono (H9.out w2 HG2.out) ?_
  rintro _ w3 ⟨rfl, hb3⟩
  have HX3 : Hid (∀ z, Below w3.heap.size w3 z → z.cell? ⟨w.heap.size, 0, none⟩ = some (.slice ah hq.length ch) ∧ z.cell? ⟨w.heap.size, 1, none⟩ = some (.slice aw wq.length cw)) := fun z hz => HX2.out z (hb3.trans (hz.mono hb3.size))
  have HG3 : Hid (Below w.heap.size w w3) := HG2.out.trans (hb3.mono HG2.out.size)
  clear hb3 HX2 HG2 x0 x1 H9
  obtain ⟨x0, x1⟩ := HX3.out w3 (Below.refl _ _)
  by_cases h0 : c = 0
  case neg =>
    have d0 : (!decide (c = 0)) = true := by simp [h0]
    go_wp2_with fail
    go_ret
    exact ⟨rfl, HG3.out⟩
  subst h0
  have HO : Hid (Dg.Ok (ups hq) (ups wq)) := HOK.out rfl
  have hfew := HO.out.few
  rw [ups_length, ups_length] at hfew
  clear HOK
  by_cases h2 : hq.length + wq.length + lq.length ≤ 200
  case neg =>
    have d0 : decide ((200 : Int) < (hq.length : Int) + (wq.length : Int) + (lq.length : Int)) = true := decide_eq_true (by omega)
    go_wp2_with fail
    go_ret
    exact ⟨rfl, HG3.out⟩
  have d0 : decide ((200 : Int) < (hq.length : Int) + (wq.length : Int) + (lq.length : Int)) = false := decide_eq_false (by omega)
  clear hl
  go_wp2_with fail
  clear x0 x1 d0
  go_loopw [7, 8] (fun av iv wr => ∃ (k : Nat) (A : List Uv), k ≤ lq.length ∧ iv = .int .i64 k ∧ Hid (AllI lq k A) ∧ URow wr w3.heap.size av A ∧ Hid (Below w3.heap.size w3 wr)) (fun _ iv _ => lq.length - (intOf iv).toNat)
  case atStart => exact ⟨0, [], Nat.zero_le _, rfl, AllI.start _, World.ownsRow_nil _ _ _ _, Below.refl _ _⟩
  case round =>
    obtain ⟨k, A, hk, rfl, HA, hrow, HB⟩ := hrel
    obtain ⟨aA, cA, rfl⟩ := own_slice hrow
    have hAl := HA.out.len
    by_cases hlt : k < lq.length
    · have g1 : decide (k < lq.length) = true := decide_eq_true hlt
      have HBw : Hid (Below w.heap.size w wr) := HG3.out.trans (HB.out.mono HG3.out.size)
      have HMO : Hid (Wr.check (uvD lq k).u = 0 → Dg.hasU (ups A) (uvD lq k).u.id = false → AllI lq (k + 1) (A ++ [uvD lq k])) := fun h1 h2 => HA.out.more hlt h1 h2
      have HKE : Hid (AllI lq (k + 1) A) := HA.out.keep
      obtain ⟨b, off, eb, p0, p1, p2, p3, p4⟩ := ups_at (HL.out wr HBw.out).1 k hlt
      have hxo := (HL.out wr HBw.out).2 _ (uvD_mem lq k hlt)
      generalize uvD lq k = x at *
      obtain ⟨b1, m1, f1, b2, m2, f2, b3, m3, f3, e1, e2, e3⟩ := hxo.forms
      have HX : Hid (UvOk wr x) := hxo
      clear hxo
      obtain ⟨⟨⟨va, vn⟩, ps, says, ts⟩, vp, vs, vt⟩ := x
      dsimp only at *
      subst e1 e2 e3
      have HXU : Hid (∀ z, Below wr.heap.size wr z → z.cell? ⟨b, off + k * 5, none⟩ = some (.int .i64 va) ∧ z.cell? ⟨b, off + k * 5 + 1, none⟩ = some (.int .i64 vn) ∧ z.cell? ⟨b, off + k * 5 + 2, none⟩ = some (.slice b1 m1 f1) ∧ z.cell? ⟨b, off + k * 5 + 3, none⟩ = some (.slice b2 m2 f2) ∧ z.cell? ⟨b, off + k * 5 + 4, none⟩ = some (.slice b3 m3 f3)) := fun z hz => ⟨cell_below hz p0, cell_below hz p1, cell_below hz p2, cell_below hz p3, cell_below hz p4⟩
      clear p0 p1 p2 p3 p4
      subst eb
      obtain ⟨cu, hcu⟩ : ∃ c, c = Wr.check ⟨⟨va, vn⟩, ps, says, ts⟩ := ⟨_, rfl⟩
      have HCU : Hid (∀ z, Below wr.heap.size wr z → Calls Tryz.prog 10 #[uvVal ⟨⟨⟨va, vn⟩, ps, says, ts⟩, .slice b1 m1 f1, .slice b2 m2 f2, .slice b3 m3 f3⟩] z fun e w' => e = .returned (.int .i64 cu) ∧ Below z.heap.size z w') := fun z hz => by
        rw [hcu]
        exact CheckUpdate_any _ _ _ _ z (HX.out.below hz).p (HX.out.below hz).s (HX.out.below hz).t HX.out.f HX.out.l
      obtain ⟨y0, y1, y2, y3, y4⟩ := HXU.out wr (Below.refl _ _)
      go_wp2_with fail
      refine Calls.mono (HCU.out wr (Below.refl _ _)) ?_
      rintro _ wc ⟨rfl, hbc⟩
      clear y0 y1 y2 y3 y4 HCU
      obtain ⟨y0, y1, y2, y3, y4⟩ := HXU.out wc hbc
      have hrow2 := ownsRow_below hrow hbc
      have HB2 : Hid (Below w3.heap.size w3 wc) := HB.out.trans (hbc.mono HB.out.size)
      have HXc : Hid (UvOk wc ⟨⟨⟨va, vn⟩, ps, says, ts⟩, .slice b1 m1 f1, .slice b2 m2 f2, .slice b3 m3 f3⟩) := HX.out.below hbc
      have HBC : Hid (Below wr.heap.size wr wc) := hbc
      clear hrow hbc HB
      by_cases h4 : cu = 0
      case neg =>
        have d1 : decide (cu = 0) = false := decide_eq_false h4
        have HRW : Hid (URow wc w3.heap.size (.slice aA A.length cA) A) := hrow2
        clear hrow2
        go_wp2_with fail
        go_roundw
        case rel => exact ⟨k + 1, A, hlt, by go_num, HKE.out, HRW.out, HB2.out⟩
        case measure => simp [intOf]; omega
      subst h4
      have HPL : Hid _ := PlaceOf_any A ⟨va, vn⟩ (.slice aA A.length cA) wc (own_ups hrow2) (by omega)
      have HMO2 : Hid (Dg.hasU (ups A) ⟨va, vn⟩ = false → AllI lq (k + 1) (A ++ [⟨⟨⟨va, vn⟩, ps, says, ts⟩, .slice b1 m1 f1, .slice b2 m2 f2, .slice b3 m3 f3⟩])) := fun h => HMO.out hcu.symm h
      clear hcu HMO
      go_wp2_with fail
      refine Calls.mono HPL.out ?_
      rintro _ wd ⟨r, rfl, hr, hbd⟩
      clear y0 y1 y2 y3 y4 HPL
      obtain ⟨y0, y1, y2, y3, y4⟩ := HXU.out wd (HBC.out.trans (hbd.mono HBC.out.size))
      have hrow3 := ownsRow_below hrow2 hbd
      have HB3 : Hid (Below w3.heap.size w3 wd) := HB2.out.trans (hbd.mono HB2.out.size)
      have HXd : Hid (UvOk wd ⟨⟨⟨va, vn⟩, ps, says, ts⟩, .slice b1 m1 f1, .slice b2 m2 f2, .slice b3 m3 f3⟩) := HXc.out.below hbd
      clear hrow2 hbd HB2 HXc HBC HXU HX
      rcases hr with ⟨rfl, hn⟩ | ⟨m, rfl, _, _⟩
      · have HM3 : Hid _ := HMO2.out hn
        clear hn HMO2 HKE HA
        go_wp2_with (at_builtin; refine wp_append_ups (W := wd) rfl _ _ rfl w3.heap.size (HB3.out.alloc HB3.out.size _).size _ A rfl (hrow3.alloc _) (some ⟨wd.heap.size, 0, none⟩) 1 [(⟨⟨⟨va, vn⟩, ps, says, ts⟩, .slice b1 m1 f1, .slice b2 m2 f2, .slice b3 m3 f3⟩ : Uv)] rfl (fun h => by cases h) (ups_one _ ⟨⟨⟨va, vn⟩, ps, says, ts⟩, .slice b1 m1 f1, .slice b2 m2 f2, .slice b3 m3 f3⟩) (one_ok HXd.out) (by rw [List.length_singleton]; omega) ?_; intro vs9 z9 hown9 hgrow9)
        have hB9 : Below w3.heap.size w3 z9 := (HB3.out.alloc HB3.out.size _).grown hgrow9 (HB3.out.alloc HB3.out.size _).size (fun j e => (hrow3.lt j e).1)
        obtain ⟨ao9, cap9, rfl⟩ := own_slice hown9
        have RF : Hid (URow z9 w3.heap.size (.slice ao9 (A ++ [(⟨⟨⟨va, vn⟩, ps, says, ts⟩, .slice b1 m1 f1, .slice b2 m2 f2, .slice b3 m3 f3⟩ : Uv)]).length cap9) (A ++ [(⟨⟨⟨va, vn⟩, ps, says, ts⟩, .slice b1 m1 f1, .slice b2 m2 f2, .slice b3 m3 f3⟩ : Uv)])) := hown9
        have B9 : Hid (Below w3.heap.size w3 z9) := hB9
        clear hB9 hown9 hgrow9
        clear hrow3 HB3 y0 y1 y2 y3 y4
        go_wp2_with fail
        go_roundw
        case rel => exact ⟨k + 1, _, hlt, by go_num, HM3.out, RF.out, B9.out⟩
        case measure => simp [intOf]; omega
      · have d1 : decide ((m : Int) < 0) = false := decide_eq_false (by omega)
        have HRW : Hid (URow wd w3.heap.size (.slice aA A.length cA) A) := hrow3
        clear hrow3
        go_wp2_with fail
        go_roundw
        case rel => exact ⟨k + 1, A, hlt, by go_num, HKE.out, HRW.out, HB3.out⟩
        case measure => simp [intOf]; omega
    · have g1 : decide (k < lq.length) = false := decide_eq_false hlt
      have HAA : Hid ((∀ x, x ∈ A → Wr.check x.u = 0) ∧ ((ups A).map Wr.Up.id).Nodup) := ⟨fun x hx => (HA.out.sub x hx).2, HA.out.nd⟩
      have hAn : hq.length + wq.length + A.length ≤ 200 := by omega
      have HBO : Hid (Below w.heap.size w wr) := HG3.out.trans (HB.out.mono HG3.out.size)
      have HXO : Hid (∀ z, Below wr.heap.size wr z → z.cell? ⟨w.heap.size, 0, none⟩ = some (.slice ah hq.length ch) ∧ z.cell? ⟨w.heap.size, 1, none⟩ = some (.slice aw wq.length cw)) := fun z hz => HX3.out z (HB.out.trans (hz.mono HB.out.size))
      have HAV : Hid (UpsV wr (.slice aA A.length cA) A) := own_ups hrow
      have HAO : Hid (∀ x, x ∈ A → UvOk wr x) := fun x hx => (HL.out wr HBO.out).2 x (HA.out.sub x hx).1
      clear hrow HB HA HX3 HG3 hAl hlt h2 hk
      generalize wr = wO at *
      go_wp2_with fail
      go_loopw [9, 10] (fun ov iv wr => ∃ (k : Nat) (O : List Uv), k ≤ ord.length ∧ iv = .int .i64 k ∧ Hid (OthI A O) ∧ URow wr wO.heap.size ov O ∧ Hid (Below wO.heap.size wO wr)) (fun _ iv _ => ord.length - (intOf iv).toNat)
      case atStart => exact ⟨0, [], Nat.zero_le _, rfl, OthI.start _, World.ownsRow_nil _ _ _ _, Below.refl _ _⟩
      case round =>
        obtain ⟨k, O, hk, rfl, HI, hrow, HB⟩ := hrel
        obtain ⟨aO, cO, rfl⟩ := own_slice hrow
        have hOl := HI.out.len
        by_cases hko : k < ord.length
        · have g2 : decide (k < ord.length) = true := decide_eq_true hko
          obtain ⟨bo, oo, eo, o0⟩ := ints_at HOA.out k hko
          have HOC : Hid (∀ z, Below wr.heap.size wr z → z.cell? ⟨bo, oo + k, none⟩ = some (.int .i64 (Sc.intD ord k))) := fun z hz => cell_below ((HBO.out.trans (HB.out.mono HBO.out.size)).trans (hz.mono (HBO.out.trans (HB.out.mono HBO.out.size)).size)) o0
          clear o0
          subst eo
          generalize Sc.intD ord k = j at *
          have o1 := HOC.out wr (Below.refl _ _)
          have HRW : Hid (URow wr wO.heap.size (.slice aO O.length cO) O) := hrow
          clear hrow
          by_cases hj : 0 ≤ j
          case neg =>
            have d1 : decide (j ≥ 0) = false := decide_eq_false hj
            have d1' : decide (0 ≤ j) = false := decide_eq_false hj
            go_wp2_with fail
            go_roundw
            case rel => exact ⟨k + 1, O, hko, by go_num, HI.out, HRW.out, HB.out⟩
            case measure => simp [intOf]; omega
          obtain ⟨m, rfl⟩ : ∃ m : Nat, j = m := ⟨j.toNat, by omega⟩
          have d0 : decide ((m : Int) ≥ 0) = true := decide_eq_true hj
          have d0' : decide (0 ≤ (m : Int)) = true := decide_eq_true hj
          by_cases hlt : m < A.length
          case neg =>
            have d1 : decide (m < A.length) = false := decide_eq_false hlt
            have d1' : decide ((m : Int) < (A.length : Int)) = false := decide_eq_false (by omega)
            go_wp2_with fail
            go_roundw
            case rel => exact ⟨k + 1, O, hko, by go_num, HI.out, HRW.out, HB.out⟩
            case measure => simp [intOf]; omega
          have d1 : decide (m < A.length) = true := decide_eq_true hlt
          have d1' : decide ((m : Int) < (A.length : Int)) = true := decide_eq_true (by omega)
          have HMO : Hid (Dg.hasU (ups O) (uvD A m).u.id = false → OthI A (O ++ [uvD A m])) := fun h => HI.out.more hlt h
          obtain ⟨aA', cA', eA, _, hAA⟩ := HAV.out.kc (Kc.below HB.out)
          cases eA
          have HAOr : Hid (UvOk wr (uvD A m)) := (HAO.out _ (uvD_mem A m hlt)).below HB.out
          obtain ⟨b, off, eb, p0, p1, p2, p3, p4⟩ := ups_at hAA m hlt
          have hxo := HAOr.out
          generalize uvD A m = x at *
          obtain ⟨b1, m1, f1, b2, m2, f2, b3, m3, f3, e1, e2, e3⟩ := hxo.forms
          have HX : Hid (UvOk wr x) := hxo
          clear hxo
          obtain ⟨⟨⟨va, vn⟩, ps, says, ts⟩, vp, vs, vt⟩ := x
          dsimp only at *
          subst e1 e2 e3
          have HXU : Hid (∀ z, Below wr.heap.size wr z → z.cell? ⟨b, off + m * 5, none⟩ = some (.int .i64 va) ∧ z.cell? ⟨b, off + m * 5 + 1, none⟩ = some (.int .i64 vn) ∧ z.cell? ⟨b, off + m * 5 + 2, none⟩ = some (.slice b1 m1 f1) ∧ z.cell? ⟨b, off + m * 5 + 3, none⟩ = some (.slice b2 m2 f2) ∧ z.cell? ⟨b, off + m * 5 + 4, none⟩ = some (.slice b3 m3 f3)) := fun z hz => ⟨cell_below hz p0, cell_below hz p1, cell_below hz p2, cell_below hz p3, cell_below hz p4⟩
          clear p0 p1 p2 p3 p4
          subst eb
          clear hAA HAOr
          obtain ⟨y0, y1, y2, y3, y4⟩ := HXU.out wr (Below.refl _ _)
          have HPL : Hid _ := PlaceOf_any O ⟨va, vn⟩ (.slice aO O.length cO) wr (own_ups HRW.out) (by omega)
          go_wp2_with fail
          refine Calls.mono HPL.out ?_
          rintro _ wd ⟨r, rfl, hr, hbd⟩
          clear y0 y1 y2 y3 y4 HPL o1
          obtain ⟨y0, y1, y2, y3, y4⟩ := HXU.out wd hbd
          have o1 := HOC.out wd hbd
          have hrow3 := ownsRow_below HRW.out hbd
          have HB3 : Hid (Below wO.heap.size wO wd) := HB.out.trans (hbd.mono HB.out.size)
          have HXd : Hid (UvOk wd ⟨⟨⟨va, vn⟩, ps, says, ts⟩, .slice b1 m1 f1, .slice b2 m2 f2, .slice b3 m3 f3⟩) := HX.out.below hbd
          clear HRW hbd HB HXU HX HOC
          rcases hr with ⟨rfl, hn⟩ | ⟨m2, rfl, _, _⟩
          · have HM3 : Hid _ := HMO.out hn
            clear hn HMO HI
            go_wp2_with (at_builtin; refine wp_append_ups (W := wd) rfl _ _ rfl wO.heap.size (HB3.out.alloc HB3.out.size _).size _ O rfl (hrow3.alloc _) (some ⟨wd.heap.size, 0, none⟩) 1 [(⟨⟨⟨va, vn⟩, ps, says, ts⟩, .slice b1 m1 f1, .slice b2 m2 f2, .slice b3 m3 f3⟩ : Uv)] rfl (fun h => by cases h) (ups_one _ ⟨⟨⟨va, vn⟩, ps, says, ts⟩, .slice b1 m1 f1, .slice b2 m2 f2, .slice b3 m3 f3⟩) (one_ok HXd.out) (by rw [List.length_singleton]; omega) ?_; intro vs9 z9 hown9 hgrow9)
            have hB9 : Below wO.heap.size wO z9 := (HB3.out.alloc HB3.out.size _).grown hgrow9 (HB3.out.alloc HB3.out.size _).size (fun j e => (hrow3.lt j e).1)
            obtain ⟨ao9, cap9, rfl⟩ := own_slice hown9
            have RF : Hid (URow z9 wO.heap.size (.slice ao9 (O ++ [(⟨⟨⟨va, vn⟩, ps, says, ts⟩, .slice b1 m1 f1, .slice b2 m2 f2, .slice b3 m3 f3⟩ : Uv)]).length cap9) (O ++ [(⟨⟨⟨va, vn⟩, ps, says, ts⟩, .slice b1 m1 f1, .slice b2 m2 f2, .slice b3 m3 f3⟩ : Uv)])) := hown9
            have B9 : Hid (Below wO.heap.size wO z9) := hB9
            clear hB9 hown9 hgrow9
            clear hrow3 HB3 y0 y1 y2 y3 y4 o1
            go_wp2_with fail
            go_roundw
            case rel => exact ⟨k + 1, _, hko, by go_num, HM3.out, RF.out, B9.out⟩
            case measure => simp [intOf]; omega
          · have d2 : decide ((m2 : Int) < 0) = false := decide_eq_false (by omega)
            have HRW : Hid (URow wd wO.heap.size (.slice aO O.length cO) O) := hrow3
            clear hrow3
            go_wp2_with fail
            go_roundw
            case rel => exact ⟨k + 1, O, hko, by go_num, HI.out, HRW.out, HB3.out⟩
            case measure => simp [intOf]; omega
        · have g2 : decide (k < ord.length) = false := decide_eq_false hko
          have HRW : Hid (URow wr wO.heap.size (.slice aO O.length cO) O) := hrow
          clear hrow hk hko HOA
          go_wp2_with fail
          go_loopw [9, 11] (fun ov iv wr => ∃ (k : Nat) (O : List Uv), k ≤ A.length ∧ iv = .int .i64 ((k : Int) - 1) ∧ Hid (OthI A O) ∧ Hid (Tail A O k) ∧ URow wr wO.heap.size ov O ∧ Hid (Below wO.heap.size wO wr)) (fun _ iv _ => (intOf iv + 1).toNat)
          case atStart => exact ⟨A.length, O, Nat.le_refl _, by go_num, HI.out, Tail.start _ _, HRW.out, HB.out⟩
          case round =>
            clear HRW HB HI hOl
            obtain ⟨k, O, hk, rfl, HI, HT, hrow, HB⟩ := hrel
            obtain ⟨aO, cO, rfl⟩ := own_slice hrow
            have hOl := HI.out.len
            have HRW : Hid (URow wr wO.heap.size (.slice aO O.length cO) O) := hrow
            clear hrow
            cases k with
            | succ m =>
              have em : ((m + 1 : Nat) : Int) - 1 = (m : Int) := by omega
              rw [em]
              clear em
              have d0 : decide ((m : Int) ≥ 0) = true := decide_eq_true (by omega)
              have d0' : decide (0 ≤ (m : Int)) = true := decide_eq_true (by omega)
              have hlt : m < A.length := hk
              have HMO : Hid (Dg.hasU (ups O) (uvD A m).u.id = false → OthI A (O ++ [uvD A m])) := fun h => HI.out.more hlt h
              have HTM : Hid (Tail A (O ++ [uvD A m]) m) := HT.out.more
              have HTK : Hid (Dg.hasU (ups O) (uvD A m).u.id = true → Tail A O m) := fun h => HT.out.on h
              obtain ⟨aA', cA', eA, _, hAA⟩ := HAV.out.kc (Kc.below HB.out)
              cases eA
              have HAOr : Hid (UvOk wr (uvD A m)) := (HAO.out _ (uvD_mem A m hlt)).below HB.out
              obtain ⟨b, off, eb, p0, p1, p2, p3, p4⟩ := ups_at hAA m hlt
              have hxo := HAOr.out
              generalize uvD A m = x at *
              obtain ⟨b1, m1, f1, b2, m2, f2, b3, m3, f3, e1, e2, e3⟩ := hxo.forms
              have HX : Hid (UvOk wr x) := hxo
              clear hxo
              obtain ⟨⟨⟨va, vn⟩, ps, says, ts⟩, vp, vs, vt⟩ := x
              dsimp only at *
              subst e1 e2 e3
              have HXU : Hid (∀ z, Below wr.heap.size wr z → z.cell? ⟨b, off + m * 5, none⟩ = some (.int .i64 va) ∧ z.cell? ⟨b, off + m * 5 + 1, none⟩ = some (.int .i64 vn) ∧ z.cell? ⟨b, off + m * 5 + 2, none⟩ = some (.slice b1 m1 f1) ∧ z.cell? ⟨b, off + m * 5 + 3, none⟩ = some (.slice b2 m2 f2) ∧ z.cell? ⟨b, off + m * 5 + 4, none⟩ = some (.slice b3 m3 f3)) := fun z hz => ⟨cell_below hz p0, cell_below hz p1, cell_below hz p2, cell_below hz p3, cell_below hz p4⟩
              clear p0 p1 p2 p3 p4
              subst eb
              clear hAA HAOr HT
              obtain ⟨y0, y1, y2, y3, y4⟩ := HXU.out wr (Below.refl _ _)
              have HPL : Hid _ := PlaceOf_any O ⟨va, vn⟩ (.slice aO O.length cO) wr (own_ups HRW.out) (by omega)
              go_wp2_with fail
              refine Calls.mono HPL.out ?_
              rintro _ wd ⟨r, rfl, hr, hbd⟩
              clear y0 y1 y2 y3 y4 HPL
              obtain ⟨y0, y1, y2, y3, y4⟩ := HXU.out wd hbd
              have hrow3 := ownsRow_below HRW.out hbd
              have HB3 : Hid (Below wO.heap.size wO wd) := HB.out.trans (hbd.mono HB.out.size)
              have HXd : Hid (UvOk wd ⟨⟨⟨va, vn⟩, ps, says, ts⟩, .slice b1 m1 f1, .slice b2 m2 f2, .slice b3 m3 f3⟩) := HX.out.below hbd
              clear HRW hbd HB HXU HX
              rcases hr with ⟨rfl, hn⟩ | ⟨m2, rfl, hm2, he2⟩
              · have HM3 : Hid _ := HMO.out hn
                clear hn HMO HI HTK
                go_wp2_with (at_builtin; refine wp_append_ups (W := wd) rfl _ _ rfl wO.heap.size (HB3.out.alloc HB3.out.size _).size _ O rfl (hrow3.alloc _) (some ⟨wd.heap.size, 0, none⟩) 1 [(⟨⟨⟨va, vn⟩, ps, says, ts⟩, .slice b1 m1 f1, .slice b2 m2 f2, .slice b3 m3 f3⟩ : Uv)] rfl (fun h => by cases h) (ups_one _ ⟨⟨⟨va, vn⟩, ps, says, ts⟩, .slice b1 m1 f1, .slice b2 m2 f2, .slice b3 m3 f3⟩) (one_ok HXd.out) (by rw [List.length_singleton]; omega) ?_; intro vs9 z9 hown9 hgrow9)
                have hB9 : Below wO.heap.size wO z9 := (HB3.out.alloc HB3.out.size _).grown hgrow9 (HB3.out.alloc HB3.out.size _).size (fun j e => (hrow3.lt j e).1)
                obtain ⟨ao9, cap9, rfl⟩ := own_slice hown9
                have RF : Hid (URow z9 wO.heap.size (.slice ao9 (O ++ [(⟨⟨⟨va, vn⟩, ps, says, ts⟩, .slice b1 m1 f1, .slice b2 m2 f2, .slice b3 m3 f3⟩ : Uv)]).length cap9) (O ++ [(⟨⟨⟨va, vn⟩, ps, says, ts⟩, .slice b1 m1 f1, .slice b2 m2 f2, .slice b3 m3 f3⟩ : Uv)])) := hown9
                have B9 : Hid (Below wO.heap.size wO z9) := hB9
                clear hB9 hown9 hgrow9
                clear hrow3 HB3 y0 y1 y2 y3 y4
                go_wp2_with fail
                go_roundw
                case rel => exact ⟨m, _, by omega, by go_num, HM3.out, HTM.out, RF.out, B9.out⟩
                case measure => simp [intOf]
              · have d2 : decide ((m2 : Int) < 0) = false := decide_eq_false (by omega)
                have HT2 : Hid _ := HTK.out (Dg.hasU_iff.mpr ⟨_, List.mem_map_of_mem (uvD_mem O m2 hm2), he2⟩)
                have HRW : Hid (URow wd wO.heap.size (.slice aO O.length cO) O) := hrow3
                clear hrow3 HTK HTM he2
                go_wp2_with fail
                go_roundw
                case rel => exact ⟨m, O, by omega, by go_num, HI.out, HT2.out, HRW.out, HB3.out⟩
                case measure => simp [intOf]
            | zero =>
              have em : ((0 : Nat) : Int) - 1 = -1 := by omega
              rw [em]
              clear em
              have HPM : Hid ((ups A).Perm (ups O)) := HT.out.perm HAA.out.2 HI.out
              have HOL : Hid (O.length = A.length) := by
                show _ = _
                have := HPM.out.length_eq
                rw [ups_length, ups_length] at this
                exact this.symm
              have HOV : Hid (UpsV wr (.slice aO O.length cO) O) := own_ups HRW.out
              have HOO : Hid (∀ x, x ∈ O → UvOk wr x ∧ Wr.check x.u = 0) := fun x hx => ⟨(HAO.out x (HI.out.sub x hx)).below HB.out, HAA.out.1 x (HI.out.sub x hx)⟩
              have HAV2 : Hid (UpsV wr (.slice aA A.length cA) A) := HAV.out.kc (Kc.below HB.out)
              have HAO2 : Hid (∀ x, x ∈ A → UvOk wr x ∧ Wr.check x.u = 0) := fun x hx => ⟨(HAO.out x hx).below HB.out, HAA.out.1 x hx⟩
              have HBR : Hid (Below w.heap.size w wr) := HBO.out.trans (HB.out.mono HBO.out.size)
              have HXR : Hid (∀ z, Below wr.heap.size wr z → z.cell? ⟨w.heap.size, 0, none⟩ = some (.slice ah hq.length ch) ∧ z.cell? ⟨w.heap.size, 1, none⟩ = some (.slice aw wq.length cw)) := fun z hz => HXO.out z (HB.out.trans (hz.mono HB.out.size))
              have HND : Hid (((ups A).map Wr.Up.id).Nodup) := HAA.out.2
              clear HT HI HRW HB HAV HAO HBO HXO HAA hOl hk
              try clear wO
              generalize wr = wA at *
              go_upto_region 22 with fail
              obtain ⟨x0, x1⟩ := HXR.out wA (Below.refl _ _)
              have hXl : w.heap.size < wA.heap.size := cell_lt x0
              obtain ⟨v0, v1, v2, v3, v4, v5, v6⟩ := box_two wA x0 x1
              obtain ⟨s0, s1, s2, s3, s4, s5⟩ := box_store (u := .slice ah hq.length ch) (v := .slice aw wq.length cw) v4 (by omega : w.heap.size ≠ wA.heap.size) v2 v3
              obtain ⟨t0, t1, t2, t3, t4, t5⟩ := box_store (u := .slice ah hq.length ch) (v := .slice aw wq.length cw) v5 (by omega : w.heap.size ≠ wA.heap.size + 1) v2 v3
              obtain ⟨s6, s7, s8, s9, _, _⟩ := box_store (u := .slice ah hq.length ch) (v := .slice aw wq.length cw) ((two_other (z := ((wA.alloc (.cells #[.slice none 0 0, .slice none 0 0] 24)).alloc (.cells #[.slice none 0 0, .slice none 0 0] 24))) (F := wA.heap.size) (u := .slice ah hq.length ch) (v := .slice aw wq.length cw) (by omega : wA.heap.size + 1 ≠ wA.heap.size)).trans v5) (by omega : w.heap.size ≠ wA.heap.size + 1) s4 s5
              obtain ⟨t6, t7, t8, t9, _, _⟩ := box_store (u := .slice ah hq.length ch) (v := .slice aw wq.length cw) ((two_other (z := ((wA.alloc (.cells #[.slice none 0 0, .slice none 0 0] 24)).alloc (.cells #[.slice none 0 0, .slice none 0 0] 24))) (F := wA.heap.size + 1) (u := .slice ah hq.length ch) (v := .slice aw wq.length cw) (by omega : wA.heap.size ≠ wA.heap.size + 1)).trans v4) (by omega : w.heap.size ≠ wA.heap.size) t4 t5
              unfold two at s6 s7 s8 s9 t6 t7 t8 t9
              refine wp_mid (fun a0 a w' => ∃ FA FB, TwoB wA w' FA FB (.slice ah hq.length ch) (.slice aw wq.length cw) ∧ a = ⟨(((a0.tmps.setIfInBounds 133 (.agg #[.slice ah hq.length ch, .slice aw wq.length cw])).setIfInBounds 134 (.agg #[.slice ah hq.length ch, .slice aw wq.length cw])).setIfInBounds 12 (.pointer (some ⟨FA, 0, none⟩))).setIfInBounds 13 (.pointer (some ⟨FB, 0, none⟩)), a0.defers⟩) ?first22 ?rest22
              case first22 =>
                go_region
                · refine ⟨rfl, wA.heap.size, wA.heap.size + 1, (two_new wA _ _ _ _ _ _).drew, ?_⟩
                  simp only [List.setIfInBounds_toArray, List.set_cons_zero, List.set_cons_succ]
                · refine ⟨rfl, wA.heap.size + 1, wA.heap.size, (two_new wA _ _ _ _ _ _).swap.drew, ?_⟩
                  simp only [List.setIfInBounds_toArray, List.set_cons_zero, List.set_cons_succ]
              clear v0 v1 v2 v3 v4 v5 v6 s0 s1 s2 s3 s4 s5 s6 s7 s8 s9 t0 t1 t2 t3 t4 t5 t6 t7 t8 t9 x0 x1
              rintro a wB ⟨FA, FB, hT, ha⟩
              simp only [List.setIfInBounds_toArray, List.set_cons_zero, List.set_cons_succ] at ha
              subst ha
              have HBXA : Hid (BoxI (Dg.mores (ups hq ++ ups wq) []) wB FA) := ⟨_, _, _, _, _, _, hT.a, _, _, (HR.out wB ((Kn.below HBR.out).trans hT.rb.2.1)).1, (HR.out wB ((Kn.below HBR.out).trans hT.rb.2.1)).2.1, (HR.out wB ((Kn.below HBR.out).trans hT.rb.2.1)).2.2, HO.out.is⟩
              have HBXB : Hid (BoxI (Dg.mores (ups hq ++ ups wq) []) wB FB) := ⟨_, _, _, _, _, _, hT.b, _, _, (HR.out wB ((Kn.below HBR.out).trans hT.rb.2.1)).1, (HR.out wB ((Kn.below HBR.out).trans hT.rb.2.1)).2.1, (HR.out wB ((Kn.below HBR.out).trans hT.rb.2.1)).2.2, HO.out.is⟩
              have HFF : Hid (wA.heap.size ≤ FA ∧ wA.heap.size ≤ FB ∧ FA ≠ FB) := ⟨hT.la, hT.lb, hT.ne⟩
              have HRB : Hid (Rb wA.heap.size wA wB) := hT.rb
              have HFA : Hid (∀ k, Fair (Dg.mores (ups hq ++ ups wq) (ups (A.take k)))) := fun k => by
                refine Fair.mores HO.out.nd HO.out.each (fun u hu => ?_) ?_
                · obtain ⟨y, hy, rfl⟩ := List.mem_map.mp hu
                  exact (HAO2.out y (List.mem_of_mem_take hy)).2
                · rw [List.length_append, ups_length, ups_length, ups_length, List.length_take]
                  omega
              have HFO : Hid (∀ k, Fair (Dg.mores (ups hq ++ ups wq) (ups (O.take k)))) := fun k => by
                refine Fair.mores HO.out.nd HO.out.each (fun u hu => ?_) ?_
                · obtain ⟨y, hy, rfl⟩ := List.mem_map.mp hu
                  exact (HOO.out y (List.mem_of_mem_take hy)).2
                · rw [List.length_append, ups_length, ups_length, ups_length, List.length_take]
                  have := HOL.out
                  omega
              have HLT : Hid (∀ k, k < A.length → (Dg.mores (ups hq ++ ups wq) (ups (A.take k))).length < 200 ∧ (Dg.mores (ups hq ++ ups wq) (ups (O.take k))).length < 200) := fun k hk => by
                have h1 := Dg.mores_len (ups (A.take k)) (ups hq ++ ups wq)
                have h2 := Dg.mores_len (ups (O.take k)) (ups hq ++ ups wq)
                rw [List.length_append, ups_length, ups_length, ups_length, List.length_take] at h1 h2
                have := HOL.out
                omega
              clear hT HXR hXl
              go_wp2_with fail
              go_loopw [14] (fun iv wr => ∃ k : Nat, k ≤ A.length ∧ iv = .int .i64 k ∧ Hid (BoxI (Dg.mores (ups hq ++ ups wq) (ups (A.take k))) wr FA) ∧ Hid (BoxI (Dg.mores (ups hq ++ ups wq) (ups (O.take k))) wr FB) ∧ Hid (Rb wA.heap.size wA wr)) (fun iv _ => A.length - (intOf iv).toNat)
              case atStart => exact ⟨0, Nat.zero_le _, rfl, HBXA.out, HBXB.out, HRB.out⟩
              case round =>
                clear HBXA HBXB HRB
                obtain ⟨k, hk, rfl, HA, HB, HR4⟩ := hrel
                by_cases hlt : k < A.length
                · have g1 : decide (k < A.length) = true := decide_eq_true hlt
                  have hltO : k < O.length := by have := HOL.out; omega
                  have hO200 : O.length ≤ 200 := by have := HOL.out; omega
                  have HSA : Hid (Dg.mores (ups hq ++ ups wq) (ups (A.take (k + 1))) = Dg.more (Dg.mores (ups hq ++ ups wq) (ups (A.take k))) (uvD A k).u) := by show _ = _; rw [uvD_take A k hlt, ups_append]; exact Dg.mores_snoc _ _ _
                  have HSO : Hid (Dg.mores (ups hq ++ ups wq) (ups (O.take (k + 1))) = Dg.more (Dg.mores (ups hq ++ ups wq) (ups (O.take k))) (uvD O k).u) := by show _ = _; rw [uvD_take O k hltO, ups_append]; exact Dg.mores_snoc _ _ _
                  have HF1 : Hid _ := HFA.out k
                  have HF2 : Hid _ := HFO.out k
                  have HF3 : Hid (Fair (Dg.more (Dg.mores (ups hq ++ ups wq) (ups (A.take k))) (uvD A k).u)) := by rw [← HSA.out]; exact HFA.out (k + 1)
                  have HL2 : Hid _ := HLT.out k hlt
                  obtain ⟨aA', cA', eA, _, hAA⟩ := HAV2.out.kn HR4.out.2.1
                  cases eA
                  obtain ⟨aO', cO', eO, _, hOO⟩ := HOV.out.kn HR4.out.2.1
                  cases eO
                  generalize Dg.mores (ups hq ++ ups wq) (ups (A.take k)) = MA at *
                  generalize Dg.mores (ups hq ++ ups wq) (ups (O.take k)) = MO at *
                  obtain ⟨bA, offA, ebA, p0, p1, p2, p3, p4⟩ := ups_at hAA k hlt
                  have hxo := (show UvOk wr (uvD A k) ∧ Wr.check (uvD A k).u = 0 from ⟨(HAO2.out _ (uvD_mem A k hlt)).1.kn HR4.out.2.1, (HAO2.out _ (uvD_mem A k hlt)).2⟩)
                  generalize uvD A k = x at *
                  obtain ⟨b1A, m1A, f1A, b2A, m2A, f2A, b3A, m3A, f3A, e1, e2, e3⟩ := hxo.1.forms
                  have HXA : Hid (UvOk wr x ∧ Wr.check x.u = 0) := hxo
                  clear hxo
                  obtain ⟨⟨⟨vaA, vnA⟩, psA, saysA, tsA⟩, vp, vs, vt⟩ := x
                  dsimp only at *
                  subst e1 e2 e3
                  have HXUA : Hid (∀ z, Kn wr z → z.cell? ⟨bA, offA + k * 5, none⟩ = some (.int .i64 vaA) ∧ z.cell? ⟨bA, offA + k * 5 + 1, none⟩ = some (.int .i64 vnA) ∧ z.cell? ⟨bA, offA + k * 5 + 2, none⟩ = some (.slice b1A m1A f1A) ∧ z.cell? ⟨bA, offA + k * 5 + 3, none⟩ = some (.slice b2A m2A f2A) ∧ z.cell? ⟨bA, offA + k * 5 + 4, none⟩ = some (.slice b3A m3A f3A)) := fun z hz => ⟨hz _ ⟨_, _, p0⟩ _ _ p0, hz _ ⟨_, _, p0⟩ _ _ p1, hz _ ⟨_, _, p0⟩ _ _ p2, hz _ ⟨_, _, p0⟩ _ _ p3, hz _ ⟨_, _, p0⟩ _ _ p4⟩
                  clear p0 p1 p2 p3 p4
                  obtain ⟨bO, offO, ebO, p0, p1, p2, p3, p4⟩ := ups_at hOO k hltO
                  have hxo := (show UvOk wr (uvD O k) ∧ Wr.check (uvD O k).u = 0 from ⟨(HOO.out _ (uvD_mem O k hltO)).1.kn HR4.out.2.1, (HOO.out _ (uvD_mem O k hltO)).2⟩)
                  generalize uvD O k = x at *
                  obtain ⟨b1O, m1O, f1O, b2O, m2O, f2O, b3O, m3O, f3O, e1, e2, e3⟩ := hxo.1.forms
                  have HXO : Hid (UvOk wr x ∧ Wr.check x.u = 0) := hxo
                  clear hxo
                  obtain ⟨⟨⟨vaO, vnO⟩, psO, saysO, tsO⟩, vp, vs, vt⟩ := x
                  dsimp only at *
                  subst e1 e2 e3
                  have HXUO : Hid (∀ z, Kn wr z → z.cell? ⟨bO, offO + k * 5, none⟩ = some (.int .i64 vaO) ∧ z.cell? ⟨bO, offO + k * 5 + 1, none⟩ = some (.int .i64 vnO) ∧ z.cell? ⟨bO, offO + k * 5 + 2, none⟩ = some (.slice b1O m1O f1O) ∧ z.cell? ⟨bO, offO + k * 5 + 3, none⟩ = some (.slice b2O m2O f2O) ∧ z.cell? ⟨bO, offO + k * 5 + 4, none⟩ = some (.slice b3O m3O f3O)) := fun z hz => ⟨hz _ ⟨_, _, p0⟩ _ _ p0, hz _ ⟨_, _, p0⟩ _ _ p1, hz _ ⟨_, _, p0⟩ _ _ p2, hz _ ⟨_, _, p0⟩ _ _ p3, hz _ ⟨_, _, p0⟩ _ _ p4⟩
                  clear p0 p1 p2 p3 p4
                  clear hAA hOO
                  subst ebA
                  subst ebO
                  obtain ⟨e1A, n1A, g1A, e2A, n2A, g2A, hFAh, hRA⟩ := HA.out
                  have hFAl := HA.out.lt
                  have hFBl := HB.out.lt
                  have HBX26 : Hid (∀ z, Below wr.heap.size wr z → z.cell? ⟨FA, 0, none⟩ = some (.slice e1A n1A g1A) ∧ z.cell? ⟨FA, 1, none⟩ = some (.slice e2A n2A g2A)) := fun z hz => ⟨cell_below hz (by rw [Lib.cell_of_heap hFAh]; rfl), cell_below hz (by rw [Lib.cell_of_heap hFAh]; rfl)⟩
                  have HKN26 : Hid (Kn wr wr) := fun _ _ _ _ e => e
                  have HAD26 : Hid (∀ z, Rb wr.heap.size wr z → Calls Tryz.prog 6 #[.agg #[.slice e1A n1A g1A, .slice e2A n2A g2A], uvVal ⟨⟨⟨vaA, vnA⟩, psA, saysA, tsA⟩, .slice b1A m1A f1A, .slice b2A m2A f2A, .slice b3A m3A f3A⟩] z fun e w' => ∃ v, e = .returned v ∧ AdN (Dg.more MA ⟨⟨vaA, vnA⟩, psA, saysA, tsA⟩) w' v ∧ Below z.heap.size z w') := fun z hz => add_more HF1.out HL2.out.1 _ _ ⟨⟨⟨vaA, vnA⟩, psA, saysA, tsA⟩, .slice b1A m1A f1A, .slice b2A m2A f2A, .slice b3A m3A f3A⟩ z (hRA.kn hz.2.1) (HXA.out.1.kn hz.2.1) HXA.out.2
                  clear hFAh hRA
                  go_upto_region 26 with fail
                  refine wp_region_tabR (Rb wr.heap.size) (fun _ _ _ => Rb.trans) (fun _ => Rb.draw _ _) (laT26 wr.heap.size e1A n1A g1A e2A n2A g2A bA offA A.length cA k (offA + k * 5) vaA vnA b1A m1A f1A b2A m2A f2A b3A m3A f3A (Dg.more MA ⟨⟨vaA, vnA⟩, psA, saysA, tsA⟩)) 10 (laD 15 wr.heap.size (Dg.more MA ⟨⟨vaA, vnA⟩, psA, saysA, tsA⟩)) (by decide) (by kernel_rfl) (by kernel_rfl) (laT26_mono _ _ _ _ _ _ _ _ _ _ _ _ _ _ _ _ _ _ _ _ _ _ _ _ _ _) ?hop26 ?hend26
                  case hop26 =>
                    refine AllOpsI.cons (fun a y h => ?_) ?_
                    · have e12 : a.eval (.tmp 12) = (.pointer (some ⟨FA, 0, none⟩) : Value) := h.old 12 (by kernel_rfl)
                      obtain ⟨q0, q1⟩ := HBX26.out y h.below.1
                      refine opOkR_val (v := .agg #[.slice e1A n1A g1A, .slice e2A n2A g2A]) (w' := y) (wanted_none rfl) ?_ (fun t ht => by cases ht; exact rfl) (Rb.refl _ _) (fun h9 => absurd h9 (by decide)) (fun h9 => absurd h9 (by decide))
                      have ec : ∀ v, a.eval (.const v) = v := fun _ => rfl
                      generalize a.eval = ev at *
                      clear h
                      go_simp
                    refine AllOpsI.cons (fun a y h => ?_) ?_
                    · have e7 : a.eval (.tmp 7) = (.slice (some ⟨bA, offA, none⟩) A.length cA : Value) := h.old 7 (by kernel_rfl)
                      refine opOkR_val (v := .slice (some ⟨bA, offA, none⟩) A.length cA) (w' := y) (wanted_none rfl) ?_ (fun t ht => by cases ht; exact rfl) (Rb.refl _ _) (fun h9 => absurd h9 (by decide)) (fun h9 => absurd h9 (by decide))
                      have ec : ∀ v, a.eval (.const v) = v := fun _ => rfl
                      generalize a.eval = ev at *
                      clear h
                      go_simp
                    refine AllOpsI.cons (fun a y h => ?_) ?_
                    · have e14 : a.eval (.tmp 14) = (.int .i64 k : Value) := h.old 14 (by kernel_rfl)
                      refine opOkR_val (v := .int .i64 k) (w' := y) (wanted_none rfl) ?_ (fun t ht => by cases ht; exact rfl) (Rb.refl _ _) (fun h9 => absurd h9 (by decide)) (fun h9 => absurd h9 (by decide))
                      have ec : ∀ v, a.eval (.const v) = v := fun _ => rfl
                      generalize a.eval = ev at *
                      clear h
                      go_simp
                    refine AllOpsI.cons (fun a y h => ?_) ?_
                    · have e143 : a.eval (.tmp 143) = (.slice (some ⟨bA, offA, none⟩) A.length cA : Value) := h.of 143 (by kernel_rfl)
                      have e144 : a.eval (.tmp 144) = (.int .i64 k : Value) := h.of 144 (by kernel_rfl)
                      refine opOkR_val (v := .pointer (some ⟨bA, (offA + k * 5), none⟩)) (w' := y) (wanted_none rfl) ?_ (fun t ht => by cases ht; exact rfl) (Rb.refl _ _) (fun h9 => absurd h9 (by decide)) (fun h9 => absurd h9 (by decide))
                      have ec : ∀ v, a.eval (.const v) = v := fun _ => rfl
                      generalize a.eval = ev at *
                      clear h
                      go_simp
                    refine AllOpsI.cons (fun a y h => ?_) ?_
                    · have e145 : a.eval (.tmp 145) = (.pointer (some ⟨bA, (offA + k * 5), none⟩) : Value) := h.of 145 (by kernel_rfl)
                      obtain ⟨q0, q1, q2, q3, q4⟩ := HXUA.out y (HKN26.out.trans h.below.2.1)
                      refine opOkR_val (v := .agg #[.int .i64 vaA, .int .i64 vnA, .slice b1A m1A f1A, .slice b2A m2A f2A, .slice b3A m3A f3A]) (w' := y) (wanted_none rfl) ?_ (fun t ht => by cases ht; exact rfl) (Rb.refl _ _) (fun h9 => absurd h9 (by decide)) (fun h9 => absurd h9 (by decide))
                      have ec : ∀ v, a.eval (.const v) = v := fun _ => rfl
                      generalize a.eval = ev at *
                      clear h
                      go_simp
                    refine AllOpsI.cons (fun a y h => ?_) ?_
                    · have e142 : a.eval (.tmp 142) = (.agg #[.slice e1A n1A g1A, .slice e2A n2A g2A] : Value) := h.of 142 (by kernel_rfl)
                      have e146 : a.eval (.tmp 146) = (.agg #[.int .i64 vaA, .int .i64 vnA, .slice b1A m1A f1A, .slice b2A m2A f2A, .slice b3A m3A f3A] : Value) := h.of 146 (by kernel_rfl)
                      refine opOkR_call (f := 6) (args := #[.agg #[.slice e1A n1A g1A, .slice e2A n2A g2A], .agg #[.int .i64 vaA, .int .i64 vnA, .slice b1A m1A f1A, .slice b2A m2A f2A, .slice b3A m3A f3A]]) (wanted_none rfl) ?_ ?_
                      · have ec : ∀ v, a.eval (.const v) = v := fun _ => rfl
                        have ef : ∀ f, a.eval (.func f) = .func (.func f) #[] #[] := fun _ => rfl
                        generalize a.eval = ev at *
                        clear h
                        go_simp
                      · refine Calls.mono (HAD26.out y h.below) ?_
                        rintro _ y2 ⟨v, rfl, hA9, hb2⟩
                        exact ⟨_, rfl, fun t ht => by cases ht; exact hA9, Rb.of hb2 h.below.1.size, fun h9 => absurd h9 (by decide), fun h9 => absurd h9 (by decide)⟩
                    refine AllOpsI.cons (fun a y h => ?_) ?_
                    · have t147 : AdN (Dg.more MA ⟨⟨vaA, vnA⟩, psA, saysA, tsA⟩) y (a.eval (.tmp 147)) := h.of 147 (by kernel_rfl)
                      obtain ⟨d1, d2, d3, d4, d5, d6, e147, hR⟩ := t147
                      refine opOkR_val (v := .tuple #[.agg #[.slice d1 d2 d3, .slice d4 d5 d6], .int .i64 0]) (w' := y) (wanted_none rfl) ?_ (fun t ht => by cases ht; exact ⟨_, _, _, _, _, _, rfl, hR⟩) (Rb.refl _ _) (fun h9 => absurd h9 (by decide)) (fun h9 => absurd h9 (by decide))
                      have ec : ∀ v, a.eval (.const v) = v := fun _ => rfl
                      generalize a.eval = ev at *
                      clear h
                      go_simp
                    refine AllOpsI.cons (fun a y h => ?_) ?_
                    · have t141 : AdN (Dg.more MA ⟨⟨vaA, vnA⟩, psA, saysA, tsA⟩) y (a.eval (.tmp 141)) := h.of 141 (by kernel_rfl)
                      obtain ⟨d1, d2, d3, d4, d5, d6, e141, hR⟩ := t141
                      refine opOkR_val (v := .agg #[.slice d1 d2 d3, .slice d4 d5 d6]) (w' := y) (wanted_none rfl) ?_ (fun t ht => by cases ht; exact ⟨_, _, _, _, _, _, rfl, hR⟩) (Rb.refl _ _) (fun h9 => absurd h9 (by decide)) (fun h9 => absurd h9 (by decide))
                      have ec : ∀ v, a.eval (.const v) = v := fun _ => rfl
                      generalize a.eval = ev at *
                      clear h
                      go_simp
                    refine AllOpsI.cons (fun a y h => ?_) ?_
                    · have t141 : AdN (Dg.more MA ⟨⟨vaA, vnA⟩, psA, saysA, tsA⟩) y (a.eval (.tmp 141)) := h.of 141 (by kernel_rfl)
                      obtain ⟨d1, d2, d3, d4, d5, d6, e141, hR⟩ := t141
                      refine opOkR_val (v := .int .i64 0) (w' := y) (wanted_none rfl) ?_ (fun t ht => by cases ht; exact rfl) (Rb.refl _ _) (fun h9 => absurd h9 (by decide)) (fun _ _ hD => by obtain ⟨F, e3, h8, h7⟩ := hD; exact ⟨F, (put_get_ne (by decide)).trans e3, h8, h7⟩)
                      have ec : ∀ v, a.eval (.const v) = v := fun _ => rfl
                      generalize a.eval = ev at *
                      clear h
                      go_simp
                    refine AllOpsI.cons (fun a y h => ?_) ?_
                    · refine opOkR_val (v := .pointer (some ⟨y.heap.size, 0, none⟩)) (w' := y.alloc (.cells #[.slice none 0 0, .slice none 0 0] 24)) (wanted_none rfl) ?_ (fun t ht => by cases ht; exact bxp_new _ y h.below.1.size) (Rb.of (new_below y _) h.below.1.size) (fun h9 => absurd h9 (by decide)) (fun h9 => absurd h9 (by decide))
                      have ec : ∀ v, a.eval (.const v) = v := fun _ => rfl
                      generalize a.eval = ev at *
                      clear h
                      go_simp
                    refine AllOpsI.cons (fun a y h => ?_) ?_
                    · have t15 : Bxp wr.heap.size y (a.eval (.tmp 15)) := h.of 15 (by kernel_rfl)
                      have t148 : ReN (Dg.more MA ⟨⟨vaA, vnA⟩, psA, saysA, tsA⟩) y (a.eval (.tmp 148)) := h.of 148 (by kernel_rfl)
                      obtain ⟨d1, d2, d3, d4, d5, d6, e148, hR⟩ := t148
                      obtain ⟨F, e15, ⟨r1, r2, r3, r4, r5, r6, hF⟩, hFl⟩ := t15
                      have z0 : y.cell? ⟨F, 0, none⟩ = some (.slice r1 r2 r3) := by rw [Lib.cell_of_heap hF]; rfl
                      have y0 := Lib.frozen_of_heap hF 0
                      have k1 : (y.setCell ⟨F, 0, none⟩ (.slice d1 d2 d3)).heap[F]? = some (.cells #[.slice d1 d2 d3, .slice r4 r5 r6] 24) := by rw [Lib.heap_setCell_same hF]; rfl
                      have z1 : (y.setCell ⟨F, 0, none⟩ (.slice d1 d2 d3)).cell? ⟨F, 1, none⟩ = some (.slice r4 r5 r6) := by rw [Lib.cell_of_heap k1]; rfl
                      have y1 := Lib.frozen_of_heap k1 1
                      refine opOkR_void (w' := two y F (.slice d1 d2 d3) (.slice d4 d5 d6)) (wanted_none rfl) ?_ rfl (Rb.two hF hFl) (fun _ => ⟨F, e15, hFl, _, _, _, _, _, _, two_heap hF, hR.kn (two_kn hF)⟩) (fun _ h9 => absurd rfl h9)
                      unfold two
                      generalize a.eval = ev at *
                      clear h hR
                      go_simp
                    refine AllOpsI.cons (fun a y h => ?_) ?_
                    · have e149 : a.eval (.tmp 149) = (.int .i64 0 : Value) := h.of 149 (by kernel_rfl)
                      refine opOkR_val (v := .int .i64 0) (w' := y) (wanted_none rfl) ?_ (fun t ht => by cases ht; exact rfl) (Rb.refl _ _) (fun h9 => absurd h9 (by decide)) (fun _ _ hD => by obtain ⟨F, e3, h8, h7⟩ := hD; exact ⟨F, (put_get_ne (by decide)).trans e3, h8, h7⟩)
                      have ec : ∀ v, a.eval (.const v) = v := fun _ => rfl
                      generalize a.eval = ev at *
                      clear h
                      go_simp
                    exact AllOpsI.nil
                  rintro ⟨tm, df⟩ y26 hI hD hdE hszE hstE hTE
                  obtain ⟨F26, k15, hF26, hBI26⟩ := hD
                  have k16 : tm.getD 16 undef = (.int .i64 0 : Value) := hTE 16 (by decide)
                  obtain rfl : df = [] := hdE
                  have HRB26 : Hid (Rb wr.heap.size wr y26) := hI
                  have HBI26 : Hid (BoxI (Dg.more MA ⟨⟨vaA, vnA⟩, psA, saysA, tsA⟩) y26 F26) := hBI26
                  clear hI hTE hBI26
                  have hF8 := tmps_fold [142, 143, 144, 145, 146, 147, 141, 148, 149, 15, 16] tm _ (hszE.trans (by rfl)) hstE
                  clear hszE hstE
                  simp only [] at k15
                  simp only [List.foldl_cons, List.foldl_nil, k15, k16] at hF8
                  clear k15 k16
                  generalize tm.getD 142 undef = x142 at hF8
                  generalize tm.getD 143 undef = x143 at hF8
                  generalize tm.getD 144 undef = x144 at hF8
                  generalize tm.getD 145 undef = x145 at hF8
                  generalize tm.getD 146 undef = x146 at hF8
                  generalize tm.getD 147 undef = x147 at hF8
                  generalize tm.getD 141 undef = x141 at hF8
                  generalize tm.getD 148 undef = x148 at hF8
                  generalize tm.getD 149 undef = x149 at hF8
                  simp only [List.setIfInBounds_toArray, List.set_cons_zero, List.set_cons_succ] at hF8
                  subst hF8
                  have HB2 : Hid (BoxI MO y26 FB) := HB.out.rb HRB26.out hFBl
                  obtain ⟨e1O, n1O, g1O, e2O, n2O, g2O, hFBh, hRB⟩ := HB2.out
                  have HBX27 : Hid (∀ z, Below y26.heap.size y26 z → z.cell? ⟨FB, 0, none⟩ = some (.slice e1O n1O g1O) ∧ z.cell? ⟨FB, 1, none⟩ = some (.slice e2O n2O g2O)) := fun z hz => ⟨cell_below hz (by rw [Lib.cell_of_heap hFBh]; rfl), cell_below hz (by rw [Lib.cell_of_heap hFBh]; rfl)⟩
                  have HKN27 : Hid (Kn wr y26) := HRB26.out.2.1
                  have HAD27 : Hid (∀ z, Rb y26.heap.size y26 z → Calls Tryz.prog 6 #[.agg #[.slice e1O n1O g1O, .slice e2O n2O g2O], uvVal ⟨⟨⟨vaO, vnO⟩, psO, saysO, tsO⟩, .slice b1O m1O f1O, .slice b2O m2O f2O, .slice b3O m3O f3O⟩] z fun e w' => ∃ v, e = .returned v ∧ AdN (Dg.more MO ⟨⟨vaO, vnO⟩, psO, saysO, tsO⟩) w' v ∧ Below z.heap.size z w') := fun z hz => add_more HF2.out HL2.out.2 _ _ ⟨⟨⟨vaO, vnO⟩, psO, saysO, tsO⟩, .slice b1O m1O f1O, .slice b2O m2O f2O, .slice b3O m3O f3O⟩ z (hRB.kn hz.2.1) (HXO.out.1.kn (HKN27.out.trans hz.2.1)) HXO.out.2
                  clear hFBh hRB HBX26 HKN26 HAD26
                  go_upto_region 27 with fail
                  refine wp_region_tabR (Rb y26.heap.size) (fun _ _ _ => Rb.trans) (fun _ => Rb.draw _ _) (laT27 y26.heap.size e1O n1O g1O e2O n2O g2O bO offO O.length cO k (offO + k * 5) vaO vnO b1O m1O f1O b2O m2O f2O b3O m3O f3O (Dg.more MO ⟨⟨vaO, vnO⟩, psO, saysO, tsO⟩)) 10 (laD 17 y26.heap.size (Dg.more MO ⟨⟨vaO, vnO⟩, psO, saysO, tsO⟩)) (by decide) (by kernel_rfl) (by kernel_rfl) (laT27_mono _ _ _ _ _ _ _ _ _ _ _ _ _ _ _ _ _ _ _ _ _ _ _ _ _ _) ?hop27 ?hend27
                  case hop27 =>
                    refine AllOpsI.cons (fun a y h => ?_) ?_
                    · have e13 : a.eval (.tmp 13) = (.pointer (some ⟨FB, 0, none⟩) : Value) := h.old 13 (by kernel_rfl)
                      obtain ⟨q0, q1⟩ := HBX27.out y h.below.1
                      refine opOkR_val (v := .agg #[.slice e1O n1O g1O, .slice e2O n2O g2O]) (w' := y) (wanted_none rfl) ?_ (fun t ht => by cases ht; exact rfl) (Rb.refl _ _) (fun h9 => absurd h9 (by decide)) (fun h9 => absurd h9 (by decide))
                      have ec : ∀ v, a.eval (.const v) = v := fun _ => rfl
                      generalize a.eval = ev at *
                      clear h
                      go_simp
                    refine AllOpsI.cons (fun a y h => ?_) ?_
                    · have e9 : a.eval (.tmp 9) = (.slice (some ⟨bO, offO, none⟩) O.length cO : Value) := h.old 9 (by kernel_rfl)
                      refine opOkR_val (v := .slice (some ⟨bO, offO, none⟩) O.length cO) (w' := y) (wanted_none rfl) ?_ (fun t ht => by cases ht; exact rfl) (Rb.refl _ _) (fun h9 => absurd h9 (by decide)) (fun h9 => absurd h9 (by decide))
                      have ec : ∀ v, a.eval (.const v) = v := fun _ => rfl
                      generalize a.eval = ev at *
                      clear h
                      go_simp
                    refine AllOpsI.cons (fun a y h => ?_) ?_
                    · have e14 : a.eval (.tmp 14) = (.int .i64 k : Value) := h.old 14 (by kernel_rfl)
                      refine opOkR_val (v := .int .i64 k) (w' := y) (wanted_none rfl) ?_ (fun t ht => by cases ht; exact rfl) (Rb.refl _ _) (fun h9 => absurd h9 (by decide)) (fun h9 => absurd h9 (by decide))
                      have ec : ∀ v, a.eval (.const v) = v := fun _ => rfl
                      generalize a.eval = ev at *
                      clear h
                      go_simp
                    refine AllOpsI.cons (fun a y h => ?_) ?_
                    · have e152 : a.eval (.tmp 152) = (.slice (some ⟨bO, offO, none⟩) O.length cO : Value) := h.of 152 (by kernel_rfl)
                      have e153 : a.eval (.tmp 153) = (.int .i64 k : Value) := h.of 153 (by kernel_rfl)
                      refine opOkR_val (v := .pointer (some ⟨bO, (offO + k * 5), none⟩)) (w' := y) (wanted_none rfl) ?_ (fun t ht => by cases ht; exact rfl) (Rb.refl _ _) (fun h9 => absurd h9 (by decide)) (fun h9 => absurd h9 (by decide))
                      have ec : ∀ v, a.eval (.const v) = v := fun _ => rfl
                      generalize a.eval = ev at *
                      clear h
                      go_simp
                    refine AllOpsI.cons (fun a y h => ?_) ?_
                    · have e154 : a.eval (.tmp 154) = (.pointer (some ⟨bO, (offO + k * 5), none⟩) : Value) := h.of 154 (by kernel_rfl)
                      obtain ⟨q0, q1, q2, q3, q4⟩ := HXUO.out y (HKN27.out.trans h.below.2.1)
                      refine opOkR_val (v := .agg #[.int .i64 vaO, .int .i64 vnO, .slice b1O m1O f1O, .slice b2O m2O f2O, .slice b3O m3O f3O]) (w' := y) (wanted_none rfl) ?_ (fun t ht => by cases ht; exact rfl) (Rb.refl _ _) (fun h9 => absurd h9 (by decide)) (fun h9 => absurd h9 (by decide))
                      have ec : ∀ v, a.eval (.const v) = v := fun _ => rfl
                      generalize a.eval = ev at *
                      clear h
                      go_simp
                    refine AllOpsI.cons (fun a y h => ?_) ?_
                    · have e151 : a.eval (.tmp 151) = (.agg #[.slice e1O n1O g1O, .slice e2O n2O g2O] : Value) := h.of 151 (by kernel_rfl)
                      have e155 : a.eval (.tmp 155) = (.agg #[.int .i64 vaO, .int .i64 vnO, .slice b1O m1O f1O, .slice b2O m2O f2O, .slice b3O m3O f3O] : Value) := h.of 155 (by kernel_rfl)
                      refine opOkR_call (f := 6) (args := #[.agg #[.slice e1O n1O g1O, .slice e2O n2O g2O], .agg #[.int .i64 vaO, .int .i64 vnO, .slice b1O m1O f1O, .slice b2O m2O f2O, .slice b3O m3O f3O]]) (wanted_none rfl) ?_ ?_
                      · have ec : ∀ v, a.eval (.const v) = v := fun _ => rfl
                        have ef : ∀ f, a.eval (.func f) = .func (.func f) #[] #[] := fun _ => rfl
                        generalize a.eval = ev at *
                        clear h
                        go_simp
                      · refine Calls.mono (HAD27.out y h.below) ?_
                        rintro _ y2 ⟨v, rfl, hA9, hb2⟩
                        exact ⟨_, rfl, fun t ht => by cases ht; exact hA9, Rb.of hb2 h.below.1.size, fun h9 => absurd h9 (by decide), fun h9 => absurd h9 (by decide)⟩
                    refine AllOpsI.cons (fun a y h => ?_) ?_
                    · have t156 : AdN (Dg.more MO ⟨⟨vaO, vnO⟩, psO, saysO, tsO⟩) y (a.eval (.tmp 156)) := h.of 156 (by kernel_rfl)
                      obtain ⟨d1, d2, d3, d4, d5, d6, e156, hR⟩ := t156
                      refine opOkR_val (v := .tuple #[.agg #[.slice d1 d2 d3, .slice d4 d5 d6], .int .i64 0]) (w' := y) (wanted_none rfl) ?_ (fun t ht => by cases ht; exact ⟨_, _, _, _, _, _, rfl, hR⟩) (Rb.refl _ _) (fun h9 => absurd h9 (by decide)) (fun h9 => absurd h9 (by decide))
                      have ec : ∀ v, a.eval (.const v) = v := fun _ => rfl
                      generalize a.eval = ev at *
                      clear h
                      go_simp
                    refine AllOpsI.cons (fun a y h => ?_) ?_
                    · have t150 : AdN (Dg.more MO ⟨⟨vaO, vnO⟩, psO, saysO, tsO⟩) y (a.eval (.tmp 150)) := h.of 150 (by kernel_rfl)
                      obtain ⟨d1, d2, d3, d4, d5, d6, e150, hR⟩ := t150
                      refine opOkR_val (v := .agg #[.slice d1 d2 d3, .slice d4 d5 d6]) (w' := y) (wanted_none rfl) ?_ (fun t ht => by cases ht; exact ⟨_, _, _, _, _, _, rfl, hR⟩) (Rb.refl _ _) (fun h9 => absurd h9 (by decide)) (fun h9 => absurd h9 (by decide))
                      have ec : ∀ v, a.eval (.const v) = v := fun _ => rfl
                      generalize a.eval = ev at *
                      clear h
                      go_simp
                    refine AllOpsI.cons (fun a y h => ?_) ?_
                    · have t150 : AdN (Dg.more MO ⟨⟨vaO, vnO⟩, psO, saysO, tsO⟩) y (a.eval (.tmp 150)) := h.of 150 (by kernel_rfl)
                      obtain ⟨d1, d2, d3, d4, d5, d6, e150, hR⟩ := t150
                      refine opOkR_val (v := .int .i64 0) (w' := y) (wanted_none rfl) ?_ (fun t ht => by cases ht; exact rfl) (Rb.refl _ _) (fun h9 => absurd h9 (by decide)) (fun _ _ hD => by obtain ⟨F, e3, h8, h7⟩ := hD; exact ⟨F, (put_get_ne (by decide)).trans e3, h8, h7⟩)
                      have ec : ∀ v, a.eval (.const v) = v := fun _ => rfl
                      generalize a.eval = ev at *
                      clear h
                      go_simp
                    refine AllOpsI.cons (fun a y h => ?_) ?_
                    · refine opOkR_val (v := .pointer (some ⟨y.heap.size, 0, none⟩)) (w' := y.alloc (.cells #[.slice none 0 0, .slice none 0 0] 24)) (wanted_none rfl) ?_ (fun t ht => by cases ht; exact bxp_new _ y h.below.1.size) (Rb.of (new_below y _) h.below.1.size) (fun h9 => absurd h9 (by decide)) (fun h9 => absurd h9 (by decide))
                      have ec : ∀ v, a.eval (.const v) = v := fun _ => rfl
                      generalize a.eval = ev at *
                      clear h
                      go_simp
                    refine AllOpsI.cons (fun a y h => ?_) ?_
                    · have t17 : Bxp y26.heap.size y (a.eval (.tmp 17)) := h.of 17 (by kernel_rfl)
                      have t157 : ReN (Dg.more MO ⟨⟨vaO, vnO⟩, psO, saysO, tsO⟩) y (a.eval (.tmp 157)) := h.of 157 (by kernel_rfl)
                      obtain ⟨d1, d2, d3, d4, d5, d6, e157, hR⟩ := t157
                      obtain ⟨F, e17, ⟨r1, r2, r3, r4, r5, r6, hF⟩, hFl⟩ := t17
                      have z0 : y.cell? ⟨F, 0, none⟩ = some (.slice r1 r2 r3) := by rw [Lib.cell_of_heap hF]; rfl
                      have y0 := Lib.frozen_of_heap hF 0
                      have k1 : (y.setCell ⟨F, 0, none⟩ (.slice d1 d2 d3)).heap[F]? = some (.cells #[.slice d1 d2 d3, .slice r4 r5 r6] 24) := by rw [Lib.heap_setCell_same hF]; rfl
                      have z1 : (y.setCell ⟨F, 0, none⟩ (.slice d1 d2 d3)).cell? ⟨F, 1, none⟩ = some (.slice r4 r5 r6) := by rw [Lib.cell_of_heap k1]; rfl
                      have y1 := Lib.frozen_of_heap k1 1
                      refine opOkR_void (w' := two y F (.slice d1 d2 d3) (.slice d4 d5 d6)) (wanted_none rfl) ?_ rfl (Rb.two hF hFl) (fun _ => ⟨F, e17, hFl, _, _, _, _, _, _, two_heap hF, hR.kn (two_kn hF)⟩) (fun _ h9 => absurd rfl h9)
                      unfold two
                      generalize a.eval = ev at *
                      clear h hR
                      go_simp
                    refine AllOpsI.cons (fun a y h => ?_) ?_
                    · have e158 : a.eval (.tmp 158) = (.int .i64 0 : Value) := h.of 158 (by kernel_rfl)
                      refine opOkR_val (v := .int .i64 0) (w' := y) (wanted_none rfl) ?_ (fun t ht => by cases ht; exact rfl) (Rb.refl _ _) (fun h9 => absurd h9 (by decide)) (fun _ _ hD => by obtain ⟨F, e3, h8, h7⟩ := hD; exact ⟨F, (put_get_ne (by decide)).trans e3, h8, h7⟩)
                      have ec : ∀ v, a.eval (.const v) = v := fun _ => rfl
                      generalize a.eval = ev at *
                      clear h
                      go_simp
                    exact AllOpsI.nil
                  rintro ⟨tm, df⟩ y27 hI hD hdE hszE hstE hTE
                  obtain ⟨F27, k17, hF27, hBI27⟩ := hD
                  have k18 : tm.getD 18 undef = (.int .i64 0 : Value) := hTE 18 (by decide)
                  obtain rfl : df = [] := hdE
                  have HRB27 : Hid (Rb y26.heap.size y26 y27) := hI
                  have HBI27 : Hid (BoxI (Dg.more MO ⟨⟨vaO, vnO⟩, psO, saysO, tsO⟩) y27 F27) := hBI27
                  clear hI hTE hBI27
                  have hF8 := tmps_fold [151, 152, 153, 154, 155, 156, 150, 157, 158, 17, 18] tm _ (hszE.trans (by rfl)) hstE
                  clear hszE hstE
                  simp only [] at k17
                  simp only [List.foldl_cons, List.foldl_nil, k17, k18] at hF8
                  clear k17 k18
                  generalize tm.getD 151 undef = x151 at hF8
                  generalize tm.getD 152 undef = x152 at hF8
                  generalize tm.getD 153 undef = x153 at hF8
                  generalize tm.getD 154 undef = x154 at hF8
                  generalize tm.getD 155 undef = x155 at hF8
                  generalize tm.getD 156 undef = x156 at hF8
                  generalize tm.getD 150 undef = x150 at hF8
                  generalize tm.getD 157 undef = x157 at hF8
                  generalize tm.getD 158 undef = x158 at hF8
                  simp only [List.setIfInBounds_toArray, List.set_cons_zero, List.set_cons_succ] at hF8
                  subst hF8
                  clear HBX27 HKN27 HAD27
                  have h26l := HBI26.out.lt
                  have HB3 : Hid (BoxI (Dg.more MA ⟨⟨vaA, vnA⟩, psA, saysA, tsA⟩) y27 F26) := HBI26.out.rb HRB27.out h26l
                  obtain ⟨d1, d2, d3, d4, d5, d6, hD, hRD⟩ := HB3.out
                  have HDC : Hid (∀ z, Below y27.heap.size y27 z → z.cell? ⟨F26, 0, none⟩ = some (.slice d1 d2 d3) ∧ z.cell? ⟨F26, 1, none⟩ = some (.slice d4 d5 d6)) := fun z hz => ⟨cell_below hz (by rw [Lib.cell_of_heap hD]; rfl), cell_below hz (by rw [Lib.cell_of_heap hD]; rfl)⟩
                  have HDR : Hid (RepI (Dg.more MA ⟨⟨vaA, vnA⟩, psA, saysA, tsA⟩) y27 (.slice d1 d2 d3) (.slice d4 d5 d6)) := hRD
                  have HCK : Hid _ := check_rep HF3.out _ _ y27 hRD
                  clear hD hRD
                  obtain ⟨q0, q1⟩ := HDC.out y27 (Below.refl _ _)
                  go_wp2_with fail
                  refine Calls.mono HCK.out ?_
                  rintro _ wc ⟨rfl, hbc⟩
                  clear q0 q1 HCK
                  have HBC : Hid (Below y27.heap.size y27 wc) := hbc
                  clear hbc
                  go_upto_region 30 with fail
                  have HBIc : Hid (BoxI (Dg.more MO ⟨⟨vaO, vnO⟩, psO, saysO, tsO⟩) wc F27) := HBI27.out.below HBC.out
                  have HDRc : Hid (RepI (Dg.more MA ⟨⟨vaA, vnA⟩, psA, saysA, tsA⟩) wc (.slice d1 d2 d3) (.slice d4 d5 d6)) := HDR.out.kn (Kn.below HBC.out)
                  obtain ⟨c1, c2, c3, c4, c5, c6, hE, hRE⟩ := HBIc.out
                  obtain ⟨q0, q1⟩ := HDC.out wc HBC.out
                  have q2 : wc.cell? ⟨F27, 0, none⟩ = some (.slice c1 c2 c3) := by rw [Lib.cell_of_heap hE]; rfl
                  have q3 : wc.cell? ⟨F27, 1, none⟩ = some (.slice c4 c5 c6) := by rw [Lib.cell_of_heap hE]; rfl
                  have HRC : Hid (Rb wA.heap.size wA wc) := by
                    have s1 : wA.heap.size ≤ wr.heap.size := HR4.out.1.size
                    have s2 : wr.heap.size ≤ y26.heap.size := HRB26.out.1.size
                    have s3 : y26.heap.size ≤ y27.heap.size := HRB27.out.1.size
                    exact ((HR4.out.trans ⟨HRB26.out.1.mono s1, HRB26.out.2⟩).trans ⟨HRB27.out.1.mono (Nat.le_trans s1 s2), HRB27.out.2⟩).trans (Rb.of HBC.out (Nat.le_trans s1 (Nat.le_trans s2 s3)))
                  obtain ⟨j1, j2, j3, j4, j5, j6, hA0⟩ : Bx wc FA := ((Rb.of HBC.out (Nat.le_refl _)).2.2 FA (HRB27.out.2.2 FA (HRB26.out.2.2 FA HA.out.bx)))
                  obtain ⟨l1, l2, l3, l4, l5, l6, hB0⟩ : Bx wc FB := ((Rb.of HBC.out (Nat.le_refl _)).2.2 FB (HRB27.out.2.2 FB (HRB26.out.2.2 FB HB.out.bx)))
                  have hne : F27 ≠ FA := by omega
                  have hne2 : F27 ≠ FB := by omega
                  obtain ⟨s0, s1, s2, s3, s4, s5⟩ := box_store (u := .slice d1 d2 d3) (v := .slice d4 d5 d6) hA0 hne q2 q3
                  have hB1 : (two wc FA (.slice d1 d2 d3) (.slice d4 d5 d6)).heap[FB]? = some (.cells #[.slice l1 l2 l3, .slice l4 l5 l6] 24) := (two_other (Ne.symm HFF.out.2.2)).trans hB0
                  obtain ⟨s6, s7, s8, s9, _, _⟩ := box_store (u := .slice c1 c2 c3) (v := .slice c4 c5 c6) hB1 hne2 s4 s5
                  have hkA := two_kn (u := .slice d1 d2 d3) (v := .slice d4 d5 d6) hA0
                  have hkB := two_kn (u := .slice c1 c2 c3) (v := .slice c4 c5 c6) hB1
                  have HNA : Hid (BoxI (Dg.more MA ⟨⟨vaA, vnA⟩, psA, saysA, tsA⟩) (two (two wc FA (.slice d1 d2 d3) (.slice d4 d5 d6)) FB (.slice c1 c2 c3) (.slice c4 c5 c6)) FA) := ⟨_, _, _, _, _, _, (two_other HFF.out.2.2).trans (two_heap hA0), (HDRc.out.kn hkA).kn hkB⟩
                  have HNB : Hid (BoxI (Dg.more MO ⟨⟨vaO, vnO⟩, psO, saysO, tsO⟩) (two (two wc FA (.slice d1 d2 d3) (.slice d4 d5 d6)) FB (.slice c1 c2 c3) (.slice c4 c5 c6)) FB) := ⟨_, _, _, _, _, _, two_heap hB1, (hRE.kn hkA).kn hkB⟩
                  have HNR : Hid (Rb wA.heap.size wA (two (two wc FA (.slice d1 d2 d3) (.slice d4 d5 d6)) FB (.slice c1 c2 c3) (.slice c4 c5 c6))) := (HRC.out.trans (Rb.two hA0 HFF.out.1)).trans (Rb.two hB1 HFF.out.2.1)
                  unfold two at s6 s7 s8 s9
                  clear hE hRE hA0 hB0 hB1 hkA hkB HDC HDR HBIc HDRc
                  refine wp_mid (fun a0 a w' => w' = (two (two wc FA (.slice d1 d2 d3) (.slice d4 d5 d6)) FB (.slice c1 c2 c3) (.slice c4 c5 c6)).drew ∧ a = ⟨(a0.tmps.setIfInBounds 170 (.agg #[.slice d1 d2 d3, .slice d4 d5 d6])).setIfInBounds 171 (.agg #[.slice c1 c2 c3, .slice c4 c5 c6]), a0.defers⟩) ?first30 ?rest30
                  case first30 =>
                    go_region
                    refine ⟨rfl, rfl, ?_⟩
                    simp only [List.setIfInBounds_toArray, List.set_cons_zero, List.set_cons_succ]
                  clear s0 s1 s2 s3 s4 s5 s6 s7 s8 s9 q0 q1 q2 q3
                  rintro a wN ⟨hw, ha⟩
                  simp only [List.setIfInBounds_toArray, List.set_cons_zero, List.set_cons_succ] at ha
                  subst ha
                  have HNA2 : Hid (BoxI (Dg.mores (ups hq ++ ups wq) (ups (A.take (k + 1)))) wN FA) := by rw [HSA.out, hw]; exact HNA.out.drew
                  have HNB2 : Hid (BoxI (Dg.mores (ups hq ++ ups wq) (ups (O.take (k + 1)))) wN FB) := by rw [HSO.out, hw]; exact HNB.out.drew
                  have HNR2 : Hid (Rb wA.heap.size wA wN) := by rw [hw]; exact HNR.out.trans (Rb.draw _ _)
                  clear hw HNA HNB HNR HSA HSO
                  go_wp2_with fail
                  go_roundw
                  case rel => exact ⟨k + 1, hlt, by go_num, HNA2.out, HNB2.out, HNR2.out⟩
                  case measure => simp [intOf]; omega
                · have g1 : decide (k < A.length) = false := decide_eq_false hlt
                  have e1 : A.take k = A := List.take_of_length_le (by omega)
                  have e2 : O.take k = O := List.take_of_length_le (by have := HOL.out; omega)
                  rw [e1] at HA
                  rw [e2] at HB
                  have HB' : Hid (BoxI (Dg.mores (ups hq ++ ups wq) (ups A)) wr FB) := HB.out.congr (fun u => (Dg.mores_perm HPM.out HND.out u).symm)
                  have HFM : Hid (Fair (Dg.mores (ups hq ++ ups wq) (ups A))) := by have := HFA.out A.length; rw [List.take_length] at this; exact this
                  have HHS : Hid (∀ x, x ∈ A → Dg.hasU (Dg.mores (ups hq ++ ups wq) (ups A)) x.u.id = true) := fun x hx => mores_has HND.out (List.mem_map_of_mem hx)
                  have HBW : Hid (Below w.heap.size w wr) := HBR.out.trans (HR4.out.1.mono HBR.out.size)
                  clear HB e1 e2 HFA HFO HLT
                  generalize Dg.mores (ups hq ++ ups wq) (ups A) = M at *
                  by_cases h0 : 0 < A.length
                  · have d0 : decide ((A.length : Int) > 0) = true := decide_eq_true (by omega)
                    have d0' : decide ((0 : Int) < (A.length : Int)) = true := decide_eq_true (by omega)
                    have d0'' : decide (0 < A.length) = true := decide_eq_true h0
                    obtain ⟨aA', cA', eA, _, hAA⟩ := HAV2.out.kn HR4.out.2.1
                    cases eA
                    have HH0 : Hid (Dg.hasU M (uvD A 0).u.id = true) := HHS.out _ (uvD_mem A 0 h0)
                    obtain ⟨bA, offA, ebA, p0, p1, p2, p3, p4⟩ := ups_at hAA 0 h0
                    have hxo := (show UvOk wr (uvD A 0) ∧ Wr.check (uvD A 0).u = 0 from ⟨(HAO2.out _ (uvD_mem A 0 h0)).1.kn HR4.out.2.1, (HAO2.out _ (uvD_mem A 0 h0)).2⟩)
                    generalize uvD A 0 = x at *
                    obtain ⟨b1A, m1A, f1A, b2A, m2A, f2A, b3A, m3A, f3A, e1, e2, e3⟩ := hxo.1.forms
                    have HXA : Hid (UvOk wr x ∧ Wr.check x.u = 0) := hxo
                    clear hxo
                    obtain ⟨⟨⟨vaA, vnA⟩, psA, saysA, tsA⟩, vp, vs, vt⟩ := x
                    dsimp only at *
                    subst e1 e2 e3
                    have HXUA : Hid (∀ z, Kn wr z → z.cell? ⟨bA, offA + 0 * 5, none⟩ = some (.int .i64 vaA) ∧ z.cell? ⟨bA, offA + 0 * 5 + 1, none⟩ = some (.int .i64 vnA) ∧ z.cell? ⟨bA, offA + 0 * 5 + 2, none⟩ = some (.slice b1A m1A f1A) ∧ z.cell? ⟨bA, offA + 0 * 5 + 3, none⟩ = some (.slice b2A m2A f2A) ∧ z.cell? ⟨bA, offA + 0 * 5 + 4, none⟩ = some (.slice b3A m3A f3A)) := fun z hz => ⟨hz _ ⟨_, _, p0⟩ _ _ p0, hz _ ⟨_, _, p0⟩ _ _ p1, hz _ ⟨_, _, p0⟩ _ _ p2, hz _ ⟨_, _, p0⟩ _ _ p3, hz _ ⟨_, _, p0⟩ _ _ p4⟩
                    clear p0 p1 p2 p3 p4
                    simp only [Nat.zero_mul, Nat.add_zero] at HXUA
                    clear hAA
                    subst ebA
                    have hFAl := HA.out.lt
                    have hFBl := HB'.out.lt
                    obtain ⟨e1A, n1A, g1A, e2A, n2A, g2A, hFAh, hRA⟩ := HA.out
                    have HBX32 : Hid (∀ z, Below wr.heap.size wr z → z.cell? ⟨FA, 0, none⟩ = some (.slice e1A n1A g1A) ∧ z.cell? ⟨FA, 1, none⟩ = some (.slice e2A n2A g2A)) := fun z hz => ⟨cell_below hz (by rw [Lib.cell_of_heap hFAh]; rfl), cell_below hz (by rw [Lib.cell_of_heap hFAh]; rfl)⟩
                    have HKN32 : Hid (Kn wr wr) := fun _ _ _ _ e => e
                    have HAD32 : Hid (∀ z, Rb wr.heap.size wr z → Calls Tryz.prog 6 #[.agg #[.slice e1A n1A g1A, .slice e2A n2A g2A], uvVal ⟨⟨⟨vaA, vnA⟩, psA, saysA, tsA⟩, .slice b1A m1A f1A, .slice b2A m2A f2A, .slice b3A m3A f3A⟩] z fun e w' => ∃ v, e = .returned v ∧ AdN M w' v ∧ Below z.heap.size z w') := fun z hz => add_same HFM.out _ _ ⟨⟨⟨vaA, vnA⟩, psA, saysA, tsA⟩, .slice b1A m1A f1A, .slice b2A m2A f2A, .slice b3A m3A f3A⟩ z (hRA.kn hz.2.1) (HXA.out.1.kn hz.2.1) HXA.out.2 HH0.out
                    clear hFAh hRA
                    go_upto_region 32 with fail
                    refine wp_region_tabR (Rb wr.heap.size) (fun _ _ _ => Rb.trans) (fun _ => Rb.draw _ _) (laT32 wr.heap.size e1A n1A g1A e2A n2A g2A bA offA A.length cA offA vaA vnA b1A m1A f1A b2A m2A f2A b3A m3A f3A (M)) 9 (laD 19 wr.heap.size (M)) (by decide) (by kernel_rfl) (by kernel_rfl) (laT32_mono _ _ _ _ _ _ _ _ _ _ _ _ _ _ _ _ _ _ _ _ _ _ _ _ _) ?hop32 ?hend32
                    case hop32 =>
                      refine AllOpsI.cons (fun a y h => ?_) ?_
                      · have e12 : a.eval (.tmp 12) = (.pointer (some ⟨FA, 0, none⟩) : Value) := h.old 12 (by kernel_rfl)
                        obtain ⟨q0, q1⟩ := HBX32.out y h.below.1
                        refine opOkR_val (v := .agg #[.slice e1A n1A g1A, .slice e2A n2A g2A]) (w' := y) (wanted_none rfl) ?_ (fun t ht => by cases ht; exact rfl) (Rb.refl _ _) (fun h9 => absurd h9 (by decide)) (fun h9 => absurd h9 (by decide))
                        have ec : ∀ v, a.eval (.const v) = v := fun _ => rfl
                        generalize a.eval = ev at *
                        clear h
                        go_simp
                      refine AllOpsI.cons (fun a y h => ?_) ?_
                      · have e7 : a.eval (.tmp 7) = (.slice (some ⟨bA, offA, none⟩) A.length cA : Value) := h.old 7 (by kernel_rfl)
                        refine opOkR_val (v := .slice (some ⟨bA, offA, none⟩) A.length cA) (w' := y) (wanted_none rfl) ?_ (fun t ht => by cases ht; exact rfl) (Rb.refl _ _) (fun h9 => absurd h9 (by decide)) (fun h9 => absurd h9 (by decide))
                        have ec : ∀ v, a.eval (.const v) = v := fun _ => rfl
                        generalize a.eval = ev at *
                        clear h
                        go_simp
                      refine AllOpsI.cons (fun a y h => ?_) ?_
                      · have e177 : a.eval (.tmp 177) = (.slice (some ⟨bA, offA, none⟩) A.length cA : Value) := h.of 177 (by kernel_rfl)
                        refine opOkR_val (v := .pointer (some ⟨bA, offA, none⟩)) (w' := y) (wanted_none rfl) ?_ (fun t ht => by cases ht; exact rfl) (Rb.refl _ _) (fun h9 => absurd h9 (by decide)) (fun h9 => absurd h9 (by decide))
                        have ec : ∀ v, a.eval (.const v) = v := fun _ => rfl
                        generalize a.eval = ev at *
                        clear h
                        go_simp
                      refine AllOpsI.cons (fun a y h => ?_) ?_
                      · have e178 : a.eval (.tmp 178) = (.pointer (some ⟨bA, offA, none⟩) : Value) := h.of 178 (by kernel_rfl)
                        obtain ⟨q0, q1, q2, q3, q4⟩ := HXUA.out y (HKN32.out.trans h.below.2.1)
                        refine opOkR_val (v := .agg #[.int .i64 vaA, .int .i64 vnA, .slice b1A m1A f1A, .slice b2A m2A f2A, .slice b3A m3A f3A]) (w' := y) (wanted_none rfl) ?_ (fun t ht => by cases ht; exact rfl) (Rb.refl _ _) (fun h9 => absurd h9 (by decide)) (fun h9 => absurd h9 (by decide))
                        have ec : ∀ v, a.eval (.const v) = v := fun _ => rfl
                        generalize a.eval = ev at *
                        clear h
                        go_simp
                      refine AllOpsI.cons (fun a y h => ?_) ?_
                      · have e176 : a.eval (.tmp 176) = (.agg #[.slice e1A n1A g1A, .slice e2A n2A g2A] : Value) := h.of 176 (by kernel_rfl)
                        have e179 : a.eval (.tmp 179) = (.agg #[.int .i64 vaA, .int .i64 vnA, .slice b1A m1A f1A, .slice b2A m2A f2A, .slice b3A m3A f3A] : Value) := h.of 179 (by kernel_rfl)
                        refine opOkR_call (f := 6) (args := #[.agg #[.slice e1A n1A g1A, .slice e2A n2A g2A], .agg #[.int .i64 vaA, .int .i64 vnA, .slice b1A m1A f1A, .slice b2A m2A f2A, .slice b3A m3A f3A]]) (wanted_none rfl) ?_ ?_
                        · have ec : ∀ v, a.eval (.const v) = v := fun _ => rfl
                          have ef : ∀ f, a.eval (.func f) = .func (.func f) #[] #[] := fun _ => rfl
                          generalize a.eval = ev at *
                          clear h
                          go_simp
                        · refine Calls.mono (HAD32.out y h.below) ?_
                          rintro _ y2 ⟨v, rfl, hA9, hb2⟩
                          exact ⟨_, rfl, fun t ht => by cases ht; exact hA9, Rb.of hb2 h.below.1.size, fun h9 => absurd h9 (by decide), fun h9 => absurd h9 (by decide)⟩
                      refine AllOpsI.cons (fun a y h => ?_) ?_
                      · have t180 : AdN (M) y (a.eval (.tmp 180)) := h.of 180 (by kernel_rfl)
                        obtain ⟨d1, d2, d3, d4, d5, d6, e180, hR⟩ := t180
                        refine opOkR_val (v := .tuple #[.agg #[.slice d1 d2 d3, .slice d4 d5 d6], .int .i64 0]) (w' := y) (wanted_none rfl) ?_ (fun t ht => by cases ht; exact ⟨_, _, _, _, _, _, rfl, hR⟩) (Rb.refl _ _) (fun h9 => absurd h9 (by decide)) (fun h9 => absurd h9 (by decide))
                        have ec : ∀ v, a.eval (.const v) = v := fun _ => rfl
                        generalize a.eval = ev at *
                        clear h
                        go_simp
                      refine AllOpsI.cons (fun a y h => ?_) ?_
                      · have t175 : AdN (M) y (a.eval (.tmp 175)) := h.of 175 (by kernel_rfl)
                        obtain ⟨d1, d2, d3, d4, d5, d6, e175, hR⟩ := t175
                        refine opOkR_val (v := .agg #[.slice d1 d2 d3, .slice d4 d5 d6]) (w' := y) (wanted_none rfl) ?_ (fun t ht => by cases ht; exact ⟨_, _, _, _, _, _, rfl, hR⟩) (Rb.refl _ _) (fun h9 => absurd h9 (by decide)) (fun h9 => absurd h9 (by decide))
                        have ec : ∀ v, a.eval (.const v) = v := fun _ => rfl
                        generalize a.eval = ev at *
                        clear h
                        go_simp
                      refine AllOpsI.cons (fun a y h => ?_) ?_
                      · have t175 : AdN (M) y (a.eval (.tmp 175)) := h.of 175 (by kernel_rfl)
                        obtain ⟨d1, d2, d3, d4, d5, d6, e175, hR⟩ := t175
                        refine opOkR_val (v := .int .i64 0) (w' := y) (wanted_none rfl) ?_ (fun t ht => by cases ht; exact rfl) (Rb.refl _ _) (fun h9 => absurd h9 (by decide)) (fun _ _ hD => by obtain ⟨F, e3, h8, h7⟩ := hD; exact ⟨F, (put_get_ne (by decide)).trans e3, h8, h7⟩)
                        have ec : ∀ v, a.eval (.const v) = v := fun _ => rfl
                        generalize a.eval = ev at *
                        clear h
                        go_simp
                      refine AllOpsI.cons (fun a y h => ?_) ?_
                      · refine opOkR_val (v := .pointer (some ⟨y.heap.size, 0, none⟩)) (w' := y.alloc (.cells #[.slice none 0 0, .slice none 0 0] 24)) (wanted_none rfl) ?_ (fun t ht => by cases ht; exact bxp_new _ y h.below.1.size) (Rb.of (new_below y _) h.below.1.size) (fun h9 => absurd h9 (by decide)) (fun h9 => absurd h9 (by decide))
                        have ec : ∀ v, a.eval (.const v) = v := fun _ => rfl
                        generalize a.eval = ev at *
                        clear h
                        go_simp
                      refine AllOpsI.cons (fun a y h => ?_) ?_
                      · have t19 : Bxp wr.heap.size y (a.eval (.tmp 19)) := h.of 19 (by kernel_rfl)
                        have t181 : ReN (M) y (a.eval (.tmp 181)) := h.of 181 (by kernel_rfl)
                        obtain ⟨d1, d2, d3, d4, d5, d6, e181, hR⟩ := t181
                        obtain ⟨F, e19, ⟨r1, r2, r3, r4, r5, r6, hF⟩, hFl⟩ := t19
                        have z0 : y.cell? ⟨F, 0, none⟩ = some (.slice r1 r2 r3) := by rw [Lib.cell_of_heap hF]; rfl
                        have y0 := Lib.frozen_of_heap hF 0
                        have k1 : (y.setCell ⟨F, 0, none⟩ (.slice d1 d2 d3)).heap[F]? = some (.cells #[.slice d1 d2 d3, .slice r4 r5 r6] 24) := by rw [Lib.heap_setCell_same hF]; rfl
                        have z1 : (y.setCell ⟨F, 0, none⟩ (.slice d1 d2 d3)).cell? ⟨F, 1, none⟩ = some (.slice r4 r5 r6) := by rw [Lib.cell_of_heap k1]; rfl
                        have y1 := Lib.frozen_of_heap k1 1
                        refine opOkR_void (w' := two y F (.slice d1 d2 d3) (.slice d4 d5 d6)) (wanted_none rfl) ?_ rfl (Rb.two hF hFl) (fun _ => ⟨F, e19, hFl, _, _, _, _, _, _, two_heap hF, hR.kn (two_kn hF)⟩) (fun _ h9 => absurd rfl h9)
                        unfold two
                        generalize a.eval = ev at *
                        clear h hR
                        go_simp
                      refine AllOpsI.cons (fun a y h => ?_) ?_
                      · have e182 : a.eval (.tmp 182) = (.int .i64 0 : Value) := h.of 182 (by kernel_rfl)
                        refine opOkR_val (v := .int .i64 0) (w' := y) (wanted_none rfl) ?_ (fun t ht => by cases ht; exact rfl) (Rb.refl _ _) (fun h9 => absurd h9 (by decide)) (fun _ _ hD => by obtain ⟨F, e3, h8, h7⟩ := hD; exact ⟨F, (put_get_ne (by decide)).trans e3, h8, h7⟩)
                        have ec : ∀ v, a.eval (.const v) = v := fun _ => rfl
                        generalize a.eval = ev at *
                        clear h
                        go_simp
                      exact AllOpsI.nil
                    rintro ⟨tm, df⟩ y32 hI hD hdE hszE hstE hTE
                    obtain ⟨F32, k19, hF32, hBI32⟩ := hD
                    have k20 : tm.getD 20 undef = (.int .i64 0 : Value) := hTE 20 (by decide)
                    obtain rfl : df = [] := hdE
                    have HRB32 : Hid (Rb wr.heap.size wr y32) := hI
                    have HBI32 : Hid (BoxI (M) y32 F32) := hBI32
                    clear hI hTE hBI32
                    have hF8 := tmps_fold [176, 177, 178, 179, 180, 175, 181, 182, 19, 20] tm _ (hszE.trans (by rfl)) hstE
                    clear hszE hstE
                    simp only [] at k19
                    simp only [List.foldl_cons, List.foldl_nil, k19, k20] at hF8
                    clear k19 k20
                    generalize tm.getD 176 undef = x176 at hF8
                    generalize tm.getD 177 undef = x177 at hF8
                    generalize tm.getD 178 undef = x178 at hF8
                    generalize tm.getD 179 undef = x179 at hF8
                    generalize tm.getD 180 undef = x180 at hF8
                    generalize tm.getD 175 undef = x175 at hF8
                    generalize tm.getD 181 undef = x181 at hF8
                    generalize tm.getD 182 undef = x182 at hF8
                    simp only [List.setIfInBounds_toArray, List.set_cons_zero, List.set_cons_succ] at hF8
                    subst hF8
                    have HSA : Hid (BoxI M y32 FA) := HA.out.rb HRB32.out hFAl
                    have HSB : Hid (BoxI M y32 FB) := HB'.out.rb HRB32.out hFBl
                    obtain ⟨d1, d2, d3, d4, d5, d6, hA9, hRA9⟩ := HSA.out
                    obtain ⟨l1, l2, l3, l4, l5, l6, hB9, hRB9⟩ := HBI32.out
                    have q0 : y32.cell? ⟨FA, 0, none⟩ = some (.slice d1 d2 d3) := by rw [Lib.cell_of_heap hA9]; rfl
                    have q1 : y32.cell? ⟨FA, 1, none⟩ = some (.slice d4 d5 d6) := by rw [Lib.cell_of_heap hA9]; rfl
                    have q2 : y32.cell? ⟨F32, 0, none⟩ = some (.slice l1 l2 l3) := by rw [Lib.cell_of_heap hB9]; rfl
                    have q3 : y32.cell? ⟨F32, 1, none⟩ = some (.slice l4 l5 l6) := by rw [Lib.cell_of_heap hB9]; rfl
                    have HS1 : Hid _ := same_rep HFM.out _ _ _ _ y32 hRB9 hRA9
                    clear hA9 hB9 hRA9 hRB9 HBX32 HKN32 HAD32
                    go_upto_region 35 with (go_at_call 20; refine Calls.mono HS1.out ?_; rintro _ we ⟨rfl, hbe⟩)
                    clear q0 q1 q2 q3 HS1
                    have HZA : Hid (BoxI M we FA) := HSA.out.below hbe
                    have HZB : Hid (BoxI M we FB) := HSB.out.below hbe
                    have HZ0 : Below w.heap.size w y32 := HBW.out.trans (HRB32.out.1.mono HBW.out.size)
                    have HZW : Hid (Below w.heap.size w we) := HZ0.trans (hbe.mono HZ0.size)
                    clear HZ0 hbe
                    obtain ⟨d1, d2, d3, d4, d5, d6, hA9, hRA9⟩ := HZA.out
                    obtain ⟨l1, l2, l3, l4, l5, l6, hB9, hRB9⟩ := HZB.out
                    have q0 : we.cell? ⟨FA, 0, none⟩ = some (.slice d1 d2 d3) := by rw [Lib.cell_of_heap hA9]; rfl
                    have q1 : we.cell? ⟨FA, 1, none⟩ = some (.slice d4 d5 d6) := by rw [Lib.cell_of_heap hA9]; rfl
                    have q2 : we.cell? ⟨FB, 0, none⟩ = some (.slice l1 l2 l3) := by rw [Lib.cell_of_heap hB9]; rfl
                    have q3 : we.cell? ⟨FB, 1, none⟩ = some (.slice l4 l5 l6) := by rw [Lib.cell_of_heap hB9]; rfl
                    have HSR : Hid _ := same_rep HFM.out _ _ _ _ we hRA9 hRB9
                    clear hA9 hB9 hRA9 hRB9
                    go_wp2_with (go_at_call 20; refine Calls.mono HSR.out ?_; rintro _ wz ⟨rfl, hbz⟩)
                    go_ret
                    exact ⟨rfl, HZW.out.trans (hbz.mono HZW.out.size)⟩
                  · have d0 : decide ((A.length : Int) > 0) = false := decide_eq_false (by omega)
                    have d0' : decide ((0 : Int) < (A.length : Int)) = false := decide_eq_false (by omega)
                    have d0'' : decide (0 < A.length) = false := decide_eq_false h0
                    go_upto_region 35 with fail
                    have HZA : Hid (BoxI M wr FA) := HA.out
                    have HZB : Hid (BoxI M wr FB) := HB'.out
                    have HZW : Hid (Below w.heap.size w wr) := HBW.out
                    obtain ⟨d1, d2, d3, d4, d5, d6, hA9, hRA9⟩ := HZA.out
                    obtain ⟨l1, l2, l3, l4, l5, l6, hB9, hRB9⟩ := HZB.out
                    have q0 : wr.cell? ⟨FA, 0, none⟩ = some (.slice d1 d2 d3) := by rw [Lib.cell_of_heap hA9]; rfl
                    have q1 : wr.cell? ⟨FA, 1, none⟩ = some (.slice d4 d5 d6) := by rw [Lib.cell_of_heap hA9]; rfl
                    have q2 : wr.cell? ⟨FB, 0, none⟩ = some (.slice l1 l2 l3) := by rw [Lib.cell_of_heap hB9]; rfl
                    have q3 : wr.cell? ⟨FB, 1, none⟩ = some (.slice l4 l5 l6) := by rw [Lib.cell_of_heap hB9]; rfl
                    have HSR : Hid _ := same_rep HFM.out _ _ _ _ wr hRA9 hRB9
                    clear hA9 hB9 hRA9 hRB9
                    go_wp2_with (go_at_call 20; refine Calls.mono HSR.out ?_; rintro _ wz ⟨rfl, hbz⟩)
                    go_ret
                    exact ⟨rfl, HZW.out.trans (hbz.mono HZW.out.size)⟩
end Go.Proofs.YtmfaodapofamfaaGreat

/- The closed facts of the row, one by one. -/
namespace Go.Proofs.YtmfaodapofamfaaGreat
open Go.ChangeShapes Go.WideShapes Go.ChangeAt Go.RowKit
theorem dgAny_and {a b : Bool} (ha : a = true) (hb : b = true) : (a && b) = true := by rw [ha, hb]; rfl
theorem dgAny_j1 : Rows.dagAnyRow.wf (OpenSpec.ofChange Rows.dagAnySpec) = true := by kernel_rfl
theorem dgAny_j2 : laidOutB Tryz.prog = true := by kernel_rfl
theorem dgAny_j3 : mapsRowed Tryz.prog = true := by kernel_rfl
theorem dgAny_j4 : Tryz.f4.params.all (Tryz.prog.readableRec ·) = true := by kernel_rfl
theorem dgAny_j5 : namedTie Tryz.prog Rows.dagAnyRow.named Rows.dagAnySpec.vars = true := by kernel_rfl
theorem dgAny_j6 : (Rows.dagAnyRow.stops == []) = true := by kernel_rfl
theorem dgAny_j7 : (Tryz.prog.stops == []) = true := by kernel_rfl
theorem dgAny_j8 : (Rows.dagAnyRow.knobs == []) = true := by kernel_rfl
theorem dgAny_j9 : (Tryz.prog.stopKnobs == []) = true := by kernel_rfl
theorem dgAny_j10 : (Rows.dagAnyRow.inPlace == Tryz.prog.inPlace 4) = true := by kernel_rfl
theorem dgAny_j11 : (Rows.dagAnyRow.unfollowed == Tryz.prog.unfollowed 4) = true := by kernel_rfl
theorem dgAny_j12 : (Rows.dagAnyRow.recurses == Tryz.prog.recurses 4) = true := by kernel_rfl
theorem dgAny_j13 : (Rows.dagAnyRow.named == Tryz.prog.varsNamed 4) = true := by kernel_rfl
theorem dgAny_j14 : (Rows.dagAnyRow.maps == (Tryz.f4.params.toList ++ Rows.dagAnySpec.plain.varTypes Tryz.prog).any (Tryz.prog.mapsRec ·)) = true := by kernel_rfl
theorem dgAny_j15 : (Rows.dagAnyRow.ifaces == (Tryz.f4.params.toList ++ Rows.dagAnySpec.plain.varTypes Tryz.prog).any (Tryz.prog.ifacesRec ·)) = true := by kernel_rfl
theorem dgAny_j16 : (Rows.dagAnyRow.mapsOut == Tryz.prog.mapsAmong Tryz.f4.resultTypes.toList) = true := by kernel_rfl
theorem dgAny_j17 : (Rows.dagAnyRow.loops == (Tryz.f4.params.toList ++ Rows.dagAnySpec.plain.varTypes Tryz.prog).any (Tryz.prog.loopsFrom ·)) = true := by kernel_rfl
theorem dgAny_j18 : (Rows.dagAnyRow.wideKeys == (Tryz.f4.params.toList ++ Rows.dagAnySpec.plain.varTypes Tryz.prog ++ Tryz.f4.resultTypes.toList).any (Tryz.prog.wideKeysFrom ·)) = true := by kernel_rfl
theorem dgAny_j19 : Rows.dagAnySpec.vars.all (Tryz.prog.varReadable ·) = true := by kernel_rfl
theorem dgAny_j20 : Tryz.f4.resultTypes.all (fun t => Tryz.prog.readableRec t && decide (t < Tryz.prog.types.size)) = true := by kernel_rfl
theorem dgAny_j21 : (Rows.dagAnyRow.ifacesOut == Tryz.f4.resultTypes.toList.any (Tryz.prog.ifacesRec ·)) = true := by kernel_rfl
theorem dgAny_j22 : (Rows.dagAnyRow.loopsOut == Tryz.f4.resultTypes.toList.any (Tryz.prog.loopsFrom ·)) = true := by kernel_rfl
theorem dgAny_j23 : (Rows.dagAnyRow.plainKeys == Tryz.prog.plainKeys) = true := by kernel_rfl
theorem dgAny_j24 : Rows.dagAnyRow.shortTexts.isNone = true := by kernel_rfl
theorem dgAny_j25 : Tryz.prog.stopsHeard = true := by kernel_rfl
theorem dgAny_j26 : Tryz.prog.mayEnter = true := by kernel_rfl
theorem dgAny_j27 : (Rows.dagAnyRow.lifted == Tryz.prog.liftsFinal) = true := by kernel_rfl
theorem dgAny_j28 : (Tryz.prog.make == some Rows.dagAnyRow.make) = true := by kernel_rfl
theorem dgAny_j29 : (Rows.dagAnyRow.kinds == (if Rows.dagAnyRow.domain.isEmpty then [] else Tryz.f4.params.toList.map fun t => match Tryz.prog.underlying t with | some (.int k) => some k | _ => none)) = true := by kernel_rfl
theorem dgAny_j30 : (Rows.dagAnyRow.pinned == Rows.dagAnyRow.pinnedBy) = true := by kernel_rfl
theorem dgAny_j31 : (Rows.dagAnyRow.veiled == (Tryz.f4.params.toList ++ Rows.dagAnySpec.plain.varTypes Tryz.prog ++ Tryz.f4.resultTypes.toList).any (Tryz.prog.veiledRec ·)) = true := by kernel_rfl
theorem dgAny_j32 : Rows.dagAnyRow.veiledFits Tryz.prog Tryz.f4.params.toList (Tryz.f4.params.toList ++ Rows.dagAnySpec.plain.varTypes Tryz.prog ++ Tryz.f4.resultTypes.toList) = true := by kernel_rfl
set_option maxRecDepth 100000 in
theorem dgAny_facts : joinedFacts Tryz.prog 4 Tryz.f4 (Rows.dagAnySpec) Rows.dagAnyRow = true := by
  unfold joinedFacts
  exact dgAny_and (dgAny_and (dgAny_and (dgAny_and (dgAny_and (dgAny_and (dgAny_and (dgAny_and (dgAny_and (dgAny_and (dgAny_and (dgAny_and (dgAny_and (dgAny_and (dgAny_and (dgAny_and (dgAny_and (dgAny_and (dgAny_and (dgAny_and (dgAny_and (dgAny_and (dgAny_and (dgAny_and (dgAny_and (dgAny_and (dgAny_and (dgAny_and (dgAny_and (dgAny_and (dgAny_and dgAny_j1 dgAny_j2) dgAny_j3) dgAny_j4) dgAny_j5) dgAny_j6) dgAny_j7) dgAny_j8) dgAny_j9) dgAny_j10) dgAny_j11) dgAny_j12) dgAny_j13) dgAny_j14) dgAny_j15) dgAny_j16) dgAny_j17) dgAny_j18) dgAny_j19) dgAny_j20) dgAny_j21) dgAny_j22) dgAny_j23) dgAny_j24) dgAny_j25) dgAny_j26) dgAny_j27) dgAny_j28) dgAny_j29) dgAny_j30) dgAny_j31) dgAny_j32
end Go.Proofs.YtmfaodapofamfaaGreat

