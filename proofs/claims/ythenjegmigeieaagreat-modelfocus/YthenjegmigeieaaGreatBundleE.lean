/- Own texts, one behind the other (part 5). -/
import Derived.Test.YthenjegmigeieaaGreatBundleD
import Derived.Test.YthenjegmigeieaaGreatRows
import Derived.Deep.Slices
import Derived.Orders
set_option maxRecDepth 100000
set_option maxHeartbeats 8000000
namespace Go.Proofs.YthenjegmigeieaaGreat
open Go.RowKit Go.Shelf
attribute [local go_sem] Oper.semAt_some
namespace St
structure RuleIn (n:Nat) (r:Sc.Rule):Prop where
 h0:0≤r.pred
 h1:r.pred<(n:Int)
 hb:Bound n r.body
 hl:r.body.length≤4
def edgesOf (l:List Sc.Rule):List Fx.Edge:=l.flatMap ruleE
theorem edgesOf_snoc (l:List Sc.Rule) (r:Sc.Rule):edgesOf (l++[r])=edgesOf l++ruleE r:=by unfold edgesOf; rw [List.flatMap_append]; simp
theorem ruleE_length (r:Sc.Rule):(ruleE r).length≤r.body.length:=by unfold ruleE; rw [List.length_map]; exact List.length_filter_le _ _
theorem ruleE_one {r:Sc.Rule}:∀ e,e∈ruleE r→e.2.2≤1:=fun e he=>by
 unfold ruleE at he
 obtain ⟨x,_,rfl⟩:=List.mem_map.mp he
 rcases strict01 r x with h | h <;> simp [h]
end St
structure RSt (w:World) (LB n cap:Nat) (W:World) (cur:List Int) (fl:Bool):Prop where
 gr:w.grownBy W (some LB)
 row:W.heap[LB]?=some (.cells (intRow cur) 3)
 box:W.heap[w.heap.size]?=some (.cells #[.slice (some ⟨LB,0,none⟩) n cap] 22)
 flag:W.heap[w.heap.size+1]?=some (.cells #[.bool fl] 4)
theorem box_cell {W:World} {b:Nat} {v:Value} {t:TypeId} (h:W.heap[b]?=some (.cells #[v] t)):W.cell? ⟨b,0,none⟩=some v:=by rw [Lib.cell_of_heap h]; rfl
structure RMem (wr W2:World) (rb:Obj):Prop where
 bel:Below wr.heap.size wr W2
 qb:W2.heap[wr.heap.size]?=some rb
 rb:W2.heap[wr.heap.size+1]?=some rb
 sz:W2.heap.size=wr.heap.size+2
theorem raise_mem (wr W2:World) (rb:Obj) (h2:W2=(wr.alloc rb).alloc rb):RMem wr W2 rb:=by
 subst h2
 have b1:=(Below.refl wr.heap.size wr).alloc (Nat.le_refl _) rb
 have p1:=heap_alloc_new wr rb
 have s1:(wr.alloc rb).heap.size=wr.heap.size+1:=by simp
 generalize wr.alloc rb=x1 at *
 have b2:=(Below.refl x1.heap.size x1).alloc (Nat.le_refl _) rb
 have p2:=heap_alloc_new x1 rb
 refine ⟨b1.trans (b2.mono b1.size),(b2.block _ (by omega)).trans p1,by rw [← s1]; exact p2,by simp [s1]⟩
def edgeOf {n:Nat} (h:Nat) (p:HP n):Fx.Edge:=(h,p.1.1.toNat,p.1.2)
structure RIn (w wr W2:World) (LB n cap:Nat) (rb:Obj) (ds:List Deferred) (l:List Int) (E:List Fx.Edge) (h:Nat) {np:Nat} (pre:List (HP np)) (W:World):Prop where
 st:RSt w LB n cap W (Fx.round (E++pre.map (edgeOf h)) l) (decide (Fx.round (E++pre.map (edgeOf h)) l≠l))
 qb:W.heap[wr.heap.size]?=some rb
 mks:MarksL (w.heap.size+2) W ds
 sz:W2.heap.size≤W.heap.size
theorem RIn_start {w wr W2:World} {LB n cap:Nat} {rb:Obj} {ds:List Deferred} {l:List Int} {E:List Fx.Edge} {h np:Nat} (hS:RSt w LB n cap wr (Fx.round E l) (decide (Fx.round E l≠l))) (hM:MarksL (w.heap.size+2) wr ds) (hW:RMem wr W2 rb):RIn w wr W2 LB n cap rb ds l E h ([]:List (HP np)) W2:=by
 have h1:=Nat.lt_of_lt_of_le (Array.getElem?_eq_some_iff.mp hS.flag).1 (Nat.le_refl _)
 refine ⟨?_,hW.qb,hM.keep fun D _ _ hD=>(hW.bel.block D (Array.getElem?_eq_some_iff.mp hD).1).trans hD,Nat.le_refl _⟩
 rw [List.map_nil,List.append_nil]
 refine ⟨⟨hW.bel.os.trans hS.gr.os,hW.bel.tape.trans hS.gr.tape,hW.bel.output.trans hS.gr.output,Nat.le_trans hS.gr.size hW.bel.size,fun j hj hn=>(hW.bel.block j (Nat.lt_of_lt_of_le hj hS.gr.size)).trans (hS.gr.block j hj hn)⟩,(hW.bel.block _ (Array.getElem?_eq_some_iff.mp hS.row).1).trans hS.row,(hW.bel.block _ (Array.getElem?_eq_some_iff.mp hS.box).1).trans hS.box,(hW.bel.block _ h1).trans hS.flag⟩
theorem RIn_own {w wr W2:World} {LB n cap:Nat} {rb:Obj} {ds:List Deferred} {l:List Int} {np:Nat} {c0:List Int} {f0:Bool} (hS:RSt w LB n cap wr c0 f0) (hM:MarksL (w.heap.size+2) wr ds) (hW:RMem wr W2 rb) (E:List Fx.Edge) (h:Nat) :
 OwnFrom W2.heap.size (fun (pre:List (HP np)) W=>RIn w wr W2 LB n cap rb ds l E h pre W):=by
 intro pre A B row hI hg hr
 have hsz:=hW.sz
 have hgs:=hS.gr.size
 have hfl:=(Array.getElem?_eq_some_iff.mp hS.flag).1
 have hrw:=(Array.getElem?_eq_some_iff.mp hS.row).1
 have keep:∀ j,j<W2.heap.size→B.heap[j]?=A.heap[j]?:=fun j hj=>hg.block j (Nat.lt_of_lt_of_le hj hI.sz) (fun e=>by have:=(hr j e.symm).1; omega)
 refine ⟨⟨⟨hg.os.trans hI.st.gr.os,hg.tape.trans hI.st.gr.tape,hg.output.trans hI.st.gr.output,Nat.le_trans hI.st.gr.size hg.size,fun j hj hn=>(keep j (by omega)).trans (hI.st.gr.block j hj hn)⟩,(keep _ (by omega)).trans hI.st.row,(keep _ (by omega)).trans hI.st.box,(keep _ (by omega)).trans hI.st.flag⟩,(keep _ (by omega)).trans hI.qb,hI.mks.keep fun D _ hm hD=>?_,Nat.le_trans hI.sz hg.size⟩
 have:=(Array.getElem?_eq_some_iff.mp (hM.mem D hm)).1
 exact (keep D (by omega)).trans hD
theorem round_pre {np:Nat} (E:List Fx.Edge) (h:Nat) (pre:List (HP np)) (x:HP np):E++(pre++[x]).map (edgeOf h)=(E++pre.map (edgeOf h))++[edgeOf h x]:=by rw [List.map_append,List.append_assoc]; rfl
section
variable {w wr W2 W:World} {LB n cap:Nat} {rb:Obj} {ds:List Deferred} {l:List Int} {E:List Fx.Edge} {h np:Nat} {pre:List (HP np)}
theorem RIn_no (hI:RIn w wr W2 LB n cap rb ds l E h pre W) (x:HP np) (hh:h<l.length) (hno:¬ (Fx.round (E++pre.map (edgeOf h)) l).getD h 0<(Fx.round (E++pre.map (edgeOf h)) l).getD x.1.1.toNat 0+x.1.2):RIn w wr W2 LB n cap rb ds l E h (pre++[x]) W:=by
 refine ⟨?_,hI.qb,hI.mks,hI.sz⟩
 rw [round_pre,Fx.rose_snoc _ _ _ hh,Fx.round_snoc]
 have h1:Fx.step (Fx.round (E++pre.map (edgeOf h)) l) (edgeOf h x)=Fx.round (E++pre.map (edgeOf h)) l:=by unfold Fx.step; exact if_neg hno
 have h2:decide ((Fx.round (E++pre.map (edgeOf h)) l).getD (edgeOf h x).1 0<(Fx.round (E++pre.map (edgeOf h)) l).getD (edgeOf h x).2.1 0+(edgeOf h x).2.2)=false:=decide_eq_false hno
 rw [h1,h2,Bool.or_false]
 exact hI.st
theorem RIn_yes (hI:RIn w wr W2 LB n cap rb ds l E h pre W) (x:HP np) (hh:h<l.length) (hLw:LB<w.heap.size) (hwr:w.heap.size+2≤wr.heap.size) (hyes:(Fx.round (E++pre.map (edgeOf h)) l).getD h 0<(Fx.round (E++pre.map (edgeOf h)) l).getD x.1.1.toNat 0+x.1.2) :
 RIn w wr W2 LB n cap rb ds l E h (pre++[x]) ((W.setCell ⟨LB,h,none⟩ (.int .i64 ((Fx.round (E++pre.map (edgeOf h)) l).getD x.1.1.toNat 0+x.1.2))).setCell ⟨w.heap.size+1,0,none⟩ (.bool true)):=by
 have other:∀ j,¬ j=LB→¬ j=w.heap.size+1→((W.setCell ⟨LB,h,none⟩ (.int .i64 ((Fx.round (E++pre.map (edgeOf h)) l).getD x.1.1.toNat 0+x.1.2))).setCell ⟨w.heap.size+1,0,none⟩ (.bool true)).heap[j]?=W.heap[j]?:=fun j h1 h2=>by rw [heap_set_other h2,heap_set_other h1]
 have h2:decide ((Fx.round (E++pre.map (edgeOf h)) l).getD (edgeOf h x).1 0<(Fx.round (E++pre.map (edgeOf h)) l).getD (edgeOf h x).2.1 0+(edgeOf h x).2.2)=true:=decide_eq_true hyes
 have h1:Fx.step (Fx.round (E++pre.map (edgeOf h)) l) (edgeOf h x)=(Fx.round (E++pre.map (edgeOf h)) l).set h ((Fx.round (E++pre.map (edgeOf h)) l).getD x.1.1.toNat 0+x.1.2):=by unfold Fx.step; exact if_pos hyes
 refine ⟨?_,(other _ (by omega) (by omega)).trans hI.qb,hI.mks.keep fun D hD hm hd=>(other D (by omega) (by omega)).trans hd,?_⟩
 · rw [round_pre,Fx.rose_snoc _ _ _ hh,Fx.round_snoc,h1,h2,Bool.or_true]
   refine ⟨⟨hI.st.gr.os,hI.st.gr.tape,hI.st.gr.output,?_,fun j hj hn=>?_⟩,?_,(other _ (by omega) (by omega)).trans hI.st.box,?_⟩
   · have:=hI.st.gr.size; simpa using this
   · have hjl:¬ j=LB:=fun e=>hn (by rw [e])
     exact (other j hjl (by omega)).trans (hI.st.gr.block j hj hn)
   · rw [heap_set_other (by omega)]
     exact intRow_set hI.st.row _ _
   · have hf:(W.setCell ⟨LB,h,none⟩ (.int .i64 ((Fx.round (E++pre.map (edgeOf h)) l).getD x.1.1.toNat 0+x.1.2))).heap[w.heap.size+1]?=some (.cells #[.bool _] 4):=(heap_set_other (by omega)).trans hI.st.flag
     rw [Lib.heap_setCell_same hf]
     rfl
 · have:=hI.sz; simpa using this
end
theorem edgesOf_length:∀ (l:List Sc.Rule),(∀ r,r∈l→r.body.length≤4)→(St.edgesOf l).length≤4 * l.length
 | [],_=>Nat.zero_le _
 | r::l,h=>by
  have ih:=edgesOf_length l (fun x hx=>h x (List.mem_cons_of_mem _ hx))
  have h1:=h r List.mem_cons_self
  have h2:=St.ruleE_length r
  unfold St.edgesOf at ih ⊢
  rw [List.flatMap_cons,List.length_append,List.length_cons]
  omega
theorem edgesOf_one (l:List Sc.Rule):∀ e,e∈St.edgesOf l→e.2.2≤1:=fun e he=>by
 obtain ⟨r,_,h⟩:=List.mem_flatMap.mp he
 exact St.ruleE_one e h
theorem raise_any (wp w:World) (rules:List Sc.Rule) (vr:Value) (l:List Int) (LB cap:Nat) (K:Int) (hV:PRulesV wp vr rules) (hB:Below wp.heap.size wp w) (hLB:wp.heap.size≤LB) (hrow:w.heap[LB]?=some (.cells (intRow l) 3))
 (hR:∀ r,r∈rules→St.RuleIn l.length r) (hn:rules.length≤12) (hk0:∀ i:Nat,0≤l.getD i 0) (hk1:∀ i:Nat,l.getD i 0≤K) (hK:K≤1000000) :
 Calls Tryz.prog 122 #[.slice (some ⟨LB,0,none⟩) l.length cap,vr] w fun e w'=>e=.returned (.bool (decide (Fx.round (St.edgesOf rules) l≠l)))∧w'.heap[LB]?=some (.cells (intRow (Fx.round (St.edgesOf rules) l)) 3)∧w.grownBy w' (some LB):=by
 obtain ⟨ar,cr,rfl,hA⟩:=hV
 have HA:Hid (PRulesAt wp ar rules):=hA
 have hLw:LB<w.heap.size:=(Array.getElem?_eq_some_iff.mp hrow).1
 refine (callsIn_wide (n:=3)).1 ?_
 refine callsIn_of_wp_marks Tryz.func122 rfl trivial ?_ rfl
 simp only [Tryz.ntmps122,List.size_toArray,List.length_cons,List.length_nil,Nat.reduceAdd,Nat.reduceSub,Array.replicate_succ,Array.replicate_zero,List.push_toArray,List.append_toArray,List.nil_append,List.cons_append]
 have hSt:RSt w LB l.length cap ((w.alloc (.cells #[.slice (some ⟨LB,0,none⟩) l.length cap] 22)).alloc (.cells #[.bool false] 4)) l false:=by
  have b1:=(Below.refl w.heap.size w).alloc (Nat.le_refl _) (.cells #[.slice (some ⟨LB,0,none⟩) l.length cap] 22)
  have p1:=heap_alloc_new w (.cells #[.slice (some ⟨LB,0,none⟩) l.length cap] 22)
  have s1:(w.alloc (.cells #[.slice (some ⟨LB,0,none⟩) l.length cap] 22)).heap.size=w.heap.size+1:=by simp
  generalize w.alloc (.cells #[.slice (some ⟨LB,0,none⟩) l.length cap] 22)=x1 at *
  have b2:=(Below.refl x1.heap.size x1).alloc (Nat.le_refl _) (.cells #[.bool false] 4)
  have p2:=heap_alloc_new x1 (.cells #[.bool false] 4)
  have b12:=b1.trans (b2.mono b1.size)
  refine ⟨⟨b12.os,b12.tape,b12.output,b12.size,fun j hj _=>b12.block j hj⟩,(b12.block _ hLw).trans hrow,(b2.block _ (by omega)).trans p1,?_⟩
  rw [s1] at p2
  exact p2
 have HST:Hid _:=hSt
 have HRR:Hid _:=hR
 have HROW:Hid _:=hrow
 have HK0:Hid ((∀ i:Nat,0≤l.getD i 0)∧∀ i:Nat,l.getD i 0≤K):=⟨hk0,hk1⟩
 clear hSt hR hrow hA hk0 hk1
 gi_wp2
 refine wpIn_loop (fun a wr=>∃ (k:Nat) (ds:List Deferred) (x7 x8 x9 x10 x14 x15 x16 x17 x18 x19 x20 x21 x22 x23 x24 x25 x26 x27 x28 x29 x30 x31 x32 x33 x34 x35 x36 x37 x38 x39:Value),k≤rules.length∧a={ tmps:=#[.slice (some ⟨LB,0,none⟩) l.length cap,.slice ar rules.length cr,.pointer (some ⟨w.heap.size,0,none⟩),undef,.bool false,.pointer (some ⟨w.heap.size+1,0,none⟩),undef,x7,x8,x9,x10,.slice ar rules.length cr,.int .i64 rules.length,.int .i64 k,x14,x15,x16,x17,x18,x19,x20,x21,x22,x23,x24,x25,x26,x27,x28,x29,x30,x31,x32,x33,x34,x35,x36,x37,x38,x39,undef],defers:=ds }∧RSt w LB l.length cap wr (Fx.round (St.edgesOf (rules.take k)) l) (decide (Fx.round (St.edgesOf (rules.take k)) l≠l))∧MarksL (w.heap.size+2) wr ds) (fun a _=>rules.length - (intOf (a.tmps.getD 13 undef)).toNat) ?h0 ?round
 case h0=>exact ⟨0,[],_,_,_,_,_,_,_,_,_,_,_,_,_,_,_,_,_,_,_,_,_,_,_,_,_,_,_,_,_,_,Nat.zero_le _,rfl,by simpa [St.edgesOf,Fx.round] using HST.out,trivial⟩
 case round =>
  clear HST
  rintro a wr ⟨k,ds,x7,x8,x9,x10,x14,x15,x16,x17,x18,x19,x20,x21,x22,x23,x24,x25,x26,x27,x28,x29,x30,x31,x32,x33,x34,x35,x36,x37,x38,x39,hk,rfl,hS,hM⟩
  have hBw:Below wp.heap.size wp wr:=⟨hS.gr.os.trans hB.os,hS.gr.tape.trans hB.tape,hS.gr.output.trans hB.output,Nat.le_trans hB.size hS.gr.size,fun j hj=>(hS.gr.block j (Nat.lt_of_lt_of_le hj hB.size) (fun e=>by injection e with e; omega)).trans (hB.block j hj)⟩
  have HS:Hid _:=hS
  have HM:Hid _:=hM
  have HBW:Hid _:=hBw
  clear hS hM
  by_cases hlt:k<rules.length
  · obtain ⟨b,off,rfl,p0,⟨vt,p1,hT⟩,p2,⟨vb,p3,hLL⟩,p4⟩:=prules_at HA.out k hlt
    obtain ⟨at_,ct,rfl,_⟩:=hT
    obtain ⟨ab,cb,rfl,hLL⟩:=hLL
    have HLL:Hid _:=hLL
    have HRI:Hid (St.RuleIn l.length (Sc.ruleD rules k)):=HRR.out _ (by unfold Sc.ruleD; rw [List.getD_eq_getElem?_getD,List.getElem?_eq_getElem hlt]; exact List.getElem_mem hlt)
    have HTK:Hid (rules.take (k+1)=rules.take k++[Sc.ruleD rules k]):=by
     show _=_
     rw [List.take_add_one]
     congr 1
     unfold Sc.ruleD
     rw [List.getD_eq_getElem?_getD,List.getElem?_eq_getElem hlt]
     rfl
    have q0:=cell_below hBw p0
    have q1:=cell_below hBw p1
    have q2:=cell_below hBw p2
    have q3:=cell_below hBw p3
    have q4:=cell_below hBw p4
    clear p0 p1 p2 p3 p4 hLL hBw
    generalize Sc.ruleD rules k=r at *
    gi_wp2
    refine ⟨trivial,?_⟩
    refine (hangs_in Fence.wide _ trivial rfl r _ _ _ _ _).mono ?_
    rintro e w' ⟨rfl,rfl⟩
    gi_wp2
    clear q0 q1 q2 q3 q4
    obtain ⟨W2,hW2⟩:∃ W2,W2=((wr.alloc (.cells #[.int .i64 r.pred,.slice at_ r.terms.length ct,.int .i64 r.fold,.slice ab r.body.length cb,.int .i64 r.vars] 40)).alloc (.cells #[.int .i64 r.pred,.slice at_ r.terms.length ct,.int .i64 r.fold,.slice ab r.body.length cb,.int .i64 r.vars] 40)):=⟨_,rfl⟩
    have HW:=raise_mem wr W2 (.cells #[.int .i64 r.pred,.slice at_ r.terms.length ct,.int .i64 r.fold,.slice ab r.body.length cb,.int .i64 r.vars] 40) hW2
    rw [← hW2]
    clear hW2
    have HW:Hid _:=HW
    have hRp:=HRI.out.h0
    have hRq:=HRI.out.h1
    obtain ⟨pr,hpr⟩:∃ pr:Nat,Hid (r.pred=pr):=⟨r.pred.toNat,show _=_ by omega⟩
    clear hRp hRq
    refine wpIn_rangeFunc_ownG (n:=3) rfl (by omega) (gf:=204) (lb:=#[.pointer (some ⟨wr.heap.size+1,0,none⟩)]) ?hg trivial (enters_of Tryz.func204 (by kernel_rfl) rfl)
     (hangs_stops Fence.wide 2 trivial rfl (by omega) (wr.heap.size+1) wp l.length r _ ab cb HLL.out (Nat.le_trans HRI.out.hl (by decide)) HRI.out.hb W2 (HBW.out.trans (HW.out.bel.mono HBW.out.size)) HW.out.rb) (fun h k=>HK.trans h k)
     (fun W j o o' hl h h1 h2=>HK.put (Nat.le_trans HBW.out.size HW.out.bel.size) W j o o' hl h h1 h2) (Below.refl _ _) (fun _=>rfl)
     (fun pre W=>RIn w wr W2 LB l.length cap (.cells #[.int .i64 r.pred,.slice at_ r.terms.length ct,.int .i64 r.fold,.slice ab r.body.length cb,.int .i64 r.vars] 40) ds l (St.edgesOf (rules.take k)) pr pre W) (fun _ _ _=>False) (RIn_own HS.out HM.out HW.out _ _) (fun _ _ _ _ _ h _ _=>h) (RIn_start HS.out HM.out HW.out)
     (fun x=>{ tmps:=#[.slice (some ⟨LB,0,none⟩) l.length cap,.slice (some ⟨b,off,none⟩) rules.length cr,.pointer (some ⟨w.heap.size,0,none⟩),undef,.bool false,.pointer (some ⟨w.heap.size+1,0,none⟩),undef,.pointer (some ⟨wr.heap.size,0,none⟩),.int .i64 x.1.1,.int .i64 x.1.2,x10,.slice (some ⟨b,off,none⟩) rules.length cr,.int .i64 rules.length,.int .i64 k,.bool true,.pointer (some ⟨b,off+k * 5,none⟩),.agg #[.int .i64 r.pred,.slice at_ r.terms.length ct,.int .i64 r.fold,.slice ab r.body.length cb,.int .i64 r.vars],.agg #[.int .i64 r.pred,.slice at_ r.terms.length ct,.int .i64 r.fold,.slice ab r.body.length cb,.int .i64 r.vars],.func (.func 204) #[] #[.pointer (some ⟨wr.heap.size+1,0,none⟩)],.int .i64 x.1.1,.int .i64 x.1.2,x21,x22,x23,x24,x25,x26,x27,x28,x29,x30,x31,x32,x33,x34,x35,x36,x37,x38,x39,undef],defers:=[] }) ?assign ?body ?done ?stop
    case hg=>rfl
    case assign =>
     intro l x W K hK
     gi_wp2
     exact hK
    case stop =>
     rintro D c pre W _ _ h _
     exact h.elim
    case done =>
     rintro D ys W hD rfl hI hK
     have hsz:=HW.out.sz
     have HE:Hid (Fx.round (St.edgesOf (rules.take (k+1))) l=Fx.round (St.edgesOf (rules.take k)++(St.pairs l.length r r.body).map (edgeOf pr)) l):=by
      show _=_
      have hpt:r.pred.toNat=pr:=by have:=hpr.out; omega
      rw [← hpt]
      rw [HTK.out,St.edgesOf_snoc]
      congr 2
      exact (St.pairs_edges HRI.out.hb).symm
     gi_wp2
     refine ⟨⟨k+1,_,_,_,_,_,_,_,_,_,_,_,_,_,_,_,_,_,_,_,_,_,_,_,_,_,_,_,_,_,_,_,hlt,rfl,?_,?_⟩,?_⟩
     · rw [HE.out]
       exact hI.st
     · refine ⟨⟨D,?_,rfl,hK,fun d' hd' e=>?_⟩,hI.mks⟩
       · have:=(Array.getElem?_eq_some_iff.mp HS.out.flag).1
         omega
       · subst e
         have:=(Array.getElem?_eq_some_iff.mp (HM.out.mem D hd')).1
         omega
     · simp [intOf]
       omega
    case body =>
     rintro l0 pre ⟨⟨pq,m⟩,h0,h1,hm⟩ W hI hpl
     dsimp only at h0 h1 hm
     obtain ⟨q,hq⟩:∃ q:Nat,pq=q:=⟨pq.toNat,by omega⟩
     subst hq
     have hpn:pr<l.length:=by have:=HRI.out.h1; have:=hpr.out; omega
     have hq1:q<l.length:=by omega
     have HI:Hid _:=hI
     have hwz:=(Array.getElem?_eq_some_iff.mp HS.out.flag).1
     have hgz:=HBW.out.size
     have c0:W.cell? ⟨w.heap.size,0,none⟩=some (.slice (some ⟨LB,0,none⟩) l.length cap):=by rw [Lib.cell_of_heap hI.st.box]; rfl
     have c1:W.cell? ⟨wr.heap.size,0,none⟩=some (.int .i64 pr):=by rw [Lib.cell_of_heap hI.qb,← hpr.out]; rfl
     have hcl:(Fx.round (St.edgesOf (rules.take k)++pre.map (edgeOf pr)) l).length=l.length:=Fx.round_length _ _
     have c2:=intRow_cell hI.st.row (i:=q) (by omega)
     have c3:=intRow_cell hI.st.row (i:=pr) (by omega)
     have f3:=Lib.frozen_of_heap hI.st.row pr
     have HFL:Hid _:=fun (v:Value)=>(heap_set_other (w:=W) (b:=LB) (c:=w.heap.size+1) (i:=pr) (v:=v) (by omega)).trans hI.st.flag
     have hlo:∀ i:Nat,0≤(Fx.round (St.edgesOf (rules.take k)++pre.map (edgeOf pr)) l).getD i 0:=fun i=>Int.le_trans (HK0.out.1 i) ((Fx.round_le _ l).2 i)
     have hel:(St.edgesOf (rules.take k)).length≤4 * rules.length:=Nat.le_trans (edgesOf_length _ (fun r hr=>(HRR.out r (List.mem_of_mem_take hr)).hl)) (by rw [List.length_take]; omega)
     have hhi:∀ i:Nat,(Fx.round (St.edgesOf (rules.take k)++pre.map (edgeOf pr)) l).getD i 0≤K+(4 * 12+4):=fun i=>by
      have h9:=Fx.round_bound (St.edgesOf (rules.take k)++pre.map (edgeOf pr)) (l:=l) (K:=K) HK0.out.2 (fun e he=>by
       rcases List.mem_append.mp he with h | h
       · exact edgesOf_one _ e h
       · obtain ⟨y,_,rfl⟩:=List.mem_map.mp h
         show y.1.2≤1
         rcases y.2.2.2 with h | h <;> omega) i
      rw [List.length_append,List.length_map] at h9
      have:=HRI.out.hl
      omega
     have hlq:=hlo q
     have hhq:=hhi q
     have HYES:Hid (∀ A Bv:Int,A=(Fx.round (St.edgesOf (rules.take k)++pre.map (edgeOf pr)) l).getD q 0→Bv=(Fx.round (St.edgesOf (rules.take k)++pre.map (edgeOf pr)) l).getD pr 0→Bv<A+m→RIn w wr W2 LB l.length cap (.cells #[.int .i64 r.pred,.slice at_ r.terms.length ct,.int .i64 r.fold,.slice ab r.body.length cb,.int .i64 r.vars] 40) ds l (St.edgesOf (rules.take k)) pr (pre++[⟨((q:Int),m),h0,h1,hm⟩]) ((W.setCell ⟨LB,pr,none⟩ (.int .i64 (A+m))).setCell ⟨w.heap.size+1,0,none⟩ (.bool true))):=fun A Bv hA hB hy=>by
      subst hA hB
      exact RIn_yes HI.out ⟨((q:Int),m),h0,h1,hm⟩ hpn hLw (by omega) hy
     have HNO:Hid (∀ A Bv:Int,A=(Fx.round (St.edgesOf (rules.take k)++pre.map (edgeOf pr)) l).getD q 0→Bv=(Fx.round (St.edgesOf (rules.take k)++pre.map (edgeOf pr)) l).getD pr 0→¬ Bv<A+m→RIn w wr W2 LB l.length cap (.cells #[.int .i64 r.pred,.slice at_ r.terms.length ct,.int .i64 r.fold,.slice ab r.body.length cb,.int .i64 r.vars] 40) ds l (St.edgesOf (rules.take k)) pr (pre++[⟨((q:Int),m),h0,h1,hm⟩]) W):=fun A Bv hA hB hy=>by
      subst hA hB
      exact RIn_no HI.out ⟨((q:Int),m),h0,h1,hm⟩ hpn hy
     obtain ⟨A,hA⟩:∃ A:Int,A=(Fx.round (St.edgesOf (rules.take k)++pre.map (edgeOf pr)) l).getD q 0:=⟨_,rfl⟩
     obtain ⟨Bv,hBv⟩:∃ Bv:Int,Bv=(Fx.round (St.edgesOf (rules.take k)++pre.map (edgeOf pr)) l).getD pr 0:=⟨_,rfl⟩
     replace HYES:Hid _:=HYES.out A Bv hA hBv
     replace HNO:Hid _:=HNO.out A Bv hA hBv
     rw [← hA] at c2 hlq hhq
     rw [← hBv] at c3
     have hm0:0≤m:=by omega
     have hm1:m≤1:=by omega
     have HKL:Hid (wp.heap.size≤LB∧LB<w.heap.size∧w.heap.size+2≤wr.heap.size):=⟨hLB,hLw,by omega⟩
     have hwp:wp.heap.size≤w.heap.size:=by omega
     clear hI hlo hhi hel hcl hA hBv hwz hgz
     by_cases hy:Bv<A+m
     · have hyd:decide (Bv<A+m)=true:=decide_eq_true hy
       replace HYES:Hid _:=HYES.out hy
       have c6:=box_cell (HFL.out (.int .i64 (A+m)))
       have f6:=Lib.frozen_of_heap (HFL.out (.int .i64 (A+m))) 0
       clear HNO hy
       gi_wp2
       refine ⟨((KeepsOthers.setCell _ _ _).trans (KeepsOthers.setCell _ _ _)).from _,⟨((Below.refl _ W).setCell (p:=⟨LB,pr,none⟩) HKL.out.1 _).setCell (p:=⟨w.heap.size+1,0,none⟩) (Nat.le_succ_of_le hwp) _,fun o _ hR=>?_⟩,HYES.out⟩
       have h9:=HKL.out
       rw [heap_set_other (by omega),heap_set_other (by omega)]
       exact hR
     · have hyd:decide (Bv<A+m)=false:=decide_eq_false hy
       replace HNO:Hid _:=HNO.out hy
       clear HYES hy
       gi_wp2
       exact ⟨KeepsFrom.refl _ _,HK.refl _ _ _,HNO.out⟩
  · obtain rfl:k=rules.length:=by omega
    have c5:wr.cell? ⟨w.heap.size+1,0,none⟩=some (.bool (decide (Fx.round (St.edgesOf (rules.take rules.length)) l≠l))):=by rw [Lib.cell_of_heap HS.out.flag]; rfl
    rw [List.take_length] at *
    obtain ⟨fb,hfb⟩:∃ fb,fb=decide (Fx.round (St.edgesOf rules) l≠l):=⟨_,rfl⟩
    rw [← hfb] at c5
    have HFB:Hid _:=hfb
    clear hfb
    gi_wp2
    have hrw:=(Array.getElem?_eq_some_iff.mp HROW.out).1
    refine marks_leave (B:=w.heap.size+2) (v:=.bool fb) (fun w=>results_tmp (t:=4) rfl _ _ w) ds wr HM.out (fun w' hb=>⟨by rw [HFB.out],?_,?_⟩)
    · exact (hb.block LB (by omega)).trans HS.out.row
    · exact ⟨hb.os.trans HS.out.gr.os,hb.tape.trans HS.out.gr.tape,hb.output.trans HS.out.gr.output,Nat.le_trans HS.out.gr.size hb.size,fun j hj hn=>(hb.block j (by omega)).trans (HS.out.gr.block j hj hn)⟩
end Go.Proofs.YthenjegmigeieaaGreat
namespace Go.Proofs.YthenjegmigeieaaGreat
open Go.RowKit
namespace St
theorem thn_zero_iff {a b:Int} (h:Sc.thn a b=0):a=0∧b=0:=by
 unfold Sc.thn at h
 split at h
 · exact ⟨by assumption,h⟩
 · exact absurd h (by assumption)
theorem check_in {p:Sc.Prog} (h:Sc.check p=0):p.arity.length≤10∧p.rules.length≤12∧∀ r,r∈p.rules→RuleIn p.arity.length r:=by
 unfold Sc.check at h
 split at h
 · omega
 · rename_i h1
   split at h
   · omega
   · refine ⟨by omega,by omega,fun r hr=>?_⟩
     have h2:=first_zero (thn_zero_iff h).2 r hr
     unfold Sc.ruleErr at h2
     split at h2
     · rename_i hp
       obtain ⟨_,h2⟩:=thn_zero_iff h2
       obtain ⟨_,h2⟩:=thn_zero_iff h2
       obtain ⟨_,h2⟩:=thn_zero_iff h2
       obtain ⟨_,h2⟩:=thn_zero_iff h2
       obtain ⟨_,h2⟩:=thn_zero_iff h2
       obtain ⟨h4,h2⟩:=thn_zero_iff h2
       obtain ⟨h5,_⟩:=thn_zero_iff h2
       have hpp:0≤r.pred∧r.pred≤(p.arity.length:Int) - 1:=by
        unfold Sc.isPred Tr.between at hp
        simpa using hp
       refine ⟨hpp.1,by omega,fun x hx hk=>?_,?_⟩
       · have h6:=first_zero h5 x hx
         obtain ⟨h6,_⟩:=thn_zero_iff h6
         unfold Sc.litErr at h6
         rw [if_pos (of_decide_eq_true hk)] at h6
         split at h6
         · omega
         · split at h6
           · rename_i h7
             unfold Sc.isPred Tr.between at h7
             have h8:0≤x.pred∧x.pred≤(p.arity.length:Int) - 1:=by simpa using h7
             omega
           · omega
       · by_cases h9:4<r.body.length
         · rw [if_pos h9] at h4; omega
         · omega
     · omega
theorem back_in {p:Sc.Prog} (h:∀ r,r∈p.rules→RuleIn p.arity.length r):Fx.In (back p) p.arity.length:=fun e he=>by
 obtain ⟨r,hr,h2⟩:=List.mem_flatMap.mp he
 unfold ruleN at h2
 obtain ⟨x,hx,rfl⟩:=List.mem_map.mp h2
 have h3:=(h r hr).hb x (List.mem_filter.mp hx).1 (List.mem_filter.mp hx).2
 show x.pred.toNat<p.arity.length
 omega
def levErr (p:Sc.Prog):Int:=if Sc.check p=0 then (if flat p then 0 else 4) else Sc.check p
def levOut (p:Sc.Prog):List Int:=if Sc.check p=0∧flat p=true then level p else []
theorem levErr_bad {p:Sc.Prog} (h:¬ Sc.check p=0):levErr p=Sc.check p∧levOut p=[]:=by
 unfold levErr levOut
 rw [if_neg h,if_neg (fun k=>h k.1)]
 exact ⟨rfl,rfl⟩
theorem levErr_flat {p:Sc.Prog} (h:Sc.check p=0) (hf:flat p=true):levErr p=0∧levOut p=level p:=by
 unfold levErr levOut
 rw [if_pos h,if_pos hf,if_pos ⟨h,hf⟩]
 exact ⟨rfl,rfl⟩
theorem levErr_not {p:Sc.Prog} (h:Sc.check p=0) (hf:flat p=false):levErr p=4∧levOut p=[]:=by
 unfold levErr levOut
 rw [if_pos h,if_neg (by simp [hf]),if_neg (by simp [hf])]
 exact ⟨rfl,rfl⟩
theorem level_early {p:Sc.Prog} {k:Nat} (hk:k≤p.arity.length) (h:Fx.round (edges p) (Fx.iter (edges p) k (zeros p.arity.length))=Fx.iter (edges p) k (zeros p.arity.length)):level p=Fx.iter (edges p) k (zeros p.arity.length)∧flat p=true:=by
 have h1:level p=Fx.iter (edges p) k (zeros p.arity.length):=by
  unfold level
  obtain ⟨d,hd⟩:∃ d,p.arity.length=k+d:=⟨p.arity.length - k,by omega⟩
  rw [hd,Fx.iter_add,← hd,Fx.iter_fix h]
 refine ⟨h1,decide_eq_true ?_⟩
 rw [h1,h]
theorem iter_bound (E:List Fx.Edge) (hE:∀ e,e∈E→e.2.2≤1) (n:Nat):∀ (k i:Nat),(Fx.iter E k (zeros n)).getD i 0≤(k * E.length:Nat)
 | 0,i=>by rw [show Fx.iter E 0 (zeros n)=zeros n from rfl,zeros_getD]; omega
 | k+1,i=>by
  rw [Fx.iter_succ]
  have:=Fx.round_bound E (iter_bound E hE n k) hE i
  rw [Nat.add_mul]
  omega
theorem iter_nonneg (E:List Fx.Edge) (n k i:Nat):0≤(Fx.iter E k (zeros n)).getD i 0:=by
 have:=(Fx.iter_le E k (zeros n)).2 i
 rw [zeros_getD] at this
 exact this
end St
theorem made_ints (n:Nat):madeCells #[Value.int .i64 0] n=intRow (St.zeros n):=by
 unfold intRow St.zeros
 apply Array.ext
 · simp [size_madeCells]
 · intro i h1 h2
   simp [madeCells,Nat.mod_one]
theorem intRow_ints {w:World} {b:Nat} {l:List Int} (cap:Nat) (h:w.heap[b]?=some (.cells (intRow l) 3)):IntsV w (.slice (some ⟨b,0,none⟩) l.length cap) l:=by
 refine ⟨_,_,rfl,.inr ⟨b,0,rfl,fun i hi=>?_⟩⟩
 rw [Nat.zero_add]
 exact intRow_cell h hi
theorem below_row {w wr w5:World} {LB:Nat} (hb:Below w.heap.size w wr) (hg:wr.grownBy w5 (some LB)) (h:w.heap.size≤LB):Below w.heap.size w w5 :=
 ⟨hg.os.trans hb.os,hg.tape.trans hb.tape,hg.output.trans hb.output,Nat.le_trans hb.size hg.size,fun j hj=>(hg.block j (Nat.lt_of_lt_of_le hj hb.size) (fun e=>by injection e with e; omega)).trans (hb.block j hj)⟩
theorem _root_.Go.World.grownBy.trans_row {a b c:World} {LB:Nat} (h:a.grownBy b (some LB)) (k:b.grownBy c (some LB)):a.grownBy c (some LB) :=
 ⟨k.os.trans h.os,k.tape.trans h.tape,k.output.trans h.output,Nat.le_trans h.size k.size,fun j hj hn=>(k.block j (Nat.lt_of_lt_of_le hj h.size) hn).trans (h.block j hj hn)⟩
theorem Levels_any (p:Sc.Prog) (va vn vr:Value) (w:World) (hP:ProgV w va vn vr p) (hF:ProgFit p) :
 Calls Tryz.prog 80 #[progVal va vn vr] w fun e w'=>∃ v,e=.returned (.tuple #[v,.int .i64 (St.levErr p)])∧IntsV w' v (St.levOut p)∧Below w.heap.size w w':=by
 obtain ⟨a0,n0,rfl,_⟩:=id hP.ar
 obtain ⟨a1,n1,rfl,_⟩:=id hP.nm
 obtain ⟨a2,n2,rfl,_⟩:=id hP.rl
 have hb0:Below w.heap.size w (w.alloc (.cells #[.slice a0 p.arity.length n0,.slice a1 p.names.length n1,.slice a2 p.rules.length n2] 26)):=(Below.refl _ _).alloc (Nat.le_refl _) _
 have hX:=heap_alloc_new w (.cells #[.slice a0 p.arity.length n0,.slice a1 p.names.length n1,.slice a2 p.rules.length n2] 26)
 have HP:Hid _:=hP
 have HF:Hid _:=hF
 clear hP hF
 go_enter Tryz.func80,Tryz.ntmps80
 go_wp2_with fail
 generalize w.alloc (.cells #[.slice a0 p.arity.length n0,.slice a1 p.names.length n1,.slice a2 p.rules.length n2] 26)=w1 at *
 refine (ScCheck_any p _ _ _ w1 (HP.out.below hb0) HF.out).mono ?_
 rintro e w2 ⟨rfl,hb2⟩
 have hX2:=(hb2.block _ (Array.getElem?_eq_some_iff.mp hX).1).trans hX
 have hbw:=hb0.trans (hb2.mono hb0.size)
 clear hX hb0 hb2
 by_cases hc:Sc.check p=0
 · obtain ⟨hn,hr,hR⟩:=St.check_in hc
   have HC:Hid (Sc.check p=0):=hc
   have HR:Hid _:=hR
   rw [hc]
   clear hc hR
   have c0:w2.cell? ⟨w.heap.size,0,none⟩=some (.slice a0 p.arity.length n0):=by rw [Lib.cell_of_heap hX2]; rfl
   have hmk:=run_make_row' (P:=Tryz.prog) 22 3 (.int .i64 0) 8 Tryz.underlying22 (by kernel_rfl) rfl .i64 .i64 p.arity.length (by omega) (by omega)
   have b3:=(Below.refl w2.heap.size w2).alloc (Nat.le_refl _) (.cells (madeCells #[Value.int .i64 0] p.arity.length) 3)
   have hrow:=heap_alloc_new w2 (.cells (madeCells #[Value.int .i64 0] p.arity.length) 3)
   have hX3:=(b3.block _ (Array.getElem?_eq_some_iff.mp hX2).1).trans hX2
   have hb3:=hbw.trans (b3.mono hbw.size)
   have c3:(w2.alloc (.cells (madeCells #[Value.int .i64 0] p.arity.length) 3)).cell? ⟨w.heap.size,0,none⟩=some (.slice a0 p.arity.length n0):=by rw [Lib.cell_of_heap hX3]; rfl
   have hlw:w.heap.size<w2.heap.size:=(Array.getElem?_eq_some_iff.mp hX2).1
   clear b3
   go_wp2_with fail
   rw [made_ints] at *
   generalize w2.alloc (.cells (intRow (St.zeros p.arity.length)) 3)=w3 at *
   generalize w2.heap.size=LB at *
   clear hmk c0 hX2 hbw c3
   have HX3:Hid _:=hX3
   have HB3:Hid _:=hb3
   clear hX3 hb3
   go_loopw [19] (fun i wr=>∃ k:Nat,k≤p.arity.length+1∧i=.int .i64 k∧wr.heap[LB]?=some (.cells (intRow (Fx.iter (St.edges p) k (St.zeros p.arity.length))) 3)∧(∀ j,j<k→Fx.round (St.edges p) (Fx.iter (St.edges p) j (St.zeros p.arity.length))≠Fx.iter (St.edges p) j (St.zeros p.arity.length))∧w3.grownBy wr (some LB)) (fun i _=>p.arity.length+1 - (intOf i).toNat)
   case atStart=>exact ⟨0,Nat.zero_le _,rfl,hrow,fun j hj=>absurd hj (Nat.not_lt_zero _),⟨rfl,rfl,rfl,Nat.le_refl _,fun _ _ _=>rfl⟩⟩
   case round =>
    clear hrow
    obtain ⟨k,hk,rfl,hrow,hno,hg⟩:=hrel
    have hXr:wr.heap[w.heap.size]?=some (.cells #[.slice a0 p.arity.length n0,.slice a1 p.names.length n1,.slice a2 p.rules.length n2] 26):=(hg.block _ (Array.getElem?_eq_some_iff.mp HX3.out).1 (fun e=>by injection e with e; omega)).trans HX3.out
    have c2:wr.cell? ⟨w.heap.size,2,none⟩=some (.slice a2 p.rules.length n2):=by rw [Lib.cell_of_heap hXr]; rfl
    have hbr:Below w.heap.size w wr:=⟨hg.os.trans HB3.out.os,hg.tape.trans HB3.out.tape,hg.output.trans HB3.out.output,Nat.le_trans HB3.out.size hg.size,fun j hj=>(hg.block j (Nat.lt_of_lt_of_le hj HB3.out.size) (fun e=>by injection e with e; omega)).trans (HB3.out.block j hj)⟩
    have HBR:Hid _:=hbr
    have HNO:Hid _:=hno
    have HROW:Hid _:=hrow
    have HG:Hid _:=hg
    clear hXr hbr hno hrow hg
    by_cases hlt:k<p.arity.length+1
    · have hel:=edgesOf_length p.rules (fun r hr=>(HR.out r hr).hl)
      have hlen:(Fx.iter (St.edges p) k (St.zeros p.arity.length)).length=p.arity.length:=by rw [Fx.iter_length]; simp [St.zeros]
      have HRA:=raise_any w wr p.rules (.slice a2 p.rules.length n2) (Fx.iter (St.edges p) k (St.zeros p.arity.length)) LB p.arity.length 528 HP.out.rl HBR.out (by omega) HROW.out (by rw [hlen]; exact HR.out) hr (St.iter_nonneg _ _ _) (fun i=>by
       have h9:=St.iter_bound (St.edges p) (edgesOf_one p.rules) p.arity.length k i
       have h8:(k * (St.edges p).length:Nat)≤11 * 48:=Nat.mul_le_mul (by omega) (by show (St.edgesOf p.rules).length≤48; omega)
       omega) (by decide)
      rw [hlen] at HRA
      have HRA:Hid _:=HRA
      clear hel hlen
      go_wp2_with fail
      refine Calls.mono HRA.out ?_
      rintro e w5 ⟨rfl,hrow5,hg5⟩
      have HR5:Hid _:=hrow5
      have HG5:Hid _:=hg5
      clear HRA hrow5 hg5
      by_cases hfx:Fx.round (St.edgesOf p.rules) (Fx.iter (St.edges p) k (St.zeros p.arity.length))=Fx.iter (St.edges p) k (St.zeros p.arity.length)
      · have hfd:decide (Fx.round (St.edgesOf p.rules) (Fx.iter (St.edges p) k (St.zeros p.arity.length))≠Fx.iter (St.edges p) k (St.zeros p.arity.length))=false:=decide_eq_false (fun h=>h hfx)
        have HL:=St.level_early (p:=p) (k:=k) (by omega) hfx
        have HE:=St.levErr_flat HC.out HL.2
        have HL:Hid _:=HL
        have HE:Hid _:=HE
        rw [hfd]
        rw [hfx] at HR5
        clear hfx hfd
        go_wp2_with fail
        refine bodyPost_ret (results_tmp2 rfl _ _ _) rfl ⟨_,by rw [HE.out.1]; rfl,?_,?_⟩
        · rw [HE.out.2,HL.out.1]
          have h9:=intRow_ints p.arity.length HR5.out
          rw [Fx.iter_length,show (St.zeros p.arity.length).length=p.arity.length by simp [St.zeros]] at h9
          exact h9
        · exact below_row HBR.out HG5.out (by omega)
      · have hfd:decide (Fx.round (St.edgesOf p.rules) (Fx.iter (St.edges p) k (St.zeros p.arity.length))≠Fx.iter (St.edges p) k (St.zeros p.arity.length))=true:=decide_eq_true hfx
        have HFX:Hid _:=hfx
        rw [hfd]
        clear hfx hfd
        go_wp2_with fail
        go_roundw
        case rel =>
         refine ⟨k+1,by omega,by go_num,by rw [Fx.iter_succ]; exact HR5.out,fun j hj=>?_,HG.out.trans_row HG5.out⟩
         by_cases hjk:j=k
         · rw [hjk]; exact HFX.out
         · exact HNO.out j (by omega)
        case measure=>simp [intOf]; omega
    · obtain rfl:k=p.arity.length+1:=by omega
      have HE:=St.levErr_not (p:=p) HC.out (decide_eq_false (HNO.out p.arity.length (by omega)))
      have HE:Hid _:=HE
      clear c2
      go_wp2_with fail
      refine bodyPost_ret (results_tmp2 rfl _ _ _) rfl ⟨_,by rw [HE.out.1]; rfl,by rw [HE.out.2]; exact ⟨none,0,rfl,.inl rfl⟩,HBR.out⟩
 · have hcd:(Sc.check p==0)=false:=by simp [hc]
   have HE:=St.levErr_bad hc
   have HE:Hid _:=HE
   clear hc
   go_wp2_with fail
   refine bodyPost_ret (results_tmp2 rfl _ _ _) rfl ?_
   exact ⟨_,by rw [HE.out.1]; rfl,by rw [HE.out.2]; exact ⟨none,0,rfl,.inl rfl⟩,hbw⟩
def tCells (l:List Sc.Term):List Value:=(l.map fun t=>[Value.int .i64 t.var,Value.int .i64 t.n]).flatten
abbrev Lv:=Sc.Lit × Value
def lvCells (p:Lv):List Value:=[.int .i64 p.1.kind,.int .i64 p.1.op,.int .i64 p.1.pred,p.2]
def lCells (q:List Lv):List Value:=(q.map lvCells).flatten
theorem flat_at {α:Type} (f:α→List Value) (c:Nat) (hf:∀ a,(f a).length=c):∀ (l:List α) (i:Nat) (a:α) (t:Nat),l[i]?=some a→t<c→(l.map f).flatten[i * c+t]?=(f a)[t]?
 | [],i,a,t,h,_=>by simp at h
 | b::l,0,a,t,h,ht=>by
  have hab:b=a:=by simpa using h
  subst hab
  rw [List.map_cons,List.flatten_cons,Nat.zero_mul,Nat.zero_add,List.getElem?_append_left (by rw [hf]; exact ht)]
 | b::l,i+1,a,t,h,ht=>by
  have h':l[i]?=some a:=by simpa using h
  rw [List.map_cons,List.flatten_cons,List.getElem?_append_right (by rw [hf,Nat.add_mul]; omega),hf]
  have e:(i+1) * c+t - c=i * c+t:=by rw [Nat.add_mul]; omega
  rw [e]
  exact flat_at f c hf l i a t h' ht
theorem flat_len {α:Type} (f:α→List Value) (c:Nat) (hf:∀ a,(f a).length=c):∀ (l:List α),(l.map f).flatten.length=l.length * c
 | []=>by simp
 | b::l=>by rw [List.map_cons,List.flatten_cons,List.length_append,hf,flat_len f c hf l,List.length_cons,Nat.add_mul]; omega
theorem flatv_get {α:Type} (f:α→List Value) (c:Nat) (hc:0<c) (hf:∀ a,(f a).length=c) (l:List α) (j:Nat) (u:Value) (h:(l.map f).flatten[j]?=some u):∃ a,l[j / c]?=some a∧(f a)[j % c]?=some u:=by
 have hj:j<l.length * c:=by
  rw [← flat_len f c hf l]
  exact (List.getElem?_eq_some_iff.mp h).1
 have hd:j / c<l.length:=(Nat.div_lt_iff_lt_mul hc).mpr hj
 refine ⟨l[j / c],List.getElem?_eq_getElem hd,?_⟩
 rw [← flat_at f c hf l (j / c) l[j / c] (j % c) (List.getElem?_eq_getElem hd) (Nat.mod_lt _ hc),Nat.mul_comm,Nat.div_add_mod]
 exact h
def TermsO (W:World) (v:Value) (l:List Sc.Term):Prop:=W.ownsRow 0 147 2 v l.length (tCells l)
def LitsO (W:World) (v:Value) (q:List Lv):Prop:=W.ownsRow 0 49 4 v q.length (lCells q)∧∀ p,p∈q→TermsO W p.2 p.1.terms
def KeepT (W W':World):Prop:=∀ (k:Nat) (a:Array Value) (t:TypeId),W.heap[k]?=some (.cells a t)→(t=49∨t=147)→W'.heap[k]?=some (.cells a t)
theorem own_type {W W':World} {B e c n:Nat} {v:Value} {xs:List Value} (h:W.ownsRow B e c v n xs) (hk:∀ (k:Nat) (a:Array Value),W.heap[k]?=some (.cells a e)→W'.heap[k]?=some (.cells a e)):W'.ownsRow B e c v n xs:=by
 obtain ⟨h1,h2⟩:=h
 refine ⟨h1,?_⟩
 rcases h2 with h2 | ⟨g,cap,cur,hv,hg,hh,r⟩
 · exact .inl h2
 · exact .inr ⟨g,cap,cur,hv,hg,hk g cur hh,r⟩
theorem TermsO.keep {W W':World} {v:Value} {l:List Sc.Term} (h:TermsO W v l) (hk:KeepT W W'):TermsO W' v l:=own_type h fun k a ha=>hk k a 147 ha (.inr rfl)
theorem LitsO.keep {W W':World} {v:Value} {q:List Lv} (h:LitsO W v q) (hk:KeepT W W'):LitsO W' v q:=⟨own_type h.1 fun k a ha=>hk k a 49 ha (.inl rfl),fun p hp=>(h.2 p hp).keep hk⟩
theorem KeepT.of_below {W W':World} (h:Below W.heap.size W W'):KeepT W W':=fun k _ _ ha _=>(h.block k (Array.getElem?_eq_some_iff.mp ha).1).trans ha
theorem KeepT.trans {A B C:World} (h:KeepT A B) (k:KeepT B C):KeepT A C:=fun i a t ha ht=>k i a t (h i a t ha ht) ht
theorem own_cells {W:World} {B e c n:Nat} {v:Value} {xs:List Value} (h:W.ownsRow B e c v n xs):∃ ao cap,v=.slice ao n cap∧n≤cap∧(n=0∨∃ g,ao=some ⟨g,0,none⟩∧∀ j,j<n * c→W.cell? ⟨g,j,none⟩=xs[j]?):=by
 rcases ownsRow_forms9 h with ⟨rfl,rfl⟩ | ⟨g,cap,rfl⟩
 · exact ⟨none,0,rfl,Nat.le_refl _,.inl rfl⟩
 · refine ⟨_,cap,rfl,?_,.inr ⟨g,rfl,fun j hj=>h.cellAt j hj⟩⟩
   rcases h.2 with ⟨h2,_⟩ | ⟨g2,cap2,cur,hv,_,_,hle,_⟩
   · cases h2
   · injection hv with _ _ h3
     omega
theorem TermsO.toV {W:World} {v:Value} {l:List Sc.Term} (h:TermsO W v l):PTermsV W v l:=by
 obtain ⟨ao,cap,rfl,hle,hc⟩:=own_cells h
 refine ⟨ao,cap,rfl,hle,?_⟩
 rcases hc with h0 | ⟨g,rfl,hc⟩
 · exact .inl (List.length_eq_zero_iff.mp h0)
 · refine .inr ⟨g,0,rfl,fun i hi=>?_⟩
   have hl:l[i]?=some (Sc.termD l i):=by unfold Sc.termD; simp [hi]
   have h0:=flat_at (fun t:Sc.Term=>[Value.int .i64 t.var,Value.int .i64 t.n]) 2 (fun _=>rfl) l i _ 0 hl (by decide)
   have h1:=flat_at (fun t:Sc.Term=>[Value.int .i64 t.var,Value.int .i64 t.n]) 2 (fun _=>rfl) l i _ 1 hl (by decide)
   constructor
   · have:=hc (i * 2+0) (by omega)
     rw [Nat.zero_add]
     exact this.trans h0
   · have:=hc (i * 2+1) (by omega)
     rw [Nat.zero_add]
     exact this.trans h1
theorem LitsO.toV {W:World} {v:Value} {q:List Lv} (h:LitsO W v q):PLitsV W v (q.map (·.1)):=by
 obtain ⟨ao,cap,rfl,hle,hc⟩:=own_cells h.1
 refine ⟨ao,cap,by rw [List.length_map],?_⟩
 rcases hc with h0 | ⟨g,rfl,hc⟩
 · exact .inl (by rw [List.length_eq_zero_iff.mp h0]; rfl)
 · refine .inr ⟨g,0,rfl,fun i hi=>?_⟩
   rw [List.length_map] at hi
   have hl:q[i]?=some q[i]:=List.getElem?_eq_getElem hi
   have hd:Sc.litD (q.map (·.1)) i=q[i].1:=by unfold Sc.litD; simp [hi]
   rw [hd]
   have hat:=fun t ht=>flat_at lvCells 4 (fun _=>rfl) q i _ t hl ht
   refine ⟨?_,?_,?_,q[i].2,?_,(h.2 _ (List.getElem_mem hi)).toV⟩
   · have:=hc (i * 4+0) (by omega)
     rw [Nat.zero_add]
     exact this.trans (hat 0 (by decide))
   · have:=hc (i * 4+1) (by omega)
     rw [Nat.zero_add]
     exact this.trans (hat 1 (by decide))
   · have:=hc (i * 4+2) (by omega)
     rw [Nat.zero_add]
     exact this.trans (hat 2 (by decide))
   · have:=hc (i * 4+3) (by omega)
     rw [Nat.zero_add]
     exact this.trans (hat 3 (by decide))
theorem own_zero {W:World} {B e c n:Nat} {v:Value} {xs:List Value} (h:W.ownsRow B e c v n xs):W.ownsRow 0 e c v n xs:=rl_own_le h (Nat.zero_le _)
theorem cloneT_any (l:List Sc.Term) (v:Value) (w:World) (hV:PTermsV w v l) (hl:l.length≤1048576) :
 Calls Tryz.prog 120 #[v] w fun e w'=>∃ v',e=.returned v'∧TermsO w' v' l∧Below w.heap.size w w':=by
 obtain ⟨ao,cap,rfl,hle,hA⟩:=hV
 cases ao with
 | none =>
  have hl0:l=[]:=by
   rcases hA with h | ⟨b,off,h,_⟩
   · exact h
   · cases h
  subst hl0
  refine (cloneT_nil _ cap w).mono ?_
  rintro e w' ⟨rfl,hb⟩
  exact ⟨_,rfl,World.ownsRow_nil _ _ _ _,hb⟩
 | some a =>
  refine (cloneT_some a l.length cap (tCells l) w (flat_len _ 2 (fun _=>rfl) l) (fun j u hj=>?_) (fun u hu=>?_) hl).mono ?_
  · obtain ⟨t,ht,hu⟩:=flatv_get (fun t:Sc.Term=>[Value.int .i64 t.var,Value.int .i64 t.n]) 2 (by decide) (fun _=>rfl) l j u hj
    rcases hA with h | ⟨b,off,h,hc⟩
    · rw [h] at ht; simp at ht
    · have ha:=Option.some.inj h
      subst ha
      have hjl:j / 2<l.length:=(List.getElem?_eq_some_iff.mp ht).1
      have h9:=hc (j / 2) hjl
      have hd:Sc.termD l (j / 2)=t:=by unfold Sc.termD; rw [List.getD_eq_getElem?_getD,ht]; rfl
      rw [hd] at h9
      rw [Addr.add_lit]
      rcases Nat.mod_two_eq_zero_or_one j with h2 | h2
      · rw [h2] at hu
        have e:off+j=off+j / 2 * 2:=by omega
        rw [e,h9.1]
        exact hu
      · rw [h2] at hu
        have e:off+j=off+j / 2 * 2+1:=by omega
        rw [e,h9.2]
        exact hu
  · obtain ⟨x,hx,hu⟩:=List.mem_flatten.mp hu
    obtain ⟨t,_,rfl⟩:=List.mem_map.mp hx
    simp only [List.mem_cons,List.not_mem_nil,or_false] at hu
    rcases hu with rfl | rfl <;> rfl
  · rintro e w' ⟨v',rfl,ho,hb⟩
    exact ⟨v',rfl,own_zero ho,hb⟩
theorem cloneL_any (l:List Sc.Lit) (v:Value) (w0 w:World) (hb0:Below w0.heap.size w0 w) (hV:PLitsV w0 v l) (hl:l.length≤1048576) :
 Calls Tryz.prog 121 #[v] w fun e w'=>∃ (v':Value) (q:List Lv),e=.returned v'∧q.map (·.1)=l∧w'.ownsRow w.heap.size 49 4 v' q.length (lCells q)∧(∀ p,p∈q→PTermsV w0 p.2 p.1.terms)∧Below w.heap.size w w':=by
 obtain ⟨ao,cap,rfl,hA⟩:=hV
 cases ao with
 | none =>
  have hl0:l=[]:=by
   rcases hA with h | ⟨b,off,h,_⟩
   · exact h
   · cases h
  subst hl0
  refine (cloneL_nil _ cap w).mono ?_
  rintro e w' ⟨rfl,hb⟩
  exact ⟨_,[],rfl,rfl,World.ownsRow_nil _ _ _ _,fun p hp=>absurd hp (by simp),hb⟩
 | some a =>
  have hq:∃ q:List Lv,q.map (·.1)=l∧(∀ p,p∈q→PTermsV w0 p.2 p.1.terms)∧∀ j u,(lCells q)[j]?=some u→w.cell? (a.add j)=some u:=by
   rcases hA with h | ⟨b,off,h,hc⟩
   · exact ⟨[],by rw [h]; rfl,fun p hp=>absurd hp (by simp),fun j u hj=>by simp [lCells] at hj⟩
   · have ha:=Option.some.inj h
     subst ha
     obtain ⟨f,hf⟩:=Deep.choose_lt (n:=l.length) (p:=fun i u=>w0.cell? ⟨b,off+i * 4+3,none⟩=some u∧PTermsV w0 u (Sc.litD l i).terms) (fun i hi=>by
      obtain ⟨_,_,_,u,h3,h4⟩:=hc i hi
      exact ⟨u,h3,h4⟩)
     refine ⟨(List.range l.length).map fun i=>(Sc.litD l i,f i),?_,?_,?_⟩
     · apply List.ext_getElem?
       intro i
       rw [List.map_map,List.getElem?_map]
       by_cases hi:i<l.length
       · rw [List.getElem?_range hi]
         simp [Sc.litD,hi]
       · rw [List.getElem?_eq_none (by simp; omega),List.getElem?_eq_none (by omega)]
         rfl
     · intro p hp
       obtain ⟨i,hi,rfl⟩:=List.mem_map.mp hp
       exact (hf i (List.mem_range.mp hi)).2
     · intro j u hj
       obtain ⟨p,hp,hu⟩:=flatv_get lvCells 4 (by decide) (fun _=>rfl) _ j u hj
       have hjl:j / 4<l.length:=by have:=(List.getElem?_eq_some_iff.mp hp).1; simpa using this
       rw [List.getElem?_map,List.getElem?_range hjl] at hp
       obtain rfl:(Sc.litD l (j / 4),f (j / 4))=p:=by simpa using hp
       obtain ⟨h0,h1,h2,_⟩:=hc (j / 4) hjl
       have h0:=cell_below hb0 h0
       have h1:=cell_below hb0 h1
       have h2:=cell_below hb0 h2
       have h3:=cell_below hb0 (hf (j / 4) hjl).1
       rw [Addr.add_lit]
       have hm:j % 4=0∨j % 4=1∨j % 4=2∨j % 4=3:=by omega
       rcases hm with hm | hm | hm | hm
       · rw [hm] at hu
         rw [show off+j=off+j / 4 * 4 by omega,h0]
         exact hu
       · rw [hm] at hu
         rw [show off+j=off+j / 4 * 4+1 by omega,h1]
         exact hu
       · rw [hm] at hu
         rw [show off+j=off+j / 4 * 4+2 by omega,h2]
         exact hu
       · rw [hm] at hu
         rw [show off+j=off+j / 4 * 4+3 by omega,h3]
         exact hu
  obtain ⟨q,hql,hqt,hqc⟩:=hq
  have hlen:q.length=l.length:=by rw [← hql,List.length_map]
  refine (cloneL_some a l.length cap (lCells q) w (by rw [← hlen]; exact flat_len _ 4 (fun _=>rfl) q) hqc (fun u hu=>?_) hl).mono ?_
  · obtain ⟨x,hx,hu⟩:=List.mem_flatten.mp hu
    obtain ⟨p,hp,rfl⟩:=List.mem_map.mp hx
    obtain ⟨pa,pc,hpv,_⟩:=hqt p hp
    simp only [lvCells,List.mem_cons,List.not_mem_nil,or_false] at hu
    rcases hu with rfl | rfl | rfl | rfl
    · rfl
    · rfl
    · rfl
    · rw [hpv]; rfl
  · rintro e w' ⟨v',rfl,ho,hb⟩
    exact ⟨v',q,rfl,hql,by rw [hlen]; exact ho,hqt,hb⟩
end Go.Proofs.YthenjegmigeieaaGreat
namespace Go.Proofs.YthenjegmigeieaaGreat
section
variable {P:Program} {ops:Array Oper} {Q:Exit→Act→World→Prop} {md:Region.Mode}
theorem ready_mem {s:Array Bool} {i:Nat} (h:i∈Region.ready md ops s):s[i]?=some false∧∃ o,ops[i]?=some o∧∀ e,e∈o.after→Region.binds md e=true→s[e.on]?=some true:=by
 unfold Region.ready at h
 obtain ⟨_,h⟩:=List.mem_filter.mp h
 rw [Bool.and_eq_true] at h
 obtain ⟨h1,h2⟩:=h
 refine ⟨?_,?_⟩
 · cases hs:s[i]? with
   | none=>simp [Array.getD_eq_getD_getElem?,hs] at h1
   | some b=>cases b <;> simp [Array.getD_eq_getD_getElem?,hs] at h1 ⊢
 · cases ho:ops[i]? with
   | none=>simp [ho] at h2
   | some o =>
    refine ⟨o,rfl,fun e he hb=>?_⟩
    rw [ho,Option.map_some,Option.getD_some,Array.all_eq_true_iff_forall_mem] at h2
    have h3:=h2 e he
    rw [hb] at h3
    cases hs:s[e.on]? with
    | none=>simp [Array.getD_eq_getD_getElem?,hs] at h3
    | some b=>cases b <;> simp [Array.getD_eq_getD_getElem?,hs] at h3 ⊢
def left (s:Array Bool):Nat:=s.toList.countP (fun b=>!b)
theorem left_zero {s:Array Bool} (h:left s=0):Region.ready md ops s=[]:=by
 cases hr:Region.ready md ops s with
 | nil=>rfl
 | cons i r =>
  have h1:=(ready_mem (s:=s) (i:=i) (by rw [hr]; exact List.mem_cons_self)).1
  have h2:false∈s.toList:=by
   rw [← Array.getElem?_toList] at h1
   exact List.mem_of_getElem? h1
  have h3:=List.countP_eq_zero.mp h false h2
  simp at h3
theorem left_set {s:Array Bool} {i:Nat} (h:s[i]?=some false):left (s.setIfInBounds i true)+1=left s:=by
 obtain ⟨hi,he⟩:=Array.getElem?_eq_some_iff.mp h
 unfold left
 have h1:(s.setIfInBounds i true).toList=s.toList.set i true:=by simp
 rw [h1,List.countP_set (h:=by simpa using hi)]
 have hm:0<s.toList.countP (fun b=>!b):=List.countP_pos_iff.mpr ⟨false,by rw [← Array.getElem?_toList] at h; exact List.mem_of_getElem? h,rfl⟩
 have h2:s.toList[i]'(by simpa using hi)=false:=by rw [Array.getElem_toList]; exact he
 rw [h2]
 simp only [Bool.not_false,Bool.not_true,if_true,Bool.false_eq_true,if_false]
 omega
theorem wpAny_inv (I:Array Bool→Act→World→Prop) (hend:∀ s a w,Region.ready md ops s=[]→I s a w→Q .normal a w)
 (hstep:∀ s a w i,i∈Region.ready md ops s→I s a w→wpOp P ops Q i (I (s.setIfInBounds i true)) a w) :
 ∀ (fuel:Nat) (s:Array Bool) (a:Act) (w:World),left s≤fuel→I s a w→wpAny P md ops Q fuel s a w
 | 0,s,a,w,hc,hI=>⟨left_zero (by omega),hend s a w (left_zero (by omega)) hI⟩
 | fuel+1,s,a,w,hc,hI=>⟨fun h0=>hend s a w h0 hI,fun i hi=>wpOp_mono (fun a' w' hI'=>wpAny_inv I hend hstep fuel _ a' w' (by have:=left_set (ready_mem hi).1; omega) hI') (hstep s a w i hi hI)⟩
theorem wp_region_inv (I:Array Bool→Act→World→Prop) {id:Nat} {a:Act} {w:World} (hm:P.follows .mixedOrders=true)
 (hend:∀ s a w,Region.ready .any ops s=[]→I s a w→Q .normal a w)
 (hstep:∀ s a w i,i∈Region.ready .any ops s→I s a w→wpOp P ops Q i (I (s.setIfInBounds i true)) a w)
 (h0:I (Array.replicate ops.size false) a { w with drawn:=w.drawn+1 }):(Code.region id ops true).wp P Q a w:=by
 refine wp_region_any hm (wpAny_inv I hend hstep ops.size _ _ _ ?_ h0)
 unfold left
 exact Nat.le_trans List.countP_le_length (by simp)
end
end Go.Proofs.YthenjegmigeieaaGreat
namespace Go.Proofs.YthenjegmigeieaaGreat
open Go.RowKit
def tabFine (ops:Array Oper) (n:Nat):Bool :=
 decide ((ops.toList.filterMap (·.dst)).Nodup) && (ops.toList.filterMap (·.dst)).all (fun t=>decide (t<n)) && (List.range ops.size).all (fun i=>((ops[i]?).map (fun o=>o.after.toList.all (fun e=>decide (e.on<i)))).getD true)
structure Tabbed (ops:Array Oper) (T:Nat→Value→World→Prop) (a0:Act) (w0:World) (s:Array Bool) (a:Act) (w:World):Prop where
 below:Below w0.heap.size w0 w
 defers:a.defers=a0.defers
 size:a.tmps.size=a0.tmps.size
 still:∀ t,t∉ops.toList.filterMap (·.dst)→a.tmps.getD t undef=a0.tmps.getD t undef
 done:∀ (i:Nat) (o:Oper) (t:Nat),s[i]?=some true→ops[i]?=some o→o.dst=some t→T t (a.tmps.getD t undef) w
section
variable {P:Program} {ops:Array Oper} {Q:Exit→Act→World→Prop} {T:Nat→Value→World→Prop}
theorem dst_mem {i:Nat} {o:Oper} {t:Nat} (h:ops[i]?=some o) (ht:o.dst=some t):t∈ops.toList.filterMap (·.dst):=by
 refine List.mem_filterMap.mpr ⟨o,?_,ht⟩
 rw [← Array.getElem?_toList] at h
 exact List.mem_of_getElem? h
theorem dst_inj:∀ (l:List Oper),(l.filterMap (·.dst)).Nodup→∀ (i j:Nat) (o o':Oper) (t:Nat),l[i]?=some o→l[j]?=some o'→o.dst=some t→o'.dst=some t→i=j
 | [],_,i,j,o,o',t,h,_,_,_=>by simp at h
 | x::l,hn,i,j,o,o',t,hi,hj,ho,ho'=>by
  have hmem:∀ k (o:Oper),l[k]?=some o→o.dst=some t→t∈l.filterMap (·.dst):=fun k o h1 h2=>List.mem_filterMap.mpr ⟨o,List.mem_of_getElem? h1,h2⟩
  cases i with
  | zero =>
   cases j with
   | zero=>rfl
   | succ j =>
    simp only [List.getElem?_cons_zero,Option.some.injEq] at hi
    subst hi
    simp only [List.getElem?_cons_succ] at hj
    rw [List.filterMap_cons,ho] at hn
    exact absurd (hmem j o' hj ho') (List.nodup_cons.mp hn).1
  | succ i =>
   cases j with
   | zero =>
    simp only [List.getElem?_cons_zero,Option.some.injEq] at hj
    subst hj
    simp only [List.getElem?_cons_succ] at hi
    rw [List.filterMap_cons,ho'] at hn
    exact absurd (hmem i o hi ho) (List.nodup_cons.mp hn).1
   | succ j =>
    simp only [List.getElem?_cons_succ] at hi hj
    have hn':(l.filterMap (·.dst)).Nodup:=by
     rw [List.filterMap_cons] at hn
     cases hx:x.dst with
     | none=>rw [hx] at hn; exact hn
     | some z=>rw [hx] at hn; exact (List.nodup_cons.mp hn).2
    exact congrArg (·+1) (dst_inj l hn' i j o o' t hi hj ho ho')
structure OpIn (ops:Array Oper) (T:Nat→Value→World→Prop) (a0:Act) (w0:World) (o:Oper) (a:Act) (w:World):Prop where
 below:Below w0.heap.size w0 w
 still:∀ t,t∉ops.toList.filterMap (·.dst)→a.tmps.getD t undef=a0.tmps.getD t undef
 has:∀ e,e∈o.after→Region.binds .any e=true→∀ (o':Oper) (t:Nat),ops[e.on]?=some o'→o'.dst=some t→T t (a.tmps.getD t undef) w
def OpOk (P:Program) (ops:Array Oper) (Q:Exit→Act→World→Prop) (T:Nat→Value→World→Prop) (o:Oper) (a:Act) (w:World):Prop :=
 if Region.wanted o (yielded ops a.tmps) then o.wp P a w (fun a' w'=>∃ v,a'=a.put o.dst v∧(∀ t,o.dst=some t→T t v w')∧Below w.heap.size w w') Q∨(o.asks P a w∧LetsOut Q)
 else ∀ t,o.dst=some t→T t undef w
theorem put_get_self {a:Act} {t:Nat} {v:Value} (h:t<a.tmps.size):(a.put (some t) v).tmps.getD t undef=v:=by
 simp [Act.put,Array.getD_eq_getD_getElem?,h]
theorem put_get_ne {a:Act} {t u:Nat} {v:Value} (h:u≠t):(a.put (some t) v).tmps.getD u undef=a.tmps.getD u undef:=by
 simp [Act.put,Array.getD_eq_getD_getElem?,Ne.symm h]
theorem put_size {a:Act} {d:Option Nat} {v:Value}:(a.put d v).tmps.size=a.tmps.size:=by
 cases d <;> simp [Act.put]
theorem put_defers {a:Act} {d:Option Nat} {v:Value}:(a.put d v).defers=a.defers:=by
 cases d <;> simp [Act.put]
theorem wp_region_tab (T:Nat→Value→World→Prop) {id:Nat} {a0:Act} {w0:World} (hm:P.follows .mixedOrders=true)
 (hf:tabFine ops a0.tmps.size=true)
 (hmono:∀ t v w w',Below w.heap.size w w'→T t v w→T t v w')
 (hop:∀ (i:Nat) (o:Oper),ops[i]?=some o→∀ a w,OpIn ops T a0 w0 o a w→OpOk P ops Q T o a w)
 (hend:∀ a w,Below w0.heap.size w0 w→a.defers=a0.defers→a.tmps.size=a0.tmps.size→(∀ t,t∉ops.toList.filterMap (·.dst)→a.tmps.getD t undef=a0.tmps.getD t undef)→(∀ t,t∈ops.toList.filterMap (·.dst)→T t (a.tmps.getD t undef) w)→Q .normal a w) :
 (Code.region id ops true).wp P Q a0 w0:=by
 unfold tabFine at hf
 rw [Bool.and_eq_true,Bool.and_eq_true] at hf
 obtain ⟨⟨hnd,hlt⟩,hah⟩:=hf
 have hnd:=of_decide_eq_true hnd
 have hlt':∀ t,t∈ops.toList.filterMap (·.dst)→t<a0.tmps.size:=fun t ht=>by
  have h:=List.all_eq_true.mp hlt t ht
  exact of_decide_eq_true h
 have hah':∀ (i:Nat) (o:Oper),ops[i]?=some o→∀ e,e∈o.after→e.on<i:=fun i o ho e he=>by
  have hi:i<ops.size:=(Array.getElem?_eq_some_iff.mp ho).1
  have h:=List.all_eq_true.mp hah i (List.mem_range.mpr hi)
  rw [ho,Option.map_some,Option.getD_some] at h
  exact of_decide_eq_true (List.all_eq_true.mp h e (by simpa using he))
 have hset:∀ {T:Nat→Value→World→Prop} {s:Array Bool} {a:Act} {w w':World} {i:Nat} {o:Oper} {v:Value},(∀ t v w w',Below w.heap.size w w'→T t v w→T t v w')→s.size=ops.size→ops[i]?=some o→Tabbed ops T a0 w0 s a w→(∀ t,o.dst=some t→T t v w')→Below w.heap.size w w'→Tabbed ops T a0 w0 (s.setIfInBounds i true) (a.put o.dst v) w':=by
  intro T s a w w' i o v hmono hs ho hI hv hb
  refine ⟨hI.below.trans (hb.mono hI.below.size),by rw [put_defers]; exact hI.defers,by rw [put_size]; exact hI.size,fun t ht=>?_,fun j oj t hj hoj hd=>?_⟩
  · cases hd:o.dst with
    | none=>exact hI.still t ht
    | some u =>
     have hne:t≠u:=fun h=>ht (h ▸ dst_mem ho hd)
     rw [put_get_ne hne]
     exact hI.still t ht
  · by_cases hij:j=i
    · subst hij
      rw [ho] at hoj
      cases hoj
      rw [hd,put_get_self (by rw [hI.size]; exact hlt' t (dst_mem ho hd))]
      exact hv t hd
    · have hj':s[j]?=some true:=by
       rw [Array.getElem?_setIfInBounds,if_neg (fun h=>hij h.symm)] at hj
       exact hj
      have h1:=hmono t _ w w' hb (hI.done j oj t hj' hoj hd)
      cases hd2:o.dst with
      | none=>exact h1
      | some u =>
       have hne:t≠u:=fun h=>hij (dst_inj ops.toList hnd j i oj o t (by rw [Array.getElem?_toList]; exact hoj) (by rw [Array.getElem?_toList]; exact ho) hd (h ▸ hd2))
       rw [put_get_ne hne]
       exact h1
 refine wp_region_inv (fun s a w=>s.size=ops.size∧Tabbed ops T a0 w0 s a w) hm ?_ ?_ ?_
 · rintro s a w hr ⟨hs,hI⟩
   have hall:∀ n:Nat,n≤ops.size→∀ i:Nat,i<n→s[i]?=some true:=by
    intro n
    induction n with
    | zero=>intro _ i hi; exact absurd hi (Nat.not_lt_zero _)
    | succ n ih =>
     intro hn i hi
     have ih:=ih (by omega)
     by_cases hin:i<n
     · exact ih i hin
     · have hin:i=n:=by omega
       subst hin
       cases hsi:s[i]? with
       | none=>rw [Array.getElem?_eq_none_iff] at hsi; omega
       | some b =>
        cases b with
        | true=>rfl
        | false =>
         exfalso
         have hio:i<ops.size:=by omega
         have:i∈Region.ready .any ops s:=by
          unfold Region.ready
          refine List.mem_filter.mpr ⟨List.mem_range.mpr hio,?_⟩
          rw [Bool.and_eq_true]
          refine ⟨by simp [Array.getD_eq_getD_getElem?,hsi],?_⟩
          have ho:ops[i]?=some ops[i]:=Array.getElem?_eq_getElem hio
          rw [ho,Option.map_some,Option.getD_some,Array.all_eq_true_iff_forall_mem]
          intro e he
          have h1:=ih e.on (hah' i _ ho e he)
          simp [Array.getD_eq_getD_getElem?,h1]
         rw [hr] at this
         exact absurd this (by simp)
   refine hend a w hI.below hI.defers hI.size hI.still (fun t ht=>?_)
   obtain ⟨o,ho,hd⟩:=List.mem_filterMap.mp ht
   obtain ⟨i,hi⟩:=List.mem_iff_getElem?.mp ho
   rw [Array.getElem?_toList] at hi
   exact hI.done i o t (hall ops.size (Nat.le_refl _) i (Array.getElem?_eq_some_iff.mp hi).1) hi hd
 · rintro s a w i hi ⟨hs,hI⟩
   obtain ⟨hsi,o,ho,haf⟩:=ready_mem hi
   have h:=hop i o ho a w ⟨hI.below,hI.still,fun e he hb o' t ho' hd=>hI.done e.on o' t (haf e he hb) ho' hd⟩
   have hss:(s.setIfInBounds i true).size=ops.size:=by simp [hs]
   unfold OpOk at h
   unfold wpOp
   rw [ho]
   dsimp only
   by_cases hw:Region.wanted o (yielded ops a.tmps)=true
   · rw [if_pos hw] at h ⊢
     refine h.imp (Oper.wp_mono ?_) (fun h=>h)
     rintro a' w' ⟨v,rfl,hv,hb⟩
     exact ⟨hss,hset hmono hs ho hI hv hb⟩
   · rw [if_neg hw] at h ⊢
     exact ⟨hss,hset hmono hs ho hI h (Below.refl _ _)⟩
 · refine ⟨by simp,⟨⟨rfl,rfl,rfl,Nat.le_refl _,fun _ _=>rfl⟩,rfl,rfl,fun _ _=>rfl,fun i o t h _ _=>?_⟩⟩
   rw [Array.getElem?_replicate] at h
   split at h <;> simp at h
end
def waitsFor (ops:Array Oper) (o:Oper) (t:Nat):Bool:=o.after.toList.any fun e=>Region.binds .any e && ((ops[e.on]?).map fun o'=>o'.dst==some t).getD false
def stays (ops:Array Oper) (t:Nat):Bool:=!(ops.toList.filterMap (·.dst)).contains t
section
variable {P:Program} {ops:Array Oper} {Q:Exit→Act→World→Prop} {T:Nat→Value→World→Prop} {a0 a:Act} {w0 w:World} {o:Oper}
theorem OpIn.of (h:OpIn ops T a0 w0 o a w) (t:Nat) (hw:waitsFor ops o t=true):T t (a.tmps.getD t undef) w:=by
 unfold waitsFor at hw
 obtain ⟨e,he,hb⟩:=List.any_eq_true.mp hw
 rw [Bool.and_eq_true] at hb
 cases ho:ops[e.on]? with
 | none=>rw [ho] at hb; simp at hb
 | some o' =>
  rw [ho,Option.map_some,Option.getD_some] at hb
  exact h.has e (by simpa using he) hb.1 o' t ho (by simpa using hb.2)
theorem OpIn.old (h:OpIn ops T a0 w0 o a w) (t:Nat) (hs:stays ops t=true):a.tmps.getD t undef=a0.tmps.getD t undef:=by
 refine h.still t fun hm=>?_
 unfold stays at hs
 simp [hm] at hs
theorem wanted_none {y:Nat→Option Bool} (hg:o.guard=none):Region.wanted o y=true:=by simp [Region.wanted,hg]
theorem wanted_some {j t:Nat} {b:Bool} {oj:Oper} (hg:o.guard=some (j,b)) (hj:ops[j]?=some oj) (hd:oj.dst=some t) (hv:a.tmps.getD t undef=.bool b):Region.wanted o (yielded ops a.tmps)=true:=by
 have ht:a.tmps[t]?=some (.bool b):=by
  rw [Array.getD_eq_getD_getElem?] at hv
  cases h:a.tmps[t]? with
  | none=>rw [h] at hv; simp [undef] at hv
  | some v=>rw [h] at hv; simpa using hv
 unfold Region.wanted
 rw [hg]
 dsimp only
 unfold yielded
 rw [hj,Option.bind_some,hd,Option.bind_some,ht]
 simp
theorem opOk_val {v:Value} {w':World} (hw:Region.wanted o (yielded ops a.tmps)=true) (hr:(execOp a.eval o).run P w=.ok (.value v) w') (hT:∀ t,o.dst=some t→T t v w') (hb:Below w.heap.size w w'):OpOk P ops Q T o a w:=by
 unfold OpOk
 rw [if_pos hw]
 left
 unfold Oper.wp
 rw [hr,Oper.upon_value]
 exact ⟨v,rfl,hT,hb⟩
theorem opOk_call {f:FuncId} {args:Array Value} (hw:Region.wanted o (yielded ops a.tmps)=true) (hr:(execOp a.eval o).run P w=.ok (.enter f args) w)
 (hc:Calls P f args w fun e w'=>∃ v,e=.returned v∧(∀ t,o.dst=some t→T t v w')∧Below w.heap.size w w'):OpOk P ops Q T o a w:=by
 unfold OpOk
 rw [if_pos hw]
 left
 unfold Oper.wp
 rw [hr,Oper.upon_enter]
 refine Calls.mono hc ?_
 rintro e w' ⟨v,rfl,hT,hb⟩
 exact ⟨v,rfl,hT,hb⟩
def AllOps (Φ:Oper→Prop):List Oper→Prop
 | []=>True
 | o::l=>Φ o∧AllOps Φ l
theorem AllOps.nil {Φ:Oper→Prop}:AllOps Φ []:=trivial
theorem AllOps.cons {Φ:Oper→Prop} {o:Oper} {l:List Oper} (h:Φ o) (hl:AllOps Φ l):AllOps Φ (o::l):=⟨h,hl⟩
theorem AllOps.mem {Φ:Oper→Prop}:∀ (l:List Oper),AllOps Φ l→∀ o,o∈l→Φ o
 | [],_,o,ho=>absurd ho (by simp)
 | x::l,h,o,ho=>by
  rcases List.mem_cons.mp ho with rfl | ho
  · exact h.1
  · exact AllOps.mem l h.2 o ho
theorem AllOps.at {Φ:Oper→Prop} {ops:Array Oper} (h:AllOps Φ ops.toList) (i:Nat) (o:Oper) (ho:ops[i]?=some o):Φ o:=by
 rw [← Array.getElem?_toList] at ho
 exact AllOps.mem _ h o (List.mem_of_getElem? ho)
theorem ends_at {t:Nat} (h:∀ t,t∈ops.toList.filterMap (·.dst)→T t (a.tmps.getD t undef) w) (hs:stays ops t=false):T t (a.tmps.getD t undef) w:=by
 refine h t ?_
 unfold stays at hs
 simpa [List.contains_iff_mem] using hs
theorem wp_region_tabA (T:Nat→Value→World→Prop) {id:Nat} {a0:Act} {w0:World} (hm:P.follows .mixedOrders=true) (hf:tabFine ops a0.tmps.size=true)
 (hmono:∀ t v w w',Below w.heap.size w w'→T t v w→T t v w')
 (hop:AllOps (fun o=>∀ a w,OpIn ops T a0 w0 o a w→OpOk P ops Q T o a w) ops.toList)
 (hend:∀ a w,Below w0.heap.size w0 w→a.defers=a0.defers→a.tmps.size=a0.tmps.size→(∀ t,t∉ops.toList.filterMap (·.dst)→a.tmps.getD t undef=a0.tmps.getD t undef)→(∀ t,t∈ops.toList.filterMap (·.dst)→T t (a.tmps.getD t undef) w)→Q .normal a w) :
 (Code.region id ops true).wp P Q a0 w0 :=
 wp_region_tab T hm hf hmono (fun i o ho=>AllOps.at hop i o ho) hend
end
theorem tmps_fold:∀ (D:List Nat) (x y:Array Value),x.size=y.size→(∀ t,t∉D→x.getD t undef=y.getD t undef)→x=D.foldl (fun arr t=>arr.setIfInBounds t (x.getD t undef)) y
 | [],x,y,hs,h=>by
  show x=y
  refine Array.ext hs fun i h1 h2=>?_
  have:=h i (by simp)
  rw [Array.getD_eq_getD_getElem?,Array.getD_eq_getD_getElem?,Array.getElem?_eq_getElem h1,Array.getElem?_eq_getElem h2] at this
  exact this
 | t::D,x,y,hs,h=>by
  show x=D.foldl (fun arr t=>arr.setIfInBounds t (x.getD t undef)) (y.setIfInBounds t (x.getD t undef))
  refine tmps_fold D x _ (by simp [hs]) fun s hsD=>?_
  by_cases hst:s=t
  · subst hst
    by_cases hl:s<y.size
    · simp [Array.getD_eq_getD_getElem?,hl]
    · have h1:x[s]?=none:=by rw [Array.getElem?_eq_none_iff]; omega
      have h2:∀ v,(y.setIfInBounds s v)[s]?=none:=fun v=>by rw [Array.getElem?_eq_none_iff]; simp; omega
      rw [Array.getD_eq_getD_getElem?,Array.getD_eq_getD_getElem?,h1,h2]
  · rw [h s (by simp [hst,hsD])]
    simp [Array.getD_eq_getD_getElem?,Ne.symm hst]
section
variable {P:Program} {ops:Array Oper} {Q:Exit→Act→World→Prop} {T:Nat→Value→World→Prop} {a:Act} {w:World} {o:Oper}
theorem opOk_skip {j t:Nat} {b c:Bool} {oj:Oper} (hg:o.guard=some (j,b)) (hj:ops[j]?=some oj) (hd:oj.dst=some t) (hv:a.tmps.getD t undef=.bool c) (hbc:c≠b) (hT:∀ t,o.dst=some t→T t undef w):OpOk P ops Q T o a w:=by
 have ht:a.tmps[t]?=some (.bool c):=by
  rw [Array.getD_eq_getD_getElem?] at hv
  cases h:a.tmps[t]? with
  | none=>rw [h] at hv; simp [undef] at hv
  | some v=>rw [h] at hv; simpa using hv
 have hw:Region.wanted o (yielded ops a.tmps)=false:=by
  unfold Region.wanted
  rw [hg]
  dsimp only
  unfold yielded
  rw [hj,Option.bind_some,hd,Option.bind_some,ht]
  simp [hbc]
 unfold OpOk
 rw [hw,if_neg (by simp)]
 exact hT
end
def lastFine (ops:Array Oper) (oL:Oper):Bool:=(List.range (ops.size - 1)).all fun i=>oL.after.toList.any fun e=>Region.binds .any e && (e.on==i || ((ops[e.on]?).map fun o=>o.after.toList.any fun f=>f.on==i && Region.binds .any f).getD false)
structure OpInL (ops:Array Oper) (T:Nat→Value→World→Prop) (a0:Act) (w0:World) (a:Act) (w:World):Prop where
 below:Below w0.heap.size w0 w
 defers:a.defers=a0.defers
 size:a.tmps.size=a0.tmps.size
 still:∀ t,t∉ops.toList.filterMap (·.dst)→a.tmps.getD t undef=a0.tmps.getD t undef
 all:∀ (i:Nat) (o:Oper) (t:Nat),i+1<ops.size→ops[i]?=some o→o.dst=some t→T t (a.tmps.getD t undef) w
theorem wpOp_skip {P:Program} {ops:Array Oper} {Q:Exit→Act→World→Prop} {i:Nat} {o:Oper} {K:Act→World→Prop} {a:Act} {w w':World} (ho:ops[i]?=some o) (hw:Region.wanted o (yielded ops a.tmps)=true) (hd:o.dst=none) (hr:(execOp a.eval o).run P w=.ok .skip w') (h:K a w'):wpOp P ops Q i K a w:=by
 unfold wpOp
 rw [ho]
 dsimp only
 rw [if_pos hw]
 left
 unfold Oper.wp
 rw [hr,Oper.upon_skip,hd]
 exact h
theorem OpInL.of {ops:Array Oper} {T:Nat→Value→World→Prop} {a0 a:Act} {w0 w:World} (h:OpInL ops T a0 w0 a w) (i t:Nat) (o:Oper) (hi:i+1<ops.size) (ho:ops[i]?=some o) (hd:o.dst=some t):T t (a.tmps.getD t undef) w:=h.all i o t hi ho hd
section
variable {P:Program} {ops:Array Oper} {Q:Exit→Act→World→Prop}
theorem wp_region_tabL (T:Nat→Value→World→Prop) {id:Nat} {a0:Act} {w0:World} (oL:Oper) (hoL:ops[ops.size - 1]?=some oL) (hlf:lastFine ops oL=true) (hm:P.follows .mixedOrders=true)
 (hf:tabFine ops a0.tmps.size=true)
 (hmono:∀ t v w w',Below w.heap.size w w'→T t v w→T t v w')
 (hop:AllOps (fun o=>∀ a w,OpIn ops T a0 w0 o a w→OpOk P ops Q T o a w) (ops.toList.take (ops.size - 1)))
 (hlast:∀ a w,OpInL ops T a0 w0 a w→wpOp P ops Q (ops.size - 1) (fun a' w'=>Q .normal a' w') a w) :
 (Code.region id ops true).wp P Q a0 w0:=by
 have hLs:ops.size - 1<ops.size:=(Array.getElem?_eq_some_iff.mp hoL).1
 unfold tabFine at hf
 rw [Bool.and_eq_true,Bool.and_eq_true] at hf
 obtain ⟨⟨hnd,hlt⟩,hah⟩:=hf
 have hnd:=of_decide_eq_true hnd
 have hlt':∀ t,t∈ops.toList.filterMap (·.dst)→t<a0.tmps.size:=fun t ht=>of_decide_eq_true (List.all_eq_true.mp hlt t ht)
 have hah':∀ (i:Nat) (o:Oper),ops[i]?=some o→∀ e,e∈o.after→e.on<i:=fun i o ho e he=>by
  have hi:i<ops.size:=(Array.getElem?_eq_some_iff.mp ho).1
  have h:=List.all_eq_true.mp hah i (List.mem_range.mpr hi)
  rw [ho,Option.map_some,Option.getD_some] at h
  exact of_decide_eq_true (List.all_eq_true.mp h e (by simpa using he))
 refine wp_region_inv (fun s a w=>(s.size=ops.size∧∀ (i:Nat) (o:Oper),s[i]?=some true→ops[i]?=some o→∀ e,e∈o.after→Region.binds .any e=true→s[e.on]?=some true)∧((s[ops.size - 1]?=some false∧Tabbed ops T a0 w0 s a w)∨((∀ i,i<ops.size→s[i]?=some true)∧Q .normal a w))) hm ?_ ?_ ?_
 · rintro s a w hr ⟨⟨hs,hC⟩,⟨hsL,hI⟩ | ⟨_,hQ⟩⟩
   · exfalso
     have hall:∀ n:Nat,n≤ops.size→∀ i:Nat,i<n→s[i]?=some true:=by
      intro n
      induction n with
      | zero=>intro _ i hi; exact absurd hi (Nat.not_lt_zero _)
      | succ n ih =>
       intro hn i hi
       have ih:=ih (by omega)
       by_cases hin:i<n
       · exact ih i hin
       · have hin:i=n:=by omega
         subst hin
         cases hsi:s[i]? with
         | none=>rw [Array.getElem?_eq_none_iff] at hsi; omega
         | some b =>
          cases b with
          | true=>rfl
          | false =>
           exfalso
           have hio:i<ops.size:=by omega
           have:i∈Region.ready .any ops s:=by
            unfold Region.ready
            refine List.mem_filter.mpr ⟨List.mem_range.mpr hio,?_⟩
            rw [Bool.and_eq_true]
            refine ⟨by simp [Array.getD_eq_getD_getElem?,hsi],?_⟩
            have ho:ops[i]?=some ops[i]:=Array.getElem?_eq_getElem hio
            rw [ho,Option.map_some,Option.getD_some,Array.all_eq_true_iff_forall_mem]
            intro e he
            have h1:=ih e.on (hah' i _ ho e he)
            simp [Array.getD_eq_getD_getElem?,h1]
           rw [hr] at this
           exact absurd this (by simp)
     have:=hall ops.size (Nat.le_refl _) (ops.size - 1) hLs
     rw [hsL] at this
     cases this
   · exact hQ
 · rintro s a w i hi ⟨⟨hs,hC⟩,hI⟩
   obtain ⟨hsi,o,ho,haf⟩:=ready_mem hi
   have hup:∀ j,s[j]?=some true→(s.setIfInBounds i true)[j]?=some true:=fun j hj=>by
    rw [Array.getElem?_setIfInBounds]
    by_cases hij:i=j
    · rw [if_pos hij,if_pos (by have:=(Array.getElem?_eq_some_iff.mp hsi).1; omega)]
    · rw [if_neg hij]; exact hj
   have hss:(s.setIfInBounds i true).size=ops.size∧∀ (i':Nat) (o':Oper),(s.setIfInBounds i true)[i']?=some true→ops[i']?=some o'→∀ e,e∈o'.after→Region.binds .any e=true→(s.setIfInBounds i true)[e.on]?=some true:=by
    refine ⟨by simp [hs],fun i' o' hi' ho' e he hb=>?_⟩
    by_cases hii:i=i'
    · subst hii
      rw [ho] at ho'
      cases ho'
      exact hup _ (haf e he hb)
    · rw [Array.getElem?_setIfInBounds,if_neg hii] at hi'
      exact hup _ (hC i' o' hi' ho' e he hb)
   rcases hI with ⟨hsL,hI⟩ | ⟨hall,_⟩
   · by_cases hiL:i=ops.size - 1
     · subst hiL
       rw [hoL] at ho
       cases ho
       have hdone:∀ j,j+1<ops.size→s[j]?=some true:=fun j hj=>by
        unfold lastFine at hlf
        have h1:=List.all_eq_true.mp hlf j (List.mem_range.mpr (by omega))
        obtain ⟨e,he,h2⟩:=List.any_eq_true.mp h1
        rw [Bool.and_eq_true,Bool.or_eq_true] at h2
        have hse:=haf e (by simpa using he) h2.1
        rcases h2.2 with h3 | h3
        · have h3:e.on=j:=by simpa using h3
          rw [← h3]
          exact hse
        · cases hoe:ops[e.on]? with
          | none=>rw [hoe] at h3; simp at h3
          | some oe =>
           rw [hoe,Option.map_some,Option.getD_some] at h3
           obtain ⟨f,hf,h4⟩:=List.any_eq_true.mp h3
           rw [Bool.and_eq_true] at h4
           have h5:f.on=j:=by simpa using h4.1
           rw [← h5]
           exact hC e.on oe hse hoe f (by simpa using hf) h4.2
       refine wpOp_mono ?_ (hlast a w ⟨hI.below,hI.defers,hI.size,hI.still,fun j oj t hj hoj hd=>hI.done j oj t (hdone j hj) hoj hd⟩)
       intro a' w' hQ
       refine ⟨hss,.inr ⟨fun j hj=>?_,hQ⟩⟩
       rw [Array.getElem?_setIfInBounds]
       by_cases hj2:ops.size - 1=j
       · rw [if_pos hj2,if_pos (by omega)]
       · rw [if_neg hj2]
         exact hdone j (by omega)
     · have hop':OpOk P ops Q T o a w:=by
        have hil:i<ops.size:=(Array.getElem?_eq_some_iff.mp ho).1
        refine AllOps.mem _ hop o ?_ a w ⟨hI.below,hI.still,fun e he hb o' t ho' hd=>hI.done e.on o' t (haf e he hb) ho' hd⟩
        rw [← Array.getElem?_toList] at ho
        refine List.mem_of_getElem? (i:=i) ?_
        rw [List.getElem?_take,if_pos (by omega)]
        exact ho
       have hset:∀ {v:Value} {w':World},(∀ t,o.dst=some t→T t v w')→Below w.heap.size w w'→Tabbed ops T a0 w0 (s.setIfInBounds i true) (a.put o.dst v) w':=by
        intro v w' hv hb
        refine ⟨hI.below.trans (hb.mono hI.below.size),by rw [put_defers]; exact hI.defers,by rw [put_size]; exact hI.size,fun t ht=>?_,fun j oj t hj hoj hd=>?_⟩
        · cases hd:o.dst with
          | none=>exact hI.still t ht
          | some u =>
           have hne:t≠u:=fun h=>ht (h ▸ dst_mem ho hd)
           rw [put_get_ne hne]
           exact hI.still t ht
        · by_cases hij:j=i
          · subst hij
            rw [ho] at hoj
            cases hoj
            rw [hd,put_get_self (by rw [hI.size]; exact hlt' t (dst_mem ho hd))]
            exact hv t hd
          · have hj':s[j]?=some true:=by
             rw [Array.getElem?_setIfInBounds,if_neg (fun h=>hij h.symm)] at hj
             exact hj
            have h1:=hmono t _ w w' hb (hI.done j oj t hj' hoj hd)
            cases hd2:o.dst with
            | none=>exact h1
            | some u =>
             have hne:t≠u:=fun h=>hij (dst_inj ops.toList hnd j i oj o t (by rw [Array.getElem?_toList]; exact hoj) (by rw [Array.getElem?_toList]; exact ho) hd (h ▸ hd2))
             rw [put_get_ne hne]
             exact h1
       have hsL':(s.setIfInBounds i true)[ops.size - 1]?=some false:=by
        rw [Array.getElem?_setIfInBounds,if_neg hiL]
        exact hsL
       unfold OpOk at hop'
       unfold wpOp
       rw [ho]
       dsimp only
       by_cases hw:Region.wanted o (yielded ops a.tmps)=true
       · rw [if_pos hw] at hop' ⊢
         refine hop'.imp (Oper.wp_mono ?_) (fun h=>h)
         rintro a' w' ⟨v,rfl,hv,hb⟩
         exact ⟨hss,.inl ⟨hsL',hset hv hb⟩⟩
       · rw [if_neg hw] at hop' ⊢
         exact ⟨hss,.inl ⟨hsL',hset hop' (Below.refl _ _)⟩⟩
   · have:=hall i (Array.getElem?_eq_some_iff.mp ho).1
     rw [hsi] at this
     cases this
 · refine ⟨⟨by simp,fun i o h=>?_⟩,.inl ⟨?_,⟨⟨rfl,rfl,rfl,Nat.le_refl _,fun _ _=>rfl⟩,rfl,rfl,fun _ _=>rfl,fun i o t h _ _=>?_⟩⟩⟩
   · rw [Array.getElem?_replicate] at h
     split at h <;> simp at h
   · rw [Array.getElem?_replicate,if_pos hLs]
   · rw [Array.getElem?_replicate] at h
     split at h <;> simp at h
end
def copyV (X g m:Nat) (UB XV:Value) (t:Nat) (v:Value):Prop :=
 match t with
 | 18=>v=.pointer (some ⟨X,3,none⟩)
 | 19=>v=UB
 | 20=>v=.int .i64 m
 | 21=>v=.pointer (some ⟨X,3,none⟩)
 | 22=>v=UB
 | 23=>v=.int .i64 m
 | 24=>v=.pointer (some ⟨g,m * 4,none⟩)
 | 25=>v=.pointer (some ⟨g,m * 4+3,none⟩)
 | 26=>v=XV
 | 28=>v=.pointer (some ⟨g,m * 4,none⟩)
 | 29=>v=.pointer (some ⟨g,m * 4+3,none⟩)
 | _=>True
def copyT (X g m:Nat) (UB XV:Value) (l:List Sc.Term) (t:Nat) (v:Value) (w:World):Prop:=if t=27 then TermsO w v l else copyV X g m UB XV t v
theorem copyT_mono (X g m:Nat) (UB XV:Value) (l:List Sc.Term) (t:Nat) (v:Value) (w w':World) (hb:Below w.heap.size w w') (h:copyT X g m UB XV l t v w):copyT X g m UB XV l t v w':=by
 unfold copyT at h ⊢
 by_cases ht:t=27
 · rw [if_pos ht] at h ⊢
   exact TermsO.keep h (KeepT.of_below hb)
 · rw [if_neg ht] at h ⊢
   exact h
theorem keep_box {W:World} {X:Nat} {a:Array Value} {t:TypeId} (h:W.heap[X]?=some (.cells a t)) (h1:t≠49) (h2:t≠147) (o:Nat) (u:Value):KeepT W (W.setCell ⟨X,o,none⟩ u):=fun k b s hk hs=>by
 by_cases hkx:k=X
 · subst hkx
   rw [h] at hk
   injection hk with hk
   injection hk with _ hk _
   rcases hs with hs | hs
   · exact absurd (hk.trans hs) h1
   · exact absurd (hk.trans hs) h2
 · exact (heap_set_other hkx).trans hk
theorem lCells_set (R:List Lv) (m:Nat) (x:Lv) (hx:R[m]?=some x) (u:Value):lCells (R.set m (x.1,u))=(lCells R).set (m * 4+3) u:=by
 have hm:m<R.length:=(List.getElem?_eq_some_iff.mp hx).1
 apply List.ext_getElem?
 intro j
 have hl1:(lCells (R.set m (x.1,u))).length=R.length * 4:=by unfold lCells; rw [flat_len lvCells 4 (fun _=>rfl),List.length_set]
 have hl2:(lCells R).length=R.length * 4:=flat_len lvCells 4 (fun _=>rfl) R
 by_cases hj:j<R.length * 4
 · have hjd:j / 4<R.length:=by omega
   have hjm:j=j / 4 * 4+j % 4:=by omega
   have ht:j % 4<4:=Nat.mod_lt _ (by decide)
   rw [List.getElem?_set]
   by_cases hjd2:m=j / 4
   · have h1:=flat_at lvCells 4 (fun _=>rfl) (R.set m (x.1,u)) m (x.1,u) (j % 4) (by rw [List.getElem?_set,if_pos rfl,if_pos hm]) ht
     have h2:=flat_at lvCells 4 (fun _=>rfl) R m x (j % 4) hx ht
     have hjm':j=m * 4+j % 4:=by omega
     have h3:(lCells (R.set m (x.1,u)))[j]?=(lvCells (x.1,u))[j % 4]?:=by rw [hjm']; rw [show (m * 4+j % 4) % 4=j % 4 by omega]; exact h1
     have h4:(lCells R)[j]?=(lvCells x)[j % 4]?:=by rw [hjm']; rw [show (m * 4+j % 4) % 4=j % 4 by omega]; exact h2
     rw [h3,h4]
     by_cases h33:m * 4+3=j
     · rw [if_pos h33,if_pos (by omega),show j % 4=3 by omega]
       rfl
     · rw [if_neg h33]
       have h9:j % 4=0∨j % 4=1∨j % 4=2:=by omega
       rcases h9 with h9 | h9 | h9 <;> rw [h9] <;> rfl
   · rw [if_neg (by omega)]
     obtain ⟨y,hy⟩:∃ y,R[j / 4]?=some y:=⟨_,List.getElem?_eq_getElem hjd⟩
     have h1:=flat_at lvCells 4 (fun _=>rfl) (R.set m (x.1,u)) (j / 4) y (j % 4) (by rw [List.getElem?_set,if_neg hjd2]; exact hy) ht
     have h2:=flat_at lvCells 4 (fun _=>rfl) R (j / 4) y (j % 4) hy ht
     rw [← hjm] at h1 h2
     exact h1.trans h2.symm
 · rw [List.getElem?_eq_none (by omega),List.getElem?_eq_none (by rw [List.length_set]; omega)]
theorem own_at {W:World} {B e c n cap:Nat} {g:Nat} {xs:List Value} (h:W.ownsRow B e c (.slice (some ⟨g,0,none⟩) n cap) n xs):B≤g∧∃ cur,W.heap[g]?=some (.cells cur e):=by
 rcases h.2 with ⟨h2,_⟩ | ⟨g2,cap2,cur,hv,hB,hh,_⟩
 · cases h2
 · injection hv with h3 _ _
   injection h3 with h3
   injection h3 with h3
   subst h3
   exact ⟨hB,cur,hh⟩
theorem terms_set {W:World} {v:Value} {l:List Sc.Term} (h:TermsO W v l) {g:Nat} {c:Array Value} (hg:W.heap[g]?=some (.cells c 49)) (o:Nat) (u:Value):TermsO (W.setCell ⟨g,o,none⟩ u) v l :=
 own_type h fun k a ha=>by
  by_cases hk:k=g
  · subst hk
    rw [hg] at ha
    injection ha with ha
    injection ha with _ ha _
    cases ha
  · exact (heap_set_other hk).trans ha
theorem map_set_fst (R:List Lv) (m:Nat) (x:Lv) (hx:R[m]?=some x) (u:Value):(R.set m (x.1,u)).map (·.1)=R.map (·.1):=by
 rw [List.map_set]
 apply List.ext_getElem?
 intro t
 rw [List.getElem?_set]
 split
 · rename_i ht
   subst ht
   have hm:m<R.length:=(List.getElem?_eq_some_iff.mp hx).1
   rw [if_pos (by simpa using hm),List.getElem?_map,hx]
   rfl
 · rfl
theorem copied_any (r:Sc.Rule) (vt vb:Value) (w:World) (hT:PTermsV w vt r.terms) (hL:PLitsV w vb r.body) (ht:r.terms.length≤1048576) (hl:r.body.length≤4) (hlt:∀ x,x∈r.body→x.terms.length≤1048576) :
 Calls Tryz.prog 79 #[pruleVal r vt vb] w fun e w'=>∃ (ut ub:Value) (q:List Lv),e=.returned (pruleVal r ut ub)∧q.map (·.1)=r.body∧TermsO w' ut r.terms∧LitsO w' ub q∧Below w.heap.size w w':=by
 obtain ⟨a1,n1,rfl,hc1,hA1⟩:=hT
 obtain ⟨a2,n2,rfl,hA2⟩:=hL
 have HT:Hid (PTermsV w (.slice a1 r.terms.length n1) r.terms):=⟨a1,n1,rfl,hc1,hA1⟩
 have HL:Hid (PLitsV w (.slice a2 r.body.length n2) r.body):=⟨a2,n2,rfl,hA2⟩
 have HLT:Hid _:=hlt
 clear hA1 hA2 hlt
 have b0:=(Below.refl w.heap.size w).alloc (Nat.le_refl _) (.cells #[.int .i64 r.pred,.slice a1 r.terms.length n1,.int .i64 r.fold,.slice a2 r.body.length n2,.int .i64 r.vars] 40)
 have hX:=heap_alloc_new w (.cells #[.int .i64 r.pred,.slice a1 r.terms.length n1,.int .i64 r.fold,.slice a2 r.body.length n2,.int .i64 r.vars] 40)
 have s1:(w.alloc (.cells #[.int .i64 r.pred,.slice a1 r.terms.length n1,.int .i64 r.fold,.slice a2 r.body.length n2,.int .i64 r.vars] 40)).heap.size=w.heap.size+1:=by simp
 have b1:=(Below.refl (w.alloc (.cells #[.int .i64 r.pred,.slice a1 r.terms.length n1,.int .i64 r.fold,.slice a2 r.body.length n2,.int .i64 r.vars] 40)).heap.size (w.alloc (.cells #[.int .i64 r.pred,.slice a1 r.terms.length n1,.int .i64 r.fold,.slice a2 r.body.length n2,.int .i64 r.vars] 40))).alloc (Nat.le_refl _) (.cells #[.int .i64 0,.slice none 0 0,.int .i64 0,.slice none 0 0,.int .i64 0] 40)
 have hX1:=(b1.block _ (Array.getElem?_eq_some_iff.mp hX).1).trans hX
 have hZ1:=heap_alloc_new (w.alloc (.cells #[.int .i64 r.pred,.slice a1 r.terms.length n1,.int .i64 r.fold,.slice a2 r.body.length n2,.int .i64 r.vars] 40)) (.cells #[.int .i64 0,.slice none 0 0,.int .i64 0,.slice none 0 0,.int .i64 0] 40)
 rw [s1] at hZ1
 have hb1:=b0.trans (b1.mono b0.size)
 clear b0 hX s1 b1
 have HX1:Hid _:=hX1
 have HZ1:Hid _:=hZ1
 have HB1:Hid _:=hb1
 clear hX1 hZ1 hb1
 go_enter Tryz.func79,Tryz.ntmps79
 go_wp2_with fail
 generalize (w.alloc (.cells #[.int .i64 r.pred,.slice a1 r.terms.length n1,.int .i64 r.fold,.slice a2 r.body.length n2,.int .i64 r.vars] 40)).alloc (.cells #[.int .i64 0,.slice none 0 0,.int .i64 0,.slice none 0 0,.int .i64 0] 40)=w1 at *
 refine Calls.mono (cloneT_any r.terms _ w1 (ptermsV_below HT.out HB1.out) ht) ?_
 rintro e w2 ⟨ut,rfl,hut,hb2⟩
 obtain ⟨ua,uc,rfl⟩:=own_slice hut
 have hX2:=(hb2.block _ (Array.getElem?_eq_some_iff.mp HX1.out).1).trans HX1.out
 have hZ2:=(hb2.block _ (Array.getElem?_eq_some_iff.mp HZ1.out).1).trans HZ1.out
 have c1:w2.cell? ⟨w.heap.size,1,none⟩=some (.slice a1 r.terms.length n1):=by rw [Lib.cell_of_heap hX2]; rfl
 have f1:=Lib.frozen_of_heap hX2 1
 have hX3:(w2.setCell ⟨w.heap.size,1,none⟩ (.slice ua r.terms.length uc)).heap[w.heap.size]?=some (.cells #[.int .i64 r.pred,.slice ua r.terms.length uc,.int .i64 r.fold,.slice a2 r.body.length n2,.int .i64 r.vars] 40):=by rw [Lib.heap_setCell_same hX2]; rfl
 have hZ3:(w2.setCell ⟨w.heap.size,1,none⟩ (.slice ua r.terms.length uc)).heap[w.heap.size+1]?=some (.cells #[.int .i64 0,.slice none 0 0,.int .i64 0,.slice none 0 0,.int .i64 0] 40):=(heap_set_other (by omega)).trans hZ2
 have hb3:Below w.heap.size w (w2.setCell ⟨w.heap.size,1,none⟩ (.slice ua r.terms.length uc)):=(HB1.out.trans (hb2.mono HB1.out.size)).setCell (p:=⟨w.heap.size,1,none⟩) (Nat.le_refl _) _
 have hk3:TermsO (w2.setCell ⟨w.heap.size,1,none⟩ (.slice ua r.terms.length uc)) (.slice ua r.terms.length uc) r.terms:=hut.keep (keep_box hX2 (by decide) (by decide) _ _)
 have c3:(w2.setCell ⟨w.heap.size,1,none⟩ (.slice ua r.terms.length uc)).cell? ⟨w.heap.size,3,none⟩=some (.slice a2 r.body.length n2):=by rw [Lib.cell_of_heap hX3]; rfl
 have HX3:Hid _:=hX3
 have HZ3:Hid _:=hZ3
 have HB3:Hid _:=hb3
 have HK3:Hid _:=hk3
 clear HX1 HZ1 HB1 hut hb2 hX2 hZ2 hX3 hZ3 hb3 hk3
 go_wp2_with fail
 generalize w2.setCell ⟨w.heap.size,1,none⟩ (.slice ua r.terms.length uc)=w3 at *
 refine Calls.mono (cloneL_any r.body _ w w3 HB3.out HL.out (by omega)) ?_
 rintro e w4 ⟨ub,q,rfl,hql,hqo,hqt,hb4⟩
 obtain ⟨va,vc,rfl⟩:=own_slice hqo
 have hq4:q.length≤4:=by have h9:q.length=r.body.length:=by { rw [← hql,List.length_map] }; omega
 have hX4:=(hb4.block _ (Array.getElem?_eq_some_iff.mp HX3.out).1).trans HX3.out
 have hZ4:=(hb4.block _ (Array.getElem?_eq_some_iff.mp HZ3.out).1).trans HZ3.out
 have d3:w4.cell? ⟨w.heap.size,3,none⟩=some (.slice a2 r.body.length n2):=by rw [Lib.cell_of_heap hX4]; rfl
 have f3:=Lib.frozen_of_heap hX4 3
 have hX5:(w4.setCell ⟨w.heap.size,3,none⟩ (.slice va q.length vc)).heap[w.heap.size]?=some (.cells #[.int .i64 r.pred,.slice ua r.terms.length uc,.int .i64 r.fold,.slice va q.length vc,.int .i64 r.vars] 40):=by rw [Lib.heap_setCell_same hX4]; rfl
 have hZ5:(w4.setCell ⟨w.heap.size,3,none⟩ (.slice va q.length vc)).heap[w.heap.size+1]?=some (.cells #[.int .i64 0,.slice none 0 0,.int .i64 0,.slice none 0 0,.int .i64 0] 40):=(heap_set_other (by omega)).trans hZ4
 have hb5:Below w.heap.size w (w4.setCell ⟨w.heap.size,3,none⟩ (.slice va q.length vc)):=(HB3.out.trans (hb4.mono HB3.out.size)).setCell (p:=⟨w.heap.size,3,none⟩) (Nat.le_refl _) _
 have hk5:TermsO (w4.setCell ⟨w.heap.size,3,none⟩ (.slice va q.length vc)) (.slice ua r.terms.length uc) r.terms:=TermsO.keep (TermsO.keep HK3.out (KeepT.of_below hb4)) (keep_box hX4 (by decide) (by decide) 3 (.slice va q.length vc))
 have hq5:=own_type (rl_own_le hqo HB3.out.size) (W':=w4.setCell ⟨w.heap.size,3,none⟩ (.slice va q.length vc)) fun k a ha=>keep_box hX4 (by decide) (by decide) 3 (.slice va q.length vc) k a 49 ha (.inl rfl)
 have c5:(w4.setCell ⟨w.heap.size,3,none⟩ (.slice va q.length vc)).cell? ⟨w.heap.size,3,none⟩=some (.slice va q.length vc):=by rw [Lib.cell_of_heap hX5]; rfl
 have HX5:Hid _:=hX5
 have HZ5:Hid _:=hZ5
 have HB5:Hid _:=hb5
 have HK5:Hid _:=hk5
 have HQ5:Hid _:=hq5
 have HQT:Hid _:=hqt
 have HQL:Hid _:=hql
 clear HX3 HZ3 HB3 HK3 hqo hqt hql hb4 hX4 hZ4 hX5 hZ5 hb5 hk5 hq5 c1 f1 c3
 go_wp2_with fail
 generalize w4.setCell ⟨w.heap.size,3,none⟩ (.slice va q.length vc)=w5 at *
 clear d3 f3 c5
 go_loopw [15] (fun i wr=>∃ (m:Nat) (R:List Lv),m≤q.length∧i=.int .i64 m∧R.length=q.length∧R.map (·.1)=r.body∧wr.heap[w.heap.size]?=some (.cells #[.int .i64 r.pred,.slice ua r.terms.length uc,.int .i64 r.fold,.slice va q.length vc,.int .i64 r.vars] 40)∧wr.heap[w.heap.size+1]?=some (.cells #[.int .i64 0,.slice none 0 0,.int .i64 0,.slice none 0 0,.int .i64 0] 40)∧Below w.heap.size w wr∧TermsO wr (.slice ua r.terms.length uc) r.terms∧wr.ownsRow w.heap.size 49 4 (.slice va q.length vc) q.length (lCells R)∧(∀ j p,j<m→R[j]?=some p→TermsO wr p.2 p.1.terms)∧(∀ j p,m≤j→R[j]?=some p→PTermsV w p.2 p.1.terms)) (fun i _=>q.length - (intOf i).toNat)
 case atStart=>exact ⟨0,q,Nat.zero_le _,rfl,rfl,HQL.out,HX5.out,HZ5.out,HB5.out,HK5.out,HQ5.out,fun j p hj=>absurd hj (Nat.not_lt_zero _),fun j p _ hp=>HQT.out p (List.mem_of_getElem? hp)⟩
 case round =>
  clear HX5 HZ5 HB5 HK5 HQ5
  obtain ⟨m,R,hm,rfl,hRl,hRm,hX,hZ,hb,hk,hro,hdone,hleft⟩:=hrel
  have c3:wr.cell? ⟨w.heap.size,3,none⟩=some (.slice va q.length vc):=by rw [Lib.cell_of_heap hX]; rfl
  have HX:Hid _:=hX
  have HZ:Hid _:=hZ
  have HB:Hid _:=hb
  have HK:Hid _:=hk
  have HRO:Hid _:=hro
  have HRM:Hid _:=hRm
  have HRL:Hid _:=hRl
  have HD:Hid _:=hdone
  have HLF:Hid _:=hleft
  clear hX hZ hb hk hro hRm hRl hdone hleft
  by_cases hlt:m<q.length
  · have hmR:m<R.length:=by rw [HRL.out]; exact hlt
    obtain ⟨x,hx,hxm⟩:∃ x,R[m]?=some x∧x∈R:=⟨R[m],List.getElem?_eq_getElem hmR,List.getElem_mem hmR⟩
    clear hmR
    have HXT:Hid _:=HLF.out m x (Nat.le_refl _) hx
    obtain ⟨xa,xc,hxv,_⟩:=HXT.out
    have HXV:Hid (x.2=.slice xa x.1.terms.length xc):=hxv
    rw [hxv] at HXT
    have HXL:Hid (x.1.terms.length≤1048576):=HLT.out x.1 (by rw [← HRM.out]; exact List.mem_map_of_mem hxm)
    have HHX:Hid (R[m]?=some x):=hx
    clear hxv hx hxm
    rcases ownsRow_forms9 HRO.out with ⟨_,h0⟩ | ⟨g,cap,hva⟩
    · omega
    injection hva with hva _ _
    subst hva
    have cg:wr.cell? ⟨g,m * 4+3,none⟩=some (.slice xa x.1.terms.length xc):=by
     rw [World.ownsRow.cellAt HRO.out (m * 4+3) (by omega)]
     have h9:=flat_at lvCells 4 (fun _=>rfl) R m x 3 HHX.out (by decide)
     rw [show lCells R=(R.map lvCells).flatten from rfl,h9]
     show some x.2=_
     rw [HXV.out]
    go_upto_region 6 with fail
    refine wp_region_tabL (copyT w.heap.size g m (.slice (some ⟨g,0,none⟩) q.length vc) (.slice xa x.1.terms.length xc) x.1.terms) _ rfl (by kernel_rfl) (by kernel_rfl) (by kernel_rfl) (copyT_mono _ _ _ _ _ _) ?hop ?hlast
    case hop =>
     refine AllOps.cons (fun a y h=>?_) ?_
     · have e1:a.eval (.tmp 1)=.pointer (some ⟨w.heap.size,0,none⟩):=h.old 1 (by kernel_rfl)
       refine opOk_val (v:=(.pointer (some ⟨w.heap.size,3,none⟩))) (w':=y) (wanted_none rfl) ?_ (fun t ht=>by cases ht; exact rfl) (Below.refl _ _)
       have ec:∀ v,a.eval (.const v)=v:=fun _=>rfl
       generalize a.eval=ev at *
       clear h
       go_simp
     refine AllOps.cons (fun a y h=>?_) ?_
     · have e18:a.eval (.tmp 18)=.pointer (some ⟨w.heap.size,3,none⟩):=h.of 18 (by kernel_rfl)
       refine opOk_val (v:=((.slice (some ⟨g,0,none⟩) q.length vc))) (w':=y) (wanted_none rfl) ?_ (fun t ht=>by cases ht; exact rfl) (Below.refl _ _)
       have cX:=cell_below h.below c3
       have ec:∀ v,a.eval (.const v)=v:=fun _=>rfl
       generalize a.eval=ev at *
       clear h
       go_simp
     refine AllOps.cons (fun a y h=>?_) ?_
     · have e3:a.eval (.tmp 3)=.int .i64 m:=h.old 3 (by kernel_rfl)
       refine opOk_val (v:=(.int .i64 m)) (w':=y) (wanted_none rfl) ?_ (fun t ht=>by cases ht; exact rfl) (Below.refl _ _)
       have ec:∀ v,a.eval (.const v)=v:=fun _=>rfl
       generalize a.eval=ev at *
       clear h
       go_simp
     refine AllOps.cons (fun a y h=>?_) ?_
     · have e1:a.eval (.tmp 1)=.pointer (some ⟨w.heap.size,0,none⟩):=h.old 1 (by kernel_rfl)
       refine opOk_val (v:=(.pointer (some ⟨w.heap.size,3,none⟩))) (w':=y) (wanted_none rfl) ?_ (fun t ht=>by cases ht; exact rfl) (Below.refl _ _)
       have ec:∀ v,a.eval (.const v)=v:=fun _=>rfl
       generalize a.eval=ev at *
       clear h
       go_simp
     refine AllOps.cons (fun a y h=>?_) ?_
     · have e21:a.eval (.tmp 21)=.pointer (some ⟨w.heap.size,3,none⟩):=h.of 21 (by kernel_rfl)
       refine opOk_val (v:=((.slice (some ⟨g,0,none⟩) q.length vc))) (w':=y) (wanted_none rfl) ?_ (fun t ht=>by cases ht; exact rfl) (Below.refl _ _)
       have cX:=cell_below h.below c3
       have ec:∀ v,a.eval (.const v)=v:=fun _=>rfl
       generalize a.eval=ev at *
       clear h
       go_simp
     refine AllOps.cons (fun a y h=>?_) ?_
     · have e3:a.eval (.tmp 3)=.int .i64 m:=h.old 3 (by kernel_rfl)
       refine opOk_val (v:=(.int .i64 m)) (w':=y) (wanted_none rfl) ?_ (fun t ht=>by cases ht; exact rfl) (Below.refl _ _)
       have ec:∀ v,a.eval (.const v)=v:=fun _=>rfl
       generalize a.eval=ev at *
       clear h
       go_simp
     refine AllOps.cons (fun a y h=>?_) ?_
     · have e22:a.eval (.tmp 22)=(.slice (some ⟨g,0,none⟩) q.length vc):=h.of 22 (by kernel_rfl)
       have e23:a.eval (.tmp 23)=.int .i64 m:=h.of 23 (by kernel_rfl)
       refine opOk_val (v:=(.pointer (some ⟨g,m * 4,none⟩))) (w':=y) (wanted_none rfl) ?_ (fun t ht=>by cases ht; exact rfl) (Below.refl _ _)
       have ec:∀ v,a.eval (.const v)=v:=fun _=>rfl
       generalize a.eval=ev at *
       clear h
       go_simp
     refine AllOps.cons (fun a y h=>?_) ?_
     · have e24:a.eval (.tmp 24)=.pointer (some ⟨g,m * 4,none⟩):=h.of 24 (by kernel_rfl)
       refine opOk_val (v:=(.pointer (some ⟨g,m * 4+3,none⟩))) (w':=y) (wanted_none rfl) ?_ (fun t ht=>by cases ht; exact rfl) (Below.refl _ _)
       have ec:∀ v,a.eval (.const v)=v:=fun _=>rfl
       generalize a.eval=ev at *
       clear h
       go_simp
     refine AllOps.cons (fun a y h=>?_) ?_
     · have e25:a.eval (.tmp 25)=.pointer (some ⟨g,m * 4+3,none⟩):=h.of 25 (by kernel_rfl)
       refine opOk_val (v:=((.slice xa x.1.terms.length xc))) (w':=y) (wanted_none rfl) ?_ (fun t ht=>by cases ht; exact rfl) (Below.refl _ _)
       have cG:=cell_below h.below cg
       have ec:∀ v,a.eval (.const v)=v:=fun _=>rfl
       generalize a.eval=ev at *
       clear h
       go_simp
     refine AllOps.cons (fun a y h=>?_) ?_
     · have e26:a.eval (.tmp 26)=(.slice xa x.1.terms.length xc):=h.of 26 (by kernel_rfl)
       refine opOk_call (f:=120) (args:=#[(.slice xa x.1.terms.length xc)]) (wanted_none rfl) ?_ ?_
       · have ef:∀ f,a.eval (.func f)=.func (.func f) #[] #[]:=fun _=>rfl
         generalize a.eval=ev at *
         clear h
         go_simp
       · refine Calls.mono (cloneT_any x.1.terms _ y (ptermsV_below HXT.out (HB.out.trans (h.below.mono HB.out.size))) HXL.out) ?_
         rintro _ y2 ⟨v9,rfl,hv9,hb9⟩
         exact ⟨v9,rfl,fun t ht=>by cases ht; exact hv9,hb9⟩
     refine AllOps.cons (fun a y h=>?_) ?_
     · have e19:a.eval (.tmp 19)=(.slice (some ⟨g,0,none⟩) q.length vc):=h.of 19 (by kernel_rfl)
       have e20:a.eval (.tmp 20)=.int .i64 m:=h.of 20 (by kernel_rfl)
       refine opOk_val (v:=(.pointer (some ⟨g,m * 4,none⟩))) (w':=y) (wanted_none rfl) ?_ (fun t ht=>by cases ht; exact rfl) (Below.refl _ _)
       have ec:∀ v,a.eval (.const v)=v:=fun _=>rfl
       generalize a.eval=ev at *
       clear h
       go_simp
     refine AllOps.cons (fun a y h=>?_) ?_
     · have e28:a.eval (.tmp 28)=.pointer (some ⟨g,m * 4,none⟩):=h.of 28 (by kernel_rfl)
       refine opOk_val (v:=(.pointer (some ⟨g,m * 4+3,none⟩))) (w':=y) (wanted_none rfl) ?_ (fun t ht=>by cases ht; exact rfl) (Below.refl _ _)
       have ec:∀ v,a.eval (.const v)=v:=fun _=>rfl
       generalize a.eval=ev at *
       clear h
       go_simp
     exact AllOps.nil
    case hlast =>
     rintro ⟨tm,df⟩ y hI
     have e29:Act.eval ⟨tm,df⟩ (.tmp 29)=.pointer (some ⟨g,m * 4+3,none⟩):=hI.of 11 29 _ (by decide) rfl rfl
     have t27:TermsO y (Act.eval ⟨tm,df⟩ (.tmp 27)) x.1.terms:=hI.of 9 27 _ (by decide) rfl rfl
     obtain ⟨na,nc,e27⟩:=own_slice t27
     rw [e27] at t27
     have hby:=HB.out.trans (hI.below.mono HB.out.size)
     have hroy:y.ownsRow w.heap.size 49 4 (.slice (some ⟨g,0,none⟩) q.length vc) q.length (lCells R):=own_type HRO.out fun k a ha=>(hI.below.block k (Array.getElem?_eq_some_iff.mp ha).1).trans ha
     have cG:=cell_below hI.below cg
     have fG:=World.ownsRow.frozenAt hroy (m * 4+3)
     obtain ⟨hgw,cur,hgy⟩:=own_at hroy
     have hXy:=(hI.below.block _ (Array.getElem?_eq_some_iff.mp HX.out).1).trans HX.out
     have hZy:=(hI.below.block _ (Array.getElem?_eq_some_iff.mp HZ.out).1).trans HZ.out
     have hgX:¬ w.heap.size=g:=fun e=>by rw [e,hgy] at hXy; injection hXy with h9; injection h9 with _ h9 _; cases h9
     have hgZ:¬ w.heap.size+1=g:=fun e=>by rw [e,hgy] at hZy; injection hZy with h9; injection h9 with _ h9 _; cases h9
     refine wpOp_skip rfl (wanted_none rfl) rfl (w':=y.setCell ⟨g,m * 4+3,none⟩ (.slice na x.1.terms.length nc)) ?_ ?_
     · generalize Act.eval ⟨tm,df⟩=ev at *
       clear hI
       go_simp
     have HN:Hid (∃ R':List Lv,R'.length=q.length∧R'.map (·.1)=r.body∧(y.setCell ⟨g,m * 4+3,none⟩ (.slice na x.1.terms.length nc)).heap[w.heap.size]?=wr.heap[w.heap.size]?∧(y.setCell ⟨g,m * 4+3,none⟩ (.slice na x.1.terms.length nc)).heap[w.heap.size+1]?=wr.heap[w.heap.size+1]?∧Below w.heap.size w (y.setCell ⟨g,m * 4+3,none⟩ (.slice na x.1.terms.length nc))∧TermsO (y.setCell ⟨g,m * 4+3,none⟩ (.slice na x.1.terms.length nc)) (.slice ua r.terms.length uc) r.terms∧(y.setCell ⟨g,m * 4+3,none⟩ (.slice na x.1.terms.length nc)).ownsRow w.heap.size 49 4 (.slice (some ⟨g,0,none⟩) q.length vc) q.length (lCells R')∧(∀ j p,j<m+1→R'[j]?=some p→TermsO (y.setCell ⟨g,m * 4+3,none⟩ (.slice na x.1.terms.length nc)) p.2 p.1.terms)∧(∀ j p,m+1≤j→R'[j]?=some p→PTermsV w p.2 p.1.terms)):=by
      refine ⟨R.set m (x.1,.slice na x.1.terms.length nc),by rw [List.length_set]; exact HRL.out,(map_set_fst R m x HHX.out _).trans HRM.out,?_,?_,hby.setCell (p:=⟨g,m * 4+3,none⟩) hgw _,terms_set (TermsO.keep HK.out (KeepT.of_below hI.below)) hgy _ _,?_,fun j p hj hp=>?_,fun j p hj hp=>?_⟩
      · rw [heap_set_other hgX,hXy,HX.out]
      · rw [heap_set_other hgZ,hZy,HZ.out]
      · rw [lCells_set R m x HHX.out]
        exact (World.ownsRow.stored hroy (m * 4+3) _).1
      · rw [List.getElem?_set] at hp
        by_cases hjm:m=j
        · rw [if_pos hjm,if_pos (by rw [HRL.out]; omega)] at hp
          obtain rfl:(x.1,Value.slice na x.1.terms.length nc)=p:=by simpa using hp
          exact terms_set t27 hgy _ _
        · rw [if_neg hjm] at hp
          exact terms_set (TermsO.keep (HD.out j p (by omega) hp) (KeepT.of_below hI.below)) hgy _ _
      · rw [List.getElem?_set,if_neg (by omega)] at hp
        exact HLF.out j p (by omega) hp
     have hsz:=hI.size
     have hst:=hI.still
     obtain rfl:df=[]:=hI.defers
     have hF:=tmps_fold [18,19,20,21,22,23,24,25,26,27,28,29] tm _ hsz hst
     clear hI hsz hst e29 t27 e27 hby hroy cG fG hgw hgy hXy hZy hgX hgZ cg
     generalize y.setCell ⟨g,m * 4+3,none⟩ (.slice na x.1.terms.length nc)=y9 at *
     simp only [List.foldl_cons,List.foldl_nil] at hF
     generalize tm.getD 18 undef=x18 at hF
     generalize tm.getD 19 undef=x19 at hF
     generalize tm.getD 20 undef=x20 at hF
     generalize tm.getD 21 undef=x21 at hF
     generalize tm.getD 22 undef=x22 at hF
     generalize tm.getD 23 undef=x23 at hF
     generalize tm.getD 24 undef=x24 at hF
     generalize tm.getD 25 undef=x25 at hF
     generalize tm.getD 26 undef=x26 at hF
     generalize tm.getD 27 undef=x27 at hF
     generalize tm.getD 28 undef=x28 at hF
     generalize tm.getD 29 undef=x29 at hF
     simp only [List.setIfInBounds_toArray,List.set_cons_zero,List.set_cons_succ] at hF
     subst hF
     clear c3
     go_wp2_with fail
     go_roundw
     case rel =>
      obtain ⟨R',h1,h2,h3,h4,h5,h6,h7,h8,h9⟩:=HN.out
      exact ⟨m+1,R',hlt,by go_num,h1,h2,h3.trans HX.out,h4.trans HZ.out,h5,h6,h7,h8,h9⟩
     case measure=>simp [intOf]; omega
  · obtain rfl:m=q.length:=by omega
    have g0:wr.cell? ⟨w.heap.size,0,none⟩=some (.int .i64 r.pred):=by rw [Lib.cell_of_heap HX.out]; rfl
    have g1:wr.cell? ⟨w.heap.size,1,none⟩=some (.slice ua r.terms.length uc):=by rw [Lib.cell_of_heap HX.out]; rfl
    have g2:wr.cell? ⟨w.heap.size,2,none⟩=some (.int .i64 r.fold):=by rw [Lib.cell_of_heap HX.out]; rfl
    have g4:wr.cell? ⟨w.heap.size,4,none⟩=some (.int .i64 r.vars):=by rw [Lib.cell_of_heap HX.out]; rfl
    have k0:=HZ.out
    have z0:wr.cell? ⟨w.heap.size+1,0,none⟩=some (.int .i64 0):=by rw [Lib.cell_of_heap k0]; rfl
    have y0:=Lib.frozen_of_heap k0 0
    have k1:(wr.setCell ⟨w.heap.size+1,0,none⟩ (.int .i64 r.pred)).heap[w.heap.size+1]?=some (.cells #[.int .i64 r.pred,.slice none 0 0,.int .i64 0,.slice none 0 0,.int .i64 0] 40):=by rw [Lib.heap_setCell_same k0]; rfl
    have t0:KeepT wr (wr.setCell ⟨w.heap.size+1,0,none⟩ (.int .i64 r.pred)):=keep_box k0 (by decide) (by decide) _ _
    have z1:(wr.setCell ⟨w.heap.size+1,0,none⟩ (.int .i64 r.pred)).cell? ⟨w.heap.size+1,1,none⟩=some (.slice none 0 0):=by rw [Lib.cell_of_heap k1]; rfl
    have y1:=Lib.frozen_of_heap k1 1
    have k2:((wr.setCell ⟨w.heap.size+1,0,none⟩ (.int .i64 r.pred)).setCell ⟨w.heap.size+1,1,none⟩ (.slice ua r.terms.length uc)).heap[w.heap.size+1]?=some (.cells #[.int .i64 r.pred,.slice ua r.terms.length uc,.int .i64 0,.slice none 0 0,.int .i64 0] 40):=by rw [Lib.heap_setCell_same k1]; rfl
    have t1:KeepT (wr.setCell ⟨w.heap.size+1,0,none⟩ (.int .i64 r.pred)) ((wr.setCell ⟨w.heap.size+1,0,none⟩ (.int .i64 r.pred)).setCell ⟨w.heap.size+1,1,none⟩ (.slice ua r.terms.length uc)):=keep_box k1 (by decide) (by decide) _ _
    have z2:((wr.setCell ⟨w.heap.size+1,0,none⟩ (.int .i64 r.pred)).setCell ⟨w.heap.size+1,1,none⟩ (.slice ua r.terms.length uc)).cell? ⟨w.heap.size+1,2,none⟩=some (.int .i64 0):=by rw [Lib.cell_of_heap k2]; rfl
    have y2:=Lib.frozen_of_heap k2 2
    have k3:(((wr.setCell ⟨w.heap.size+1,0,none⟩ (.int .i64 r.pred)).setCell ⟨w.heap.size+1,1,none⟩ (.slice ua r.terms.length uc)).setCell ⟨w.heap.size+1,2,none⟩ (.int .i64 r.fold)).heap[w.heap.size+1]?=some (.cells #[.int .i64 r.pred,.slice ua r.terms.length uc,.int .i64 r.fold,.slice none 0 0,.int .i64 0] 40):=by rw [Lib.heap_setCell_same k2]; rfl
    have t2:KeepT ((wr.setCell ⟨w.heap.size+1,0,none⟩ (.int .i64 r.pred)).setCell ⟨w.heap.size+1,1,none⟩ (.slice ua r.terms.length uc)) (((wr.setCell ⟨w.heap.size+1,0,none⟩ (.int .i64 r.pred)).setCell ⟨w.heap.size+1,1,none⟩ (.slice ua r.terms.length uc)).setCell ⟨w.heap.size+1,2,none⟩ (.int .i64 r.fold)):=keep_box k2 (by decide) (by decide) _ _
    have z3:(((wr.setCell ⟨w.heap.size+1,0,none⟩ (.int .i64 r.pred)).setCell ⟨w.heap.size+1,1,none⟩ (.slice ua r.terms.length uc)).setCell ⟨w.heap.size+1,2,none⟩ (.int .i64 r.fold)).cell? ⟨w.heap.size+1,3,none⟩=some (.slice none 0 0):=by rw [Lib.cell_of_heap k3]; rfl
    have y3:=Lib.frozen_of_heap k3 3
    have k4:((((wr.setCell ⟨w.heap.size+1,0,none⟩ (.int .i64 r.pred)).setCell ⟨w.heap.size+1,1,none⟩ (.slice ua r.terms.length uc)).setCell ⟨w.heap.size+1,2,none⟩ (.int .i64 r.fold)).setCell ⟨w.heap.size+1,3,none⟩ (.slice va q.length vc)).heap[w.heap.size+1]?=some (.cells #[.int .i64 r.pred,.slice ua r.terms.length uc,.int .i64 r.fold,.slice va q.length vc,.int .i64 0] 40):=by rw [Lib.heap_setCell_same k3]; rfl
    have t3:KeepT (((wr.setCell ⟨w.heap.size+1,0,none⟩ (.int .i64 r.pred)).setCell ⟨w.heap.size+1,1,none⟩ (.slice ua r.terms.length uc)).setCell ⟨w.heap.size+1,2,none⟩ (.int .i64 r.fold)) ((((wr.setCell ⟨w.heap.size+1,0,none⟩ (.int .i64 r.pred)).setCell ⟨w.heap.size+1,1,none⟩ (.slice ua r.terms.length uc)).setCell ⟨w.heap.size+1,2,none⟩ (.int .i64 r.fold)).setCell ⟨w.heap.size+1,3,none⟩ (.slice va q.length vc)):=keep_box k3 (by decide) (by decide) _ _
    have z4:((((wr.setCell ⟨w.heap.size+1,0,none⟩ (.int .i64 r.pred)).setCell ⟨w.heap.size+1,1,none⟩ (.slice ua r.terms.length uc)).setCell ⟨w.heap.size+1,2,none⟩ (.int .i64 r.fold)).setCell ⟨w.heap.size+1,3,none⟩ (.slice va q.length vc)).cell? ⟨w.heap.size+1,4,none⟩=some (.int .i64 0):=by rw [Lib.cell_of_heap k4]; rfl
    have y4:=Lib.frozen_of_heap k4 4
    have k5:(((((wr.setCell ⟨w.heap.size+1,0,none⟩ (.int .i64 r.pred)).setCell ⟨w.heap.size+1,1,none⟩ (.slice ua r.terms.length uc)).setCell ⟨w.heap.size+1,2,none⟩ (.int .i64 r.fold)).setCell ⟨w.heap.size+1,3,none⟩ (.slice va q.length vc)).setCell ⟨w.heap.size+1,4,none⟩ (.int .i64 r.vars)).heap[w.heap.size+1]?=some (.cells #[.int .i64 r.pred,.slice ua r.terms.length uc,.int .i64 r.fold,.slice va q.length vc,.int .i64 r.vars] 40):=by rw [Lib.heap_setCell_same k4]; rfl
    have t4:KeepT ((((wr.setCell ⟨w.heap.size+1,0,none⟩ (.int .i64 r.pred)).setCell ⟨w.heap.size+1,1,none⟩ (.slice ua r.terms.length uc)).setCell ⟨w.heap.size+1,2,none⟩ (.int .i64 r.fold)).setCell ⟨w.heap.size+1,3,none⟩ (.slice va q.length vc)) (((((wr.setCell ⟨w.heap.size+1,0,none⟩ (.int .i64 r.pred)).setCell ⟨w.heap.size+1,1,none⟩ (.slice ua r.terms.length uc)).setCell ⟨w.heap.size+1,2,none⟩ (.int .i64 r.fold)).setCell ⟨w.heap.size+1,3,none⟩ (.slice va q.length vc)).setCell ⟨w.heap.size+1,4,none⟩ (.int .i64 r.vars)):=keep_box k4 (by decide) (by decide) _ _
    have d0:(((((wr.setCell ⟨w.heap.size+1,0,none⟩ (.int .i64 r.pred)).setCell ⟨w.heap.size+1,1,none⟩ (.slice ua r.terms.length uc)).setCell ⟨w.heap.size+1,2,none⟩ (.int .i64 r.fold)).setCell ⟨w.heap.size+1,3,none⟩ (.slice va q.length vc)).setCell ⟨w.heap.size+1,4,none⟩ (.int .i64 r.vars)).cell? ⟨w.heap.size+1,0,none⟩=some (.int .i64 r.pred):=by rw [Lib.cell_of_heap k5]; rfl
    have d1:(((((wr.setCell ⟨w.heap.size+1,0,none⟩ (.int .i64 r.pred)).setCell ⟨w.heap.size+1,1,none⟩ (.slice ua r.terms.length uc)).setCell ⟨w.heap.size+1,2,none⟩ (.int .i64 r.fold)).setCell ⟨w.heap.size+1,3,none⟩ (.slice va q.length vc)).setCell ⟨w.heap.size+1,4,none⟩ (.int .i64 r.vars)).cell? ⟨w.heap.size+1,1,none⟩=some (.slice ua r.terms.length uc):=by rw [Lib.cell_of_heap k5]; rfl
    have d2:(((((wr.setCell ⟨w.heap.size+1,0,none⟩ (.int .i64 r.pred)).setCell ⟨w.heap.size+1,1,none⟩ (.slice ua r.terms.length uc)).setCell ⟨w.heap.size+1,2,none⟩ (.int .i64 r.fold)).setCell ⟨w.heap.size+1,3,none⟩ (.slice va q.length vc)).setCell ⟨w.heap.size+1,4,none⟩ (.int .i64 r.vars)).cell? ⟨w.heap.size+1,2,none⟩=some (.int .i64 r.fold):=by rw [Lib.cell_of_heap k5]; rfl
    have d3:(((((wr.setCell ⟨w.heap.size+1,0,none⟩ (.int .i64 r.pred)).setCell ⟨w.heap.size+1,1,none⟩ (.slice ua r.terms.length uc)).setCell ⟨w.heap.size+1,2,none⟩ (.int .i64 r.fold)).setCell ⟨w.heap.size+1,3,none⟩ (.slice va q.length vc)).setCell ⟨w.heap.size+1,4,none⟩ (.int .i64 r.vars)).cell? ⟨w.heap.size+1,3,none⟩=some (.slice va q.length vc):=by rw [Lib.cell_of_heap k5]; rfl
    have d4:(((((wr.setCell ⟨w.heap.size+1,0,none⟩ (.int .i64 r.pred)).setCell ⟨w.heap.size+1,1,none⟩ (.slice ua r.terms.length uc)).setCell ⟨w.heap.size+1,2,none⟩ (.int .i64 r.fold)).setCell ⟨w.heap.size+1,3,none⟩ (.slice va q.length vc)).setCell ⟨w.heap.size+1,4,none⟩ (.int .i64 r.vars)).cell? ⟨w.heap.size+1,4,none⟩=some (.int .i64 r.vars):=by rw [Lib.cell_of_heap k5]; rfl
    have HKT:Hid _:=(((t0.trans t1).trans t2).trans t3).trans t4
    have HBB:Hid (Below w.heap.size w (((((wr.setCell ⟨w.heap.size+1,0,none⟩ (.int .i64 r.pred)).setCell ⟨w.heap.size+1,1,none⟩ (.slice ua r.terms.length uc)).setCell ⟨w.heap.size+1,2,none⟩ (.int .i64 r.fold)).setCell ⟨w.heap.size+1,3,none⟩ (.slice va q.length vc)).setCell ⟨w.heap.size+1,4,none⟩ (.int .i64 r.vars))):=(((((HB.out.setCell (p:=⟨w.heap.size+1,0,none⟩) (Nat.le_succ _) (.int .i64 r.pred)).setCell (p:=⟨w.heap.size+1,1,none⟩) (Nat.le_succ _) (.slice ua r.terms.length uc)).setCell (p:=⟨w.heap.size+1,2,none⟩) (Nat.le_succ _) (.int .i64 r.fold)).setCell (p:=⟨w.heap.size+1,3,none⟩) (Nat.le_succ _) (.slice va q.length vc)).setCell (p:=⟨w.heap.size+1,4,none⟩) (Nat.le_succ _) (.int .i64 r.vars))
    clear k0 k1 k2 k3 k4 k5 t0 t1 t2 t3 t4
    go_wp2_with fail
    refine bodyPost_ret (v:=pruleVal r (.slice ua r.terms.length uc) (.slice va q.length vc)) (by simp [results,Tryz.results79,go_sem,d0,d1,d2,d3,d4]) rfl ?_
    refine ⟨_,_,R,rfl,HRM.out,TermsO.keep HK.out HKT.out,?_,HBB.out⟩
    have hro:LitsO wr (.slice va q.length vc) R:=⟨by rw [HRL.out]; exact own_zero HRO.out,fun p hp=>by
     obtain ⟨j,hj⟩:=List.mem_iff_getElem?.mp hp
     exact HD.out j p (by have:=(List.getElem?_eq_some_iff.mp hj).1; rw [HRL.out] at this; exact this) hj⟩
    exact hro.keep HKT.out
end Go.Proofs.YthenjegmigeieaaGreat
namespace Go.Proofs.YthenjegmigeieaaGreat
open Go.RowKit Go.Shelf
attribute [local go_sem] Oper.semAt_some
def boolRow (l:List Bool):Array Value:=(l.map Value.bool).toArray
theorem boolRow_cell {w:World} {b:Nat} {l:List Bool} (h:w.heap[b]?=some (.cells (boolRow l) 4)) {i:Nat} (hi:i<l.length):w.cell? ⟨b,i,none⟩=some (.bool (l.getD i false)):=by
 rw [Lib.cell_of_heap h]
 unfold boolRow
 simp [hi]
theorem boolRow_set {w:World} {b:Nat} {l:List Bool} (h:w.heap[b]?=some (.cells (boolRow l) 4)) (i:Nat) (v:Bool):(w.setCell ⟨b,i,none⟩ (.bool v)).heap[b]?=some (.cells (boolRow (l.set i v)) 4):=by
 rw [Lib.heap_setCell_same h]
 unfold boolRow
 simp [List.map_set]
namespace St
def backOf (l:List Sc.Rule):List Fx.Edge:=l.flatMap ruleN
theorem backOf_snoc (l:List Sc.Rule) (r:Sc.Rule):backOf (l++[r])=backOf l++ruleN r:=by unfold backOf; rw [List.flatMap_append]; simp
theorem nround_app (E E':List Fx.Edge) (s:List Bool):nround (E++E') s=nround E' (nround E s):=by unfold nround; rw [List.foldl_append]
theorem nround_snoc (E:List Fx.Edge) (e:Fx.Edge) (s:List Bool):nround (E++[e]) s=nstep (nround E s) e:=by unfold nround; rw [List.foldl_append]; rfl
theorem nround_none {r:Sc.Rule} {s:List Bool} (h:s.getD r.pred.toNat false=false):nround (ruleN r) s=s:=by
 unfold ruleN
 induction r.body.filter hang with
 | nil=>rfl
 | cons x l ih =>
  rw [List.map_cons]
  show nround _ (nstep s _)=s
  have h1:nstep s (x.pred.toNat,r.pred.toNat,0)=s:=by unfold nstep; rw [if_neg (by rw [h]; simp)]
  rw [h1]
  exact ih
theorem nstep_keeps {s:List Bool} {e:Fx.Edge} {i:Nat} (h:s.getD i false=true):(nstep s e).getD i false=true:=by
 unfold nstep
 split
 · rw [List.getD_eq_getElem?_getD,List.getElem?_set]
   split
   · rename_i he
     subst he
     split
     · rfl
     · rename_i hl
       rw [List.getD_eq_getElem?_getD,List.getElem?_eq_none (by omega)] at h
       exact h
   · rw [← List.getD_eq_getElem?_getD]; exact h
 · exact h
theorem nround_keeps:∀ (E:List Fx.Edge) {s:List Bool} {i:Nat},s.getD i false=true→(nround E s).getD i false=true
 | [],_,_,h=>h
 | e::E,s,i,h=>by show (nround E (nstep s e)).getD i false=true; exact nround_keeps E (nstep_keeps h)
theorem spread_snoc (E:List Fx.Edge) (b h:Nat) (s:List Bool) (hb:b<s.length) (hh:(nround E s).getD h false=true) :
 decide (nround (E++[(b,h,0)]) s≠s)=(decide (nround E s≠s) || !(nround E s).getD b false):=by
 rw [nround_snoc]
 have h1:nstep (nround E s) (b,h,0)=(nround E s).set b true:=by unfold nstep; exact if_pos hh
 rw [h1]
 cases hc:(nround E s).getD b false
 · have hne:(nround E s).set b true≠s:=fun he=>by
    have h2:((nround E s).set b true).getD b false=true:=by rw [List.getD_eq_getElem?_getD,List.getElem?_set]; simp [nround_length,hb]
    rw [he] at h2
    rw [nround_keeps E h2] at hc
    cases hc
   rw [decide_eq_true hne]
   simp
 · rw [set_same_true hc]
   simp
end St
structure PSt (w:World) (LB n cap:Nat) (W:World) (cur:List Bool) (fl:Bool):Prop where
 gr:w.grownBy W (some LB)
 row:W.heap[LB]?=some (.cells (boolRow cur) 4)
 box:W.heap[w.heap.size]?=some (.cells #[.slice (some ⟨LB,0,none⟩) n cap] 57)
 flag:W.heap[w.heap.size+1]?=some (.cells #[.bool fl] 4)
def edgeN {n:Nat} (h:Nat) (p:HP n):Fx.Edge:=(p.1.1.toNat,h,0)
structure PIn (w wr W2:World) (LB n cap:Nat) (rb:Obj) (ds:List Deferred) (l:List Bool) (E:List Fx.Edge) (h:Nat) {np:Nat} (pre:List (HP np)) (W:World):Prop where
 st:PSt w LB n cap W (St.nround (E++pre.map (edgeN h)) l) (decide (St.nround (E++pre.map (edgeN h)) l≠l))
 qb:W.heap[wr.heap.size]?=some rb
 mks:MarksL (w.heap.size+2) W ds
 sz:W2.heap.size≤W.heap.size
theorem PIn_start {w wr W2:World} {LB n cap:Nat} {rb:Obj} {ds:List Deferred} {l:List Bool} {E:List Fx.Edge} {h np:Nat} (hS:PSt w LB n cap wr (St.nround E l) (decide (St.nround E l≠l))) (hM:MarksL (w.heap.size+2) wr ds) (hW:RMem wr W2 rb):PIn w wr W2 LB n cap rb ds l E h ([]:List (HP np)) W2:=by
 have h1:=Nat.lt_of_lt_of_le (Array.getElem?_eq_some_iff.mp hS.flag).1 (Nat.le_refl _)
 refine ⟨?_,hW.qb,hM.keep fun D _ _ hD=>(hW.bel.block D (Array.getElem?_eq_some_iff.mp hD).1).trans hD,Nat.le_refl _⟩
 rw [List.map_nil,List.append_nil]
 refine ⟨⟨hW.bel.os.trans hS.gr.os,hW.bel.tape.trans hS.gr.tape,hW.bel.output.trans hS.gr.output,Nat.le_trans hS.gr.size hW.bel.size,fun j hj hn=>(hW.bel.block j (Nat.lt_of_lt_of_le hj hS.gr.size)).trans (hS.gr.block j hj hn)⟩,(hW.bel.block _ (Array.getElem?_eq_some_iff.mp hS.row).1).trans hS.row,(hW.bel.block _ (Array.getElem?_eq_some_iff.mp hS.box).1).trans hS.box,(hW.bel.block _ h1).trans hS.flag⟩
theorem PIn_own {w wr W2:World} {LB n cap:Nat} {rb:Obj} {ds:List Deferred} {l:List Bool} {np:Nat} {c0:List Bool} {f0:Bool} (hS:PSt w LB n cap wr c0 f0) (hM:MarksL (w.heap.size+2) wr ds) (hW:RMem wr W2 rb) (E:List Fx.Edge) (h:Nat) :
 OwnFrom W2.heap.size (fun (pre:List (HP np)) W=>PIn w wr W2 LB n cap rb ds l E h pre W):=by
 intro pre A B row hI hg hr
 have hsz:=hW.sz
 have hgs:=hS.gr.size
 have hfl:=(Array.getElem?_eq_some_iff.mp hS.flag).1
 have hrw:=(Array.getElem?_eq_some_iff.mp hS.row).1
 have keep:∀ j,j<W2.heap.size→B.heap[j]?=A.heap[j]?:=fun j hj=>hg.block j (Nat.lt_of_lt_of_le hj hI.sz) (fun e=>by have:=(hr j e.symm).1; omega)
 refine ⟨⟨⟨hg.os.trans hI.st.gr.os,hg.tape.trans hI.st.gr.tape,hg.output.trans hI.st.gr.output,Nat.le_trans hI.st.gr.size hg.size,fun j hj hn=>(keep j (by omega)).trans (hI.st.gr.block j hj hn)⟩,(keep _ (by omega)).trans hI.st.row,(keep _ (by omega)).trans hI.st.box,(keep _ (by omega)).trans hI.st.flag⟩,(keep _ (by omega)).trans hI.qb,hI.mks.keep fun D _ hm hD=>?_,Nat.le_trans hI.sz hg.size⟩
 have:=(Array.getElem?_eq_some_iff.mp (hM.mem D hm)).1
 exact (keep D (by omega)).trans hD
theorem round_preN {np:Nat} (E:List Fx.Edge) (h:Nat) (pre:List (HP np)) (x:HP np):E++(pre++[x]).map (edgeN h)=(E++pre.map (edgeN h))++[edgeN h x]:=by rw [List.map_append,List.append_assoc]; rfl
section
variable {w wr W2 W:World} {LB n cap:Nat} {rb:Obj} {ds:List Deferred} {l:List Bool} {E:List Fx.Edge} {h np:Nat} {pre:List (HP np)}
theorem PIn_no (hI:PIn w wr W2 LB n cap rb ds l E h pre W) (x:HP np) (hh:(St.nround (E++pre.map (edgeN h)) l).getD h false=true) (hx:x.1.1.toNat<l.length) (hno:(St.nround (E++pre.map (edgeN h)) l).getD x.1.1.toNat false=true):PIn w wr W2 LB n cap rb ds l E h (pre++[x]) W:=by
 refine ⟨?_,hI.qb,hI.mks,hI.sz⟩
 have h2:decide (St.nround ((E++pre.map (edgeN h))++[edgeN h x]) l≠l)=decide (St.nround (E++pre.map (edgeN h)) l≠l):=by
  have:=St.spread_snoc (E++pre.map (edgeN h)) x.1.1.toNat h l hx hh
  rw [hno,Bool.not_true,Bool.or_false] at this
  exact this
 have h1:St.nstep (St.nround (E++pre.map (edgeN h)) l) (edgeN h x)=St.nround (E++pre.map (edgeN h)) l:=by
  show St.nstep _ (x.1.1.toNat,h,0)=_
  unfold St.nstep
  rw [if_pos hh,St.set_same_true hno]
 rw [round_preN,h2,St.nround_snoc,h1]
 exact hI.st
theorem PIn_yes (hI:PIn w wr W2 LB n cap rb ds l E h pre W) (x:HP np) (hh:(St.nround (E++pre.map (edgeN h)) l).getD h false=true) (hx:x.1.1.toNat<l.length) (hLw:LB<w.heap.size) (hwr:w.heap.size+2≤wr.heap.size) (hyes:(St.nround (E++pre.map (edgeN h)) l).getD x.1.1.toNat false=false) :
 PIn w wr W2 LB n cap rb ds l E h (pre++[x]) ((W.setCell ⟨LB,x.1.1.toNat,none⟩ (.bool true)).setCell ⟨w.heap.size+1,0,none⟩ (.bool true)):=by
 have other:∀ j,¬ j=LB→¬ j=w.heap.size+1→((W.setCell ⟨LB,x.1.1.toNat,none⟩ (.bool true)).setCell ⟨w.heap.size+1,0,none⟩ (.bool true)).heap[j]?=W.heap[j]?:=fun j h1 h2=>by rw [heap_set_other h2,heap_set_other h1]
 have h2:decide (St.nround ((E++pre.map (edgeN h))++[edgeN h x]) l≠l)=true:=by
  have:=St.spread_snoc (E++pre.map (edgeN h)) x.1.1.toNat h l hx hh
  rw [hyes,Bool.not_false,Bool.or_true] at this
  exact this
 have h1:St.nstep (St.nround (E++pre.map (edgeN h)) l) (edgeN h x)=(St.nround (E++pre.map (edgeN h)) l).set x.1.1.toNat true:=by
  show St.nstep _ (x.1.1.toNat,h,0)=_
  unfold St.nstep
  rw [if_pos hh]
 refine ⟨?_,(other _ (by omega) (by omega)).trans hI.qb,hI.mks.keep fun D hD hm hd=>(other D (by omega) (by omega)).trans hd,?_⟩
 · rw [round_preN,h2,St.nround_snoc,h1]
   refine ⟨⟨hI.st.gr.os,hI.st.gr.tape,hI.st.gr.output,?_,fun j hj hn=>?_⟩,?_,(other _ (by omega) (by omega)).trans hI.st.box,?_⟩
   · have:=hI.st.gr.size; simpa using this
   · have hjl:¬ j=LB:=fun e=>hn (by rw [e])
     exact (other j hjl (by omega)).trans (hI.st.gr.block j hj hn)
   · rw [heap_set_other (by omega)]
     exact boolRow_set hI.st.row _ _
   · have hf:(W.setCell ⟨LB,x.1.1.toNat,none⟩ (.bool true)).heap[w.heap.size+1]?=some (.cells #[.bool _] 4):=(heap_set_other (by omega)).trans hI.st.flag
     rw [Lib.heap_setCell_same hf]
     rfl
 · have:=hI.sz; simpa using this
end
theorem raise_one (wr:World) (rb:Obj):Below wr.heap.size wr (wr.alloc rb):=(Below.refl wr.heap.size wr).alloc (Nat.le_refl _) rb
theorem PSt.on {w:World} {LB n cap:Nat} {W W':World} {cur:List Bool} {fl:Bool} (h:PSt w LB n cap W cur fl) (hb:Below W.heap.size W W'):PSt w LB n cap W' cur fl :=
 ⟨⟨hb.os.trans h.gr.os,hb.tape.trans h.gr.tape,hb.output.trans h.gr.output,Nat.le_trans h.gr.size hb.size,fun j hj hn=>(hb.block j (Nat.lt_of_lt_of_le hj h.gr.size)).trans (h.gr.block j hj hn)⟩,
  (hb.block _ (Array.getElem?_eq_some_iff.mp h.row).1).trans h.row,(hb.block _ (Array.getElem?_eq_some_iff.mp h.box).1).trans h.box,(hb.block _ (Array.getElem?_eq_some_iff.mp h.flag).1).trans h.flag⟩
theorem pairs_back {n:Nat} {r:Sc.Rule}:∀ {l:List Sc.Lit},St.Bound n l→(St.pairs n r l).map (edgeN r.pred.toNat)=(l.filter St.hang).map fun x=>((x.pred.toNat,r.pred.toNat,0):Fx.Edge)
 | [],_=>rfl
 | x::l,h=>by
  have ih:=pairs_back (r:=r) (l:=l) (fun y hy=>h y (List.mem_cons_of_mem _ hy))
  unfold St.pairs at ih ⊢
  by_cases hx:St.hang x=true
  · have hb:=h x List.mem_cons_self hx
    rw [List.filterMap_cons,St.pair1_some hx hb.1 hb.2,List.filter_cons,if_pos hx,List.map_cons,List.map_cons,ih]
    rfl
  · rw [List.filterMap_cons,St.pair1_none hx,List.filter_cons,if_neg hx,ih]
theorem spread_any (wp w:World) (rules:List Sc.Rule) (vr:Value) (l:List Bool) (LB cap:Nat) (hV:PRulesV wp vr rules) (hB:Below wp.heap.size wp w) (hLB:wp.heap.size≤LB) (hrow:w.heap[LB]?=some (.cells (boolRow l) 4))
 (hR:∀ r,r∈rules→St.RuleIn l.length r) (hn:rules.length≤12) :
 Calls Tryz.prog 119 #[.slice (some ⟨LB,0,none⟩) l.length cap,vr] w fun e w'=>e=.returned (.bool (decide (St.nround (St.backOf rules) l≠l)))∧w'.heap[LB]?=some (.cells (boolRow (St.nround (St.backOf rules) l)) 4)∧w.grownBy w' (some LB):=by
 obtain ⟨ar,cr,rfl,hA⟩:=hV
 have HA:Hid (PRulesAt wp ar rules):=hA
 have hLw:LB<w.heap.size:=(Array.getElem?_eq_some_iff.mp hrow).1
 refine (callsIn_wide (n:=3)).1 ?_
 refine callsIn_of_wp_marks Tryz.func119 rfl trivial ?_ rfl
 simp only [Tryz.ntmps119,List.size_toArray,List.length_cons,List.length_nil,Nat.reduceAdd,Nat.reduceSub,Array.replicate_succ,Array.replicate_zero,List.push_toArray,List.append_toArray,List.nil_append,List.cons_append]
 have hSt:PSt w LB l.length cap ((w.alloc (.cells #[.slice (some ⟨LB,0,none⟩) l.length cap] 57)).alloc (.cells #[.bool false] 4)) l false:=by
  have b1:=(Below.refl w.heap.size w).alloc (Nat.le_refl _) (.cells #[.slice (some ⟨LB,0,none⟩) l.length cap] 57)
  have p1:=heap_alloc_new w (.cells #[.slice (some ⟨LB,0,none⟩) l.length cap] 57)
  have s1:(w.alloc (.cells #[.slice (some ⟨LB,0,none⟩) l.length cap] 57)).heap.size=w.heap.size+1:=by simp
  generalize w.alloc (.cells #[.slice (some ⟨LB,0,none⟩) l.length cap] 57)=x1 at *
  have b2:=(Below.refl x1.heap.size x1).alloc (Nat.le_refl _) (.cells #[.bool false] 4)
  have p2:=heap_alloc_new x1 (.cells #[.bool false] 4)
  have b12:=b1.trans (b2.mono b1.size)
  refine ⟨⟨b12.os,b12.tape,b12.output,b12.size,fun j hj _=>b12.block j hj⟩,(b12.block _ hLw).trans hrow,(b2.block _ (by omega)).trans p1,?_⟩
  rw [s1] at p2
  exact p2
 have HST:Hid _:=hSt
 have HRR:Hid _:=hR
 have HROW:Hid _:=hrow
 clear hSt hR hrow hA
 gi_wp2
 refine wpIn_loop (fun a wr=>∃ (k:Nat) (ds:List Deferred) (x7 x8 x12 x13 x14 x15 x16 x17 x18 x19 x20 x21 x22 x23 x24 x25 x26 x27 x28 x29 x30 x31 x32 x33:Value),k≤rules.length∧a={ tmps:=#[.slice (some ⟨LB,0,none⟩) l.length cap,.slice ar rules.length cr,.pointer (some ⟨w.heap.size,0,none⟩),undef,.bool false,.pointer (some ⟨w.heap.size+1,0,none⟩),undef,x7,x8,.slice ar rules.length cr,.int .i64 rules.length,.int .i64 k,x12,x13,x14,x15,x16,x17,x18,x19,x20,x21,x22,x23,x24,x25,x26,x27,x28,x29,x30,x31,x32,x33,undef],defers:=ds }∧PSt w LB l.length cap wr (St.nround (St.backOf (rules.take k)) l) (decide (St.nround (St.backOf (rules.take k)) l≠l))∧MarksL (w.heap.size+2) wr ds) (fun a _=>rules.length - (intOf (a.tmps.getD 11 undef)).toNat) ?h0 ?round
 case h0=>exact ⟨0,[],_,_,_,_,_,_,_,_,_,_,_,_,_,_,_,_,_,_,_,_,_,_,_,_,Nat.zero_le _,rfl,by simpa [St.backOf,St.nround] using HST.out,trivial⟩
 case round =>
  clear HST
  rintro a wr ⟨k,ds,x7,x8,x12,x13,x14,x15,x16,x17,x18,x19,x20,x21,x22,x23,x24,x25,x26,x27,x28,x29,x30,x31,x32,x33,hk,rfl,hS,hM⟩
  have hBw:Below wp.heap.size wp wr:=⟨hS.gr.os.trans hB.os,hS.gr.tape.trans hB.tape,hS.gr.output.trans hB.output,Nat.le_trans hB.size hS.gr.size,fun j hj=>(hS.gr.block j (Nat.lt_of_lt_of_le hj hB.size) (fun e=>by injection e with e; omega)).trans (hB.block j hj)⟩
  have HS:Hid _:=hS
  have HM:Hid _:=hM
  have HBW:Hid _:=hBw
  clear hS hM
  by_cases hlt:k<rules.length
  · obtain ⟨b,off,rfl,p0,⟨vt,p1,hT⟩,p2,⟨vb,p3,hLL⟩,p4⟩:=prules_at HA.out k hlt
    obtain ⟨at_,ct,rfl,_⟩:=hT
    obtain ⟨ab,cb,rfl,hLL⟩:=hLL
    have HLL:Hid _:=hLL
    have HRI:Hid (St.RuleIn l.length (Sc.ruleD rules k)):=HRR.out _ (by unfold Sc.ruleD; rw [List.getD_eq_getElem?_getD,List.getElem?_eq_getElem hlt]; exact List.getElem_mem hlt)
    have HTK:Hid (rules.take (k+1)=rules.take k++[Sc.ruleD rules k]):=by
     show _=_
     rw [List.take_add_one]
     congr 1
     unfold Sc.ruleD
     rw [List.getD_eq_getElem?_getD,List.getElem?_eq_getElem hlt]
     rfl
    have q0:=cell_below hBw p0
    have q1:=cell_below hBw p1
    have q2:=cell_below hBw p2
    have q3:=cell_below hBw p3
    have q4:=cell_below hBw p4
    clear p0 p1 p2 p3 p4 hLL hBw
    generalize Sc.ruleD rules k=r at *
    obtain ⟨pd,ts,fo,bd,vs⟩:=r
    obtain ⟨pr,rfl⟩:∃ pr:Nat,pd=pr:=⟨pd.toNat,by have:=HRI.out.h0; dsimp only at this; omega⟩
    dsimp only at *
    have hpn:pr<l.length:=by have:=HRI.out.h1; dsimp only at this; omega
    have hcl:(St.nround (St.backOf (rules.take k)) l).length=l.length:=St.nround_length _ _
    have b1:=(Below.refl wr.heap.size wr).alloc (Nat.le_refl _) (.cells #[.int .i64 pr,.slice at_ ts.length ct,.int .i64 fo,.slice ab bd.length cb,.int .i64 vs] 40)
    have c0:(wr.alloc (.cells #[.int .i64 pr,.slice at_ ts.length ct,.int .i64 fo,.slice ab bd.length cb,.int .i64 vs] 40)).cell? ⟨w.heap.size,0,none⟩=some (.slice (some ⟨LB,0,none⟩) l.length cap):=by rw [Lib.cell_of_heap ((b1.block _ (Array.getElem?_eq_some_iff.mp HS.out.box).1).trans HS.out.box)]; rfl
    have c3:(wr.alloc (.cells #[.int .i64 pr,.slice at_ ts.length ct,.int .i64 fo,.slice ab bd.length cb,.int .i64 vs] 40)).cell? ⟨LB,pr,none⟩=some (.bool ((St.nround (St.backOf (rules.take k)) l).getD pr false)):=boolRow_cell ((b1.block _ (Array.getElem?_eq_some_iff.mp HS.out.row).1).trans HS.out.row) (by omega)
    clear b1 hcl
    cases hnd:(St.nround (St.backOf (rules.take k)) l).getD pr false
    · rw [hnd] at c3
      have HE:Hid (St.nround (St.backOf (rules.take (k+1))) l=St.nround (St.backOf (rules.take k)) l):=by
       show _=_
       rw [HTK.out,St.backOf_snoc,St.nround_app]
       exact St.nround_none hnd
      have HA1:=raise_one wr (.cells #[.int .i64 pr,.slice at_ ts.length ct,.int .i64 fo,.slice ab bd.length cb,.int .i64 vs] 40)
      have HA1:Hid _:=HA1
      clear hnd
      gi_wp2
      refine ⟨⟨k+1,_,_,_,_,_,_,_,_,_,_,_,_,_,_,_,_,_,_,_,_,_,_,_,_,_,hlt,rfl,?_,HM.out.keep fun D _ _ hD=>(HA1.out.block D (Array.getElem?_eq_some_iff.mp hD).1).trans hD⟩,?_⟩
      · rw [HE.out]
        exact HS.out.on HA1.out
      · simp [intOf]
        omega
    rw [hnd] at c3
    have HND:Hid _:=hnd
    clear hnd
    gi_wp2
    refine ⟨trivial,?_⟩
    refine (hangs_in Fence.wide _ trivial rfl (⟨pr,ts,fo,bd,vs⟩:Sc.Rule) _ _ _ _ _).mono ?_
    rintro e w' ⟨rfl,rfl⟩
    gi_wp2
    clear q0 q1 q2 q3 q4 c0 c3
    obtain ⟨W2,hW2⟩:∃ W2,W2=((wr.alloc (.cells #[.int .i64 pr,.slice at_ ts.length ct,.int .i64 fo,.slice ab bd.length cb,.int .i64 vs] 40)).alloc (.cells #[.int .i64 pr,.slice at_ ts.length ct,.int .i64 fo,.slice ab bd.length cb,.int .i64 vs] 40)):=⟨_,rfl⟩
    have HW:=raise_mem wr W2 (.cells #[.int .i64 pr,.slice at_ ts.length ct,.int .i64 fo,.slice ab bd.length cb,.int .i64 vs] 40) hW2
    rw [← hW2]
    clear hW2
    have HW:Hid _:=HW
    refine wpIn_rangeFunc_ownG (n:=3) rfl (by omega) (gf:=204) (lb:=#[.pointer (some ⟨wr.heap.size+1,0,none⟩)]) ?hg trivial (enters_of Tryz.func204 (by kernel_rfl) rfl)
     (hangs_stops Fence.wide 2 trivial rfl (by omega) (wr.heap.size+1) wp l.length (⟨pr,ts,fo,bd,vs⟩:Sc.Rule) _ ab cb HLL.out (Nat.le_trans HRI.out.hl (by decide)) HRI.out.hb W2 (HBW.out.trans (HW.out.bel.mono HBW.out.size)) HW.out.rb) (fun h k=>HK.trans h k)
     (fun W j o o' hl h h1 h2=>HK.put (Nat.le_trans HBW.out.size HW.out.bel.size) W j o o' hl h h1 h2) (Below.refl _ _) (fun _=>rfl)
     (fun pre W=>PIn w wr W2 LB l.length cap (.cells #[.int .i64 pr,.slice at_ ts.length ct,.int .i64 fo,.slice ab bd.length cb,.int .i64 vs] 40) ds l (St.backOf (rules.take k)) pr pre W) (fun _ _ _=>False) (PIn_own HS.out HM.out HW.out _ _) (fun _ _ _ _ _ h _ _=>h) (PIn_start HS.out HM.out HW.out)
     (fun x=>{ tmps:=#[.slice (some ⟨LB,0,none⟩) l.length cap,.slice (some ⟨b,off,none⟩) rules.length cr,.pointer (some ⟨w.heap.size,0,none⟩),undef,.bool false,.pointer (some ⟨w.heap.size+1,0,none⟩),undef,.pointer (some ⟨wr.heap.size,0,none⟩),.int .i64 x.1.1,.slice (some ⟨b,off,none⟩) rules.length cr,.int .i64 rules.length,.int .i64 k,.bool true,.pointer (some ⟨b,off+k * 5,none⟩),.agg #[.int .i64 pr,.slice at_ ts.length ct,.int .i64 fo,.slice ab bd.length cb,.int .i64 vs],.slice (some ⟨LB,0,none⟩) l.length cap,.pointer (some ⟨wr.heap.size,0,none⟩),.int .i64 pr,.pointer (some ⟨LB,pr,none⟩),.bool true,.bool false,.agg #[.int .i64 pr,.slice at_ ts.length ct,.int .i64 fo,.slice ab bd.length cb,.int .i64 vs],.func (.func 204) #[] #[.pointer (some ⟨wr.heap.size+1,0,none⟩)],.int .i64 x.1.1,.int .i64 x.1.2,x25,x26,x27,x28,x29,x30,x31,x32,x33,undef],defers:=[] }) ?assign ?body ?done ?stop
    case hg=>rfl
    case assign =>
     intro l x W K hK
     gi_wp2
     exact hK
    case stop =>
     rintro D c pre W _ _ h _
     exact h.elim
    case done =>
     rintro D ys W hD rfl hI hK
     have hsz:=HW.out.sz
     have HE:Hid (St.nround (St.backOf (rules.take (k+1))) l=St.nround (St.backOf (rules.take k)++(St.pairs l.length (⟨pr,ts,fo,bd,vs⟩:Sc.Rule) bd).map (edgeN pr)) l):=by
      show _=_
      rw [HTK.out,St.backOf_snoc]
      congr 2
      exact (pairs_back HRI.out.hb).symm
     gi_wp2
     refine ⟨⟨k+1,hlt,_,⟨by simp,rfl⟩,?_,?_⟩,?_⟩
     · rw [HE.out]
       simpa only [ne_eq,decide_not] using hI.st
     · refine ⟨⟨D,?_,rfl,hK,fun d' hd' e=>?_⟩,hI.mks⟩
       · have:=(Array.getElem?_eq_some_iff.mp HS.out.flag).1
         omega
       · subst e
         have:=(Array.getElem?_eq_some_iff.mp (HM.out.mem D hd')).1
         omega
     · simp [intOf]
       omega
    case body =>
     rintro l0 pre ⟨⟨pq,m⟩,h0,h1,hm⟩ W hI hpl
     dsimp only at h0 h1 hm
     obtain ⟨q,hq⟩:∃ q:Nat,pq=q:=⟨pq.toNat,by omega⟩
     subst hq
     have hq1:q<l.length:=by omega
     have HI:Hid _:=hI
     have hwz:=(Array.getElem?_eq_some_iff.mp HS.out.flag).1
     have hgz:=HBW.out.size
     have c0:W.cell? ⟨w.heap.size,0,none⟩=some (.slice (some ⟨LB,0,none⟩) l.length cap):=by rw [Lib.cell_of_heap hI.st.box]; rfl
     have hcl:(St.nround (St.backOf (rules.take k)++pre.map (edgeN pr)) l).length=l.length:=St.nround_length _ _
     have c2:=boolRow_cell hI.st.row (i:=q) (by omega)
     have f3:=Lib.frozen_of_heap hI.st.row q
     have HFL:Hid _:=fun (v:Value)=>(heap_set_other (w:=W) (b:=LB) (c:=w.heap.size+1) (i:=q) (v:=v) (by omega)).trans hI.st.flag
     have hhd:(St.nround (St.backOf (rules.take k)++pre.map (edgeN pr)) l).getD pr false=true:=by
      rw [St.nround_app]
      exact St.nround_keeps _ HND.out
     have HYES:Hid ((St.nround (St.backOf (rules.take k)++pre.map (edgeN pr)) l).getD q false=false→PIn w wr W2 LB l.length cap (.cells #[.int .i64 pr,.slice at_ ts.length ct,.int .i64 fo,.slice ab bd.length cb,.int .i64 vs] 40) ds l (St.backOf (rules.take k)) pr (pre++[⟨((q:Int),m),h0,h1,hm⟩]) ((W.setCell ⟨LB,q,none⟩ (.bool true)).setCell ⟨w.heap.size+1,0,none⟩ (.bool true))):=fun hy =>
      PIn_yes HI.out ⟨((q:Int),m),h0,h1,hm⟩ hhd hq1 hLw (by omega) hy
     have HNO:Hid ((St.nround (St.backOf (rules.take k)++pre.map (edgeN pr)) l).getD q false=true→PIn w wr W2 LB l.length cap (.cells #[.int .i64 pr,.slice at_ ts.length ct,.int .i64 fo,.slice ab bd.length cb,.int .i64 vs] 40) ds l (St.backOf (rules.take k)) pr (pre++[⟨((q:Int),m),h0,h1,hm⟩]) W):=fun hy =>
      PIn_no HI.out ⟨((q:Int),m),h0,h1,hm⟩ hhd hq1 hy
     have HKL:Hid (wp.heap.size≤LB∧LB<w.heap.size∧w.heap.size+2≤wr.heap.size):=⟨hLB,hLw,by omega⟩
     have hwp:wp.heap.size≤w.heap.size:=by omega
     clear hI hcl hwz hgz hhd
     cases hy:(St.nround (St.backOf (rules.take k)++pre.map (edgeN pr)) l).getD q false
     · rw [hy] at c2
       replace HYES:Hid _:=HYES.out hy
       have c6:=box_cell (HFL.out (.bool true))
       have f6:=Lib.frozen_of_heap (HFL.out (.bool true)) 0
       clear HNO hy
       gi_wp2
       refine ⟨((KeepsOthers.setCell _ _ _).trans (KeepsOthers.setCell _ _ _)).from _,⟨((Below.refl _ W).setCell (p:=⟨LB,q,none⟩) HKL.out.1 _).setCell (p:=⟨w.heap.size+1,0,none⟩) (Nat.le_succ_of_le hwp) _,fun o _ hR=>?_⟩,HYES.out⟩
       have h9:=HKL.out
       rw [heap_set_other (by omega),heap_set_other (by omega)]
       exact hR
     · rw [hy] at c2
       replace HNO:Hid _:=HNO.out hy
       clear HYES hy
       gi_wp2
       exact ⟨KeepsFrom.refl _ _,HK.refl _ _ _,HNO.out⟩
  · obtain rfl:k=rules.length:=by omega
    have c5:wr.cell? ⟨w.heap.size+1,0,none⟩=some (.bool (decide (St.nround (St.backOf (rules.take rules.length)) l≠l))):=by rw [Lib.cell_of_heap HS.out.flag]; rfl
    rw [List.take_length] at *
    obtain ⟨fb,hfb⟩:∃ fb,fb=decide (St.nround (St.backOf rules) l≠l):=⟨_,rfl⟩
    rw [← hfb] at c5
    have HFB:Hid _:=hfb
    clear hfb
    gi_wp2
    have hrw:=(Array.getElem?_eq_some_iff.mp HROW.out).1
    refine marks_leave (B:=w.heap.size+2) (v:=.bool fb) (fun w=>results_tmp (t:=4) rfl _ _ w) ds wr HM.out (fun w' hb=>⟨by rw [HFB.out],?_,?_⟩)
    · exact (hb.block LB (by omega)).trans HS.out.row
    · exact ⟨hb.os.trans HS.out.gr.os,hb.tape.trans HS.out.gr.tape,hb.output.trans HS.out.gr.output,Nat.le_trans HS.out.gr.size hb.size,fun j hj hn=>(hb.block j (by omega)).trans (HS.out.gr.block j hj hn)⟩
end Go.Proofs.YthenjegmigeieaaGreat
namespace Go.Proofs.YthenjegmigeieaaGreat
open Go.RowKit
namespace St
theorem niter_add (E:List Fx.Edge):∀ (j k:Nat) (s:List Bool),niter E (j+k) s=niter E k (niter E j s)
 | 0,k,s=>by rw [Nat.zero_add]; rfl
 | j+1,k,s=>by rw [Nat.add_right_comm]; exact niter_add E j k (nround E s)
theorem niter_fix {E:List Fx.Edge} {s:List Bool} (h:nround E s=s):∀ k,niter E k s=s
 | 0=>rfl
 | k+1=>by rw [niter_succ,niter_fix h k,h]
theorem needs_early {p:Sc.Prog} {q k:Nat} (hi:Fx.In (back p) p.arity.length) (h:nround (back p) (niter (back p) k (only p.arity.length q))=niter (back p) k (only p.arity.length q)):needs p q=niter (back p) k (only p.arity.length q):=by
 have h2:=needs_fix (p:=p) q hi
 unfold needs at h2 ⊢
 rcases Nat.le_total k p.arity.length with hk | hk
 · obtain ⟨d,hd⟩:∃ d,p.arity.length=k+d:=⟨p.arity.length - k,by omega⟩
   have h3:niter (back p) (k+d) (only p.arity.length q)=niter (back p) k (only p.arity.length q):=by rw [niter_add,niter_fix h]
   rw [← hd] at h3
   exact h3
 · obtain ⟨d,hd⟩:∃ d,k=p.arity.length+d:=⟨k - p.arity.length,by omega⟩
   rw [hd,niter_add,niter_fix h2]
def falses:List Bool→Nat
 | []=>0
 | b::l=>(if b then 0 else 1)+falses l
theorem falses_lt:∀ {s t:List Bool},s.length=t.length→(∀ i:Nat,s.getD i false=true→t.getD i false=true)→s≠t→falses t<falses s
 | [],[],_,_,hn=>absurd rfl hn
 | [],_::_,h,_,_=>absurd h (by simp)
 | _::_,[],h,_,_=>absurd h (by simp)
 | x::s,y::t,h,hk,hn=>by
  have hl:s.length=t.length:=by simpa using h
  have hks:∀ i:Nat,s.getD i false=true→t.getD i false=true:=fun i hi=>by have:=hk (i+1); simpa using this (by simpa using hi)
  have h0:=hk 0
  simp only [List.getD_cons_zero] at h0
  by_cases hst:s=t
  · have hxy:x≠y:=fun e=>hn (by rw [e,hst])
    unfold falses
    cases x
    · cases y
      · exact absurd rfl hxy
      · rw [hst]; simp
    · exact absurd (h0 rfl).symm hxy
  · have ih:=falses_lt hl hks hst
    unfold falses
    cases x
    · cases y <;> simp <;> omega
    · rw [h0 rfl]; simp; exact ih
def lacks:Option Obj→Nat
 | some (.cells a _)=>falses (a.toList.map fun v=>match v with | .bool b=>b | _=>false)
 | _=>0
theorem lacks_row (l:List Bool):lacks (some (.cells (boolRow l) 4))=falses l:=by
 unfold lacks boolRow
 simp only [List.map_map]
 congr 1
 induction l with
 | nil=>rfl
 | cons b l ih=>simp only [List.map_cons,Function.comp,ih]
def isIn (p:Sc.Prog) (k:Int):Bool:=decide (0≤k) && decide (k<(p.arity.length:Int))
def needErr (p:Sc.Prog) (k:Int):Int:=if Sc.check p=0 then (if isIn p k then 0 else 5) else Sc.check p
def needOut (p:Sc.Prog) (k:Int):List Bool:=if Sc.check p=0∧isIn p k=true then needs p k.toNat else []
theorem needErr_bad {p:Sc.Prog} {k:Int} (h:¬ Sc.check p=0):needErr p k=Sc.check p∧needOut p k=[]:=by
 unfold needErr needOut
 rw [if_neg h,if_neg (fun k=>h k.1)]
 exact ⟨rfl,rfl⟩
theorem needErr_in {p:Sc.Prog} {k:Int} (h:Sc.check p=0) (hf:isIn p k=true):needErr p k=0∧needOut p k=needs p k.toNat:=by
 unfold needErr needOut
 rw [if_pos h,if_pos hf,if_pos ⟨h,hf⟩]
 exact ⟨rfl,rfl⟩
theorem needErr_out {p:Sc.Prog} {k:Int} (h:Sc.check p=0) (hf:isIn p k=false):needErr p k=5∧needOut p k=[]:=by
 unfold needErr needOut
 rw [if_pos h,if_neg (by simp [hf]),if_neg (by simp [hf])]
 exact ⟨rfl,rfl⟩
end St
theorem boolRow_setIf (l:List Bool) (q:Nat) (v:Bool):(boolRow l).setIfInBounds q (.bool v)=boolRow (l.set q v):=by
 unfold boolRow
 rw [List.setIfInBounds_toArray,List.map_set]
theorem made_boolRow (n:Nat):madeCells #[Value.bool false] n=boolRow (List.replicate n false):=made_bools n
theorem boolRow_bools {w:World} {b:Nat} {l:List Bool} (cap:Nat) (hc:l.length≤cap) (h:w.heap[b]?=some (.cells (boolRow l) 4)):BoolsV w (.slice (some ⟨b,0,none⟩) l.length cap) l:=by
 refine ⟨_,_,rfl,⟨hc,fun h=>by cases h⟩,.inr ⟨b,0,rfl,fun i hi=>?_⟩⟩
 rw [Nat.zero_add]
 exact boolRow_cell h hi
theorem Needs_any (p:Sc.Prog) (pd:Int) (va vn vr:Value) (w:World) (hP:ProgV w va vn vr p) (hF:ProgFit p) :
 Calls Tryz.prog 76 #[progVal va vn vr,.int .i64 pd] w fun e w'=>∃ v,e=.returned (.tuple #[v,.int .i64 (St.needErr p pd)])∧BoolsV w' v (St.needOut p pd)∧Below w.heap.size w w':=by
 obtain ⟨a0,n0,rfl,_⟩:=id hP.ar
 obtain ⟨a1,n1,rfl,_⟩:=id hP.nm
 obtain ⟨a2,n2,rfl,_⟩:=id hP.rl
 have hb0:Below w.heap.size w (w.alloc (.cells #[.slice a0 p.arity.length n0,.slice a1 p.names.length n1,.slice a2 p.rules.length n2] 26)):=(Below.refl _ _).alloc (Nat.le_refl _) _
 have hX:=heap_alloc_new w (.cells #[.slice a0 p.arity.length n0,.slice a1 p.names.length n1,.slice a2 p.rules.length n2] 26)
 have hnil:∀ u:World,BoolsV u (.slice none 0 0) []:=fun u=>⟨none,0,rfl,⟨Nat.le_refl _,fun _=>rfl⟩,.inl rfl⟩
 have HN:Hid _:=hnil
 have HP:Hid _:=hP
 have HF:Hid _:=hF
 clear hP hF hnil
 go_enter Tryz.func76,Tryz.ntmps76
 go_wp2_with fail
 generalize w.alloc (.cells #[.slice a0 p.arity.length n0,.slice a1 p.names.length n1,.slice a2 p.rules.length n2] 26)=w1 at *
 refine (ScCheck_any p _ _ _ w1 (HP.out.below hb0) HF.out).mono ?_
 rintro e w2 ⟨rfl,hb2⟩
 have hX2:=(hb2.block _ (Array.getElem?_eq_some_iff.mp hX).1).trans hX
 have hbw:=hb0.trans (hb2.mono hb0.size)
 clear hX hb0 hb2
 by_cases hc:Sc.check p=0
 · obtain ⟨hn,hr,hR⟩:=St.check_in hc
   have HC:Hid (Sc.check p=0):=hc
   have HR:Hid _:=hR
   rw [hc]
   clear hc hR
   have c0:w2.cell? ⟨w.heap.size,0,none⟩=some (.slice a0 p.arity.length n0):=by rw [Lib.cell_of_heap hX2]; rfl
   by_cases h0:pd<0
   · have HE:Hid _:=St.needErr_out (k:=pd) HC.out (by simp [St.isIn]; omega)
     have hd:decide (pd<0)=true:=decide_eq_true h0
     clear h0
     go_wp2_with fail
     refine bodyPost_ret (results_tmp2 rfl _ _ _) rfl ?_
     exact ⟨_,by rw [HE.out.1]; rfl,by rw [HE.out.2]; exact HN.out _,hbw⟩
   · have hd:decide (pd<0)=false:=decide_eq_false h0
     by_cases h1:(p.arity.length:Int)≤pd
     · have HE:Hid _:=St.needErr_out (k:=pd) HC.out (by simp [St.isIn]; omega)
       have hd1:decide ((p.arity.length:Int)≤pd)=true:=decide_eq_true h1
       clear h0 h1
       go_wp2_with fail
       refine bodyPost_ret (results_tmp2 rfl _ _ _) rfl ?_
       exact ⟨_,by rw [HE.out.1]; rfl,by rw [HE.out.2]; exact HN.out _,hbw⟩
     · have HE:Hid _:=St.needErr_in (k:=pd) HC.out (by simp [St.isIn]; omega)
       obtain ⟨q,rfl⟩:∃ q:Nat,pd=q:=⟨pd.toNat,by omega⟩
       have hq:q<p.arity.length:=by omega
       have hd1:decide ((p.arity.length:Int)≤(q:Int))=false:=decide_eq_false h1
       have hd1n:decide (p.arity.length≤q)=false:=decide_eq_false (by omega)
       clear h0 h1
       have hmk:=run_make_row' (P:=Tryz.prog) 57 4 (.bool false) 1 Tryz.underlying57 (by kernel_rfl) rfl .i64 .i64 p.arity.length (by omega) (by omega)
       have b3:=(Below.refl w2.heap.size w2).alloc (Nat.le_refl _) (.cells (madeCells #[Value.bool false] p.arity.length) 4)
       have hrow:=heap_alloc_new w2 (.cells (madeCells #[Value.bool false] p.arity.length) 4)
       have hX3:=(b3.block _ (Array.getElem?_eq_some_iff.mp hX2).1).trans hX2
       have hb3:=hbw.trans (b3.mono hbw.size)
       have hlw:w.heap.size<w2.heap.size:=(Array.getElem?_eq_some_iff.mp hX2).1
       rw [made_boolRow] at hmk hrow hX3 hb3
       clear b3
       have f3:=Lib.frozen_of_heap hrow q
       have c4:=boolRow_cell hrow (i:=q) (by simpa using hq)
       clear hrow
       have b4:=(Below.refl w2.heap.size w2).alloc (Nat.le_refl _) (.cells ((boolRow (List.replicate p.arity.length false)).setIfInBounds q (.bool true)) 4)
       have hX4:=(b4.block _ (Array.getElem?_eq_some_iff.mp hX2).1).trans hX2
       have hb4:=hbw.trans (b4.mono hbw.size)
       have HRW:Hid ((w2.alloc (.cells ((boolRow (List.replicate p.arity.length false)).setIfInBounds q (.bool true)) 4)).heap[w2.heap.size]?=some (.cells (boolRow (St.only p.arity.length q)) 4)):=by
        show _=_
        rw [heap_alloc_new,boolRow_setIf]
        rfl
       clear b4
       have HX4:Hid _:=hX4
       have HB4:Hid _:=hb4
       clear hX3 hb3 hX4 hb4
       go_wp2_with fail
       generalize w2.alloc (.cells ((boolRow (List.replicate p.arity.length false)).setIfInBounds q (.bool true)) 4)=w3 at *
       generalize w2.heap.size=LB at *
       clear hmk c0 hX2 hbw f3 c4
       go_loopw [29] (fun _ wr=>∃ k:Nat,wr.heap[LB]?=some (.cells (boolRow (St.niter (St.back p) k (St.only p.arity.length q))) 4)∧w3.grownBy wr (some LB)) (fun _ wr=>St.lacks wr.heap[LB]?)
       case atStart=>exact ⟨0,HRW.out,⟨rfl,rfl,rfl,Nat.le_refl _,fun _ _ _=>rfl⟩⟩
       case round =>
        clear HRW
        obtain ⟨k,hrow,hg⟩:=hrel
        have hXr:wr.heap[w.heap.size]?=some (.cells #[.slice a0 p.arity.length n0,.slice a1 p.names.length n1,.slice a2 p.rules.length n2] 26):=(hg.block _ (Array.getElem?_eq_some_iff.mp HX4.out).1 (fun e=>by injection e with e; omega)).trans HX4.out
        have c2:wr.cell? ⟨w.heap.size,2,none⟩=some (.slice a2 p.rules.length n2):=by rw [Lib.cell_of_heap hXr]; rfl
        have hbr:Below w.heap.size w wr:=below_row HB4.out hg (by omega)
        have HROW:Hid _:=hrow
        have HG:Hid _:=hg
        have HBR:Hid _:=hbr
        clear hXr hbr hrow hg
        have hlen:(St.niter (St.back p) k (St.only p.arity.length q)).length=p.arity.length:=by rw [St.niter_length]; simp [St.only]
        have HSA:=spread_any w wr p.rules (.slice a2 p.rules.length n2) (St.niter (St.back p) k (St.only p.arity.length q)) LB p.arity.length HP.out.rl HBR.out (by omega) HROW.out (by rw [hlen]; exact HR.out) hr
        rw [hlen] at HSA
        have HSA:Hid _:=HSA
        have HLN:Hid _:=hlen
        clear hlen
        go_wp2_with fail
        refine Calls.mono HSA.out ?_
        rintro e w5 ⟨rfl,hrow5,hg5⟩
        have HR5:Hid _:=hrow5
        have HG5:Hid _:=hg5
        clear HSA hrow5 hg5
        by_cases hfx:St.nround (St.backOf p.rules) (St.niter (St.back p) k (St.only p.arity.length q))=St.niter (St.back p) k (St.only p.arity.length q)
        · have hfd:decide (St.nround (St.backOf p.rules) (St.niter (St.back p) k (St.only p.arity.length q))≠St.niter (St.back p) k (St.only p.arity.length q))=false:=decide_eq_false (fun h=>h hfx)
          have HL:Hid _:=St.needs_early (St.back_in HR.out) hfx
          rw [hfd]
          rw [hfx] at HR5
          clear hfx hfd
          go_wp2_with fail
          refine bodyPost_ret (results_tmp2 rfl _ _ _) rfl ⟨_,by rw [HE.out.1]; rfl,?_,?_⟩
          · rw [HE.out.2,Int.toNat_natCast,HL.out]
            have h9:=boolRow_bools p.arity.length (by rw [HLN.out]; exact Nat.le_refl _) HR5.out
            rw [HLN.out] at h9
            exact h9
          · exact below_row HBR.out HG5.out (by omega)
        · have hfd:decide (St.nround (St.backOf p.rules) (St.niter (St.back p) k (St.only p.arity.length q))≠St.niter (St.back p) k (St.only p.arity.length q))=true:=decide_eq_true hfx
          have HFX:Hid _:=hfx
          rw [hfd]
          clear hfx hfd
          go_wp2_with fail
          go_roundw
          case rel=>exact ⟨k+1,by rw [St.niter_succ]; exact HR5.out,HG.out.trans_row HG5.out⟩
          case measure =>
           rw [HR5.out,HROW.out,St.lacks_row,St.lacks_row]
           exact St.falses_lt (St.nround_length _ _).symm (fun i h=>St.nround_keeps _ h) (fun e=>HFX.out e.symm)
 · have hcd:(Sc.check p==0)=false:=by simp [hc]
   have HE:Hid _:=St.needErr_bad (k:=pd) hc
   clear hc
   go_wp2_with fail
   refine bodyPost_ret (results_tmp2 rfl _ _ _) rfl ?_
   exact ⟨_,by rw [HE.out.1]; rfl,by rw [HE.out.2]; exact HN.out _,hbw⟩
end Go.Proofs.YthenjegmigeieaaGreat
