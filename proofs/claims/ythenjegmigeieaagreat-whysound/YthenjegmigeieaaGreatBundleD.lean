/- Own texts, one behind the other (part 4). -/
import Derived.Test.YthenjegmigeieaaGreatBundleC
import Derived.Test.YthenjegmigeieaaGreatRows
import Derived.RangeFuncNested
import Derived.RangeFuncBound
import Derived.RangeFuncCalls
import Derived.RangeFuncLeaves
import Derived.Shelf.Abstract
import Derived.Shelf.RegionOpen
import Derived.WalkKit
import Derived.OwnWalkIn
import Derived.TacticsInMore
import Derived.LoopNIn
import Derived.LoopIn
import Derived.Deep.QuietTactic
import Derived.BigQuiet
import Derived.Deep.MidRow
import Derived.Deep.WholeRow
import Derived.Maps.OwnSet
import Derived.Defers
import Derived.Recover
import Derived.RegionTactic
import Derived.ChangeAlike
import Derived.Deep.Slices
import Derived.Orders
set_option maxRecDepth 100000
set_option maxHeartbeats 8000000
namespace Go.Proofs.YthenjegmigeieaaGreat
open Go.RowKit Go.Shelf
attribute [local go_sem] Oper.semAt_some
abbrev HP(n:Nat):={p:Int×Int//0≤p.1∧p.1<(n:Int)∧(p.2=0∨p.2=1)}
namespace St
theorem strict01(r:Sc.Rule)(x:Sc.Lit):strict r x=0∨strict r x=1:=by
 unfold strict;split
 ·exact .inr rfl
 exact .inl rfl
def pair1(n:Nat)(r:Sc.Rule)(x:Sc.Lit):Option (HP n):=if h:hang x=true∧0≤x.pred∧x.pred<(n:Int)then some ⟨(x.pred,strict r x),h.2.1,h.2.2,strict01 r x⟩else none
def pairs(n:Nat)(r:Sc.Rule)(l:List Sc.Lit):List (HP n):=l.filterMap (pair1 n r)
theorem pairs_snoc(n:Nat)(r:Sc.Rule)(l:List Sc.Lit)(x:Sc.Lit):pairs n r (l++[x])=pairs n r l++(pair1 n r x).toList:=by unfold pairs;rw[List.filterMap_append,List.filterMap_cons,List.filterMap_nil];cases pair1 n r x<;>rfl
theorem pairs_length(n:Nat)(r:Sc.Rule)(l:List Sc.Lit):(pairs n r l).length≤l.length:=List.length_filterMap_le _ _
def Bound(n:Nat)(l:List Sc.Lit):Prop:=∀x,x∈l→hang x=true→0≤x.pred∧x.pred<(n:Int)
theorem pair1_some{n:Nat}{r:Sc.Rule}{x:Sc.Lit}(h:hang x=true)(h0:0≤x.pred)(h1:x.pred<(n:Int)):pair1 n r x=some ⟨(x.pred,strict r x),h0,h1,strict01 r x⟩:=by unfold pair1;rw[dif_pos ⟨h,h0,h1⟩]
theorem pair1_none{n:Nat}{r:Sc.Rule}{x:Sc.Lit}(h:¬hang x=true):pair1 n r x=none:=by unfold pair1;rw[dif_neg (fun k=>h k.1)]
theorem pairs_edges{n:Nat}{r:Sc.Rule}:∀{l:List Sc.Lit},Bound n l→(pairs n r l).map (fun p=>((r.pred.toNat,p.1.1.toNat,p.1.2):Fx.Edge))=(l.filter hang).map fun x=>(r.pred.toNat,x.pred.toNat,strict r x)
 |[],_=>rfl
 |x::l,h=>by
  have ih:=pairs_edges (r:=r) (l:=l) (fun y hy=>h y (List.mem_cons_of_mem _ hy));unfold pairs at ih ⊢;by_cases hx:hang x=true
  ·have hb:=h x List.mem_cons_self hx;rw[List.filterMap_cons,pair1_some hx hb.1 hb.2,List.filter_cons,if_pos hx,List.map_cons,List.map_cons,ih]
  rw[List.filterMap_cons,pair1_none hx,List.filter_cons,if_neg hx,ih]
end St
def HK(n0 RB:Nat)(W W':World):Prop:=Below n0 W W'∧∀o:Obj,o.isCells=true→W.heap[RB]?=some o→W'.heap[RB]?=some o
theorem HK.refl(n0 RB:Nat)(W:World):HK n0 RB W W:=⟨Below.refl _ _,fun _ _ h=>h⟩
theorem HK.trans{n0 RB:Nat}{A B C:World}(h:HK n0 RB A B)(k:HK n0 RB B C):HK n0 RB A C:=⟨h.1.trans k.1,fun o ho hA=>k.2 o ho (h.2 o ho hA)⟩
theorem HK.put{n0 RB:Nat}{w:World}(hn:n0≤w.heap.size)(W:World)(l:Nat)(o o':Obj)(hl:w.heap.size≤l)(h:W.heap[l]?=some o)(h1:o.isCells=false)(h2:o.isWalk=false):HK n0 RB W (W.putObj l o'):=by
 refine⟨belowK_b hn W l o o' hl h h1 h2,fun q hq hR=>?_⟩;by_cases hlr:RB=l
 ·subst hlr;rw[h]at hR;cases hR;rw[h1]at hq;cases hq
 rw[World.putObj_heap_other hlr];exact hR
theorem HK.alloc{n0 RB:Nat}{W:World}(hn:n0≤W.heap.size)(o:Obj):HK n0 RB W (W.alloc o):=
 ⟨(Below.refl _ _).alloc hn o,fun _ _ hR=>((Below.refl W.heap.size W).alloc (Nat.le_refl _) o).block RB (Array.getElem?_eq_some_iff.mp hR).1 |>.trans hR⟩
abbrev hangEnc{n:Nat}(p:HP n):Array Value:=#[.int .i64 p.1.1, .int .i64 p.1.2]
theorem hangs1_in(F:Fence)(n:Nat)(h78:F.fn 204)(hro:F.round=none)(hn:1≤n)(l RB:Nat)(wp:World)(np:Nat)(r:Sc.Rule)(vt:Value)(ab:Option Addr)(cb:Nat)(hL:PLitsAt wp ab r.body)(hlen:r.body.length≤9223372036854775807)(hG:St.Bound np r.body)(J Jx:List (HP np)→World→Prop)(W:World)
 (hJa:∀s A B,J s A→A.grownBy B none→J s B) (hWp:Below wp.heap.size wp W)
 (hY:∀pre x W1,J pre W1→pre.length<r.body.length→YieldAt F (n-1) Tryz.prog l (hangEnc x) W1 fun e W'=>
  (e=.returned (.bool true)∧J (pre++[x]) W'∧HK wp.heap.size RB W1 W')∨(e=.returned (.bool false)∧Jx (pre++[x]) W'))
 (hR:W.heap[RB]?=some (.cells #[.int .i64 r.pred,vt, .int .i64 r.fold, .slice ab r.body.length cb, .int .i64 r.vars] 40)) (h0:J [] W):
 CallsIn F n Tryz.prog 204 #[.func (.yield l) #[] #[], .pointer (some ⟨RB,0,none⟩)] W fun e W'=>(∃v,e=.returned v)∧
  ((∃ys,ys=St.pairs np r r.body∧J ys W')∨(∃pre,(∃k,pre=St.pairs np r (r.body.take k))∧Jx pre W')):=by
 refine callsIn_of_wp Tryz.func204 rfl h78 ?_ hro;simp only[Tryz.ntmps204,List.size_toArray,List.length_cons,List.length_nil,Nat.reduceAdd,Nat.reduceSub,Array.replicate_succ,Array.replicate_zero,List.push_toArray,List.append_toArray,List.nil_append,List.cons_append];(have c3:W.cell? ⟨RB,3,none⟩=some (.slice ab r.body.length cb):=by rw[Lib.cell_of_heap hR];rfl);have HL:Hid (PLitsAt wp ab r.body):=hL;have HY:Hid _:=hY;have HGG:Hid _:=hG;have HJA:Hid _:=hJa;have HR:Hid _:=hR;clear hL hY hJa hR hG;gi_wp2;gi_loopw [9] (fun i wr=>∃k:Nat,k≤r.body.length∧i=.int .i64 k∧J (St.pairs np r (r.body.take k)) wr∧HK wp.heap.size RB W wr) (fun i _=>r.body.length-(intOf i).toNat);case atStart=>exact⟨0,Nat.zero_le _,rfl,h0,HK.refl _ _ _⟩
 case round=>
  clear c3 h0;obtain⟨k,hk,rfl,hJs,hK⟩:=hrel;have hBp:Below wp.heap.size wp wr:=hWp.trans hK.1;have HBP:Hid _:=hBp;have hRr:=hK.2 _ rfl HR.out;have HKK:Hid _:=hK;have HJS:Hid _:=hJs;(have c2:wr.cell? ⟨RB,2,none⟩=some (.int .i64 r.fold):=by rw[Lib.cell_of_heap hRr];rfl);clear hK hJs;by_cases hlt:k<r.body.length
  ·obtain⟨b,off,rfl,p0,p1,p2,v,p3,hT⟩:=plits_at HL.out k hlt;obtain⟨at_,ct,rfl,_,_⟩:=hT;have q0:=cell_below hBp p0;have q1:=cell_below hBp p1;have q2:=cell_below hBp p2;have q3:=cell_below hBp p3;have hnw:wp.heap.size≤wr.heap.size:=hBp.size;have HTK:Hid (r.body.take (k+1)=r.body.take k++[Sc.litD r.body k]):=by
    show _=_;rw[List.take_add_one]
    congr 1
    unfold Sc.litD;rw[List.getD_eq_getElem?_getD,List.getElem?_eq_getElem hlt];rfl
   (have HPL:Hid ((St.pairs np r (r.body.take k)).length<r.body.length):=by show _<_;have :=St.pairs_length np r (r.body.take k);rw[List.length_take]at this;omega);have HBX:Hid (St.hang (Sc.litD r.body k)=true→0≤(Sc.litD r.body k).pred∧(Sc.litD r.body k).pred<(np:Int)):=HGG.out _ (by unfold Sc.litD;rw[List.getD_eq_getElem?_getD,List.getElem?_eq_getElem hlt];exact List.getElem_mem hlt);clear p0 p1 p2 p3 hBp;generalize Sc.litD r.body k=x at *;have e2:(wr.alloc (.cells #[.int .i64 x.kind, .int .i64 x.op, .int .i64 x.pred, .slice at_ x.terms.length ct] 49)).cell? ⟨RB,2,none⟩=some (.int .i64 r.fold):=cell_below ((Below.refl _ _).alloc (Nat.le_refl _) _) c2;have HG:Hid (J (St.pairs np r (r.body.take k)) (wr.alloc (.cells #[.int .i64 x.kind, .int .i64 x.op, .int .i64 x.pred, .slice at_ x.terms.length ct] 49))):=HJA.out _ _ _ HJS.out (World.grownBy_alloc _ _ none);have HA:Hid (HK wp.heap.size RB wr (wr.alloc (.cells #[.int .i64 x.kind, .int .i64 x.op, .int .i64 x.pred, .slice at_ x.terms.length ct] 49))):=HK.alloc hnw _;obtain⟨kd,op,pd,ts⟩:=x;dsimp only at *;by_cases h1:kd=1
   ·subst h1;(have hh:St.hang ⟨1,op,pd,ts⟩=true:=by simp[St.hang]);by_cases hfo:r.fold=0
    ·(have hfb:(r.fold==0)=true:=by simp[hfo]);have hpd:=HBX.out hh;(have HS:Hid (St.pairs np r (r.body.take (k+1))=St.pairs np r (r.body.take k)++[⟨(pd,0),hpd.1,hpd.2, .inl rfl⟩]):=by show _=_;rw[HTK.out,St.pairs_snoc,St.pair1_some hh hpd.1 hpd.2];simp[St.strict,hfo]);clear hh hfo;obtain⟨fn,tmps,assign,body,hy,hR⟩:=HY.out _ ⟨(pd,0),hpd.1,hpd.2, .inl rfl⟩ _ HG.out HPL.out;dsimp only[hangEnc]at hy;gi_wp2;refine hR.mono ?_;rintro e W3 (⟨rfl,hJ3,hk3⟩|⟨rfl,hJx3⟩)
     ·gi_wp2;go_roundw;(case rel=>exact⟨k+1,hlt,by simp,by rw[HS.out];exact hJ3,HK.trans HKK.out (HK.trans HA.out hk3)⟩);case measure=>exact mI
     gi_wp2;refine bodyPost_ret (results_none rfl _ _ _) rfl ?_;exact⟨⟨_,rfl⟩, .inr ⟨_,⟨k+1,HS.out.symm⟩,hJx3⟩⟩
    (have hfb:(r.fold==0)=false:=by simp[hfo]);have hpd:=HBX.out hh;(have HS:Hid (St.pairs np r (r.body.take (k+1))=St.pairs np r (r.body.take k)++[⟨(pd,1),hpd.1,hpd.2, .inr rfl⟩]):=by show _=_;rw[HTK.out,St.pairs_snoc,St.pair1_some hh hpd.1 hpd.2];simp[St.strict,hfo]);clear hh hfo;obtain⟨fn,tmps,assign,body,hy,hR⟩:=HY.out _ ⟨(pd,1),hpd.1,hpd.2, .inr rfl⟩ _ HG.out HPL.out;dsimp only[hangEnc]at hy;gi_wp2;refine hR.mono ?_;rintro e W3 (⟨rfl,hJ3,hk3⟩|⟨rfl,hJx3⟩)
    ·gi_wp2;go_roundw;(case rel=>exact⟨k+1,hlt,by simp,by rw[HS.out];exact hJ3,HK.trans HKK.out (HK.trans HA.out hk3)⟩);case measure=>exact mI
    gi_wp2;refine bodyPost_ret (results_none rfl _ _ _) rfl ?_;exact⟨⟨_,rfl⟩, .inr ⟨_,⟨k+1,HS.out.symm⟩,hJx3⟩⟩
   (have h1b:(kd==1)=false:=by simp[h1]);by_cases h2:kd=2
   ·subst h2;(have hh:St.hang ⟨2,op,pd,ts⟩=true:=by simp[St.hang]);clear h1 h1b;have hpd:=HBX.out hh;(have HS:Hid (St.pairs np r (r.body.take (k+1))=St.pairs np r (r.body.take k)++[⟨(pd,1),hpd.1,hpd.2, .inr rfl⟩]):=by show _=_;rw[HTK.out,St.pairs_snoc,St.pair1_some hh hpd.1 hpd.2];simp[St.strict]);clear hh;obtain⟨fn,tmps,assign,body,hy,hR⟩:=HY.out _ ⟨(pd,1),hpd.1,hpd.2, .inr rfl⟩ _ HG.out HPL.out;dsimp only[hangEnc]at hy;gi_wp2;refine hR.mono ?_;rintro e W3 (⟨rfl,hJ3,hk3⟩|⟨rfl,hJx3⟩)
    ·gi_wp2;go_roundw;(case rel=>exact⟨k+1,hlt,by simp,by rw[HS.out];exact hJ3,HK.trans HKK.out (HK.trans HA.out hk3)⟩);case measure=>exact mI
    gi_wp2;refine bodyPost_ret (results_none rfl _ _ _) rfl ?_;exact⟨⟨_,rfl⟩, .inr ⟨_,⟨k+1,HS.out.symm⟩,hJx3⟩⟩
   (have h2b:(kd==2)=false:=by simp[h2]);(have HS:Hid (St.pairs np r (r.body.take (k+1))=St.pairs np r (r.body.take k)):=by show _=_;rw[HTK.out,St.pairs_snoc,St.pair1_none (by simp[St.hang,h1,h2])];simp);(have hn1:(kd != 1)=true:=by simp[h1]);(have hn2:(kd != 2)=true:=by simp[h2]);clear h1 h2 h1b h2b;gi_wp2;go_roundw;(case rel=>exact⟨k+1,hlt,by simp,by rw[HS.out];exact HG.out,HK.trans HKK.out HA.out⟩);case measure=>exact mI
  obtain rfl:k=r.body.length:=oM;clear c2 hRr;gi_wp2;go_end0;have h9:=HJS.out;rw[List.take_length]at h9;exact⟨⟨_,rfl⟩, .inl ⟨_,rfl,h9⟩⟩
theorem hangs_in(F:Fence)(n:Nat)(h61:F.fn 168)(hro:F.round=none)(r:Sc.Rule)(at_ ab:Option Addr)(ct cb:Nat)(w:World):
 CallsIn F n Tryz.prog 168 #[pruleVal r (.slice at_ r.terms.length ct) (.slice ab r.body.length cb)] w fun e w'=>e=.returned (.func (.func 204) #[] #[.pointer (some ⟨w.heap.size,0,none⟩)])∧
  w'=w.alloc (.cells #[.int .i64 r.pred, .slice at_ r.terms.length ct, .int .i64 r.fold, .slice ab r.body.length cb, .int .i64 r.vars] 40):=by
 have hmf:∀(fn:Fn)(first cap:Array Value)(w:World),(Instr.makeFunc fn first cap).run Tryz.prog w=.ok (.func fn first cap) w:=fun _ _ _ _=>rfl;refine callsIn_of_wp Tryz.func168 rfl h61 ?_ hro;simp only[Tryz.ntmps168,List.size_toArray,List.length_cons,List.length_nil,Nat.reduceAdd,Nat.reduceSub,Array.replicate_succ,Array.replicate_zero,List.push_toArray,List.append_toArray,List.nil_append,List.cons_append];gi_wp2;go_ret;exact⟨rfl,rfl⟩
theorem hangs_stops(F:Fence)(n:Nat)(h78:F.fn 204)(hro:F.round=none)(hn:1≤n)(RB:Nat)(wp:World)(np:Nat)(r:Sc.Rule)(vt:Value)(ab:Option Addr)(cb:Nat)(hL:PLitsAt wp ab r.body)(hlen:r.body.length≤9223372036854775807)(hG:St.Bound np r.body)(w:World)
 (hWp:Below wp.heap.size wp w) (hR:w.heap[RB]?=some (.cells #[.int .i64 r.pred,vt, .int .i64 r.fold, .slice ab r.body.length cb, .int .i64 r.vars] 40)):
 SeqStopsK F n Tryz.prog 204 #[.pointer (some ⟨RB,0,none⟩)] (fun x:HP np=>hangEnc x) (HK wp.heap.size RB) (fun ys=>ys=St.pairs np r r.body) (fun pre=>∃k,pre=St.pairs np r (r.body.take k)) r.body.length w:=fun l J Jx W hW hJ _ hY h0=>
 hangs1_in F n h78 hro hn l RB wp np r vt ab cb hL hlen hG J Jx W (fun s A B hs hg=>hJ s A B none hs hg (fun _ e=>by cases e)) (hWp.trans (hW.mono hWp.size)) hY ((hW.block RB (Array.getElem?_eq_some_iff.mp hR).1).trans hR) h0
end Go.Proofs.YthenjegmigeieaaGreat
namespace Go.Proofs.YthenjegmigeieaaGreat
open Go.RowKit Go.Shelf
def intRow(l:List Int):Array Value:=(l.map (Value.int .i64)).toArray
theorem intRow_cell{w:World}{b:Nat}{l:List Int}(h:w.heap[b]?=some (.cells (intRow l) 3)){i:Nat}(hi:i<l.length):w.cell? ⟨b,i,none⟩=some (.int .i64 (l.getD i 0)):=by rw[Lib.cell_of_heap h];unfold intRow;simp[hi]
theorem intRow_set{w:World}{b:Nat}{l:List Int}(h:w.heap[b]?=some (.cells (intRow l) 3))(i:Nat)(v:Int):(w.setCell ⟨b,i,none⟩ (.int .i64 v)).heap[b]?=some (.cells (intRow (l.set i v)) 3):=by rw[Lib.heap_setCell_same h];unfold intRow;simp[List.map_set]
theorem heap_set_other{w:World}{b c i:Nat}{v:Value}(h:¬c=b):(w.setCell ⟨b,i,none⟩ v).heap[c]?=w.heap[c]?:=Below.heap_setCell _ _ _ _ h
def MarksL(B:Nat)(w:World):List Deferred→Prop
 |[]=>True
 |d::ds=>(∃D,B≤D∧d={target:=.collected D,args:=#[]}∧w.heap[D]?=some (.deferred (some []))∧∀d',d'∈ds→d'≠d)∧MarksL B w ds
theorem MarksL.keep{B:Nat}{w w':World}:∀{ds:List Deferred},MarksL B w ds→(∀D,B≤D→{target:=.collected D,args:=#[]}∈ds→w.heap[D]?=some (.deferred (some []))→w'.heap[D]?=some (.deferred (some [])))→MarksL B w' ds
 |[],_,_=>trivial
 |_::_,⟨⟨D,hB,hd,hD,hn⟩,h⟩,hk=>⟨⟨D,hB,hd,hk D hB (hd▸List.mem_cons_self) hD,hn⟩,h.keep fun D' hB' hm hD'=>hk D' hB' (List.mem_cons_of_mem _ hm) hD'⟩
theorem MarksL.mem{B:Nat}{w:World}:∀{ds:List Deferred},MarksL B w ds→∀D,{target:=.collected D,args:=#[]}∈ds→w.heap[D]?=some (.deferred (some []))
 |d::ds,⟨⟨D0,hB,hd,hD,hn⟩,h⟩,D,hm=>by
  rcases List.mem_cons.mp hm with hm|hm
  ·rw[hd]at hm;injection hm with h1 _;injection h1 with h1;rw[h1];exact hD
  exact h.mem D hm
theorem marks_leave{F:Fence}{n:Nat}{P:Program}{fn:Func}{tmps:Array Value}{R:Ending→World→Prop}{v:Value}{B:Nat}(hres:∀w,(results fn tmps).run P w=.ok v w):
 ∀(ds:List Deferred)(w:World),MarksL B w ds→(∀w',Below B w w'→R (.returned v) w')→LeavesInM F n P fn tmps R ds .returning w
 |[],w,_,hR=>⟨v,hres w,hR w (Below.refl _ _)⟩
 |d::ds,w,⟨⟨D,hB,hd,hD,hn⟩,h⟩,hR=>by subst hd;refine⟨by simp, .inl ⟨D,_,rfl,run_takeDeferred hD,?_⟩⟩;have hlt:=(Array.getElem?_eq_some_iff.mp hD).1;have hb:Below B w (w.putObj D (.deferred none)):=(Below.refl B w).grown (grownBy_putObj' w D (.deferred none)) oM (fun k e=>by cases e;exact hB);refine marks_leave hres ds _ (h.keep fun D' hB' hm hD'=>?_) (fun w' hb'=>hR w' (hb.trans hb'));rw[World.putObj_heap_other (fun e=>hn _ hm (by rw[e]))];exact hD'
theorem Fx.step_bound{l:List Int}{e:Fx.Edge}{K:Int}(h:∀i:Nat,l.getD i 0≤K)(he:e.2.2≤1)(i:Nat):(Fx.step l e).getD i 0≤K+1:=by
 unfold Fx.step;split
 ·rw[Fx.getD_set];split
  ·have :=h e.2.1;omega
  have :=h i;omega
 have :=h i;omega
theorem Fx.round_bound:∀(E:List Fx.Edge){l:List Int}{K:Int},(∀i:Nat,l.getD i 0≤K)→(∀e,e∈E→e.2.2≤1)→∀i:Nat,(Fx.round E l).getD i 0≤K+E.length
 |[],l,K,h,_,i=>by have :=h i;simpa[Fx.round]using this
 |e::E,l,K,h,he,i=>by have h1:=Fx.round_bound E (l:=Fx.step l e) (K:=K+1) (Fx.step_bound h (he e List.mem_cons_self)) (fun e' h'=>he e' (List.mem_cons_of_mem _ h')) i;show(Fx.round E (Fx.step l e)).getD i 0≤_;rw[List.length_cons];omega
theorem Fx.round_snoc(E:List Fx.Edge)(e:Fx.Edge)(l:List Int):Fx.round (E++[e]) l=Fx.step (Fx.round E l) e:=by unfold Fx.round;rw[List.foldl_append];rfl
theorem Fx.rose_snoc(E:List Fx.Edge)(e:Fx.Edge)(l:List Int)(hi:e.1<l.length):
 decide (Fx.round (E++[e]) l≠l)=(decide (Fx.round E l≠l)||decide ((Fx.round E l).getD e.1 0<(Fx.round E l).getD e.2.1 0+e.2.2)):=by
 rw[Fx.round_snoc];by_cases hr:(Fx.round E l).getD e.1 0<(Fx.round E l).getD e.2.1 0+e.2.2
 ·have h1:=Fx.round_le E l;have h2:=Fx.step_le (Fx.round E l) e;(have hne:Fx.step (Fx.round E l) e≠l:=fun hc=>by rw[hc]at h2;have h3:=Fx.Le.anti h1 h2;(have h4:(Fx.step (Fx.round E l) e).getD e.1 0=(Fx.round E l).getD e.2.1 0+e.2.2:=by unfold Fx.step;rw[if_pos hr,Fx.getD_set,if_pos ⟨rfl,by rw[Fx.round_length];exact hi⟩]);rw[hc]at h4;have h5:l.getD e.1 0=(Fx.round E l).getD e.1 0:=congrArg (fun x:List Int=>x.getD e.1 0) h3;omega);rw[decide_eq_true hne,decide_eq_true hr,Bool.or_true]
 (have h1:Fx.step (Fx.round E l) e=Fx.round E l:=by unfold Fx.step;rw[if_neg hr]);rw[h1,decide_eq_false hr,Bool.or_false]
end Go.Proofs.YthenjegmigeieaaGreat
namespace Go.Proofs.YthenjegmigeieaaGreat
open Go.RowKit
theorem blw_drewN(w:World)(n:Nat):Below w.heap.size w (w.drewN n):=⟨rfl,rfl,rfl,Nat.le_refl _,fun _ _=>rfl⟩
def wayArr(y:Ru.Way):Array Value:=(y.nums.map (Value.int .i64)++y.known.map Value.bool).toArray
abbrev wayVal(y:Ru.Way):Value:=.agg (wayArr y)
def WayAt(w:World)(b:Nat)(y:Ru.Way):Prop:=w.heap[b]?=some (.cells (wayArr y) 138)
theorem WayAt.num{w:World}{b:Nat}{y:Ru.Way}(h:WayAt w b y)(hy:Ru.Wf 8 y){i:Nat}(hi:i<8):w.cell? ⟨b,i,none⟩=some (.int .i64 (y.nums.getD i 0)):=by rw[Lib.cell_of_heap h];unfold wayArr;(have h1:i<(y.nums.map (Value.int .i64)).length:=by rw[List.length_map,hy.n];exact hi);rw[List.getElem?_toArray,List.getElem?_append_left h1,List.getElem?_map,List.getD_eq_getElem?_getD,List.getElem?_eq_getElem (by rw[hy.n];exact hi)];rfl
theorem WayAt.kn{w:World}{b:Nat}{y:Ru.Way}(h:WayAt w b y)(hy:Ru.Wf 8 y){i:Nat}(hi:i<8):w.cell? ⟨b,8+i,none⟩=some (.bool (y.known.getD i false)):=by rw[Lib.cell_of_heap h];unfold wayArr;(have h1:(y.nums.map (Value.int .i64)).length=8:=by rw[List.length_map,hy.n]);rw[List.getElem?_toArray,List.getElem?_append_right oM,h1,Nat.add_sub_cancel_left,List.getElem?_map,List.getD_eq_getElem?_getD,List.getElem?_eq_getElem (by rw[hy.k];exact hi)];rfl
theorem Number_any(t:Sc.Term)(x:List Int)(v:Value)(w:World)(hV:IntsV w v x)(ht:t.var<0∨t.var.toNat<x.length):
 Calls Tryz.prog 105 #[ptermVal t,v] w fun e w'=>e=.returned (.int .i64 (Ru.num x t))∧Below w.heap.size w w':=by
 obtain⟨ao,c,rfl,hA⟩:=hV;have hb:Below w.heap.size w (w.alloc (.cells #[.int .i64 t.var, .int .i64 t.n] 147)):=(Below.refl _ _).alloc (Nat.le_refl _) _;by_cases h:t.var<0
 ·have g:decide (t.var<0)=true:=decide_eq_true h;(have HV:Hid (Ru.num x t=t.n):=by show _=_;unfold Ru.num;rw[if_pos h]);clear ht h hA
  go_enter Tryz.func105,Tryz.ntmps105
  go_wp2;go_ret;exact⟨rV,hb⟩
 have g:decide (t.var<0)=false:=decide_eq_false h;(have hl:t.var.toNat<x.length:=by rcases ht with h1|h1;exact absurd h1 h;exact h1);obtain⟨k,hk⟩:∃k:Nat,t.var=k:=⟨t.var.toNat,oM⟩;(have HV:Hid (Ru.num x t=Sc.intD x k):=by show _=_;unfold Ru.num;rw[if_neg h,hk];rfl);have hkl:k<x.length:=oM;obtain⟨b,off,rfl,q0⟩:=ints_at hA k hkl;have q1:=cell_below hb q0;obtain⟨var,nn⟩:=t;simp only at hk h g ht hl;subst hk;clear ht h hl hA q0;generalize Sc.intD x k=vv at *
 go_enter Tryz.func105,Tryz.ntmps105
 go_wp2;go_ret;exact⟨rV,hb⟩
theorem knows_any(y:Ru.Way)(t:Sc.Term)(w:World)(hy:Ru.Wf 8 y)(ht:Ru.TermIn 8 t):
 Calls Tryz.prog 210 #[wayVal y,ptermVal t] w fun e w'=>e=.returned (.bool (Sc.known y.known t))∧Below w.heap.size w w':=by
 have hb:Below w.heap.size w ((w.alloc (.cells (wayArr y) 138)).alloc (.cells #[.int .i64 t.var, .int .i64 t.n] 147)):=((Below.refl _ _).alloc (Nat.le_refl _) _).alloc sI _;(have hW:WayAt ((w.alloc (.cells (wayArr y) 138)).alloc (.cells #[.int .i64 t.var, .int .i64 t.n] 147)) w.heap.size y:=by have :=((Below.refl (w.alloc (.cells (wayArr y) 138)).heap.size (w.alloc (.cells (wayArr y) 138))).alloc (Nat.le_refl _) (.cells #[.int .i64 t.var, .int .i64 t.n] 147)).block w.heap.size sI;exact this.trans (heap_alloc_new w _));unfold Sc.known;by_cases h:t.var<0
 ·have g:decide (t.var<0)=true:=decide_eq_true h;clear ht h hW
  go_enter Tryz.func210,Tryz.ntmps210
  go_wp2;go_ret;exact⟨by rw[g];rfl,hb⟩
 have g:decide (t.var<0)=false:=decide_eq_false h;(have hl:t.var.toNat<8:=by rcases ht with h1|h1;exact absurd h1 h;exact h1);obtain⟨k,hk⟩:∃k:Nat,t.var=k:=⟨t.var.toNat,oM⟩;have hkl:k<8:=oM;have q:=hW.kn hy hkl;obtain⟨var,nn⟩:=t;simp only at hk h g ht hl;subst hk;clear ht h hl hW
 go_enter Tryz.func210,Tryz.ntmps210
 go_wp2;go_ret;exact⟨rfl,hb⟩
theorem WayAt.ints{w:World}{b:Nat}{y:Ru.Way}(h:WayAt w b y)(hy:Ru.Wf 8 y):IntsV w (.slice (some ⟨b,0,none⟩) 8 8) y.nums:=by refine⟨some ⟨b,0,none⟩,8,by rw[hy.n], .inr ⟨b,0,rfl,fun i hi=>?_⟩⟩;rw[Nat.zero_add];exact h.num hy (by rw[←hy.n];exact hi)
theorem WayAt.below{w w':World}{b:Nat}{y:Ru.Way}(h:WayAt w b y)(hb:Below w.heap.size w w'):WayAt w' b y:=(hb.block _ (heap_lt h)).trans h
theorem ru_two(w:World)(o q:Obj):((w.alloc o).alloc q).heap[w.heap.size]?=some o∧((w.alloc o).alloc q).heap[w.heap.size+1]?=some q∧Below w.heap.size w ((w.alloc o).alloc q):=by
 refine⟨?_,?_,((Below.refl _ _).alloc (Nat.le_refl _) _).alloc sI _⟩
 ·have :=((Below.refl (w.alloc o).heap.size (w.alloc o)).alloc (Nat.le_refl _) q).block w.heap.size sI;exact this.trans (heap_alloc_new w _)
 have :=heap_alloc_new (w.alloc o) q;simpa using this
theorem number_any(y:Ru.Way)(t:Sc.Term)(w:World)(hy:Ru.Wf 8 y)(ht:Ru.TermIn 8 t):
 Calls Tryz.prog 187 #[wayVal y,ptermVal t] w fun e w'=>e=.returned (.int .i64 (Ru.num y.nums t))∧Below w.heap.size w w':=by
 obtain⟨h0,h1,hb⟩:=ru_two w (.cells (wayArr y) 138) (.cells #[.int .i64 t.var, .int .i64 t.n] 147);have HW:Hid (WayAt ((w.alloc (.cells (wayArr y) 138)).alloc (.cells #[.int .i64 t.var, .int .i64 t.n] 147)) w.heap.size y):=h0;have HB:Hid _:=hb;(have c0:((w.alloc (.cells (wayArr y) 138)).alloc (.cells #[.int .i64 t.var, .int .i64 t.n] 147)).cell? ⟨w.heap.size+1,0,none⟩=some (.int .i64 t.var):=by rw[Lib.cell_of_heap h1];rfl);(have c1:((w.alloc (.cells (wayArr y) 138)).alloc (.cells #[.int .i64 t.var, .int .i64 t.n] 147)).cell? ⟨w.heap.size+1,1,none⟩=some (.int .i64 t.n):=by rw[Lib.cell_of_heap h1];rfl);(have HT:Hid (t.var<0∨t.var.toNat<y.nums.length):=by show _∨_;rw[hy.n];exact ht);clear h0 h1 hb ht
 go_enter Tryz.func187,Tryz.ntmps187
 go_upto_region 1 with fail;generalize (w.alloc (.cells (wayArr y) 138)).alloc (.cells #[.int .i64 t.var, .int .i64 t.n] 147)=w1 at *;(go_region_with (go_at_call 105;refine Calls.mono (Number_any t y.nums _ _ (WayAt.ints (WayAt.below HW.out (blw_drewN w1 _)) hy) HT.out) ?_;rintro _ w2 ⟨rfl,hb2⟩));go_wp2_with fail;go_ret;exact⟨rfl,HB.out.drew.trans (hb2.mono HB.out.size)⟩
theorem wayArr_size{y:Ru.Way}(hy:Ru.Wf 8 y):(wayArr y).size=16:=by unfold wayArr;rw[List.size_toArray,List.length_append,List.length_map,List.length_map,hy.n,hy.k]
theorem wayArr_one(y:Ru.Way):(wayArr y).all (·.oneCell')=true:=by
 unfold wayArr;refine all_oneCell_toArray fun v hv=>?_;rcases List.mem_append.mp hv with h|h
 ·obtain⟨n,_,rfl⟩:=List.mem_map.mp h;rfl
 obtain⟨n,_,rfl⟩:=List.mem_map.mp h;rfl
theorem way_info:(Tryz.prog.info? 138).map (·.size)=some 16:=kR
theorem way_range{w:World}{b:Nat}{y:Ru.Way}(h:WayAt w b y):w.rangeAt b 0 (wayArr y).toList:=fun j v hv=>by rw[Nat.zero_add,Lib.cell_of_heap h];simpa using hv
theorem loadVar_way{w:World}{b:Nat}{y:Ru.Way}(h:WayAt w b y)(hy:Ru.Wf 8 y):(loadVar 138 ⟨b,0,none⟩).run Tryz.prog w=.ok (wayVal y) w:=by have :=run_loadVar_mid (P:=Tryz.prog) w b 0 138 (wayArr y).toList _ (way_range h) Tryz.underlying138 rfl (by rw[Array.length_toList,wayArr_size hy];exact way_info);simpa using this
theorem load_way{a:Act}{o:Oper}{x:Operand}{w:World}{b:Nat}{y:Ru.Way}(ho:o.op=.load 138 x)(hx:a.eval x=.pointer (some ⟨b,0,none⟩))(h:WayAt w b y)(hy:Ru.Wf 8 y):(execOp a.eval o).run Tryz.prog w=.ok (.value (wayVal y)) w:=by unfold execOp;simp only[ho,hx,Instr.loadAt,Instr.sureAddr,Sem.run_bind,Sem.run_pure,Result.andThen_ok,loadVar_way h hy]
theorem wpList_loadWay{ops:Array Oper}{rest:List Oper}{o:Oper}{a:Act}{w:World}{Q:Exit→Act→World→Prop}(hw:Region.wanted o (yielded ops a.tmps)=true)(x:Operand)(ho:o.op=.load 138 x)
 (b:Nat) (hx:a.eval x=.pointer (some ⟨b,0,none⟩)) (y:Ru.Way) (hW:WayAt w b y) (hy:Ru.Wf 8 y) (h:wpList Tryz.prog ops Q rest (a.put o.dst (wayVal y)) w):wpList Tryz.prog ops Q (o::rest) a w:=by
 refine wpList_step fun K hK=>?_;rw[if_pos hw];unfold Oper.wp;rw[load_way ho hx hW hy,Oper.upon_value];exact hK _ _ h
theorem wpList_storeWay{ops:Array Oper}{rest:List Oper}{o:Oper}{a:Act}{w:World}{Q:Exit→Act→World→Prop}(hgd:o.guard=none)(x u:Operand)(ho:o.op=.store 138 x u)
 (b:Nat) (hx:a.eval x=.pointer (some ⟨b,0,none⟩)) (y z:Ru.Way) (hu:a.eval u=wayVal z) (hW:WayAt w b y) (hy:Ru.Wf 8 y) (hz:Ru.Wf 8 z) (h:wpList Tryz.prog ops Q rest (a.put o.dst undef) (w.setRow b (wayArr z))):wpList Tryz.prog ops Q (o::rest) a w:=by
 refine wpList_plain hgd fun K hK=>?_;have hr:=run_storeVar_row (P:=Tryz.prog) w b 138 138 (wayArr y) (wayArr z) hW (by rw[wayArr_size hz];exact way_info) (by rw[wayArr_size hy,wayArr_size hz]) (wayArr_one z);unfold Oper.wp execOp;simp only[ho,hx,hu,Instr.storeAt,Instr.sureAddr,Sem.run_bind,Sem.run_pure,Result.andThen_ok,hr];exact hK _ _ h
theorem results_way{fn:Func}{t u:Tmp}(h:fn.results=#[.cell t 138, .tmp u]){tmps:Array Value}{w:World}{b:Nat}{y:Ru.Way}(ht:tmps.getD t undef=.pointer (some ⟨b,0,none⟩))(hW:WayAt w b y)(hy:Ru.Wf 8 y):
 (results fn tmps).run Tryz.prog w=.ok (.tuple #[wayVal y,tmps.getD u undef]) w:=by
 have h1:=loadVar_way hW hy;(have ht':tmps[t]?.getD undef=.pointer (some ⟨b,0,none⟩):=by simpa using ht);simp[results,h,ht',asAddr,h1]
theorem way_set{w:World}{b:Nat}{y z:Ru.Way}(h:WayAt w b y):WayAt (w.setRow b (wayArr z)) b z:=setRow_heap w b _ _ 138 _ h
theorem way_set_other{w:World}{b k:Nat}{z:Ru.Way}(h:¬k=b):(w.setRow b (wayArr z)).heap[k]?=w.heap[k]?:=setRow_other w b k _ h
theorem way_set_below{n:Nat}{w wr:World}{b:Nat}{z:Ru.Way}(h:Below n w wr)(hb:n≤b):Below n w (wr.setRow b (wayArr z)):=
 h.trans ⟨rfl,rfl,rfl,by simp,fun k hk=>setRow_other wr b k _ oM⟩
def Rl.boolD(l:List Bool)(i:Nat):Bool:=l.getD i false
def BoolsAt(w:World)(ao:Option Addr)(l:List Bool):Prop:=
 l=[]∨∃b off,ao=some ⟨b,off,none⟩∧∀i,i<l.length→w.cell? ⟨b,off+i,none⟩=some (.bool (Rl.boolD l i))
def BoolsV(w:World)(v:Value)(l:List Bool):Prop:=∃ao cap,v=.slice ao l.length cap∧(l.length≤cap∧(ao=none→cap=0))∧BoolsAt w ao l
theorem boolsAt_below{w w':World}{ao:Option Addr}{l:List Bool}(h:BoolsAt w ao l)(hb:Below w.heap.size w w'):BoolsAt w' ao l:=by
 rcases h with h|⟨b,off,rfl,h⟩
 ·exact .inl h
 exact .inr ⟨b,off,rfl,fun i hi=>cell_below hb (h i hi)⟩
theorem intsAt_below9{w w':World}{ao:Option Addr}{l:List Int}(h:IntsAt w ao l)(hb:Below w.heap.size w w'):IntsAt w' ao l:=by obtain⟨_,_,he,h⟩:=intsV_below (⟨ao,0,rfl,h⟩:IntsV w (.slice ao l.length 0) l) hb;injection he with he;rw[he];exact h
theorem intsV_at{w:World}{ao:Option Addr}{n cap:Nat}{l:List Int}(h:IntsV w (.slice ao n cap) l):IntsAt w ao l:=by obtain⟨_,_,he,h⟩:=h;injection he with he;rw[he];exact h
theorem bools_at{w:World}{ao:Option Addr}{l:List Bool}(h:BoolsAt w ao l)(i:Nat)(hi:i<l.length):∃b off,ao=some ⟨b,off,none⟩∧w.cell? ⟨b,off+i,none⟩=some (.bool (Rl.boolD l i)):=by
 rcases h with rfl|⟨b,off,rfl,h⟩
 ·exact absurd hi (Nat.not_lt_zero _)
 exact⟨b,off,rfl,h i hi⟩
theorem boolsAt_take{w:World}{ao:Option Addr}{l:List Bool}(h:BoolsAt w ao l)(n:Nat):BoolsAt w ao (l.take n):=by
 rcases h with rfl|⟨b,off,rfl,h⟩
 ·exact .inl sI
 refine .inr ⟨b,off,rfl,fun i hi=>?_⟩;rw[List.length_take]at hi;rw[h i oM];simp[Rl.boolD,List.getD_eq_getElem?_getD,show i<n by omega]
theorem agree_drop(x y:List Int)(z:List Bool)(k:Nat)(hx:k<x.length)(hy:k<y.length)(hz:k<z.length):Rl.agree (x.drop k) (y.drop k) (z.drop k)=((!Rl.boolD z k||Sc.intD x k==Sc.intD y k)&&Rl.agree (x.drop (k+1)) (y.drop (k+1)) (z.drop (k+1))):=by(have h1:x.drop k=Sc.intD x k::x.drop (k+1):=by rw[List.drop_eq_getElem_cons hx];simp[Sc.intD,List.getD_eq_getElem?_getD,hx]);(have h2:y.drop k=Sc.intD y k::y.drop (k+1):=by rw[List.drop_eq_getElem_cons hy];simp[Sc.intD,List.getD_eq_getElem?_getD,hy]);(have h3:z.drop k=Rl.boolD z k::z.drop (k+1):=by rw[List.drop_eq_getElem_cons hz];simp[Rl.boolD,List.getD_eq_getElem?_getD,hz]);rw[h1,h2,h3];rfl
theorem agree_nil(x y:List Int):Rl.agree x y []=true:=by cases x<;>cases y<;>rfl
theorem agree_take(x y:List Int)(z:List Bool)(n:Nat)(h:y.length≤n):Rl.agree x y (z.take n)=Rl.agree x y z:=by
 induction y generalizing x z n with
 |nil=>cases x<;>simp[Rl.agree]
 |cons b y ih=>
  cases x with
  |nil=>simp[Rl.agree]
  |cons a x=>
   cases z with
   |nil=>simp
   |cons c z=>
    cases n with
    |zero=>simp at h
    |succ n=>
     simp only[List.take_succ_cons,Rl.agree];rw[ih x z n (by simpa using h)]
theorem agree_any(x y:List Int)(z:List Bool)(ao bo zo:Option Addr)(cap cbp czp:Nat)(w:World)(hA:IntsAt w ao x)(hB:IntsAt w bo y)(hZ:BoolsAt w zo z)(hx:z.length≤x.length)(hy:z.length≤y.length)(hlx:x.length≤9223372036854775807):
 Calls Tryz.prog 118 #[.slice ao x.length cap, .slice bo y.length cbp, .slice zo z.length czp] w fun e w'=>e=.returned (.bool (Rl.agree x y z))∧Below w.heap.size w w':=by
 have HA:Hid (IntsAt w ao x):=hA;have HB:Hid (IntsAt w bo y):=hB;have HZ:Hid (BoolsAt w zo z):=hZ;clear hA hB hZ
 go_enter Tryz.func118,Tryz.ntmps118
 go_wp2_with fail;go_loopw [11] (fun i wr=>∃k:Nat,k≤z.length∧i=.int .i64 k∧Rl.agree (x.drop k) (y.drop k) (z.drop k)=Rl.agree x y z∧Below w.heap.size w wr) (fun i _=>z.length-(intOf i).toNat);case atStart=>exact⟨0,Nat.zero_le _,rfl,rfl,Below.refl _ _⟩
 case round=>
  obtain⟨wo,hwo⟩:∃wo,wo=wr:=⟨_,rfl⟩;subst hwo;obtain⟨k,hk,rfl,hq,hb⟩:=hrel;have HQ:Hid _:=hq;clear hq;by_cases hlt:k<z.length
  ·obtain⟨b1,off1,rfl,p1⟩:=ints_at HA.out k oM;obtain⟨b2,off2,rfl,p2⟩:=ints_at HB.out k oM;obtain⟨b3,off3,rfl,p3⟩:=bools_at HZ.out k hlt;have a1:=cell_below hb p1;have a2:=cell_below hb p2;have a3:=cell_below hb p3;(have HD:Hid (Rl.agree x y z=((!Rl.boolD z k||Sc.intD x k==Sc.intD y k)&&Rl.agree (x.drop (k+1)) (y.drop (k+1)) (z.drop (k+1)))):=by show _=_;rw[←HQ.out];exact agree_drop x y z k oM oM hlt);clear p1 p2 p3;have hx1:k<x.length:=oM;have hy1:k<y.length:=oM;have hbd:Below w.heap.size w wo.drew:=⟨hb.os,hb.tape,hb.output,hb.size,hb.block⟩;generalize Sc.intD x k=a at *;generalize Sc.intD y k=b' at *;generalize Rl.boolD z k=c at *;cases c
   ·rw[Bool.not_false,Bool.true_or,Bool.true_and]at HD;go_upto_region 4 with fail;go_region;go_wp2_with fail;go_roundw;(case rel=>exact⟨k+1,hlt,gN,HD.out.symm,hbd⟩);case measure=>exact mI
   rw[Bool.not_true,Bool.false_or]at HD;go_upto_region 4 with fail;go_region;by_cases hab:a=b'
   ·(have HE:Hid (Rl.agree x y z=Rl.agree (x.drop (k+1)) (y.drop (k+1)) (z.drop (k+1))):=by show _=_;rw[HD.out,hab];simp);go_wp2_with fail;go_roundw;(case rel=>exact⟨k+1,hlt,gN,HE.out.symm,hbd⟩);case measure=>exact mI
   (have HE:Hid (Rl.agree x y z=false):=by show _=_;rw[HD.out];simp[hab]);go_wp2_with fail;go_ret;exact⟨by rw[HE.out];rfl,hbd⟩
  (have HE:Hid (Rl.agree x y z=true):=by show _=_;rw[←HQ.out,show z.drop k=[] from List.drop_of_length_le oM,agree_nil]);have hk:k=z.length:=oM;subst hk;go_wp2_with fail;go_ret;exact⟨by rw[HE.out];rfl,hb⟩
theorem match1_any(w:World)(B:Nat)(p:Int)(y:List Int)(z:List Bool)(bo zo:Option Addr)(cbp czp:Nat)(h0:w.cell? ⟨B,0,none⟩=some (.int .i64 p))(h1:w.cell? ⟨B+1,0,none⟩=some (.slice bo y.length cbp))(h2:w.cell? ⟨B+2,0,none⟩=some (.slice zo z.length czp))(hB:IntsAt w bo y)(hZ:BoolsAt w zo z)(hy:z.length≤y.length):
 Keeps1 117 #[.pointer (some ⟨B,0,none⟩), .pointer (some ⟨B+1,0,none⟩), .pointer (some ⟨B+2,0,none⟩)] w (Rl.fits p y z):=by
 intro v g ao cap hv hIg hFg;show Calls Tryz.prog 117 #[fcVal g.pred (.slice ao g.args.length cap), .pointer (some ⟨B,0,none⟩), .pointer (some ⟨B+1,0,none⟩), .pointer (some ⟨B+2,0,none⟩)] v _;obtain⟨q,x⟩:=g;have hba:Below v.heap.size v (v.alloc (.cells #[.int .i64 q, .slice ao x.length cap] 55)):=(Below.refl _ _).alloc (Nat.le_refl _) _;have c0:=cell_below hba (cell_below hv h0);have c1:=cell_below hba (cell_below hv h1);have c2:=cell_below hba (cell_below hv h2);have hGa:=rl_new v (.cells #[.int .i64 q, .slice ao x.length cap] 55);(have d0:(v.alloc (.cells #[.int .i64 q, .slice ao x.length cap] 55)).cell? ⟨v.heap.size,0,none⟩=some (.int .i64 q):=by rw[Lib.cell_of_heap hGa];rfl);(have d1:(v.alloc (.cells #[.int .i64 q, .slice ao x.length cap] 55)).cell? ⟨v.heap.size,1,none⟩=some (.slice ao x.length cap):=by rw[Lib.cell_of_heap hGa];rfl);have hFg:x.length≤9223372036854775807:=hFg;have HI:Hid (IntsAt (v.alloc (.cells #[.int .i64 q, .slice ao x.length cap] 55)) ao x∧IntsAt (v.alloc (.cells #[.int .i64 q, .slice ao x.length cap] 55)) bo y∧BoolsAt (v.alloc (.cells #[.int .i64 q, .slice ao x.length cap] 55)) zo z):=⟨intsAt_below9 (intsV_at hIg) hba,intsAt_below9 (intsAt_below9 hB hv) hba,boolsAt_below (boolsAt_below hZ hv) hba⟩;clear h0 h1 h2 hIg hB hZ hv hGa;by_cases hqp:q=p
 ·subst hqp;by_cases hxy:x.length=y.length
  ·have HC:Hid _:=agree_any x y z ao bo zo cap cbp czp _ HI.out.1 HI.out.2.1 HI.out.2.2 oM hy hFg;(have HR:Hid (Rl.fits q y z ⟨q,x⟩=Rl.agree x y z):=by show _=_;simp[Rl.fits,hxy]);(have hxc:((x.length:Int)==(y.length:Int))=true:=by simp[hxy]);clear HI hxy
   go_enter Tryz.func117,Tryz.ntmps117
   go_wp2_with fail;refine Calls.mono HC.out ?_;rintro e w1 ⟨rfl,hb1⟩;have hb:=hba.trans (hb1.mono hba.size);clear hb1 hba c0 c1 c2 d0 d1 HC;go_wp2_with fail;go_ret;exact⟨by rw[HR.out];rfl,hb⟩
  (have HR:Hid (Rl.fits q y z ⟨q,x⟩=false):=by show _=_;simp[Rl.fits,hxy]);(have hxc:((x.length:Int)==(y.length:Int))=false:=by simp;omega);clear HI
  go_enter Tryz.func117,Tryz.ntmps117
  go_wp2_with fail;go_ret;exact⟨by rw[HR.out];rfl,hba⟩
 (have HR:Hid (Rl.fits p y z ⟨q,x⟩=false):=by show _=_;simp[Rl.fits,hqp]);clear HI
 go_enter Tryz.func117,Tryz.ntmps117
 go_wp2_with fail;go_ret;exact⟨by rw[HR.out];rfl,hba⟩
theorem rl_enters56:∀args w,(callFunc 117 args).run Tryz.prog w=.ok (.enter 117 args) w:=enters_of Tryz.func117 kR rfl
theorem three_new(w:World)(a b c:Obj):(((w.alloc a).alloc b).alloc c).heap[w.heap.size]?=some a∧(((w.alloc a).alloc b).alloc c).heap[w.heap.size+1]?=some b∧(((w.alloc a).alloc b).alloc c).heap[w.heap.size+2]?=some c:=by
 show(((w.heap.push a).push b).push c)[w.heap.size]?=some a∧(((w.heap.push a).push b).push c)[w.heap.size+1]?=some b∧(((w.heap.push a).push b).push c)[w.heap.size+2]?=some c;refine⟨?_,?_,?_⟩
 ·rw[Array.getElem?_push,if_neg sO,Array.getElem?_push,if_neg sI,Array.getElem?_push,if_pos rfl]
 ·rw[Array.getElem?_push,if_neg sI,Array.getElem?_push,if_pos sI]
 rw[Array.getElem?_push,if_pos sI]
theorem cl_info71:(Tryz.prog.info? 49).map (fun i=>(i.zero,i.size,i.bytes))=some (some (.agg #[.int .i64 0, .int .i64 0, .int .i64 0, .slice none 0 0]),4,48):=kR
end Go.Proofs.YthenjegmigeieaaGreat
namespace Go.Proofs.YthenjegmigeieaaGreat
open Go.RowKit
open Go.Maps
structure NumD (ns:List (List UInt8)) (D:DataW Unit):Prop where
 size:Maps.size D=ns.length
 has:∀s:List UInt8,Maps.has D (.string s)=ns.contains s
 at_:∀s:List UInt8,s∈ns→D.atKey (.string s) (.lit (.int .i64 0))=.lit (.int .i64 (ns.idxOf s))
def NumAt(w:World)(B:Nat)(ns:List (List UInt8)):Prop:=∃D:DataW Unit,w.ownsMap Tryz.prog 9 (plainElem Tryz.prog 3) B ns.length D∧NumD ns D
theorem idx_mem{x:List UInt8}:∀{l m:List (List UInt8)},x∈l→(l++m).idxOf x=l.idxOf x:=by
 intro l
 induction l with
 |nil=>exact fun h=>absurd h sI
 |cons a r ih=>
  intro m h;rw[List.cons_append,List.idxOf_cons,List.idxOf_cons];by_cases ha:a=x
  ·simp[ha]
  have hx:x∈r:=by
   rcases List.mem_cons.mp h with h|h
   ·exact absurd h.symm ha
   exact h
  rw[ih hx]
theorem idx_new{x:List UInt8}:∀{l:List (List UInt8)},¬x∈l→(l++[x]).idxOf x=l.length:=by
 intro l
 induction l with
 |nil=>intro _;simp
 |cons a r ih=>
  intro h;have ha:¬a=x:=fun e=>h (by simp[e]);rw[List.cons_append,List.idxOf_cons,ih (fun e=>h (List.mem_cons_of_mem _ e)),beq_false_of_ne ha];rfl
theorem idx_none{x:List UInt8}:∀{l:List (List UInt8)},¬x∈l→l.idxOf x=l.length:=by
 intro l
 induction l with
 |nil=>intro _;simp
 |cons a r ih=>
  intro h;have ha:¬a=x:=fun e=>h (by simp[e]);rw[List.idxOf_cons,ih (fun e=>h (List.mem_cons_of_mem _ e)),beq_false_of_ne ha];rfl
theorem numLaw:Keyed Tryz.prog 9:=string_keyed Tryz.underlying9
theorem numZero(w:World):(zeroValue 3).run Tryz.prog w=.ok (.int .i64 0) w:=kR
theorem NumD.nil:NumD [] (.map []):=⟨rfl,fun _=>rfl,fun _ h=>absurd h sI⟩
theorem NumD.push{ns:List (List UInt8)}{D:DataW Unit}(h:NumD ns D)(hT:Tidy D)(s:List UInt8)(hs:ns.contains s=false):NumD (ns++[s]) (D.put (.string s) (.lit (.int .i64 ns.length))):=by
 (have hk:WideAt.IsKeyLit (.string s):=by simp[WideAt.IsKeyLit]);(have hnm:¬s∈ns:=by simpa using hs);refine⟨?_,fun x=>?_,fun x hx=>?_⟩
 ·rw[size_put hT,h.has,hs,h.size];simp
 ·by_cases hx:x=s
  ·subst hx;rw[has_put_same hT.isMap hk];simp
  rw[has_put_other (by simpa using hx),h.has];simp[hx]
 by_cases hxs:x=s
 ·subst hxs;rw[atKey_put_same hT.isMap hk,idx_new hnm]
 have hxm:x∈ns:=by
  rcases List.mem_append.mp hx with h|h
  ·exact h
  exact absurd (by simpa using h) hxs
 rw[atKey_put_other (by simpa using hxs),h.at_ x hxm,idx_mem hxm]
theorem NumAt.below{w w':World}{B:Nat}{ns:List (List UInt8)}(h:NumAt w B ns)(hb:Below w.heap.size w w'):NumAt w' B ns:=by obtain⟨D,⟨es,clock,h1,h2,h3,h4⟩,hN⟩:=h;exact⟨D,⟨es,clock,(hb.block _ (heap_lt h1)).trans h1,h2,h3,h4⟩,hN⟩
theorem numAt_made(w:World):NumAt (w.alloc (.map #[] 0)) w.heap.size []:=⟨_,World.ownsMap_made _ _ _ _,NumD.nil⟩
theorem of_any(B:Nat)(ns:List (List UInt8))(s:List UInt8)(w:World)(h:NumAt w B ns)(hs:s.length≤5000)(hl:ns.length≤1000000):
 Calls Tryz.prog 174 #[.map (some B), .string ⟨s.toArray⟩] w fun e w'=>e=.returned (.int .i64 (ns.idxOf s))∧NumAt w' B (if ns.contains s then ns else ns++[s])∧w.grownBy w' (some B):=by
 obtain⟨D,hown,hN⟩:=h;(have hkey:keyOf Tryz.prog 9 (.string ⟨s.toArray⟩)=some (.string s):=by have :keyOf Tryz.prog 9 (.string ⟨s.toArray⟩)=some (.string (⟨s.toArray⟩:ByteArray).data.toList):=Go.WideMaps.keyOf_string_mk Tryz.underlying9 (by unfold maxLen;simp[ByteArray.size];omega);simpa using this);have hT:=hown.tidy numLaw;have hh:=hN.has s;cases hc:ns.contains s
 ·rw[hc]at hh;have hsz:=hN.size;have HP:Hid (NumD (ns++[s]) (D.put (.string s) (.lit (.int .i64 ns.length)))):=hN.push hT s hc;have hidx:ns.idxOf s=ns.length:=idx_none (by simpa using hc);clear hN hT;have hwl:(Lit.int IntKind.i64 (ns.length:Int)).wf=true:=WalkArith.wf_i64 oM
  go_enter Tryz.func174,Tryz.ntmps174
  go_wp2_with(first
   |(at_lookup;refine wpList_lookup_own_ok_int _ rfl _ _ 208 rfl 9 3 .i64 numLaw Tryz.underlying208 Tryz.underlying3 (numZero _) B ns.length D rfl hown _ _ rfl hkey ?_;intro c hat hwc)
   |(at_len;refine wpList_len_own _ rfl _ 208 rfl 9 3 Tryz.underlying208 _ B ns.length D rfl hown ?_)
   |(at_mapUpdate;refine wpList_mapUpdate_own _ rfl _ _ _ 208 rfl 9 3 numLaw Tryz.underlying208 _ B ns.length _ rfl hown (by unfold maxLen;omega) _ _ _ rfl rfl hkey _ [] (plainElem_int Tryz.underlying3 hwl) ?_;intro w1 hown1 hgrow1))
  go_ret;exact⟨rfl,⟨_,by rw[List.length_append];exact hown1,HP.out⟩,hgrow1⟩
 rw[hc]at hh;have hat:=hN.at_ s (by simpa using hc);have HN:Hid (NumD ns D):=hN;clear hN hT
 go_enter Tryz.func174,Tryz.ntmps174
 go_wp2_with(at_lookup;refine wpList_lookup_own_ok_int _ rfl _ _ 208 rfl 9 3 .i64 numLaw Tryz.underlying208 Tryz.underlying3 (numZero _) B ns.length D rfl hown _ _ rfl hkey ?_;intro c hac hwc);go_ret;(have hcc:c=(ns.idxOf s:Int):=by rw[hat]at hac;simpa using hac.symm);subst hcc;exact⟨rfl,⟨D,hown,HN.out⟩,grownBy_of_below (Below.refl _ _) _⟩
end Go.Proofs.YthenjegmigeieaaGreat
namespace Go.Proofs.YthenjegmigeieaaGreat
open Go.RowKit
theorem name_check(s:List UInt8):(Tr.check [⟨0,s,[],0,[]⟩]==0)=Tr.isName s:=by cases h:Tr.isName s<;>simp[Tr.check,Tr.many,Tr.ruleMany,Tr.litsMany,Tr.ruleOk,Tr.termsOk,Tr.foldOk,Tr.litsOk,h]
theorem scName_any(s:List UInt8)(w:World):Calls Tryz.prog 173 #[.string ⟨s.toArray⟩] w fun e w'=>e=.returned (.bool (Tr.isName s))∧Below w.heap.size w w':=by
 rw[←name_check]
 go_enter Tryz.func173,Tryz.ntmps173
 go_wp2_with fail;(have hV:RulesV (w.alloc (.cells #[.int .i64 0, .string ⟨s.toArray⟩, .slice none 0 0, .int .i64 0, .slice none 0 0] 240)) (.slice (some ⟨w.heap.size,0,none⟩) 1 1) [⟨0,s,[],0,[]⟩]:=by have hh:=heap_alloc_new w (.cells #[.int .i64 0, .string ⟨s.toArray⟩, .slice none 0 0, .int .i64 0, .slice none 0 0] 240);refine⟨some ⟨w.heap.size,0,none⟩,1,rfl, .inr ⟨w.heap.size,0,rfl,fun i hi=>?_⟩⟩;(obtain rfl:i=0:=by simpa using hi);refine⟨?_,?_,⟨_,?_,⟨none,0,rfl, .inl rfl⟩⟩,?_,_,?_,⟨none,0,rfl, .inl rfl⟩⟩<;>(rw[Lib.cell_of_heap hh];rfl));refine Calls.mono (Check_any _ _ _ hV) ?_;rintro e w1 ⟨rfl,hb1⟩;have hb0:Below w.heap.size w (w.alloc (.cells #[.int .i64 0, .string ⟨s.toArray⟩, .slice none 0 0, .int .i64 0, .slice none 0 0] 240)):=(Below.refl _ _).alloc (Nat.le_refl _) _;go_wp2_with fail;go_ret;exact⟨rfl,hb0.trans (hb1.mono hb0.size)⟩
structure RB (w:World) (o1 o2:Obj) (wr:World):Prop where
 bel:Below w.heap.size w wr
 b1:wr.heap[w.heap.size]?=some o1
 b2:wr.heap[w.heap.size+1]?=some o2
theorem RB.below{w wr w2:World}{o1 o2:Obj}(h:RB w o1 o2 wr)(hb:Below wr.heap.size wr w2):RB w o1 o2 w2:=
 ⟨h.bel.trans (hb.mono h.bel.size),(hb.block _ (heap_lt h.b1)).trans h.b1,(hb.block _ (heap_lt h.b2)).trans h.b2⟩
theorem RB.start(w:World)(o1 o2:Obj):RB w o1 o2 ((w.alloc o1).alloc o2):=⟨below_two w _ _,(two_blocks (Below.refl _ _)).1,(two_blocks (Below.refl _ _)).2⟩
theorem RB.drew{w wr:World}{o1 o2:Obj}(h:RB w o1 o2 wr):RB w o1 o2 wr.drew:=⟨h.bel.drew,h.b1,h.b2⟩
theorem first_zero{α:Type}{f:α→Int}:∀{l:List α},Sc.first f l=0→∀x,x∈l→f x=0:=by
 intro l
 induction l with
 |nil=>exact fun _ x hx=>absurd hx sI
 |cons a r ih=>
  intro h x hx;rw[Sc.first]at h;split at h
  ·rename_i h0;rcases List.mem_cons.mp hx with rfl|hx
   ·exact h0
   exact ih h x hx
  rename_i h0;exact absurd h h0
theorem litD_mem{l:List Sc.Lit}{i:Nat}(h:i<l.length):Sc.litD l i∈l:=by unfold Sc.litD;rw[List.getD_eq_getElem?_getD,List.getElem?_eq_getElem h];exact List.getElem_mem h
theorem thn_both{a b:Int}(h:Sc.thn a b=0):a=0∧b=0:=by
 unfold Sc.thn at h;split at h
 ·exact⟨by assumption,h⟩
 rename_i h0;exact absurd h h0
theorem lit_good{ar:List Int}{vars:Int}{x:Sc.Lit}(h:Sc.litAll ar vars x=0)(h0:0≤vars)(hF:LitFit x):LitGood vars.toNat x:=by
 obtain⟨h1,h2⟩:=thn_both h;refine⟨fun h4=>?_,fun t ht=>?_,hF⟩
 ·rw[Sc.litErr,if_neg (by rw[h4];decide),if_neg (by rw[h4];decide),if_pos h4]at h1;split at h1
  ·split at h1
   ·exact absurd h1 dE
   rename_i hn;exact Classical.byContradiction fun hne=>hn (.inr hne)
  exact absurd h1 dE
 have :=first_zero h2 t ht;unfold Sc.termErr Tr.between at this;split at this
 ·rename_i hb;simp at hb;omega
 exact absurd this dE
theorem checkRule_any(ar:List Int)(va vn vr:Value)(r:Sc.Rule)(vt vb:Value)(w:World)(hA:IntsV w va ar)(hT:PTermsV w vt r.terms)(hL:PLitsV w vb r.body)(hF:RuleFit r):
 Calls Tryz.prog 175 #[progVal va vn vr,pruleVal r vt vb] w fun e w'=>e=finE (Sc.ruleErr ar r)∧Below w.heap.size w w':=by
 obtain⟨ao,cap,rfl,hA⟩:=hA;obtain⟨pred,ts,fold,body,vars⟩:=r;have HT:Hid (PTermsV w vt ts):=hT;have HL:Hid (PLitsV w vb body):=hL;have HA:Hid (IntsV w (.slice ao ar.length cap) ar):=⟨ao,cap,rfl,hA⟩;have HFT:Hid (ts.length≤9223372036854775807):=hF.1;have HFB:Hid (∀i,i<body.length→LitFit (Sc.litD body i)):=hF.2.2;obtain⟨at_,ct,rfl,_,_⟩:=hT;obtain⟨ab,cb,rfl,hLA⟩:=hL;have hLA:PLitsAt w ab body:=hLA;simp only at HT HL;clear hF;have hR:=RB.start w (.cells #[.slice ao ar.length cap,vn,vr] 26) (.cells #[.int .i64 pred, .slice at_ ts.length ct, .int .i64 fold, .slice ab body.length cb, .int .i64 vars] 40)
 have HE0:Hid (Sc.ruleErr ar ⟨pred,ts,fold,body,vars⟩=if Sc.isPred ar pred then
  Sc.thn (if(ts.length:Int)≠Sc.intD ar pred.toNat then 1 else 0) (
  Sc.thn (if Tr.between vars 0 8 then 0 else 3) (
  Sc.thn (Sc.termsErr vars ts) (
  Sc.thn (if Tr.between fold 0 4 then 0 else 7) (
  Sc.thn (if fold≠0∧(ts.length=0∨body.length=0)then 1 else 0) (
  Sc.thn (if 4<body.length then 2 else 0) (
  Sc.thn (Sc.first (Sc.litAll ar vars) body) (if Sc.safe ⟨pred,ts,fold,body,vars⟩then 0 else 4)))))))
 else 5):=rfl
 cases g1:Sc.isPred ar pred
 ·(have HV:Hid (Sc.ruleErr ar ⟨pred,ts,fold,body,vars⟩=5):=by show _=_;rw[HE0.out,g1];rfl);clear HE0 hLA HT HL HA HFT HFB
  go_enter Tryz.func175,Tryz.ntmps175
  go_wp2_with fail;refine(isPred_any ar ao cap vn vr pred _).mono ?_;rintro e w2 ⟨he,hb2⟩;rw[g1]at he;subst he;have hR:=hR.below hb2;go_wp2_with fail;refine(refuse_yes 5 _).mono ?_;rintro e w1 ⟨rfl,hb1⟩;go_wp2_with fail;exact⟨rfl,rV,hR.bel.trans (hb1.mono hR.bel.size)⟩
 obtain⟨k,rfl,hk⟩:=nat_of g1;obtain⟨b,off,rfl,hc⟩:=ints_at hA k hk;have HC:Hid (∀y,Below w.heap.size w y→y.cell? ⟨b,off+k,none⟩=some (.int .i64 (Sc.intD ar k))):=fun y hy=>cell_below hy hc;clear hc hA;rw[g1,if_pos rfl,Int.toNat_natCast]at HE0
 go_enter Tryz.func175,Tryz.ntmps175
 go_wp2_with fail;refine(isPred_any ar _ cap vn vr k _).mono ?_;rintro e w2 ⟨he,hb2⟩;rw[g1]at he;subst he;have hR:=hR.below hb2;have hq:=HC.out _ hR.bel;clear hb2 HC;go_wp2_with fail;refine(refuse_no 5 _).mono ?_;rintro e w1 ⟨rfl,rfl⟩;(have c1:w1.cell? ⟨w.heap.size,0,none⟩=some (.slice (some ⟨b,off,none⟩) ar.length cap):=by rw[Lib.cell_of_heap hR.b1];rfl);(have d0:w1.cell? ⟨w.heap.size+1,0,none⟩=some (.int .i64 k):=by rw[Lib.cell_of_heap hR.b2];rfl);(have d1:w1.cell? ⟨w.heap.size+1,1,none⟩=some (.slice at_ ts.length ct):=by rw[Lib.cell_of_heap hR.b2];rfl);(have d2:w1.cell? ⟨w.heap.size+1,2,none⟩=some (.int .i64 fold):=by rw[Lib.cell_of_heap hR.b2];rfl);(have d3:w1.cell? ⟨w.heap.size+1,3,none⟩=some (.slice ab body.length cb):=by rw[Lib.cell_of_heap hR.b2];rfl);(have d4:w1.cell? ⟨w.heap.size+1,4,none⟩=some (.int .i64 vars):=by rw[Lib.cell_of_heap hR.b2];rfl);go_upto_region 2 with fail;cases g2:((ts.length:Int) != Sc.intD ar k)
 ·(have h2:(ts.length:Int)=Sc.intD ar k:=by simpa using g2);rw[if_neg (by simp[h2]),Sc.thn_zero]at HE0;go_region_held3 (fun y=>y.cell? ⟨w.heap.size,0,none⟩=some (.slice (some ⟨b,off,none⟩) ar.length cap)∧y.cell? ⟨w.heap.size+1,0,none⟩=some (.int .i64 k)∧y.cell? ⟨w.heap.size+1,1,none⟩=some (.slice at_ ts.length ct)∧y.cell? ⟨b,off+k,none⟩=some (.int .i64 (Sc.intD ar k))) (go_keep) ((go_at_call 129;refine Calls.mono (refuse_no 1 _) ?_;rintro e y ⟨rfl,rfl⟩));have hR:=hR.drew;clear c1 d0 d1 d2 d3 d4 h2 hq;generalize w1.drew=wd at *;(have c1:wd.cell? ⟨w.heap.size,0,none⟩=some (.slice (some ⟨b,off,none⟩) ar.length cap):=by rw[Lib.cell_of_heap hR.b1];rfl);(have d0:wd.cell? ⟨w.heap.size+1,0,none⟩=some (.int .i64 k):=by rw[Lib.cell_of_heap hR.b2];rfl);(have d1:wd.cell? ⟨w.heap.size+1,1,none⟩=some (.slice at_ ts.length ct):=by rw[Lib.cell_of_heap hR.b2];rfl);(have d2:wd.cell? ⟨w.heap.size+1,2,none⟩=some (.int .i64 fold):=by rw[Lib.cell_of_heap hR.b2];rfl);(have d3:wd.cell? ⟨w.heap.size+1,3,none⟩=some (.slice ab body.length cb):=by rw[Lib.cell_of_heap hR.b2];rfl);(have d4:wd.cell? ⟨w.heap.size+1,4,none⟩=some (.int .i64 vars):=by rw[Lib.cell_of_heap hR.b2];rfl);by_cases h3:vars<0
  ·(have HV:Hid (Sc.ruleErr ar ⟨k,ts,fold,body,vars⟩=3):=by show _=_;rw[HE0.out,if_neg (by simp[Tr.between];omega)];rfl);have g3:decide (vars<0)=true:=decide_eq_true h3;clear HE0;go_wp2_with fail;refine(refuse_yes 3 _).mono ?_;rintro e w1 ⟨rfl,hb1⟩;go_wp2_with fail;exact⟨rfl,rV,hR.bel.trans (hb1.mono hR.bel.size)⟩
  have g3:decide (vars<0)=false:=decide_eq_false h3;by_cases h3b:8<vars
  ·(have HV:Hid (Sc.ruleErr ar ⟨k,ts,fold,body,vars⟩=3):=by show _=_;rw[HE0.out,if_neg (by simp[Tr.between];omega)];rfl);have g3b:decide (8<vars)=true:=decide_eq_true h3b;clear HE0;go_wp2_with fail;refine(refuse_yes 3 _).mono ?_;rintro e w1 ⟨rfl,hb1⟩;go_wp2_with fail;exact⟨rfl,rV,hR.bel.trans (hb1.mono hR.bel.size)⟩
  have g3b:decide (8<vars)=false:=decide_eq_false h3b;rw[if_pos (show Tr.between vars 0 8=true by simp[Tr.between];omega),Sc.thn_zero]at HE0;go_wp2_with fail;refine(refuse_no 3 _).mono ?_;rintro e w1 ⟨rfl,rfl⟩;go_wp2_with fail;refine Calls.mono (checkTerms_any ts vars _ _ HFT.out (ptermsV_below HT.out hR.bel)) ?_;rintro e w3 ⟨he,hb3⟩;by_cases h4:Sc.termsErr vars ts=0;rotate_left
  ·(have HV:Hid (Sc.ruleErr ar ⟨k,ts,fold,body,vars⟩=Sc.termsErr vars ts):=by show _=_;rw[HE0.out,Sc.thn_ne _ h4]);rw[finE_ne h4]at he;subst he;clear HE0;go_wp2_with fail;exact⟨rfl,by rw[HV.out,finE_ne h4],hR.bel.trans (hb3.mono hR.bel.size)⟩
  rw[h4,finE_zero]at he;subst he;rw[h4,Sc.thn_zero]at HE0;have hR:=hR.below hb3;clear c1 d0 d1 d2 d3 d4 hb3 h4 HFT;(have c1:w3.cell? ⟨w.heap.size,0,none⟩=some (.slice (some ⟨b,off,none⟩) ar.length cap):=by rw[Lib.cell_of_heap hR.b1];rfl);(have d0:w3.cell? ⟨w.heap.size+1,0,none⟩=some (.int .i64 k):=by rw[Lib.cell_of_heap hR.b2];rfl);(have d1:w3.cell? ⟨w.heap.size+1,1,none⟩=some (.slice at_ ts.length ct):=by rw[Lib.cell_of_heap hR.b2];rfl);(have d2:w3.cell? ⟨w.heap.size+1,2,none⟩=some (.int .i64 fold):=by rw[Lib.cell_of_heap hR.b2];rfl);(have d3:w3.cell? ⟨w.heap.size+1,3,none⟩=some (.slice ab body.length cb):=by rw[Lib.cell_of_heap hR.b2];rfl);(have d4:w3.cell? ⟨w.heap.size+1,4,none⟩=some (.int .i64 vars):=by rw[Lib.cell_of_heap hR.b2];rfl);by_cases h5:fold<0
  ·(have HV:Hid (Sc.ruleErr ar ⟨k,ts,fold,body,vars⟩=7):=by show _=_;rw[HE0.out,if_neg (by simp[Tr.between];omega)];rfl);have g5:decide (fold<0)=true:=decide_eq_true h5;clear HE0;go_wp2_with fail;refine(refuse_yes 7 _).mono ?_;rintro e w1 ⟨rfl,hb1⟩;go_wp2_with fail;exact⟨rfl,rV,hR.bel.trans (hb1.mono hR.bel.size)⟩
  have g5:decide (fold<0)=false:=decide_eq_false h5;by_cases h5b:4<fold
  ·(have HV:Hid (Sc.ruleErr ar ⟨k,ts,fold,body,vars⟩=7):=by show _=_;rw[HE0.out,if_neg (by simp[Tr.between];omega)];rfl);have g5b:decide (4<fold)=true:=decide_eq_true h5b;clear HE0;go_wp2_with fail;refine(refuse_yes 7 _).mono ?_;rintro e w1 ⟨rfl,hb1⟩;go_wp2_with fail;exact⟨rfl,rV,hR.bel.trans (hb1.mono hR.bel.size)⟩
  have g5b:decide (4<fold)=false:=decide_eq_false h5b;rw[if_pos (show Tr.between fold 0 4=true by simp[Tr.between];omega),Sc.thn_zero]at HE0;go_wp2_with fail;refine(refuse_no 7 _).mono ?_;rintro e w1 ⟨rfl,rfl⟩;go_upto_region 6 with fail;by_cases h6:fold≠0∧(ts.length=0∨body.length=0)
  ·(have HV:Hid (Sc.ruleErr ar ⟨k,ts,fold,body,vars⟩=1):=by show _=_;rw[HE0.out,if_pos h6];rfl);clear HE0;(have g6:(fold != 0)=true:=by simpa using h6.1);by_cases h7:ts.length=0
   ·(have g7:((ts.length:Int)==0)=true:=by simp[h7]);clear h6 h7;go_wp2_with fail;refine(refuse_yes 1 _).mono ?_;rintro e w1 ⟨rfl,hb1⟩;go_wp2_with fail;exact⟨rfl,rV,hR.bel.trans (hb1.mono hR.bel.size)⟩
   (have g7:((ts.length:Int)==0)=false:=by simp;exact fun e=>h7 (by rw[e];rfl));have h8:body.length=0:=h6.2.resolve_left h7;(have g8:((body.length:Int)==0)=true:=by simp[h8]);clear h6 h7 h8;go_wp2_with fail;refine(refuse_yes 1 _).mono ?_;rintro e w1 ⟨rfl,hb1⟩;go_wp2_with fail;exact⟨rfl,rV,hR.bel.trans (hb1.mono hR.bel.size)⟩
  rw[if_neg h6,Sc.thn_zero]at HE0;go_cut [] (fun wx=>wx=w1)
  case first=>
   cases g6:(fold != 0)
   ·clear h6;go_wp2_with fail;refine(refuse_no 1 _).mono ?_;rintro e w5 ⟨rfl,rfl⟩;go_wp2_with fail;go_meet;rfl
   have h9:¬(ts.length=0∨body.length=0):=fun h=>h6 ⟨by simpa using g6,h⟩;(have g7:((ts.length:Int)==0)=false:=by simp;exact fun e=>h9 (.inl (by rw[e];rfl)));(have g8:((body.length:Int)==0)=false:=by simp;exact fun e=>h9 (.inr (by rw[e];rfl)));clear h6 h9;go_wp2_with fail;refine(refuse_no 1 _).mono ?_;rintro e w5 ⟨rfl,rfl⟩;go_wp2_with fail;go_meet;rfl
  case rest=>
   subst hcut;clear h6;by_cases h8:4<body.length
   ·(have HV:Hid (Sc.ruleErr ar ⟨k,ts,fold,body,vars⟩=2):=by show _=_;rw[HE0.out,if_pos h8];rfl);have g8:decide (4<body.length)=true:=decide_eq_true h8;have g8':decide ((4:Int)<(body.length:Int))=true:=decide_eq_true oM;clear HE0;go_wp2_with fail;refine(refuse_yes 2 _).mono ?_;rintro e w1 ⟨rfl,hb1⟩;go_wp2_with fail;exact⟨rfl,rV,hR.bel.trans (hb1.mono hR.bel.size)⟩
   have g8:decide (4<body.length)=false:=decide_eq_false h8;have g8':decide ((4:Int)<(body.length:Int))=false:=decide_eq_false oM;rw[if_neg h8,Sc.thn_zero]at HE0;go_wp2_with fail;refine(refuse_no 2 _).mono ?_;rintro e w1 ⟨rfl,rfl⟩;go_wp2_with fail;clear c1 d0 d1 d2 d3 d4;go_loopw [70] (fun i wr=>∃j:Nat,j≤body.length∧i=.int .i64 j∧RB w (.cells #[.slice (some ⟨b,off,none⟩) ar.length cap,vn,vr] 26) (.cells #[.int .i64 k, .slice at_ ts.length ct, .int .i64 fold, .slice ab body.length cb, .int .i64 vars] 40) wr∧Sc.first (Sc.litAll ar vars) body=Sc.first (Sc.litAll ar vars) (body.drop j)) (fun i _=>body.length-(intOf i).toNat);case atStart=>exact⟨0,Nat.zero_le _,rfl,hR,rfl⟩
   case round=>
    clear hR;obtain⟨j,hj,rfl,hR,hfj⟩:=hrel;have HFJ:Hid _:=hfj;clear hfj;(have c1:wr.cell? ⟨w.heap.size,0,none⟩=some (.slice (some ⟨b,off,none⟩) ar.length cap):=by rw[Lib.cell_of_heap hR.b1];rfl);(have d0:wr.cell? ⟨w.heap.size+1,0,none⟩=some (.int .i64 k):=by rw[Lib.cell_of_heap hR.b2];rfl);(have d1:wr.cell? ⟨w.heap.size+1,1,none⟩=some (.slice at_ ts.length ct):=by rw[Lib.cell_of_heap hR.b2];rfl);(have d2:wr.cell? ⟨w.heap.size+1,2,none⟩=some (.int .i64 fold):=by rw[Lib.cell_of_heap hR.b2];rfl);(have d3:wr.cell? ⟨w.heap.size+1,3,none⟩=some (.slice ab body.length cb):=by rw[Lib.cell_of_heap hR.b2];rfl);(have d4:wr.cell? ⟨w.heap.size+1,4,none⟩=some (.int .i64 vars):=by rw[Lib.cell_of_heap hR.b2];rfl);(have c2:wr.cell? ⟨w.heap.size,1,none⟩=some vn:=by rw[Lib.cell_of_heap hR.b1];rfl);(have c3:wr.cell? ⟨w.heap.size,2,none⟩=some vr:=by rw[Lib.cell_of_heap hR.b1];rfl);by_cases hjl:j<body.length
    ·obtain⟨b3,off3,rfl,p0,p1,p2,v,p3,hTv⟩:=plits_at hLA j hjl;have HTV:Hid (PTermsV w v (Sc.litD body j).terms):=hTv;obtain⟨av,cv,rfl,_,_⟩:=hTv;have q0:=cell_below hR.bel p0;have q1:=cell_below hR.bel p1;have q2:=cell_below hR.bel p2;have q3:=cell_below hR.bel p3;have HFD:Hid (Sc.first (Sc.litAll ar vars) body=Sc.thn (Sc.litAll ar vars (Sc.litD body j)) (Sc.first (Sc.litAll ar vars) (body.drop (j+1)))):=HFJ.out.trans (Sc.first_drop _ _ _ j hjl);have HFI:Hid (LitFit (Sc.litD body j)):=HFB.out j hjl;have hb1:Below wr.heap.size wr (wr.alloc (.cells #[.int .i64 (Sc.litD body j).kind, .int .i64 (Sc.litD body j).op, .int .i64 (Sc.litD body j).pred, .slice av (Sc.litD body j).terms.length cv] 49)):=(Below.refl _ _).alloc (Nat.le_refl _) _;have hlb:=heap_alloc_new wr (.cells #[.int .i64 (Sc.litD body j).kind, .int .i64 (Sc.litD body j).op, .int .i64 (Sc.litD body j).pred, .slice av (Sc.litD body j).terms.length cv] 49);have hR1:=hR.below hb1;clear p0 p1 p2 p3 hb1 HFJ hLA HL;generalize hx:Sc.litD body j=x at *;clear hx c1 c2 c3;(have c1:(wr.alloc (.cells #[.int .i64 x.kind, .int .i64 x.op, .int .i64 x.pred, .slice av x.terms.length cv] 49)).cell? ⟨w.heap.size,0,none⟩=some (.slice (some ⟨b,off,none⟩) ar.length cap):=by rw[Lib.cell_of_heap hR1.b1];rfl);(have c2:(wr.alloc (.cells #[.int .i64 x.kind, .int .i64 x.op, .int .i64 x.pred, .slice av x.terms.length cv] 49)).cell? ⟨w.heap.size,1,none⟩=some vn:=by rw[Lib.cell_of_heap hR1.b1];rfl);(have c3:(wr.alloc (.cells #[.int .i64 x.kind, .int .i64 x.op, .int .i64 x.pred, .slice av x.terms.length cv] 49)).cell? ⟨w.heap.size,2,none⟩=some vr:=by rw[Lib.cell_of_heap hR1.b1];rfl);go_wp2_with fail;refine Calls.mono (checkLit_any ar _ vn vr x _ _ (intsV_below HA.out hR1.bel) ⟨_,_,rfl⟩) ?_;rintro e w2 ⟨he,hb2⟩;by_cases h9:Sc.litErr ar x=0;rotate_left
     ·(have HV:Hid (Sc.ruleErr ar ⟨k,ts,fold,body,vars⟩=Sc.litErr ar x):=by show _=_;rw[HE0.out,HFD.out,Sc.litAll,Sc.thn_ne _ h9,Sc.thn_ne _ h9,Sc.thn_ne _ h9]);rw[finE_ne h9]at he;subst he;clear HE0 HFD;go_wp2_with fail;exact⟨rfl,by rw[HV.out,finE_ne h9],hR1.bel.trans (hb2.mono hR1.bel.size)⟩
     rw[h9,finE_zero]at he;subst he;have hR2:=hR1.below hb2;have hlb2:=(hb2.block _ (heap_lt hlb)).trans hlb;(have l3:w2.cell? ⟨wr.heap.size,3,none⟩=some (.slice av x.terms.length cv):=by rw[Lib.cell_of_heap hlb2];rfl);(have d4':w2.cell? ⟨w.heap.size+1,4,none⟩=some (.int .i64 vars):=by rw[Lib.cell_of_heap hR2.b2];rfl);clear hlb hlb2 hb2 hR1 q0 q1 q2 q3 c1 d0 d1 d2 d3 d4 c2 c3;go_wp2_with fail;refine Calls.mono (checkTerms_any x.terms vars _ _ HFI.out (ptermsV_below HTV.out hR2.bel)) ?_;rintro e w3 ⟨he,hb3⟩;by_cases h10:Sc.termsErr vars x.terms=0;rotate_left
     ·(have HV:Hid (Sc.ruleErr ar ⟨k,ts,fold,body,vars⟩=Sc.termsErr vars x.terms):=by show _=_;rw[HE0.out,HFD.out,Sc.litAll,h9,Sc.thn_zero,Sc.thn_ne _ h10,Sc.thn_ne _ h10]);rw[finE_ne h10]at he;subst he;clear HE0 HFD;go_wp2_with fail;exact⟨rfl,by rw[HV.out,finE_ne h10],hR2.bel.trans (hb3.mono hR2.bel.size)⟩
     rw[h10,finE_zero]at he;subst he;have hR3:=hR2.below hb3;(have HV:Hid (Sc.first (Sc.litAll ar vars) body=Sc.first (Sc.litAll ar vars) (body.drop (j+1))):=by show _=_;rw[HFD.out,Sc.litAll,h9,Sc.thn_zero,h10,Sc.thn_zero]);clear HFD HTV HFI hb3 h9 h10 l3 d4' hR2;go_wp2_with fail;go_roundw;(case rel=>exact⟨j+1,oM,gN,hR3,HV.out⟩);case measure=>exact mI
    (have hz:Sc.first (Sc.litAll ar vars) body=0:=by rw[HFJ.out,List.drop_of_length_le oM];rfl);have hgood:RuleGood ⟨k,ts,fold,body,vars⟩:=⟨by show 0≤vars;omega,by show vars≤8;omega,by show body.length≤4;omega,fun i hi=>lit_good (first_zero hz _ (litD_mem hi)) (by show 0≤vars;omega) (HFB.out i hi)⟩;rw[hz,Sc.thn_zero]at HE0;clear HFJ hz hLA;go_wp2_with fail;refine Calls.mono (isSafe_any ⟨k,ts,fold,body,vars⟩ _ _ _ (plitsV_below HL.out hR.bel) hgood) ?_;rintro e w2 ⟨he,hb2⟩;have hR:=hR.below hb2;cases h11:Sc.safe ⟨k,ts,fold,body,vars⟩
    ·rw[h11]at he HE0;subst he;(have HV:Hid (Sc.ruleErr ar ⟨k,ts,fold,body,vars⟩=4):=by show _=_;rw[HE0.out];rfl);clear HE0 hgood h11;go_wp2_with fail;refine(refuse_yes 4 _).mono ?_;rintro e w1 ⟨rfl,hb1⟩;go_wp2_with fail;exact⟨rfl,rV,hR.bel.trans (hb1.mono hR.bel.size)⟩
    rw[h11]at he HE0;subst he;(have HV:Hid (Sc.ruleErr ar ⟨k,ts,fold,body,vars⟩=0):=by show _=_;rw[HE0.out];rfl);clear HE0 hgood h11;go_wp2_with fail;refine(refuse_no 4 _).mono ?_;rintro e w1 ⟨rfl,rfl⟩;go_wp2_with fail;exact⟨rfl, .tuple #[],by simp[results,Tryz.results175],rV,hR.bel⟩
 (have h2:¬(ts.length:Int)=Sc.intD ar k:=by simpa using g2);(have HV:Hid (Sc.ruleErr ar ⟨k,ts,fold,body,vars⟩=1):=by show _=_;rw[HE0.out,if_pos h2];rfl);have hb02:=hR.bel;clear HE0 h2;refine wp_region_held_drew (S:=(fun y=>y.cell? ⟨w.heap.size,0,none⟩=some (.slice (some ⟨b,off,none⟩) ar.length cap)∧y.cell? ⟨w.heap.size+1,0,none⟩=some (.int .i64 k)∧y.cell? ⟨w.heap.size+1,1,none⟩=some (.slice at_ ts.length ct)∧y.cell? ⟨b,off+k,none⟩=some (.int .i64 (Sc.intD ar k)))) kR (by go_keep) (fun hHeld=>?_);refine wpAnyH_take (i:=0) (v:=?v0x0) rfl kR kR kR (fun _ _ _ h=>h) (Or.inl ⟨by rfl,?hy0x0⟩) (by assumption) ?_;(case hy0x0=>intro w hSw;(try dsimp only at hSw);go_simp;try with_reducible rfl);(try simp only[Act.put,List.setIfInBounds_toArray]);refine wpAnyH_take (i:=1) (v:=?v1x1) rfl kR kR kR (fun _ _ _ h=>h) (Or.inl ⟨by rfl,?hy1x1⟩) (by assumption) ?_;(case hy1x1=>intro w hSw;(try dsimp only at hSw);go_simp;try with_reducible rfl);(try simp only[Act.put]);refine wpAnyH_take (i:=2) (v:=?v2x2) rfl kR kR kR (fun _ _ _ h=>h) (Or.inl ⟨by rfl,?hy2x2⟩) (by assumption) ?_;(case hy2x2=>intro w hSw;(try dsimp only at hSw);go_simp;try with_reducible rfl);(try simp only[Act.put]);refine wpAnyH_take (i:=3) (v:=?v3x3) rfl kR kR kR (fun _ _ _ h=>h) (Or.inl ⟨by rfl,?hy3x3⟩) (by assumption) ?_;(case hy3x3=>intro w hSw;(try dsimp only at hSw);go_simp;try with_reducible rfl);(try simp only[Act.put]);refine wpAnyH_take (i:=4) (v:=?v4x4) rfl kR kR kR (fun _ _ _ h=>h) (Or.inl ⟨by rfl,?hy4x4⟩) (by assumption) ?_;(case hy4x4=>intro w hSw;(try dsimp only at hSw);go_simp;try with_reducible rfl);(try simp only[Act.put]);refine wpAnyH_take (i:=5) (v:=?v5x5) rfl kR kR kR (fun _ _ _ h=>h) (Or.inl ⟨by rfl,?hy5x5⟩) (by assumption) ?_;(case hy5x5=>intro w hSw;(try dsimp only at hSw);go_simp;try with_reducible rfl);(try simp only[Act.put]);refine wpAnyH_take (i:=6) (v:=?v6x6) rfl kR kR kR (fun _ _ _ h=>h) (Or.inl ⟨by rfl,?hy6x6⟩) (by assumption) ?_;(case hy6x6=>intro w hSw;(try dsimp only at hSw);go_simp;try with_reducible rfl);(try simp only[Act.put]);refine wpAnyH_take (i:=7) (v:=?v7x7) rfl kR kR kR (fun _ _ _ h=>h) (Or.inl ⟨by rfl,?hy7x7⟩) (by assumption) ?_;(case hy7x7=>intro w hSw;(try dsimp only at hSw);go_simp;try with_reducible rfl);(try simp only[Act.put]);refine wpAnyH_take (i:=8) (v:=?v8x8) rfl kR kR kR (fun _ _ _ h=>h) (Or.inl ⟨by rfl,?hy8x8⟩) (by assumption) ?_;(case hy8x8=>intro w hSw;(try dsimp only at hSw);go_simp;try with_reducible rfl);(try simp only[Act.put]);refine wpAnyH_take (i:=9) (v:=?v9x9) rfl kR kR kR (fun _ _ _ h=>h) (Or.inl ⟨by rfl,?hy9x9⟩) (by assumption) ?_;(case hy9x9=>intro w hSw;(try dsimp only at hSw);go_simp;try with_reducible rfl);(try simp only[Act.put]);refine wpAnyH_ready (rs:=[10]) kR sI ?_;refine AllReadyH.cons rfl (fun K hK=>?_) AllReadyH.nil;go_simp;go_at_call 129;refine Calls.mono (refuse_yes 1 _) ?_;rintro e y2 ⟨rfl,hb4⟩;exact⟨rfl,rV,hb02.drew.trans (hb4.mono hb02.size)⟩
structure CB (w:World) (o:Obj) (M:Nat) (ns:List (List UInt8)) (wr:World):Prop where
 bel:Below w.heap.size w wr
 box:wr.heap[w.heap.size]?=some o
 num:NumAt wr M ns
 lt:w.heap.size<M
theorem CB.below{w wr w2:World}{o:Obj}{M:Nat}{ns:List (List UInt8)}(h:CB w o M ns wr)(hb:Below wr.heap.size wr w2):CB w o M ns w2:=
 ⟨h.bel.trans (hb.mono h.bel.size),(hb.block _ (heap_lt h.box)).trans h.box,h.num.below hb,h.lt⟩
theorem CB.of{w wr w2:World}{o:Obj}{M:Nat}{ns ns':List (List UInt8)}(h:CB w o M ns wr)(hg:wr.grownBy w2 (some M))(hn:NumAt w2 M ns'):CB w o M ns' w2:=by
 have hlt:=h.lt;have hs:=h.bel.size
 exact⟨⟨hg.os.trans h.bel.os,hg.tape.trans h.bel.tape,hg.output.trans h.bel.output,Nat.le_trans hs hg.size,fun k hk=>(hg.block k (Nat.lt_of_lt_of_le hk hs) (fun e=>by injection e;omega)).trans (h.bel.block k hk)⟩,
  (hg.block _ (heap_lt h.box) (fun e=>by injection e;omega)).trans h.box,hn,hlt⟩
theorem CB.start(w:World)(o:Obj):CB w o (w.heap.size+1) [] ((w.alloc o).alloc (.map #[] 0)):=by have h:=two_blocks (w:=w) (o1:=o) (o2:=.map #[] 0) (Below.refl _ _);have hn:=numAt_made (w.alloc o);rw[show(w.alloc o).heap.size=w.heap.size+1 by simp]at hn;exact⟨below_two w _ _,h.1,hn,oM⟩
theorem strs_at{w:World}{ao:Option Addr}{l:List (List UInt8)}(h:StrsAt w ao l)(n:Nat)(hn:n<l.length):∃b off,ao=some ⟨b,off,none⟩∧w.cell? ⟨b,off+n,none⟩=some (.string ⟨(Sc.strD l n).toArray⟩):=by
 rcases h with h|⟨b,off,ha,hc⟩
 ·rw[h]at hn;exact absurd hn sI
 exact⟨b,off,ha,hc n hn⟩
theorem prules_at{w:World}{ao:Option Addr}{l:List Sc.Rule}(h:PRulesAt w ao l)(n:Nat)(hn:n<l.length):∃b off,ao=some ⟨b,off,none⟩∧PRuleIn w b (off+n*5) (Sc.ruleD l n):=by
 rcases h with h|⟨b,off,ha,hc⟩
 ·rw[h]at hn;exact absurd hn sI
 exact⟨b,off,ha,hc n hn⟩
theorem pred_drop(ar:List Int)(ns:List (List UInt8))(j:Nat)(h:j<ns.length):Sc.first (Sc.predErr ar ns) ((List.range ns.length).drop j)=Sc.thn (Sc.predErr ar ns j) (Sc.first (Sc.predErr ar ns) ((List.range ns.length).drop (j+1))):=by
 rw[Sc.first_drop _ 0 _ j (by simpa using h)]
 congr 2
 simp[h]
theorem take_step(ns:List (List UInt8))(j:Nat)(h:j<ns.length):ns.take j++[Sc.strD ns j]=ns.take (j+1):=by rw[List.take_succ_eq_append_getElem h];simp[Sc.strD,List.getD_eq_getElem?_getD,h]
theorem idx_lt{x:List UInt8}{l:List (List UInt8)}(h:l.contains x=true):l.idxOf x<l.length:=List.idxOf_lt_length_iff.mpr (by simpa using h)
theorem scCheck_any(p:Sc.Prog)(va vn vr:Value)(w:World)(hP:ProgV w va vn vr p)(hF:ProgFit p):
 Calls Tryz.prog 128 #[progVal va vn vr] w fun e w'=>e=finE (Sc.check p)∧Below w.heap.size w w':=by
 obtain⟨ar,ns,rs⟩:=p;obtain⟨hA,hN,hL⟩:=hP;have HA:Hid (IntsV w va ar):=hA;obtain⟨ao,cap,rfl,hA⟩:=hA;obtain⟨an,cn,rfl,hN⟩:=hN;obtain⟨al,cl,rfl,hL⟩:=hL;have hA:IntsAt w ao ar:=hA;have hN:StrsAt w an ns:=hN;have hL:PRulesAt w al rs:=hL;have HFR:Hid (∀i,i<rs.length→RuleFit (Sc.ruleD rs i)):=hF.rs;clear hF;have hmm:=@run_makeMap Tryz.prog;have hb0:Below w.heap.size w (w.alloc (.cells #[.slice ao ar.length cap, .slice an ns.length cn, .slice al rs.length cl] 26)):=(Below.refl _ _).alloc (Nat.le_refl _) _;have HE0:Hid (Sc.check ⟨ar,ns,rs⟩=if 10<ar.length∨12<rs.length then 2 else if¬ns.length=ar.length then 1 else Sc.thn (Sc.first (Sc.predErr ar ns) (List.range ns.length)) (Sc.first (Sc.ruleErr ar) rs)):=rfl;by_cases h1:10<ar.length
 ·(have HV:Hid (Sc.check ⟨ar,ns,rs⟩=2):=by show _=_;rw[HE0.out,if_pos (.inl h1)]);have g1:decide (10<ar.length)=true:=decide_eq_true h1;have g1':decide ((10:Int)<(ar.length:Int))=true:=decide_eq_true oM;clear HE0 hA hN hL
  go_enter Tryz.func128,Tryz.ntmps128
  go_wp2_with fail;refine(refuse_yes 2 _).mono ?_;rintro e w1 ⟨rfl,hb1⟩;go_wp2_with fail;exact⟨rfl,rV,hb0.trans (hb1.mono hb0.size)⟩
 have g1:decide (10<ar.length)=false:=decide_eq_false h1;have g1':decide ((10:Int)<(ar.length:Int))=false:=decide_eq_false oM;by_cases h2:12<rs.length
 ·(have HV:Hid (Sc.check ⟨ar,ns,rs⟩=2):=by show _=_;rw[HE0.out,if_pos (.inr h2)]);have g2:decide (12<rs.length)=true:=decide_eq_true h2;have g2':decide ((12:Int)<(rs.length:Int))=true:=decide_eq_true oM;clear HE0 hA hN hL
  go_enter Tryz.func128,Tryz.ntmps128
  go_wp2_with fail;refine(refuse_yes 2 _).mono ?_;rintro e w1 ⟨rfl,hb1⟩;go_wp2_with fail;exact⟨rfl,rV,hb0.trans (hb1.mono hb0.size)⟩
 have g2:decide (12<rs.length)=false:=decide_eq_false h2;have g2':decide ((12:Int)<(rs.length:Int))=false:=decide_eq_false oM;rw[if_neg (fun h=>h.elim h1 h2)]at HE0;by_cases h3:ns.length=ar.length;rotate_left
 ·(have HV:Hid (Sc.check ⟨ar,ns,rs⟩=1):=by show _=_;rw[HE0.out,if_pos h3]);(have g3:((ns.length:Int) != (ar.length:Int))=true:=by simp;omega);(have g3':(ns.length != ar.length)=true:=by simp;omega);clear HE0 hA hN hL
  go_enter Tryz.func128,Tryz.ntmps128
  go_wp2_with fail;refine(refuse_no 2 _).mono ?_;rintro e w1 ⟨rfl,rfl⟩;go_wp2_with fail;refine(refuse_yes 1 _).mono ?_;rintro e w1 ⟨rfl,hb1⟩;go_wp2_with fail;exact⟨rfl,rV,hb0.trans (hb1.mono hb0.size)⟩
 rw[if_neg (fun h=>h h3)]at HE0;have H3:Hid (ns.length=ar.length):=h3;(have g3:((ns.length:Int) != (ar.length:Int))=false:=by simp;omega);(have g3':(ns.length != ar.length)=false:=by simp;omega);have hst:=CB.start w (.cells #[.slice ao ar.length cap, .slice an ns.length cn, .slice al rs.length cl] 26);(have H10:Hid (ns.length≤10):=by show _≤_;omega);clear h3
 go_enter Tryz.func128,Tryz.ntmps128
 go_wp2_with fail;refine(refuse_no 2 _).mono ?_;rintro e w1 ⟨rfl,rfl⟩;go_wp2_with fail;refine(refuse_no 1 _).mono ?_;rintro e w1 ⟨rfl,rfl⟩;go_wp2_with fail;generalize w.heap.size+1=M at *;go_loopw [30] (fun i wr=>∃j:Nat,j≤ns.length∧i=.int .i64 j∧CB w (.cells #[.slice ao ar.length cap, .slice an ns.length cn, .slice al rs.length cl] 26) M (ns.take j) wr∧Sc.first (Sc.predErr ar ns) (List.range ns.length)=Sc.first (Sc.predErr ar ns) ((List.range ns.length).drop j)) (fun i _=>ns.length-(intOf i).toNat);case atStart=>exact⟨0,Nat.zero_le _,rfl,hst,rfl⟩
 case round=>
  clear hst;obtain⟨j,hj,rfl,hR,hfj⟩:=hrel;have HFJ:Hid _:=hfj;clear hfj;(have c0:wr.cell? ⟨w.heap.size,0,none⟩=some (.slice ao ar.length cap):=by rw[Lib.cell_of_heap hR.box];rfl);by_cases hjl:j<ns.length
  ·obtain⟨b,off,rfl,p0⟩:=strs_at hN j hjl;(have hja:j<ar.length:=by rw[←H3.out];exact hjl);obtain⟨b2,off2,rfl,p1⟩:=ints_at hA j hja;have q0:=cell_below hR.bel p0;have q1:=cell_below hR.bel p1;have HFD:Hid (Sc.first (Sc.predErr ar ns) (List.range ns.length)=Sc.thn (Sc.predErr ar ns j) (Sc.first (Sc.predErr ar ns) ((List.range ns.length).drop (j+1)))):=HFJ.out.trans (pred_drop ar ns j hjl);have HPE:Hid (Sc.predErr ar ns j=Sc.thn (if Tr.between (Sc.intD ar j) 0 3 then 0 else 3) (Sc.thn (if Tr.isName (Sc.strD ns j)then 0 else 1) (if(ns.take j).contains (Sc.strD ns j)then 6 else 0))):=rfl;have HTS:Hid (ns.take j++[Sc.strD ns j]=ns.take (j+1)):=take_step ns j hjl;clear p0 p1 hA hN hL HFJ;generalize Sc.intD ar j=a at *;generalize Sc.strD ns j=s at *;by_cases h4:a<0
   ·(have HV:Hid (Sc.check ⟨ar,ns,rs⟩=3):=by show _=_;rw[HE0.out,HFD.out,HPE.out,if_neg (by simp[Tr.between];omega)];rfl);have g4:decide (a<0)=true:=decide_eq_true h4;clear HE0 HFD HPE;go_wp2_with fail;refine(refuse_yes 3 _).mono ?_;rintro e w1 ⟨rfl,hb1⟩;go_wp2_with fail;exact⟨rfl,rV,hR.bel.trans (hb1.mono hR.bel.size)⟩
   have g4:decide (a<0)=false:=decide_eq_false h4;by_cases h4b:3<a
   ·(have HV:Hid (Sc.check ⟨ar,ns,rs⟩=3):=by show _=_;rw[HE0.out,HFD.out,HPE.out,if_neg (by simp[Tr.between];omega)];rfl);have g4b:decide (3<a)=true:=decide_eq_true h4b;clear HE0 HFD HPE;go_wp2_with fail;refine(refuse_yes 3 _).mono ?_;rintro e w1 ⟨rfl,hb1⟩;go_wp2_with fail;exact⟨rfl,rV,hR.bel.trans (hb1.mono hR.bel.size)⟩
   have g4b:decide (3<a)=false:=decide_eq_false h4b;rw[if_pos (show Tr.between a 0 3=true by simp[Tr.between];omega),Sc.thn_zero]at HPE;go_wp2_with fail;refine(refuse_no 3 _).mono ?_;rintro e w1 ⟨rfl,rfl⟩;go_wp2_with fail;refine Calls.mono (scName_any s _) ?_;rintro e w2 ⟨he,hb2⟩;have hR2:=hR.below hb2;cases h5:Tr.isName s
   ·rw[h5]at he;subst he;(have HV:Hid (Sc.check ⟨ar,ns,rs⟩=1):=by show _=_;rw[HE0.out,HFD.out,HPE.out,h5];rfl);clear HE0 HFD HPE;go_wp2_with fail;refine(refuse_yes 1 _).mono ?_;rintro e w1 ⟨rfl,hb1⟩;go_wp2_with fail;exact⟨rfl,rV,hR2.bel.trans (hb1.mono hR2.bel.size)⟩
   rw[h5]at he;subst he;have h12:s.length≤5000:=by
    (have :Tk.isTok 1 s=true:=by unfold Tr.isName at h5;simp at h5;exact h5.1);have :=Tk.isTok_len _ _ this;omega
   rw[h5,if_pos rfl,Sc.thn_zero]at HPE;clear hR hb2 q0 q1 c0 h5;go_wp2_with fail;refine(refuse_no 1 _).mono ?_;rintro e w1 ⟨rfl,rfl⟩;go_wp2_with fail;refine Calls.mono (of_any M (ns.take j) s _ hR2.num h12 (by have :=H10.out;rw[List.length_take];omega)) ?_;rintro e w3 ⟨rfl,hn3,hg3⟩;(have hlt:(ns.take j).length=j:=by rw[List.length_take];omega);cases h6:(ns.take j).contains s
   ·rw[h6,if_neg sI,HTS.out]at hn3;have hR3:=hR2.of hg3 hn3;(have hix:(ns.take j).idxOf s=j:=by rw[idx_none (by simpa using h6),hlt]);rw[hix];(have g6:((j:Int) != (j:Int))=false:=by simp);(have HV:Hid (Sc.first (Sc.predErr ar ns) (List.range ns.length)=Sc.first (Sc.predErr ar ns) ((List.range ns.length).drop (j+1))):=by show _=_;rw[HFD.out,HPE.out,h6];rfl);clear HFD HPE hn3 hg3 hR2 hix h6 hlt HTS;go_wp2_with fail;refine(refuse_no 6 _).mono ?_;rintro e w1 ⟨rfl,rfl⟩;go_wp2_with fail;go_roundw;(case rel=>exact⟨j+1,oM,gN,hR3,HV.out⟩);case measure=>exact mI
   rw[h6,if_pos rfl]at hn3;have hR3:=hR2.of hg3 hn3;have hix:=idx_lt h6;rw[hlt]at hix;(have g6:(((ns.take j).idxOf s:Int) != (j:Int))=true:=by simp;omega);(have HV:Hid (Sc.check ⟨ar,ns,rs⟩=6):=by show _=_;rw[HE0.out,HFD.out,HPE.out,h6];rfl);clear HFD HPE hn3 hg3 hR2 h6 HE0 HTS;generalize (ns.take j).idxOf s=ix at *;(have g6':(ix != j)=true:=by simp;omega);go_wp2_with fail;refine(refuse_yes 6 _).mono ?_;rintro e w1 ⟨rfl,hb1⟩;go_wp2_with fail;exact⟨rfl,rV,hR3.bel.trans (hb1.mono hR3.bel.size)⟩
  (have hz:Sc.first (Sc.predErr ar ns) (List.range ns.length)=0:=by rw[HFJ.out,List.drop_of_length_le sO];rfl);rw[hz,Sc.thn_zero]at HE0;generalize hj0:j=j0 at *;clear hj0;(have c2:wr.cell? ⟨w.heap.size,2,none⟩=some (.slice al rs.length cl):=by rw[Lib.cell_of_heap hR.box];rfl);clear HFJ hz hA hN;go_wp2_with fail;go_loopw [64] (fun i wr=>∃j:Nat,j≤rs.length∧i=.int .i64 j∧CB w (.cells #[.slice ao ar.length cap, .slice an ns.length cn, .slice al rs.length cl] 26) M (ns.take j0) wr∧Sc.first (Sc.ruleErr ar) rs=Sc.first (Sc.ruleErr ar) (rs.drop j)) (fun i _=>rs.length-(intOf i).toNat);case atStart=>exact⟨0,Nat.zero_le _,rfl,hR,rfl⟩
  case round=>
   clear hR c0 c2;obtain⟨j,hj,rfl,hR,hfj⟩:=hrel;have HFJ:Hid _:=hfj;clear hfj;by_cases hjl:j<rs.length
   ·obtain⟨b,off,rfl,p0,⟨vt,p1,hT⟩,p2,⟨vb,p3,hB⟩,p4⟩:=prules_at hL j hjl;have HT:Hid (PTermsV w vt (Sc.ruleD rs j).terms):=hT;have HB:Hid (PLitsV w vb (Sc.ruleD rs j).body):=hB;obtain⟨at_,ct,rfl,_,_⟩:=hT;obtain⟨ab,cb,rfl,_⟩:=hB;have q0:=cell_below hR.bel p0;have q1:=cell_below hR.bel p1;have q2:=cell_below hR.bel p2;have q3:=cell_below hR.bel p3;have q4:=cell_below hR.bel p4;have HFD:Hid (Sc.first (Sc.ruleErr ar) rs=Sc.thn (Sc.ruleErr ar (Sc.ruleD rs j)) (Sc.first (Sc.ruleErr ar) (rs.drop (j+1)))):=HFJ.out.trans (Sc.first_drop _ _ _ j hjl);have HFI:Hid (RuleFit (Sc.ruleD rs j)):=HFR.out j hjl;have hb1:Below wr.heap.size wr (wr.alloc (.cells #[.int .i64 (Sc.ruleD rs j).pred, .slice at_ (Sc.ruleD rs j).terms.length ct, .int .i64 (Sc.ruleD rs j).fold, .slice ab (Sc.ruleD rs j).body.length cb, .int .i64 (Sc.ruleD rs j).vars] 40)):=(Below.refl _ _).alloc (Nat.le_refl _) _;have hR1:=hR.below hb1;clear p0 p1 p2 p3 p4 HFJ hL hb1;generalize hx:Sc.ruleD rs j=x at *;clear hx;(have c0:(wr.alloc (.cells #[.int .i64 x.pred, .slice at_ x.terms.length ct, .int .i64 x.fold, .slice ab x.body.length cb, .int .i64 x.vars] 40)).cell? ⟨w.heap.size,0,none⟩=some (.slice ao ar.length cap):=by rw[Lib.cell_of_heap hR1.box];rfl);(have c1:(wr.alloc (.cells #[.int .i64 x.pred, .slice at_ x.terms.length ct, .int .i64 x.fold, .slice ab x.body.length cb, .int .i64 x.vars] 40)).cell? ⟨w.heap.size,1,none⟩=some (.slice an ns.length cn):=by rw[Lib.cell_of_heap hR1.box];rfl);(have c2:(wr.alloc (.cells #[.int .i64 x.pred, .slice at_ x.terms.length ct, .int .i64 x.fold, .slice ab x.body.length cb, .int .i64 x.vars] 40)).cell? ⟨w.heap.size,2,none⟩=some (.slice (some ⟨b,off,none⟩) rs.length cl):=by rw[Lib.cell_of_heap hR1.box];rfl);go_wp2_with fail;refine Calls.mono (checkRule_any ar _ _ _ x _ _ _ (intsV_below HA.out hR1.bel) (ptermsV_below HT.out hR1.bel) (plitsV_below HB.out hR1.bel) HFI.out) ?_;rintro e w2 ⟨he,hb2⟩;by_cases h9:Sc.ruleErr ar x=0;rotate_left
    ·(have HV:Hid (Sc.check ⟨ar,ns,rs⟩=Sc.ruleErr ar x):=by show _=_;rw[HE0.out,HFD.out,Sc.thn_ne _ h9]);rw[finE_ne h9]at he;subst he;clear HE0 HFD;go_wp2_with fail;exact⟨rfl,by rw[HV.out,finE_ne h9],hR1.bel.trans (hb2.mono hR1.bel.size)⟩
    rw[h9,finE_zero]at he;subst he;have hR2:=hR1.below hb2;(have HV:Hid (Sc.first (Sc.ruleErr ar) rs=Sc.first (Sc.ruleErr ar) (rs.drop (j+1))):=by show _=_;rw[HFD.out,h9,Sc.thn_zero]);clear HFD HT HB HFI hb2 h9 hR1 q0 q1 q2 q3 q4 c0 c1 c2;go_wp2_with fail;go_roundw;(case rel=>exact⟨j+1,oM,gN,hR2,HV.out⟩);case measure=>exact mI
   (have HV:Hid (Sc.check ⟨ar,ns,rs⟩=0):=by show _=_;rw[HE0.out,HFJ.out,List.drop_of_length_le oM];rfl);clear HE0 hL;go_wp2_with fail;exact⟨rfl, .tuple #[],by simp[results,Tryz.results128],rV,hR.bel⟩
theorem catchS_idle(pf:Addr)(w:World):
 CallsD Tryz.prog 172 #[.pointer (some pf)] .returning w fun e u' w'=>e=.returned (.tuple #[])∧u'=.returning∧w'=w:=by
 refine callsD_of_wpS Tryz.func172 rfl fun c₀ cs hu=>?_;apply wpS_seq;apply wpS_region;simp[wpOpsS,go_sem,recoverD,hu,Tryz.ntmps172,Exit.thenS];refine wpS_of_wp ?_;go_wp2;refine⟨rfl, .returning,?_, .tuple #[],?_,rfl,rfl,rfl⟩
 ·rw[←hu]
 simp[results,Tryz.results172]
theorem catchS_panicking(bf:Nat)(g0 g1:Value)(a c:Int)(older:List PanicEntry)(w:World)
 (hg0:w.cell? ⟨bf,0,none⟩=some g0) (hg1:w.cell? ⟨bf,1,none⟩=some g1) (fg0:w.frozen? ⟨bf,0,none⟩=false) (fg1:w.frozen? ⟨bf,1,none⟩=false):
 CallsD Tryz.prog 172 #[.pointer (some ⟨bf,0,none⟩)] (.panicking ({v:=.iface 168 (.agg #[.int .i64 a, .int .i64 c]),recovered:=false}::older)) w fun e u' w'=>
  e=.returned (.tuple #[])∧u'=.panicking ({v:=.iface 168 (.agg #[.int .i64 a, .int .i64 c]),recovered:=true}::older)∧
  w'.cell? ⟨bf,0,none⟩=some (.int .i64 a)∧w'.cell? ⟨bf,1,none⟩=some (.int .i64 c)∧w.grownBy w' (some bf)∧w'.heap.size=w.heap.size:=by
 have hta:∀w:World,(Instr.typeAssert (.iface 168 (.agg #[.int .i64 a, .int .i64 c])) 20 168 false).run Tryz.prog w=.ok (.agg #[.int .i64 a, .int .i64 c]) w:=fun _=>kR;refine callsD_of_wpS Tryz.func172 rfl fun c₀ cs hu=>?_;apply wpS_seq;apply wpS_region;simp[wpOpsS,go_sem,recoverD,hu,Tryz.ntmps172,Exit.thenS];refine wpS_of_wp ?_;go_wp2;refine⟨rfl,_,rfl, .tuple #[],?_,rfl,rfl,?_,?_,?_,?_⟩
 ·simp[results,Tryz.results172]
 ·simp[go_sem,hg0]
 ·simp[go_sem,hg1]
 ·exact grownBy_trans (grownBy_set _ _) (grownBy_set _ _)
 simp
theorem enters142:Enters 142:=enters_of Tryz.func142 kR rfl
def endE(a c:Int):Ending:=if c=0 then goneOn else gaveF a c
def CaughtEnd(a c:Int)(row:Option Nat)(Z:World→Prop)(w:World)(e:Ending)(w':World):Prop:=
 e=.returned (.agg #[.int .i64 (if c=0 then 0 else a), .int .i64 c])∧w.grownBy w' row∧Z w'
theorem grow_trans{w u v:World}{row:Option Nat}(o:Obj)(hu:(w.alloc o).grownBy u row)(hv:u.grownBy v (some w.heap.size)):w.grownBy v row:=by(have hs:(w.alloc o).heap.size=w.heap.size+1:=by simp);refine⟨hv.os.trans hu.os,hv.tape.trans hu.tape,hv.output.trans hu.output,Nat.le_trans (by rw[←Nat.succ_le_succ_iff];have :=hu.size;omega) hv.size,fun k hk hne=>?_⟩;have h1:=hu.block k oM hne;have h2:=hv.block k (by have :=hu.size;omega) (fun e=>by injection e;omega);rw[h2,h1];exact((Below.refl _ _).alloc (Nat.le_refl _) o).block k hk
theorem caught_any(G:Nat)(caps:Array Value)(row:Option Nat)(a c:Int)(Z:World→Prop)(w:World)(hE:Enters G)(hrow:∀k,row=some k→k<w.heap.size)
 (hZ:∀u v:World,Z u→v.heap.size=u.heap.size→(∀k,¬k=w.heap.size→v.heap[k]?=u.heap[k]?)→Z v)
 (hdo:Calls Tryz.prog G caps (w.alloc (.cells #[.int .i64 0, .int .i64 0] 168)) fun e w'=>e=endE a c∧(w.alloc (.cells #[.int .i64 0, .int .i64 0] 168)).grownBy w' row∧Z w'):
 Calls Tryz.prog 126 #[.func (.func G) #[] caps] w (CaughtEnd a c row Z w):=by
 have hmf:∀(fn:Fn)(first cap:Array Value)(w:World),(Instr.makeFunc fn first cap).run Tryz.prog w=.ok (.func fn first cap) w:=fun _ _ _ _=>rfl;have he:=hE;unfold Enters at he;have hBx:=heap_alloc_new w (.cells #[.int .i64 0, .int .i64 0] 168)
 go_enter_defers Tryz.func126,Tryz.ntmps126
 go_wp2_with fail;refine Calls.mono hdo ?_;rintro e w1 ⟨rfl,hg,hz⟩;have hB1:=(hg.block _ (heap_lt hBx) (fun e=>Nat.lt_irrefl _ (hrow _ e.symm))).trans hBx;(have g0:w1.cell? ⟨w.heap.size,0,none⟩=some (.int .i64 0):=by rw[Lib.cell_of_heap hB1];rfl);(have g1:w1.cell? ⟨w.heap.size,1,none⟩=some (.int .i64 0):=by rw[Lib.cell_of_heap hB1];rfl);have f0:w1.frozen? ⟨w.heap.size,0,none⟩=false:=Lib.frozen_of_heap hB1 0;have f1:w1.frozen? ⟨w.heap.size,1,none⟩=false:=Lib.frozen_of_heap hB1 1;clear hdo hBx hB1 he hmf;unfold endE;by_cases hc:c=0
 ·subst hc;rw[if_pos rfl];go_wp2_with fail;refine leaves_cons (f:=172) (args:=#[.pointer (some ⟨w.heap.size,0,none⟩)]) sI (by simp[go_sem]) ?_;refine(catchS_idle _ _).mono ?_;rintro e u' w2 ⟨rfl,rfl,rfl⟩;refine⟨.agg #[.int .i64 0, .int .i64 0],by simp[results,Tryz.results126,go_sem,g0,g1],rfl,?_,?_⟩
  ·exact grow_trans _ hg (grownBy_trans (grownBy_set _ _) (grownBy_set _ _))
  exact hZ _ _ hz sI (fun k hk=>by rw[Below.heap_setCell _ _ _ _ hk,Below.heap_setCell _ _ _ _ hk])
 rw[if_neg hc];go_wp2_with fail;refine leaves_cons (f:=172) (args:=#[.pointer (some ⟨w.heap.size,0,none⟩)]) sI (by simp[go_sem]) ?_;refine(catchS_panicking w.heap.size _ _ a c [] w1 g0 g1 f0 f1).mono ?_;rintro e u' w2 ⟨rfl,rfl,k1,k2,hg2,hs2⟩;refine⟨.agg #[.int .i64 a, .int .i64 c],by simp[results,Tryz.results126,go_sem,k1,k2],by rw[if_neg hc],?_,?_⟩
 ·exact grow_trans _ hg hg2
 refine hZ _ _ hz hs2 (fun k hk=>?_);rcases Nat.lt_or_ge k w1.heap.size with h|h
 ·exact hg2.block k h (fun e=>by injection e with e;exact hk e)
 rw[Array.getElem?_eq_none h,Array.getElem?_eq_none oM]
theorem below_of_grown{w w':World}(h:w.grownBy w' none):Below w.heap.size w w':=⟨h.os,h.tape,h.output,h.size,fun k hk=>h.block k hk (fun e=>by cases e)⟩
theorem fldF(a b:Value)(w:World):(Instr.field 168 (.agg #[a,b]) 1).run Tryz.prog w=.ok b w:=kR
theorem check1_any(p:Sc.Prog)(va vn vr:Value)(X:Nat)(w:World)(hX:w.heap[X]?=some (.cells #[va,vn,vr] 26))(hP:ProgV w va vn vr p)(hF:ProgFit p):
 Calls Tryz.prog 142 #[.pointer (some ⟨X,0,none⟩)] w fun e w'=>e=finE (Sc.check p)∧Below w.heap.size w w':=by
 (have c0:w.cell? ⟨X,0,none⟩=some va:=by rw[Lib.cell_of_heap hX];rfl);(have c1:w.cell? ⟨X,1,none⟩=some vn:=by rw[Lib.cell_of_heap hX];rfl);have c2:w.cell? ⟨X,2,none⟩=some vr:=by rw[Lib.cell_of_heap hX];rfl
 go_enter Tryz.func142,Tryz.ntmps142
 go_wp2_with fail;refine Calls.mono (scCheck_any p va vn vr _ hP hF) ?_;rintro e w1 ⟨rfl,hb⟩;by_cases h:Sc.check p=0
 ·rw[h,finE_zero];go_wp2_with fail;exact⟨rfl, .tuple #[],by simp[results,Tryz.results142],by rw[h];rfl,hb⟩
 rw[finE_ne h];go_wp2_with fail;exact⟨rfl,(finE_ne h).symm,hb⟩
theorem ScCheck_any(p:Sc.Prog)(va vn vr:Value)(w:World)(hP:ProgV w va vn vr p)(hF:ProgFit p):
 Calls Tryz.prog 97 #[progVal va vn vr] w fun e w'=>e=.returned (.int .i64 (Sc.check p))∧Below w.heap.size w w':=by
 obtain⟨a0,n0,rfl,_⟩:=id hP.ar;obtain⟨a1,n1,rfl,_⟩:=id hP.nm;obtain⟨a2,n2,rfl,_⟩:=id hP.rl;have hmf:∀(fn:Fn)(first cap:Array Value)(w:World),(Instr.makeFunc fn first cap).run Tryz.prog w=.ok (.func fn first cap) w:=fun _ _ _ _=>rfl;have hb0:∀(u:World)(o:Obj),Below u.heap.size u (u.alloc o):=fun u o=>(Below.refl _ _).alloc (Nat.le_refl _) o;have hX:=heap_alloc_new w (.cells #[.slice a0 p.arity.length n0, .slice a1 p.names.length n1, .slice a2 p.rules.length n2] 26);have hP1:=hP.below (hb0 w (.cells #[.slice a0 p.arity.length n0, .slice a1 p.names.length n1, .slice a2 p.rules.length n2] 26));have HB:=hb0 w (.cells #[.slice a0 p.arity.length n0, .slice a1 p.names.length n1, .slice a2 p.rules.length n2] 26)
 go_enter Tryz.func97,Tryz.ntmps97
 go_wp2_with fail;generalize w.alloc (.cells #[.slice a0 p.arity.length n0, .slice a1 p.names.length n1, .slice a2 p.rules.length n2] 26)=w1 at *;refine Calls.mono (caught_any 142 _ none 0 (Sc.check p) (fun _=>True) w1 enters142 (fun _ e=>by cases e) (fun _ _ _ _ _=>trivial) ?_) ?_
 ·refine Calls.mono (check1_any p _ _ _ w.heap.size _ (((hb0 w1 _).block _ (heap_lt hX)).trans hX) (hP1.below (hb0 w1 _)) hF) ?_;rintro e w2 ⟨rfl,hb⟩;exact⟨rfl,grownBy_of_below hb _,trivial⟩
 rintro e w2 ⟨rfl,hg,_⟩;have hbb:=HB.trans ((below_of_grown hg).mono HB.size);go_wp2_with fail;simp only[fldF];go_wp2_with fail;go_ret;exact⟨rfl,hbb⟩
end Go.Proofs.YthenjegmigeieaaGreat
namespace Go.Proofs.YthenjegmigeieaaGreat
open Go.RowKit Go.Shelf
attribute [local go_sem] Oper.semAt_some
namespace St
structure RuleIn (n:Nat) (r:Sc.Rule):Prop where
 h0:0≤r.pred
 h1:r.pred<(n:Int)
 hb:Bound n r.body
 hl:r.body.length≤4
def edgesOf(l:List Sc.Rule):List Fx.Edge:=l.flatMap ruleE
theorem edgesOf_snoc(l:List Sc.Rule)(r:Sc.Rule):edgesOf (l++[r])=edgesOf l++ruleE r:=by unfold edgesOf;rw[List.flatMap_append];simp
theorem ruleE_length(r:Sc.Rule):(ruleE r).length≤r.body.length:=by unfold ruleE;rw[List.length_map];exact List.length_filter_le _ _
theorem ruleE_one{r:Sc.Rule}:∀e,e∈ruleE r→e.2.2≤1:=fun e he=>by unfold ruleE at he;obtain⟨x,_,rfl⟩:=List.mem_map.mp he;rcases strict01 r x with h|h<;>simp[h]
end St
structure RSt (w:World) (LB n cap:Nat) (W:World) (cur:List Int) (fl:Bool):Prop where
 gr:w.grownBy W (some LB)
 row:W.heap[LB]?=some (.cells (intRow cur) 3)
 box:W.heap[w.heap.size]?=some (.cells #[.slice (some ⟨LB,0,none⟩) n cap] 22)
 flag:W.heap[w.heap.size+1]?=some (.cells #[.bool fl] 4)
theorem box_cell{W:World}{b:Nat}{v:Value}{t:TypeId}(h:W.heap[b]?=some (.cells #[v] t)):W.cell? ⟨b,0,none⟩=some v:=by rw[Lib.cell_of_heap h];rfl
structure RMem (wr W2:World) (rb:Obj):Prop where
 bel:Below wr.heap.size wr W2
 qb:W2.heap[wr.heap.size]?=some rb
 rb:W2.heap[wr.heap.size+1]?=some rb
 sz:W2.heap.size=wr.heap.size+2
theorem raise_mem(wr W2:World)(rb:Obj)(h2:W2=(wr.alloc rb).alloc rb):RMem wr W2 rb:=by subst h2;have b1:=(Below.refl wr.heap.size wr).alloc (Nat.le_refl _) rb;have p1:=heap_alloc_new wr rb;(have s1:(wr.alloc rb).heap.size=wr.heap.size+1:=by simp);generalize wr.alloc rb=x1 at *;have b2:=(Below.refl x1.heap.size x1).alloc (Nat.le_refl _) rb;have p2:=heap_alloc_new x1 rb;refine⟨b1.trans (b2.mono b1.size),(b2.block _ oM).trans p1,by rw[←s1];exact p2,by simp[s1]⟩
def edgeOf{n:Nat}(h:Nat)(p:HP n):Fx.Edge:=(h,p.1.1.toNat,p.1.2)
structure RIn (w wr W2:World) (LB n cap:Nat) (rb:Obj) (ds:List Deferred) (l:List Int) (E:List Fx.Edge) (h:Nat) {np:Nat} (pre:List (HP np)) (W:World):Prop where
 st:RSt w LB n cap W (Fx.round (E++pre.map (edgeOf h)) l) (decide (Fx.round (E++pre.map (edgeOf h)) l≠l))
 qb:W.heap[wr.heap.size]?=some rb
 mks:MarksL (w.heap.size+2) W ds
 sz:W2.heap.size≤W.heap.size
theorem RIn_start{w wr W2:World}{LB n cap:Nat}{rb:Obj}{ds:List Deferred}{l:List Int}{E:List Fx.Edge}{h np:Nat}(hS:RSt w LB n cap wr (Fx.round E l) (decide (Fx.round E l≠l)))(hM:MarksL (w.heap.size+2) wr ds)(hW:RMem wr W2 rb):RIn w wr W2 LB n cap rb ds l E h ([]:List (HP np)) W2:=by have h1:=Nat.lt_of_lt_of_le (Array.getElem?_eq_some_iff.mp hS.flag).1 (Nat.le_refl _);refine⟨?_,hW.qb,hM.keep fun D _ _ hD=>(hW.bel.block D (Array.getElem?_eq_some_iff.mp hD).1).trans hD,Nat.le_refl _⟩;rw[List.map_nil,List.append_nil];refine⟨⟨hW.bel.os.trans hS.gr.os,hW.bel.tape.trans hS.gr.tape,hW.bel.output.trans hS.gr.output,Nat.le_trans hS.gr.size hW.bel.size,fun j hj hn=>(hW.bel.block j (Nat.lt_of_lt_of_le hj hS.gr.size)).trans (hS.gr.block j hj hn)⟩,(hW.bel.block _ (Array.getElem?_eq_some_iff.mp hS.row).1).trans hS.row,(hW.bel.block _ (Array.getElem?_eq_some_iff.mp hS.box).1).trans hS.box,(hW.bel.block _ h1).trans hS.flag⟩
theorem RIn_own{w wr W2:World}{LB n cap:Nat}{rb:Obj}{ds:List Deferred}{l:List Int}{np:Nat}{c0:List Int}{f0:Bool}(hS:RSt w LB n cap wr c0 f0)(hM:MarksL (w.heap.size+2) wr ds)(hW:RMem wr W2 rb)(E:List Fx.Edge)(h:Nat):
 OwnFrom W2.heap.size (fun(pre:List (HP np)) W=>RIn w wr W2 LB n cap rb ds l E h pre W):=by
 intro pre A B row hI hg hr;have hsz:=hW.sz;have hgs:=hS.gr.size;have hfl:=(Array.getElem?_eq_some_iff.mp hS.flag).1;have hrw:=(Array.getElem?_eq_some_iff.mp hS.row).1;have keep:∀j,j<W2.heap.size→B.heap[j]?=A.heap[j]?:=fun j hj=>hg.block j (Nat.lt_of_lt_of_le hj hI.sz) (fun e=>by have :=(hr j e.symm).1;omega);refine⟨⟨⟨hg.os.trans hI.st.gr.os,hg.tape.trans hI.st.gr.tape,hg.output.trans hI.st.gr.output,Nat.le_trans hI.st.gr.size hg.size,fun j hj hn=>(keep j oM).trans (hI.st.gr.block j hj hn)⟩,(keep _ oM).trans hI.st.row,(keep _ oM).trans hI.st.box,(keep _ oM).trans hI.st.flag⟩,(keep _ oM).trans hI.qb,hI.mks.keep fun D _ hm hD=>?_,Nat.le_trans hI.sz hg.size⟩;have :=(Array.getElem?_eq_some_iff.mp (hM.mem D hm)).1;exact(keep D oM).trans hD
theorem round_pre{np:Nat}(E:List Fx.Edge)(h:Nat)(pre:List (HP np))(x:HP np):E++(pre++[x]).map (edgeOf h)=(E++pre.map (edgeOf h))++[edgeOf h x]:=by rw[List.map_append,List.append_assoc];rfl
section
variable {w wr W2 W:World} {LB n cap:Nat} {rb:Obj} {ds:List Deferred} {l:List Int} {E:List Fx.Edge} {h np:Nat} {pre:List (HP np)}
theorem RIn_no(hI:RIn w wr W2 LB n cap rb ds l E h pre W)(x:HP np)(hh:h<l.length)(hno:¬(Fx.round (E++pre.map (edgeOf h)) l).getD h 0<(Fx.round (E++pre.map (edgeOf h)) l).getD x.1.1.toNat 0+x.1.2):RIn w wr W2 LB n cap rb ds l E h (pre++[x]) W:=by refine⟨?_,hI.qb,hI.mks,hI.sz⟩;rw[round_pre,Fx.rose_snoc _ _ _ hh,Fx.round_snoc];(have h1:Fx.step (Fx.round (E++pre.map (edgeOf h)) l) (edgeOf h x)=Fx.round (E++pre.map (edgeOf h)) l:=by unfold Fx.step;exact if_neg hno);have h2:decide ((Fx.round (E++pre.map (edgeOf h)) l).getD (edgeOf h x).1 0<(Fx.round (E++pre.map (edgeOf h)) l).getD (edgeOf h x).2.1 0+(edgeOf h x).2.2)=false:=decide_eq_false hno;rw[h1,h2,Bool.or_false];exact hI.st
theorem RIn_yes(hI:RIn w wr W2 LB n cap rb ds l E h pre W)(x:HP np)(hh:h<l.length)(hLw:LB<w.heap.size)(hwr:w.heap.size+2≤wr.heap.size)(hyes:(Fx.round (E++pre.map (edgeOf h)) l).getD h 0<(Fx.round (E++pre.map (edgeOf h)) l).getD x.1.1.toNat 0+x.1.2):
 RIn w wr W2 LB n cap rb ds l E h (pre++[x]) ((W.setCell ⟨LB,h,none⟩ (.int .i64 ((Fx.round (E++pre.map (edgeOf h)) l).getD x.1.1.toNat 0+x.1.2))).setCell ⟨w.heap.size+1,0,none⟩ (.bool true)):=by
 (have other:∀j,¬j=LB→¬j=w.heap.size+1→((W.setCell ⟨LB,h,none⟩ (.int .i64 ((Fx.round (E++pre.map (edgeOf h)) l).getD x.1.1.toNat 0+x.1.2))).setCell ⟨w.heap.size+1,0,none⟩ (.bool true)).heap[j]?=W.heap[j]?:=fun j h1 h2=>by rw[heap_set_other h2,heap_set_other h1]);have h2:decide ((Fx.round (E++pre.map (edgeOf h)) l).getD (edgeOf h x).1 0<(Fx.round (E++pre.map (edgeOf h)) l).getD (edgeOf h x).2.1 0+(edgeOf h x).2.2)=true:=decide_eq_true hyes;(have h1:Fx.step (Fx.round (E++pre.map (edgeOf h)) l) (edgeOf h x)=(Fx.round (E++pre.map (edgeOf h)) l).set h ((Fx.round (E++pre.map (edgeOf h)) l).getD x.1.1.toNat 0+x.1.2):=by unfold Fx.step;exact if_pos hyes);refine⟨?_,(other _ oM oM).trans hI.qb,hI.mks.keep fun D hD hm hd=>(other D oM oM).trans hd,?_⟩
 ·rw[round_pre,Fx.rose_snoc _ _ _ hh,Fx.round_snoc,h1,h2,Bool.or_true];refine⟨⟨hI.st.gr.os,hI.st.gr.tape,hI.st.gr.output,?_,fun j hj hn=>?_⟩,?_,(other _ oM oM).trans hI.st.box,?_⟩
  ·have :=hI.st.gr.size;simpa using this
  ·have hjl:¬j=LB:=fun e=>hn (by rw[e]);exact(other j hjl oM).trans (hI.st.gr.block j hj hn)
  ·rw[heap_set_other oM];exact intRow_set hI.st.row _ _
  have hf:(W.setCell ⟨LB,h,none⟩ (.int .i64 ((Fx.round (E++pre.map (edgeOf h)) l).getD x.1.1.toNat 0+x.1.2))).heap[w.heap.size+1]?=some (.cells #[.bool _] 4):=(heap_set_other oM).trans hI.st.flag;rw[Lib.heap_setCell_same hf];rfl
 have :=hI.sz;simpa using this
end
theorem edgesOf_length:∀(l:List Sc.Rule),(∀r,r∈l→r.body.length≤4)→(St.edgesOf l).length≤4*l.length
 |[],_=>Nat.zero_le _
 |r::l,h=>by have ih:=edgesOf_length l (fun x hx=>h x (List.mem_cons_of_mem _ hx));have h1:=h r List.mem_cons_self;have h2:=St.ruleE_length r;unfold St.edgesOf at ih ⊢;rw[List.flatMap_cons,List.length_append,List.length_cons];omega
theorem edgesOf_one(l:List Sc.Rule):∀e,e∈St.edgesOf l→e.2.2≤1:=fun e he=>by obtain⟨r,_,h⟩:=List.mem_flatMap.mp he;exact St.ruleE_one e h
theorem raise_any(wp w:World)(rules:List Sc.Rule)(vr:Value)(l:List Int)(LB cap:Nat)(K:Int)(hV:PRulesV wp vr rules)(hB:Below wp.heap.size wp w)(hLB:wp.heap.size≤LB)(hrow:w.heap[LB]?=some (.cells (intRow l) 3))
 (hR:∀r,r∈rules→St.RuleIn l.length r) (hn:rules.length≤12) (hk0:∀i:Nat,0≤l.getD i 0) (hk1:∀i:Nat,l.getD i 0≤K) (hK:K≤1000000):
 Calls Tryz.prog 122 #[.slice (some ⟨LB,0,none⟩) l.length cap,vr] w fun e w'=>e=.returned (.bool (decide (Fx.round (St.edgesOf rules) l≠l)))∧w'.heap[LB]?=some (.cells (intRow (Fx.round (St.edgesOf rules) l)) 3)∧w.grownBy w' (some LB):=by
 obtain⟨ar,cr,rfl,hA⟩:=hV;have HA:Hid (PRulesAt wp ar rules):=hA;have hLw:LB<w.heap.size:=(Array.getElem?_eq_some_iff.mp hrow).1;refine(callsIn_wide (n:=3)).1 ?_;refine callsIn_of_wp_marks Tryz.func122 rfl trivial ?_ rfl;simp only[Tryz.ntmps122,List.size_toArray,List.length_cons,List.length_nil,Nat.reduceAdd,Nat.reduceSub,Array.replicate_succ,Array.replicate_zero,List.push_toArray,List.append_toArray,List.nil_append,List.cons_append];(have hSt:RSt w LB l.length cap ((w.alloc (.cells #[.slice (some ⟨LB,0,none⟩) l.length cap] 22)).alloc (.cells #[.bool false] 4)) l false:=by have b1:=(Below.refl w.heap.size w).alloc (Nat.le_refl _) (.cells #[.slice (some ⟨LB,0,none⟩) l.length cap] 22);have p1:=heap_alloc_new w (.cells #[.slice (some ⟨LB,0,none⟩) l.length cap] 22);(have s1:(w.alloc (.cells #[.slice (some ⟨LB,0,none⟩) l.length cap] 22)).heap.size=w.heap.size+1:=by simp);generalize w.alloc (.cells #[.slice (some ⟨LB,0,none⟩) l.length cap] 22)=x1 at *;have b2:=(Below.refl x1.heap.size x1).alloc (Nat.le_refl _) (.cells #[.bool false] 4);have p2:=heap_alloc_new x1 (.cells #[.bool false] 4);have b12:=b1.trans (b2.mono b1.size);refine⟨⟨b12.os,b12.tape,b12.output,b12.size,fun j hj _=>b12.block j hj⟩,(b12.block _ hLw).trans hrow,(b2.block _ oM).trans p1,?_⟩;rw[s1]at p2;exact p2);have HST:Hid _:=hSt;have HRR:Hid _:=hR;have HROW:Hid _:=hrow;have HK0:Hid ((∀i:Nat,0≤l.getD i 0)∧∀i:Nat,l.getD i 0≤K):=⟨hk0,hk1⟩;clear hSt hR hrow hA hk0 hk1;gi_wp2;refine wpIn_loop (fun a wr=>∃(k:Nat)(ds:List Deferred)(x7 x8 x9 x10 x14 x15 x16 x17 x18 x19 x20 x21 x22 x23 x24 x25 x26 x27 x28 x29 x30 x31 x32 x33 x34 x35 x36 x37 x38 x39:Value),k≤rules.length∧a={tmps:=#[.slice (some ⟨LB,0,none⟩) l.length cap, .slice ar rules.length cr, .pointer (some ⟨w.heap.size,0,none⟩),undef, .bool false, .pointer (some ⟨w.heap.size+1,0,none⟩),undef,x7,x8,x9,x10, .slice ar rules.length cr, .int .i64 rules.length, .int .i64 k,x14,x15,x16,x17,x18,x19,x20,x21,x22,x23,x24,x25,x26,x27,x28,x29,x30,x31,x32,x33,x34,x35,x36,x37,x38,x39,undef],defers:=ds}∧RSt w LB l.length cap wr (Fx.round (St.edgesOf (rules.take k)) l) (decide (Fx.round (St.edgesOf (rules.take k)) l≠l))∧MarksL (w.heap.size+2) wr ds) (fun a _=>rules.length-(intOf (a.tmps.getD 13 undef)).toNat) ?h0 ?round;case h0=>exact⟨0,[],_,_,_,_,_,_,_,_,_,_,_,_,_,_,_,_,_,_,_,_,_,_,_,_,_,_,_,_,_,_,Nat.zero_le _,rfl,by simpa[St.edgesOf,Fx.round]using HST.out,trivial⟩
 case round=>
  clear HST;rintro a wr ⟨k,ds,x7,x8,x9,x10,x14,x15,x16,x17,x18,x19,x20,x21,x22,x23,x24,x25,x26,x27,x28,x29,x30,x31,x32,x33,x34,x35,x36,x37,x38,x39,hk,rfl,hS,hM⟩;have hBw:Below wp.heap.size wp wr:=⟨hS.gr.os.trans hB.os,hS.gr.tape.trans hB.tape,hS.gr.output.trans hB.output,Nat.le_trans hB.size hS.gr.size,fun j hj=>(hS.gr.block j (Nat.lt_of_lt_of_le hj hB.size) (fun e=>by injection e with e;omega)).trans (hB.block j hj)⟩;have HS:Hid _:=hS;have HM:Hid _:=hM;have HBW:Hid _:=hBw;clear hS hM;by_cases hlt:k<rules.length
  ·obtain⟨b,off,rfl,p0,⟨vt,p1,hT⟩,p2,⟨vb,p3,hLL⟩,p4⟩:=prules_at HA.out k hlt;obtain⟨at_,ct,rfl,_⟩:=hT;obtain⟨ab,cb,rfl,hLL⟩:=hLL;have HLL:Hid _:=hLL;have HRI:Hid (St.RuleIn l.length (Sc.ruleD rules k)):=HRR.out _ (by unfold Sc.ruleD;rw[List.getD_eq_getElem?_getD,List.getElem?_eq_getElem hlt];exact List.getElem_mem hlt);have HTK:Hid (rules.take (k+1)=rules.take k++[Sc.ruleD rules k]):=by
    show _=_;rw[List.take_add_one]
    congr 1
    unfold Sc.ruleD;rw[List.getD_eq_getElem?_getD,List.getElem?_eq_getElem hlt];rfl
   have q0:=cell_below hBw p0;have q1:=cell_below hBw p1;have q2:=cell_below hBw p2;have q3:=cell_below hBw p3;have q4:=cell_below hBw p4;clear p0 p1 p2 p3 p4 hLL hBw;generalize Sc.ruleD rules k=r at *;gi_wp2;refine⟨trivial,?_⟩;refine(hangs_in Fence.wide _ trivial rfl r _ _ _ _ _).mono ?_;rintro e w' ⟨rfl,rfl⟩;gi_wp2;clear q0 q1 q2 q3 q4;obtain⟨W2,hW2⟩:∃W2,W2=((wr.alloc (.cells #[.int .i64 r.pred, .slice at_ r.terms.length ct, .int .i64 r.fold, .slice ab r.body.length cb, .int .i64 r.vars] 40)).alloc (.cells #[.int .i64 r.pred, .slice at_ r.terms.length ct, .int .i64 r.fold, .slice ab r.body.length cb, .int .i64 r.vars] 40)):=⟨_,rfl⟩;have HW:=raise_mem wr W2 (.cells #[.int .i64 r.pred, .slice at_ r.terms.length ct, .int .i64 r.fold, .slice ab r.body.length cb, .int .i64 r.vars] 40) hW2;rw[←hW2];clear hW2;have HW:Hid _:=HW;have hRp:=HRI.out.h0;have hRq:=HRI.out.h1;obtain⟨pr,hpr⟩:∃pr:Nat,Hid (r.pred=pr):=⟨r.pred.toNat,show _=_ by omega⟩;clear hRp hRq
   refine wpIn_rangeFunc_ownG (n:=3) rfl oM (gf:=204) (lb:=#[.pointer (some ⟨wr.heap.size+1,0,none⟩)]) ?hg trivial (enters_of Tryz.func204 kR rfl)
    (hangs_stops Fence.wide 2 trivial rfl oM (wr.heap.size+1) wp l.length r _ ab cb HLL.out (Nat.le_trans HRI.out.hl dE) HRI.out.hb W2 (HBW.out.trans (HW.out.bel.mono HBW.out.size)) HW.out.rb) (fun h k=>HK.trans h k)
    (fun W j o o' hl h h1 h2=>HK.put (Nat.le_trans HBW.out.size HW.out.bel.size) W j o o' hl h h1 h2) (Below.refl _ _) (fun _=>rfl)
    (fun pre W=>RIn w wr W2 LB l.length cap (.cells #[.int .i64 r.pred, .slice at_ r.terms.length ct, .int .i64 r.fold, .slice ab r.body.length cb, .int .i64 r.vars] 40) ds l (St.edgesOf (rules.take k)) pr pre W) (fun _ _ _=>False) (RIn_own HS.out HM.out HW.out _ _) (fun _ _ _ _ _ h _ _=>h) (RIn_start HS.out HM.out HW.out)
    (fun x=>{tmps:=#[.slice (some ⟨LB,0,none⟩) l.length cap, .slice (some ⟨b,off,none⟩) rules.length cr, .pointer (some ⟨w.heap.size,0,none⟩),undef, .bool false, .pointer (some ⟨w.heap.size+1,0,none⟩),undef, .pointer (some ⟨wr.heap.size,0,none⟩), .int .i64 x.1.1, .int .i64 x.1.2,x10, .slice (some ⟨b,off,none⟩) rules.length cr, .int .i64 rules.length, .int .i64 k, .bool true, .pointer (some ⟨b,off+k*5,none⟩), .agg #[.int .i64 r.pred, .slice at_ r.terms.length ct, .int .i64 r.fold, .slice ab r.body.length cb, .int .i64 r.vars], .agg #[.int .i64 r.pred, .slice at_ r.terms.length ct, .int .i64 r.fold, .slice ab r.body.length cb, .int .i64 r.vars], .func (.func 204) #[] #[.pointer (some ⟨wr.heap.size+1,0,none⟩)], .int .i64 x.1.1, .int .i64 x.1.2,x21,x22,x23,x24,x25,x26,x27,x28,x29,x30,x31,x32,x33,x34,x35,x36,x37,x38,x39,undef],defers:=[]}) ?assign ?body ?done ?stop
   (case hg=>rfl);(case assign=>intro l x W K hK;gi_wp2;exact hK);case stop=>rintro D c pre W _ _ h _;exact h.elim
   case done=>
    rintro D ys W hD rfl hI hK;have hsz:=HW.out.sz;have HE:Hid (Fx.round (St.edgesOf (rules.take (k+1))) l=Fx.round (St.edgesOf (rules.take k)++(St.pairs l.length r r.body).map (edgeOf pr)) l):=by
     show _=_;(have hpt:r.pred.toNat=pr:=by have :=hpr.out;omega);rw[←hpt];rw[HTK.out,St.edgesOf_snoc]
     congr 2
     exact(St.pairs_edges HRI.out.hb).symm
    gi_wp2;refine⟨⟨k+1,_,_,_,_,_,_,_,_,_,_,_,_,_,_,_,_,_,_,_,_,_,_,_,_,_,_,_,_,_,_,_,hlt,rfl,?_,?_⟩,?_⟩
    ·rw[HE.out];exact hI.st
    ·refine⟨⟨D,?_,rfl,hK,fun d' hd' e=>?_⟩,hI.mks⟩
     ·have :=(Array.getElem?_eq_some_iff.mp HS.out.flag).1;omega
     subst e;have :=(Array.getElem?_eq_some_iff.mp (HM.out.mem D hd')).1;omega
    simp[intOf];omega
   case body=>
    rintro l0 pre ⟨⟨pq,m⟩,h0,h1,hm⟩ W hI hpl;dsimp only at h0 h1 hm;obtain⟨q,hq⟩:∃q:Nat,pq=q:=⟨pq.toNat,oM⟩;subst hq;(have hpn:pr<l.length:=by have :=HRI.out.h1;have :=hpr.out;omega);have hq1:q<l.length:=oM;have HI:Hid _:=hI;have hwz:=(Array.getElem?_eq_some_iff.mp HS.out.flag).1;have hgz:=HBW.out.size;(have c0:W.cell? ⟨w.heap.size,0,none⟩=some (.slice (some ⟨LB,0,none⟩) l.length cap):=by rw[Lib.cell_of_heap hI.st.box];rfl);(have c1:W.cell? ⟨wr.heap.size,0,none⟩=some (.int .i64 pr):=by rw[Lib.cell_of_heap hI.qb,←hpr.out];rfl);have hcl:(Fx.round (St.edgesOf (rules.take k)++pre.map (edgeOf pr)) l).length=l.length:=Fx.round_length _ _;have c2:=intRow_cell hI.st.row (i:=q) oM;have c3:=intRow_cell hI.st.row (i:=pr) oM;have f3:=Lib.frozen_of_heap hI.st.row pr;have HFL:Hid _:=fun(v:Value)=>(heap_set_other (w:=W) (b:=LB) (c:=w.heap.size+1) (i:=pr) (v:=v) oM).trans hI.st.flag;have hlo:∀i:Nat,0≤(Fx.round (St.edgesOf (rules.take k)++pre.map (edgeOf pr)) l).getD i 0:=fun i=>Int.le_trans (HK0.out.1 i) ((Fx.round_le _ l).2 i);have hel:(St.edgesOf (rules.take k)).length≤4*rules.length:=Nat.le_trans (edgesOf_length _ (fun r hr=>(HRR.out r (List.mem_of_mem_take hr)).hl)) (by rw[List.length_take];omega);have hhi:∀i:Nat,(Fx.round (St.edgesOf (rules.take k)++pre.map (edgeOf pr)) l).getD i 0≤K+(4*12+4):=fun i=>by
     have h9:=Fx.round_bound (St.edgesOf (rules.take k)++pre.map (edgeOf pr)) (l:=l) (K:=K) HK0.out.2 (fun e he=>by
      rcases List.mem_append.mp he with h|h
      ·exact edgesOf_one _ e h
      obtain⟨y,_,rfl⟩:=List.mem_map.mp h;show y.1.2≤1
      rcases y.2.2.2 with h|h<;>omega) i
     rw[List.length_append,List.length_map]at h9;have :=HRI.out.hl;omega
    have hlq:=hlo q;have hhq:=hhi q;(have HYES:Hid (∀A Bv:Int,A=(Fx.round (St.edgesOf (rules.take k)++pre.map (edgeOf pr)) l).getD q 0→Bv=(Fx.round (St.edgesOf (rules.take k)++pre.map (edgeOf pr)) l).getD pr 0→Bv<A+m→RIn w wr W2 LB l.length cap (.cells #[.int .i64 r.pred, .slice at_ r.terms.length ct, .int .i64 r.fold, .slice ab r.body.length cb, .int .i64 r.vars] 40) ds l (St.edgesOf (rules.take k)) pr (pre++[⟨((q:Int),m),h0,h1,hm⟩]) ((W.setCell ⟨LB,pr,none⟩ (.int .i64 (A+m))).setCell ⟨w.heap.size+1,0,none⟩ (.bool true))):=fun A Bv hA hB hy=>by subst hA hB;exact RIn_yes HI.out ⟨((q:Int),m),h0,h1,hm⟩ hpn hLw oM hy);(have HNO:Hid (∀A Bv:Int,A=(Fx.round (St.edgesOf (rules.take k)++pre.map (edgeOf pr)) l).getD q 0→Bv=(Fx.round (St.edgesOf (rules.take k)++pre.map (edgeOf pr)) l).getD pr 0→¬Bv<A+m→RIn w wr W2 LB l.length cap (.cells #[.int .i64 r.pred, .slice at_ r.terms.length ct, .int .i64 r.fold, .slice ab r.body.length cb, .int .i64 r.vars] 40) ds l (St.edgesOf (rules.take k)) pr (pre++[⟨((q:Int),m),h0,h1,hm⟩]) W):=fun A Bv hA hB hy=>by subst hA hB;exact RIn_no HI.out ⟨((q:Int),m),h0,h1,hm⟩ hpn hy);obtain⟨A,hA⟩:∃A:Int,A=(Fx.round (St.edgesOf (rules.take k)++pre.map (edgeOf pr)) l).getD q 0:=⟨_,rfl⟩;obtain⟨Bv,hBv⟩:∃Bv:Int,Bv=(Fx.round (St.edgesOf (rules.take k)++pre.map (edgeOf pr)) l).getD pr 0:=⟨_,rfl⟩;replace HYES:Hid _:=HYES.out A Bv hA hBv;replace HNO:Hid _:=HNO.out A Bv hA hBv;rw[←hA]at c2 hlq hhq;rw[←hBv]at c3;have hm0:0≤m:=oM;have hm1:m≤1:=oM;have HKL:Hid (wp.heap.size≤LB∧LB<w.heap.size∧w.heap.size+2≤wr.heap.size):=⟨hLB,hLw,oM⟩;have hwp:wp.heap.size≤w.heap.size:=oM;clear hI hlo hhi hel hcl hA hBv hwz hgz;by_cases hy:Bv<A+m
    ·have hyd:decide (Bv<A+m)=true:=decide_eq_true hy;replace HYES:Hid _:=HYES.out hy;have c6:=box_cell (HFL.out (.int .i64 (A+m)));have f6:=Lib.frozen_of_heap (HFL.out (.int .i64 (A+m))) 0;clear HNO hy;gi_wp2;refine⟨((KeepsOthers.setCell _ _ _).trans (KeepsOthers.setCell _ _ _)).from _,⟨((Below.refl _ W).setCell (p:=⟨LB,pr,none⟩) HKL.out.1 _).setCell (p:=⟨w.heap.size+1,0,none⟩) (Nat.le_succ_of_le hwp) _,fun o _ hR=>?_⟩,HYES.out⟩;have h9:=HKL.out;rw[heap_set_other oM,heap_set_other oM];exact hR
    have hyd:decide (Bv<A+m)=false:=decide_eq_false hy;replace HNO:Hid _:=HNO.out hy;clear HYES hy;gi_wp2;exact⟨KeepsFrom.refl _ _,HK.refl _ _ _,HNO.out⟩
  obtain rfl:k=rules.length:=oM;(have c5:wr.cell? ⟨w.heap.size+1,0,none⟩=some (.bool (decide (Fx.round (St.edgesOf (rules.take rules.length)) l≠l))):=by rw[Lib.cell_of_heap HS.out.flag];rfl);rw[List.take_length]at *;obtain⟨fb,hfb⟩:∃fb,fb=decide (Fx.round (St.edgesOf rules) l≠l):=⟨_,rfl⟩;rw[←hfb]at c5;have HFB:Hid _:=hfb;clear hfb;gi_wp2;have hrw:=(Array.getElem?_eq_some_iff.mp HROW.out).1;refine marks_leave (B:=w.heap.size+2) (v:=.bool fb) (fun w=>results_tmp (t:=4) rfl _ _ w) ds wr HM.out (fun w' hb=>⟨by rw[HFB.out],?_,?_⟩)
  ·exact(hb.block LB oM).trans HS.out.row
  exact⟨hb.os.trans HS.out.gr.os,hb.tape.trans HS.out.gr.tape,hb.output.trans HS.out.gr.output,Nat.le_trans HS.out.gr.size hb.size,fun j hj hn=>(hb.block j oM).trans (HS.out.gr.block j hj hn)⟩
end Go.Proofs.YthenjegmigeieaaGreat
namespace Go.Proofs.YthenjegmigeieaaGreat
open Go.RowKit
namespace St
theorem thn_zero_iff{a b:Int}(h:Sc.thn a b=0):a=0∧b=0:=by
 unfold Sc.thn at h;split at h
 ·exact⟨by assumption,h⟩
 exact absurd h (by assumption)
theorem check_in{p:Sc.Prog}(h:Sc.check p=0):p.arity.length≤10∧p.rules.length≤12∧∀r,r∈p.rules→RuleIn p.arity.length r:=by
 unfold Sc.check at h;split at h
 ·omega
 rename_i h1;split at h
 ·omega
 refine⟨oM,oM,fun r hr=>?_⟩;have h2:=first_zero (thn_zero_iff h).2 r hr;unfold Sc.ruleErr at h2;split at h2
 ·rename_i hp;obtain⟨_,h2⟩:=thn_zero_iff h2;obtain⟨_,h2⟩:=thn_zero_iff h2;obtain⟨_,h2⟩:=thn_zero_iff h2;obtain⟨_,h2⟩:=thn_zero_iff h2;obtain⟨_,h2⟩:=thn_zero_iff h2;obtain⟨h4,h2⟩:=thn_zero_iff h2;obtain⟨h5,_⟩:=thn_zero_iff h2;(have hpp:0≤r.pred∧r.pred≤(p.arity.length:Int)-1:=by unfold Sc.isPred Tr.between at hp;simpa using hp);refine⟨hpp.1,oM,fun x hx hk=>?_,?_⟩
  ·have h6:=first_zero h5 x hx;obtain⟨h6,_⟩:=thn_zero_iff h6;unfold Sc.litErr at h6;rw[if_pos (of_decide_eq_true hk)]at h6;split at h6
   ·omega
   split at h6
   ·rename_i h7;unfold Sc.isPred Tr.between at h7;(have h8:0≤x.pred∧x.pred≤(p.arity.length:Int)-1:=by simpa using h7);omega
   omega
  by_cases h9:4<r.body.length
  ·rw[if_pos h9]at h4;omega
  omega
 omega
def levErr(p:Sc.Prog):Int:=if Sc.check p=0 then(if flat p then 0 else 4)else Sc.check p
def levOut(p:Sc.Prog):List Int:=if Sc.check p=0∧flat p=true then level p else []
theorem levErr_bad{p:Sc.Prog}(h:¬Sc.check p=0):levErr p=Sc.check p∧levOut p=[]:=by unfold levErr levOut;rw[if_neg h,if_neg (fun k=>h k.1)];exact⟨rfl,rfl⟩
theorem levErr_flat{p:Sc.Prog}(h:Sc.check p=0)(hf:flat p=true):levErr p=0∧levOut p=level p:=by unfold levErr levOut;rw[if_pos h,if_pos hf,if_pos ⟨h,hf⟩];exact⟨rfl,rfl⟩
theorem levErr_not{p:Sc.Prog}(h:Sc.check p=0)(hf:flat p=false):levErr p=4∧levOut p=[]:=by unfold levErr levOut;rw[if_pos h,if_neg (by simp[hf]),if_neg (by simp[hf])];exact⟨rfl,rfl⟩
theorem level_early{p:Sc.Prog}{k:Nat}(hk:k≤p.arity.length)(h:Fx.round (edges p) (Fx.iter (edges p) k (zeros p.arity.length))=Fx.iter (edges p) k (zeros p.arity.length)):level p=Fx.iter (edges p) k (zeros p.arity.length)∧flat p=true:=by(have h1:level p=Fx.iter (edges p) k (zeros p.arity.length):=by unfold level;obtain⟨d,hd⟩:∃d,p.arity.length=k+d:=⟨p.arity.length-k,oM⟩;rw[hd,Fx.iter_add,←hd,Fx.iter_fix h]);refine⟨h1,decide_eq_true ?_⟩;rw[h1,h]
theorem iter_bound(E:List Fx.Edge)(hE:∀e,e∈E→e.2.2≤1)(n:Nat):∀(k i:Nat),(Fx.iter E k (zeros n)).getD i 0≤(k*E.length:Nat)
 |0,i=>by rw[show Fx.iter E 0 (zeros n)=zeros n from rfl,zeros_getD];omega
 |k+1,i=>by rw[Fx.iter_succ];have :=Fx.round_bound E (iter_bound E hE n k) hE i;rw[Nat.add_mul];omega
theorem iter_nonneg(E:List Fx.Edge)(n k i:Nat):0≤(Fx.iter E k (zeros n)).getD i 0:=by have :=(Fx.iter_le E k (zeros n)).2 i;rw[zeros_getD]at this;exact this
end St
theorem made_ints(n:Nat):madeCells #[Value.int .i64 0] n=intRow (St.zeros n):=by
 unfold intRow St.zeros;apply Array.ext
 ·simp[size_madeCells]
 intro i h1 h2;simp[madeCells,Nat.mod_one]
theorem intRow_ints{w:World}{b:Nat}{l:List Int}(cap:Nat)(h:w.heap[b]?=some (.cells (intRow l) 3)):IntsV w (.slice (some ⟨b,0,none⟩) l.length cap) l:=by refine⟨_,_,rfl, .inr ⟨b,0,rfl,fun i hi=>?_⟩⟩;rw[Nat.zero_add];exact intRow_cell h hi
theorem below_row{w wr w5:World}{LB:Nat}(hb:Below w.heap.size w wr)(hg:wr.grownBy w5 (some LB))(h:w.heap.size≤LB):Below w.heap.size w w5:=
 ⟨hg.os.trans hb.os,hg.tape.trans hb.tape,hg.output.trans hb.output,Nat.le_trans hb.size hg.size,fun j hj=>(hg.block j (Nat.lt_of_lt_of_le hj hb.size) (fun e=>by injection e with e;omega)).trans (hb.block j hj)⟩
theorem _root_.Go.World.grownBy.trans_row{a b c:World}{LB:Nat}(h:a.grownBy b (some LB))(k:b.grownBy c (some LB)):a.grownBy c (some LB):=
 ⟨k.os.trans h.os,k.tape.trans h.tape,k.output.trans h.output,Nat.le_trans h.size k.size,fun j hj hn=>(k.block j (Nat.lt_of_lt_of_le hj h.size) hn).trans (h.block j hj hn)⟩
theorem Levels_any(p:Sc.Prog)(va vn vr:Value)(w:World)(hP:ProgV w va vn vr p)(hF:ProgFit p):
 Calls Tryz.prog 80 #[progVal va vn vr] w fun e w'=>∃v,e=.returned (.tuple #[v, .int .i64 (St.levErr p)])∧IntsV w' v (St.levOut p)∧Below w.heap.size w w':=by
 obtain⟨a0,n0,rfl,_⟩:=id hP.ar;obtain⟨a1,n1,rfl,_⟩:=id hP.nm;obtain⟨a2,n2,rfl,_⟩:=id hP.rl;have hb0:Below w.heap.size w (w.alloc (.cells #[.slice a0 p.arity.length n0, .slice a1 p.names.length n1, .slice a2 p.rules.length n2] 26)):=(Below.refl _ _).alloc (Nat.le_refl _) _;have hX:=heap_alloc_new w (.cells #[.slice a0 p.arity.length n0, .slice a1 p.names.length n1, .slice a2 p.rules.length n2] 26);have HP:Hid _:=hP;have HF:Hid _:=hF;clear hP hF
 go_enter Tryz.func80,Tryz.ntmps80
 go_wp2_with fail;generalize w.alloc (.cells #[.slice a0 p.arity.length n0, .slice a1 p.names.length n1, .slice a2 p.rules.length n2] 26)=w1 at *;refine(ScCheck_any p _ _ _ w1 (HP.out.below hb0) HF.out).mono ?_;rintro e w2 ⟨rfl,hb2⟩;have hX2:=(hb2.block _ (Array.getElem?_eq_some_iff.mp hX).1).trans hX;have hbw:=hb0.trans (hb2.mono hb0.size);clear hX hb0 hb2;by_cases hc:Sc.check p=0
 ·obtain⟨hn,hr,hR⟩:=St.check_in hc;have HC:Hid (Sc.check p=0):=hc;have HR:Hid _:=hR;rw[hc];clear hc hR;(have c0:w2.cell? ⟨w.heap.size,0,none⟩=some (.slice a0 p.arity.length n0):=by rw[Lib.cell_of_heap hX2];rfl);have hmk:=run_make_row' (P:=Tryz.prog) 22 3 (.int .i64 0) 8 Tryz.underlying22 kR rfl .i64 .i64 p.arity.length oM oM;have b3:=(Below.refl w2.heap.size w2).alloc (Nat.le_refl _) (.cells (madeCells #[Value.int .i64 0] p.arity.length) 3);have hrow:=heap_alloc_new w2 (.cells (madeCells #[Value.int .i64 0] p.arity.length) 3);have hX3:=(b3.block _ (Array.getElem?_eq_some_iff.mp hX2).1).trans hX2;have hb3:=hbw.trans (b3.mono hbw.size);(have c3:(w2.alloc (.cells (madeCells #[Value.int .i64 0] p.arity.length) 3)).cell? ⟨w.heap.size,0,none⟩=some (.slice a0 p.arity.length n0):=by rw[Lib.cell_of_heap hX3];rfl);have hlw:w.heap.size<w2.heap.size:=(Array.getElem?_eq_some_iff.mp hX2).1;clear b3;go_wp2_with fail;rw[made_ints]at *;generalize w2.alloc (.cells (intRow (St.zeros p.arity.length)) 3)=w3 at *;generalize w2.heap.size=LB at *;clear hmk c0 hX2 hbw c3;have HX3:Hid _:=hX3;have HB3:Hid _:=hb3;clear hX3 hb3;go_loopw [19] (fun i wr=>∃k:Nat,k≤p.arity.length+1∧i=.int .i64 k∧wr.heap[LB]?=some (.cells (intRow (Fx.iter (St.edges p) k (St.zeros p.arity.length))) 3)∧(∀j,j<k→Fx.round (St.edges p) (Fx.iter (St.edges p) j (St.zeros p.arity.length))≠Fx.iter (St.edges p) j (St.zeros p.arity.length))∧w3.grownBy wr (some LB)) (fun i _=>p.arity.length+1-(intOf i).toNat);case atStart=>exact⟨0,Nat.zero_le _,rfl,hrow,fun j hj=>absurd hj (Nat.not_lt_zero _),⟨rfl,rfl,rfl,Nat.le_refl _,fun _ _ _=>rfl⟩⟩
  case round=>
   clear hrow;obtain⟨k,hk,rfl,hrow,hno,hg⟩:=hrel;have hXr:wr.heap[w.heap.size]?=some (.cells #[.slice a0 p.arity.length n0, .slice a1 p.names.length n1, .slice a2 p.rules.length n2] 26):=(hg.block _ (Array.getElem?_eq_some_iff.mp HX3.out).1 (fun e=>by injection e with e;omega)).trans HX3.out;(have c2:wr.cell? ⟨w.heap.size,2,none⟩=some (.slice a2 p.rules.length n2):=by rw[Lib.cell_of_heap hXr];rfl);have hbr:Below w.heap.size w wr:=⟨hg.os.trans HB3.out.os,hg.tape.trans HB3.out.tape,hg.output.trans HB3.out.output,Nat.le_trans HB3.out.size hg.size,fun j hj=>(hg.block j (Nat.lt_of_lt_of_le hj HB3.out.size) (fun e=>by injection e with e;omega)).trans (HB3.out.block j hj)⟩;have HBR:Hid _:=hbr;have HNO:Hid _:=hno;have HROW:Hid _:=hrow;have HG:Hid _:=hg;clear hXr hbr hno hrow hg;by_cases hlt:k<p.arity.length+1
   ·have hel:=edgesOf_length p.rules (fun r hr=>(HR.out r hr).hl);(have hlen:(Fx.iter (St.edges p) k (St.zeros p.arity.length)).length=p.arity.length:=by rw[Fx.iter_length];simp[St.zeros]);have HRA:=raise_any w wr p.rules (.slice a2 p.rules.length n2) (Fx.iter (St.edges p) k (St.zeros p.arity.length)) LB p.arity.length 528 HP.out.rl HBR.out oM HROW.out (by rw[hlen];exact HR.out) hr (St.iter_nonneg _ _ _) (fun i=>by
     have h9:=St.iter_bound (St.edges p) (edgesOf_one p.rules) p.arity.length k i;have h8:(k*(St.edges p).length:Nat)≤11*48:=Nat.mul_le_mul oM (by show(St.edgesOf p.rules).length≤48;omega)
     omega) dE
    rw[hlen]at HRA;have HRA:Hid _:=HRA;clear hel hlen;go_wp2_with fail;refine Calls.mono HRA.out ?_;rintro e w5 ⟨rfl,hrow5,hg5⟩;have HR5:Hid _:=hrow5;have HG5:Hid _:=hg5;clear HRA hrow5 hg5;by_cases hfx:Fx.round (St.edgesOf p.rules) (Fx.iter (St.edges p) k (St.zeros p.arity.length))=Fx.iter (St.edges p) k (St.zeros p.arity.length)
    ·have hfd:decide (Fx.round (St.edgesOf p.rules) (Fx.iter (St.edges p) k (St.zeros p.arity.length))≠Fx.iter (St.edges p) k (St.zeros p.arity.length))=false:=decide_eq_false (fun h=>h hfx);have HL:=St.level_early (p:=p) (k:=k) oM hfx;have HE:=St.levErr_flat HC.out HL.2;have HL:Hid _:=HL;have HE:Hid _:=HE;rw[hfd];rw[hfx]at HR5;clear hfx hfd;go_wp2_with fail;refine bodyPost_ret (results_tmp2 rfl _ _ _) rfl ⟨_,by rw[HE.out.1];rfl,?_,?_⟩
     ·rw[HE.out.2,HL.out.1];have h9:=intRow_ints p.arity.length HR5.out;rw[Fx.iter_length,show(St.zeros p.arity.length).length=p.arity.length by simp[St.zeros]]at h9;exact h9
     exact below_row HBR.out HG5.out oM
    have hfd:decide (Fx.round (St.edgesOf p.rules) (Fx.iter (St.edges p) k (St.zeros p.arity.length))≠Fx.iter (St.edges p) k (St.zeros p.arity.length))=true:=decide_eq_true hfx;have HFX:Hid _:=hfx;rw[hfd];clear hfx hfd;go_wp2_with fail;go_roundw
    case rel=>
     refine⟨k+1,oM,gN,by rw[Fx.iter_succ];exact HR5.out,fun j hj=>?_,HG.out.trans_row HG5.out⟩;by_cases hjk:j=k
     ·rw[hjk];exact HFX.out
     exact HNO.out j oM
    case measure=>exact mI
   obtain rfl:k=p.arity.length+1:=oM;have HE:=St.levErr_not (p:=p) HC.out (decide_eq_false (HNO.out p.arity.length oM));have HE:Hid _:=HE;clear c2;go_wp2_with fail;refine bodyPost_ret (results_tmp2 rfl _ _ _) rfl ⟨_,by rw[HE.out.1];rfl,by rw[HE.out.2];exact⟨none,0,rfl, .inl rfl⟩,HBR.out⟩
 (have hcd:(Sc.check p==0)=false:=by simp[hc]);have HE:=St.levErr_bad hc;have HE:Hid _:=HE;clear hc;go_wp2_with fail;refine bodyPost_ret (results_tmp2 rfl _ _ _) rfl ?_;exact⟨_,by rw[HE.out.1];rfl,by rw[HE.out.2];exact⟨none,0,rfl, .inl rfl⟩,hbw⟩
abbrev Lv:=Sc.Lit×Value
def lvCells(p:Lv):List Value:=[.int .i64 p.1.kind, .int .i64 p.1.op, .int .i64 p.1.pred,p.2]
def lCells(q:List Lv):List Value:=(q.map lvCells).flatten
theorem flat_at{α:Type}(f:α→List Value)(c:Nat)(hf:∀a,(f a).length=c):∀(l:List α)(i:Nat)(a:α)(t:Nat),l[i]?=some a→t<c→(l.map f).flatten[i*c+t]?=(f a)[t]?
 |[],i,a,t,h,_=>by simp at h
 |b::l,0,a,t,h,ht=>by(have hab:b=a:=by simpa using h);subst hab;rw[List.map_cons,List.flatten_cons,Nat.zero_mul,Nat.zero_add,List.getElem?_append_left (by rw[hf];exact ht)]
 |b::l,i+1,a,t,h,ht=>by(have h':l[i]?=some a:=by simpa using h);rw[List.map_cons,List.flatten_cons,List.getElem?_append_right (by rw[hf,Nat.add_mul];omega),hf];(have e:(i+1)*c+t-c=i*c+t:=by rw[Nat.add_mul];omega);rw[e];exact flat_at f c hf l i a t h' ht
theorem flat_len{α:Type}(f:α→List Value)(c:Nat)(hf:∀a,(f a).length=c):∀(l:List α),(l.map f).flatten.length=l.length*c
 |[]=>by simp
 |b::l=>by rw[List.map_cons,List.flatten_cons,List.length_append,hf,flat_len f c hf l,List.length_cons,Nat.add_mul];omega
theorem flatv_get{α:Type}(f:α→List Value)(c:Nat)(hc:0<c)(hf:∀a,(f a).length=c)(l:List α)(j:Nat)(u:Value)(h:(l.map f).flatten[j]?=some u):∃a,l[j/c]?=some a∧(f a)[j% c]?=some u:=by(have hj:j<l.length*c:=by rw[←flat_len f c hf l];exact(List.getElem?_eq_some_iff.mp h).1);have hd:j/c<l.length:=(Nat.div_lt_iff_lt_mul hc).mpr hj;refine⟨l[j/c],List.getElem?_eq_getElem hd,?_⟩;rw[←flat_at f c hf l (j/c) l[j/c] (j% c) (List.getElem?_eq_getElem hd) (Nat.mod_lt _ hc),Nat.mul_comm,Nat.div_add_mod];exact h
theorem own_type{W W':World}{B e c n:Nat}{v:Value}{xs:List Value}(h:W.ownsRow B e c v n xs)(hk:∀(k:Nat)(a:Array Value),W.heap[k]?=some (.cells a e)→W'.heap[k]?=some (.cells a e)):W'.ownsRow B e c v n xs:=by
 obtain⟨h1,h2⟩:=h;refine⟨h1,?_⟩;rcases h2 with h2|⟨g,cap,cur,hv,hg,hh,r⟩
 ·exact .inl h2
 exact .inr ⟨g,cap,cur,hv,hg,hk g cur hh,r⟩
theorem own_cells{W:World}{B e c n:Nat}{v:Value}{xs:List Value}(h:W.ownsRow B e c v n xs):∃ao cap,v=.slice ao n cap∧n≤cap∧(n=0∨∃g,ao=some ⟨g,0,none⟩∧∀j,j<n*c→W.cell? ⟨g,j,none⟩=xs[j]?):=by
 rcases ownsRow_forms9 h with⟨rfl,rfl⟩|⟨g,cap,rfl⟩
 ·exact⟨none,0,rfl,Nat.le_refl _, .inl rfl⟩
 refine⟨_,cap,rfl,?_, .inr ⟨g,rfl,fun j hj=>h.cellAt j hj⟩⟩;rcases h.2 with⟨h2,_⟩|⟨g2,cap2,cur,hv,_,_,hle,_⟩
 ·cases h2
 injection hv with _ _ h3;omega
end Go.Proofs.YthenjegmigeieaaGreat
namespace Go.Proofs.YthenjegmigeieaaGreat
section
variable {P:Program} {ops:Array Oper} {Q:Exit→Act→World→Prop} {md:Region.Mode}
theorem ready_mem{s:Array Bool}{i:Nat}(h:i∈Region.ready md ops s):s[i]?=some false∧∃o,ops[i]?=some o∧∀e,e∈o.after→Region.binds md e=true→s[e.on]?=some true:=by
 unfold Region.ready at h;obtain⟨_,h⟩:=List.mem_filter.mp h;rw[Bool.and_eq_true]at h;obtain⟨h1,h2⟩:=h;refine⟨?_,?_⟩
 ·cases hs:s[i]? with
  |none=>simp[Array.getD_eq_getD_getElem?,hs]at h1
  |some b=>cases b<;>simp[Array.getD_eq_getD_getElem?,hs]at h1 ⊢
 cases ho:ops[i]? with
 |none=>simp[ho]at h2
 |some o=>
  refine⟨o,rfl,fun e he hb=>?_⟩;rw[ho,Option.map_some,Option.getD_some,Array.all_eq_true_iff_forall_mem]at h2;have h3:=h2 e he;rw[hb]at h3
  cases hs:s[e.on]? with
  |none=>simp[Array.getD_eq_getD_getElem?,hs]at h3
  |some b=>cases b<;>simp[Array.getD_eq_getD_getElem?,hs]at h3 ⊢
def left(s:Array Bool):Nat:=s.toList.countP (fun b=> !b)
theorem left_zero{s:Array Bool}(h:left s=0):Region.ready md ops s=[]:=by
 cases hr:Region.ready md ops s with
 |nil=>rfl
 |cons i r=>
  have h1:=(ready_mem (s:=s) (i:=i) (by rw[hr];exact List.mem_cons_self)).1;(have h2:false∈s.toList:=by rw[←Array.getElem?_toList]at h1;exact List.mem_of_getElem? h1);have h3:=List.countP_eq_zero.mp h false h2;simp at h3
theorem left_set{s:Array Bool}{i:Nat}(h:s[i]?=some false):left (s.setIfInBounds i true)+1=left s:=by obtain⟨hi,he⟩:=Array.getElem?_eq_some_iff.mp h;unfold left;(have h1:(s.setIfInBounds i true).toList=s.toList.set i true:=by simp);rw[h1,List.countP_set (h:=by simpa using hi)];have hm:0<s.toList.countP (fun b=> !b):=List.countP_pos_iff.mpr ⟨false,by rw[←Array.getElem?_toList]at h;exact List.mem_of_getElem? h,rfl⟩;(have h2:s.toList[i]'(by simpa using hi)=false:=by rw[Array.getElem_toList];exact he);rw[h2];simp only[Bool.not_false,Bool.not_true,if_true,Bool.false_eq_true,if_false];omega
theorem wpAny_inv(I:Array Bool→Act→World→Prop)(hend:∀s a w,Region.ready md ops s=[]→I s a w→Q .normal a w)
 (hstep:∀s a w i,i∈Region.ready md ops s→I s a w→wpOp P ops Q i (I (s.setIfInBounds i true)) a w):
 ∀(fuel:Nat)(s:Array Bool)(a:Act)(w:World),left s≤fuel→I s a w→wpAny P md ops Q fuel s a w
 |0,s,a,w,hc,hI=>⟨left_zero (by omega),hend s a w (left_zero (by omega)) hI⟩
 |fuel+1,s,a,w,hc,hI=>⟨fun h0=>hend s a w h0 hI,fun i hi=>wpOp_mono (fun a' w' hI'=>wpAny_inv I hend hstep fuel _ a' w' (by have :=left_set (ready_mem hi).1;omega) hI') (hstep s a w i hi hI)⟩
theorem wp_region_inv(I:Array Bool→Act→World→Prop){id:Nat}{a:Act}{w:World}(hm:P.follows .mixedOrders=true)
 (hend:∀s a w,Region.ready .any ops s=[]→I s a w→Q .normal a w)
 (hstep:∀s a w i,i∈Region.ready .any ops s→I s a w→wpOp P ops Q i (I (s.setIfInBounds i true)) a w)
 (h0:I (Array.replicate ops.size false) a {w with drawn:=w.drawn+1}):(Code.region id ops true).wp P Q a w:=by
 refine wp_region_any hm (wpAny_inv I hend hstep ops.size _ _ _ ?_ h0);unfold left;exact Nat.le_trans List.countP_le_length (by simp)
end
end Go.Proofs.YthenjegmigeieaaGreat
