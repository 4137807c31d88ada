/- Own texts, one behind the other (part 3). -/
import Derived.Test.YtfljoehbbncooaaGreatBundleB
import Derived.Test.YtfljoehbbncooaaGreatRows
import Derived.Orders
import Derived.Deep.OwnRows
import Derived.RangeFuncNested
import Derived.RangeFuncBound
import Derived.RangeFuncCalls
import Derived.RangeFuncLeaves
import Derived.Shelf.Abstract
import Derived.Shelf.RegionOpen
import Derived.WalkKit
import Derived.OwnWalkIn
import Derived.TacticsInMore
import Derived.LoopNIn
import Derived.LoopIn
import Derived.Deep.QuietTactic
import Derived.BigQuiet
import Derived.Shelf.SlSortCmp.Whole1
import Derived.Ground.SlsfProg
import Derived.Test.YtfljoehbbncooaaGreatProg
import Derived.Deep.MidRow
import Derived.Deep.WholeRow
import Derived.Maps.OwnSet
set_option maxRecDepth 100000
set_option maxHeartbeats 8000000
namespace Go.Proofs.YtfljoehbbncooaaGreat
open Go.RowKit
theorem YI(w:World)(a b c:Obj):(((w.alloc a).alloc b).alloc c).heap[w.heap.size]?=some a/\(((w.alloc a).alloc b).alloc c).heap[w.heap.size+1]?=some b/\(((w.alloc a).alloc b).alloc c).heap[w.heap.size+2]?=some c:=by
 show(((w.heap.push a).push b).push c)[w.heap.size]?=some a/\(((w.heap.push a).push b).push c)[w.heap.size+1]?=some b/\(((w.heap.push a).push b).push c)[w.heap.size+2]?=some c;refine⟨?_,?_,?_⟩
 ·rw[iK,if_neg sO,iK,if_neg sI,iK,if_pos rfl]
 ·rw[iK,if_neg sI,iK,if_pos sI]
 rw[iK,if_pos sI]
theorem MG(p:Int)(a:Option Addr)(n c:Nat)(w:World):
 Calls Tryz.prog 43 #[.int .i64 p, .slice a n c] w fun e i=>e=.returned (lT p (.slice a n c))/\Below w.heap.size w i:=by
 have g:∀o,Below w.heap.size w (w.alloc o):=fun o=>(aG _ _).alloc (aH _) o
 go_enter Tryz.func43,Tryz.ntmps43
 go_wp2_with fail;have b:=iC w (.cells #[.int .i64 p, .slice a n c] 72);(have d:(w.alloc (.cells #[.int .i64 p, .slice a n c] 72)).cell? ⟨w.heap.size,0,none⟩=some (.int .i64 p):=cH b);(have f:(w.alloc (.cells #[.int .i64 p, .slice a n c] 72)).cell? ⟨w.heap.size,1,none⟩=some (.slice a n c):=cH b);refine dP (v:=lT p (.slice a n c)) (by simp[results,Tryz.results43,go_sem,d,f]) rfl ⟨rfl,g _⟩
end Go.Proofs.YtfljoehbbncooaaGreat
namespace Go.Proofs.YtfljoehbbncooaaGreat
section
variable {P:Program} {ops:Array Oper} {Q:Exit->Act->World->Prop} {md:Region.Mode}
theorem Mm{s:Array Bool}{i:Nat}(h:i∈Region.ready md ops s):s[i]?=some false/\∃o,ops[i]?=some o/\∀e,e∈o.after->Region.binds md e=true->s[e.on]?=some true:=by
 unfold Region.ready at h;obtain⟨_,h⟩:=kG.mp h;rw[eI]at h;obtain⟨g,d⟩:=h;refine⟨?_,?_⟩
 ·cases c:s[i]? with
  |none=>simp[Array.getD_eq_getD_getElem?,c]at g
  |some b=>cases b<;>simp[Array.getD_eq_getD_getElem?,c]at g ⊢
 cases j:ops[i]? with
 |none=>simp[j]at d
 |some o=>
  refine⟨o,rfl,fun e l k=>?_⟩;rw[j,nU,qA,Array.all_eq_true_iff_forall_mem]at d;have f:=d e l;rw[k]at f
  cases c:s[e.on]? with
  |none=>simp[Array.getD_eq_getD_getElem?,c]at f
  |some b=>cases b<;>simp[Array.getD_eq_getD_getElem?,c]at f ⊢
def aDF(s:Array Bool):Nat:=s.toList.countP (fun b=> !b)
theorem aEO{s:Array Bool}(h:aDF s=0):Region.ready md ops s=[]:=by
 cases e:Region.ready md ops s with
 |nil=>rfl
 |cons i r=>
  have b:=(Mm (s:=s) (i:=i) (by rw[e];exact dL)).1;(have c:false∈s.toList:=by rw[<-fZ]at b;exact mB b);have d:=List.countP_eq_zero.mp h false c;simp at d
theorem bBE{s:Array Bool}{i:Nat}(h:s[i]?=some false):aDF (s.setIfInBounds i true)+1=aDF s:=by obtain⟨c,f⟩:=aK.mp h;unfold aDF;(have d:(s.setIfInBounds i true).toList=s.toList.set i true:=by simp);rw[d,List.countP_set (h:=by simpa using c)];have g:0<s.toList.countP (fun b=> !b):=List.countP_pos_iff.mpr ⟨false,by rw[<-fZ]at h;exact mB h,rfl⟩;(have e:s.toList[i]'(by simpa using c)=false:=by rw[Array.getElem_toList];exact f);rw[e];simp only[Bool.not_false,Bool.not_true,if_true,Bool.false_eq_true,if_false];omega
theorem aE4(I:Array Bool->Act->World->Prop)(hend:∀s a w,Region.ready md ops s=[]->I s a w->Q .normal a w)
 (e:∀s a w i,i∈Region.ready md ops s->I s a w->wpOp P ops Q i (I (s.setIfInBounds i true)) a w):
 ∀(b:Nat)(s:Array Bool)(a:Act)(w:World),aDF s<=b->I s a w->wpAny P md ops Q b s a w
 |0,s,a,w,k,c=>⟨aEO (by omega),hend s a w (aEO (by omega)) c⟩
 |b+1,s,a,w,k,c=>⟨fun g=>hend s a w g c,fun i d=>wpOp_mono (fun f l j=>aE4 I hend e b _ f l (by have :=bBE (Mm d).1;omega) j) (e s a w i d c)⟩
theorem aC6(I:Array Bool->Act->World->Prop){id:Nat}{a:Act}{w:World}(b:P.follows .mixedOrders=true)
 (hend:∀s a w,Region.ready .any ops s=[]->I s a w->Q .normal a w)
 (c:∀s a w i,i∈Region.ready .any ops s->I s a w->wpOp P ops Q i (I (s.setIfInBounds i true)) a w)
 (h0:I (Array.replicate ops.size false) a {w with drawn:=w.drawn+1}):(Code.region id ops true).wp P Q a w:=by
 refine wp_region_any b (aE4 I hend c ops.size _ _ _ ?_ h0);unfold aDF;exact bP QH (by simp)
end
end Go.Proofs.YtfljoehbbncooaaGreat
namespace Go.Proofs.YtfljoehbbncooaaGreat
open Go.RowKit
def II(b:Array Oper)(n:Nat):Bool:=
 decide ((b.toList.filterMap (·.dst)).Nodup)&&(b.toList.filterMap (·.dst)).all (fun t=>decide (t<n))&&(List.range b.size).all (fun i=>((b[i]?).map (fun o=>o.after.toList.all (fun e=>decide (e.on<i)))).getD true)
def xX(b:Array Oper)(n:Nat):Bool:=
 decide ((b.toList.filterMap (·.dst)).Nodup)&&(b.toList.filterMap (·.dst)).all (fun t=>decide (t<n))&&(List.range b.size).all (fun i=>((b[i]?).map (fun o=>o.after.toList.all (fun e=> !Region.binds .any e||decide (e.on<i)))).getD true)
theorem Mw{b:Array Oper}{n:Nat}(h:II b n=true):xX b n=true:=by
 unfold II at h;unfold xX;rw[eI]at h ⊢;refine⟨h.1,fA.mpr fun i f=>?_⟩;have c:=fA.mp h.2 i f
 cases g:b[i]? with
 |none=>rfl
 |some o=>
  rw[g,nU,qA]at c;refine fA.mpr fun e d=>?_;rw[fA.mp c e d,EG]
structure QX (ops:Array Oper) (T:Nat->Value->World->Prop) (a0:Act) (w0:World) (o:Oper) (a:Act) (w:World):Prop where
 z:Below w0.heap.size w0 w
 still:∀t,t∉ops.toList.filterMap (·.dst)->a.tmps.getD t undef=a0.tmps.getD t undef
 has:∀e,e∈o.after->Region.binds .any e=true->∀(o':Oper)(t:Nat),ops[e.on]?=some o'->o'.dst=some t->T t (a.tmps.getD t undef) w
def IU(P:Program)(d:Array Oper)(Q:Exit->Act->World->Prop)(T:Nat->Value->World->Prop)(o:Oper)(a:Act)(w:World):Prop:=
 if Region.wanted o (yielded d a.tmps)then o.wp P a w (fun c b=>∃v,c=a.put o.dst v/\(∀t,o.dst=some t->T t v b)/\Below w.heap.size w b) Q\/(o.asks P a w/\LetsOut Q)
 else∀t,o.dst=some t->T t undef w
theorem jV{a:Act}{t:Nat}{v:Value}(h:t<a.tmps.size):(a.put (some t) v).tmps.getD t undef=v:=by simp[Act.put,Array.getD_eq_getD_getElem?,h]
theorem jM{a:Act}{t u:Nat}{v:Value}(h:u≠t):(a.put (some t) v).tmps.getD u undef=a.tmps.getD u undef:=by simp[Act.put,Array.getD_eq_getD_getElem?,Ne.symm h]
theorem zX{a:Act}{d:Option Nat}{v:Value}:(a.put d v).tmps.size=a.tmps.size:=by cases d<;>simp[Act.put]
theorem aRV{a:Act}{d:Option Nat}{v:Value}:(a.put d v).defers=a.defers:=by cases d<;>simp[Act.put]
theorem Mk{a b:Act}{v:Value}{o:Oper}{D:List Nat}(c:∀u,o.dst=some u->u∈D)(h:∀t,t∉D->a.tmps.getD t undef=b.tmps.getD t undef)(t:Nat)(ht:t∉D):(a.put o.dst v).tmps.getD t undef=b.tmps.getD t undef:=by
 cases d:o.dst with
 |none=>exact h t ht
 |some u=>
  have f:t≠u:=fun e=>ht (e▸c u d);rw[jM f];exact h t ht
def CQ(b:Array Oper):Nat->Nat->Nat->Bool
 |0,_,_=>false
 |f+1,i,j=>((b[i]?).map fun o=>o.after.toList.any fun e=>Region.binds .any e&&(e.on==j||CQ b f e.on j)).getD false
def AJ(b:Array Oper)(s:Array Bool):Prop:=∀(i:Nat)(o:Oper),s[i]?=some true->b[i]?=some o->∀e,e∈o.after->Region.binds .any e=true->s[e.on]?=some true
theorem SM{c:Array Oper}{s:Array Bool}(k:AJ c s):∀(f i j:Nat)(o:Oper),c[i]?=some o->(∀e,e∈o.after->Region.binds .any e=true->s[e.on]?=some true)->CQ c f i j=true->s[j]?=some true
 |0,_,_,_,_,_,h=>by cases h
 |f+1,i,j,o,w,q,h=>by
  unfold CQ at h;rw[w,nU,qA]at h;obtain⟨e,r,d⟩:=jW.mp h;rw[eI,yQ]at d;have l:=q e (by simpa using r) d.1;rcases d.2 with b|b
  ·(have b:e.on=j:=by simpa using b);rw[<-b];exact l
  cases g:c[e.on]? with
  |none=>
   cases f with
   |zero=>cases b
   |succ f=>unfold CQ at b;rw[g]at b;cases b
  |some m=>exact SM k f e.on j m g (fun n u p=>k e.on m l g n u p) b
theorem Jf{c:Array Oper}{s:Array Bool}(f:AJ c s){i j:Nat}(g:s[i]?=some true)(k:s[j]?=some false):CQ c 12 i j=false:=by
 cases b:CQ c 12 i j with
 |false=>rfl
 |true=>
  cases d:c[i]? with
  |none=>unfold CQ at b;rw[d]at b;cases b
  |some o=>
   have e:=SM f 12 i j o d (f i o g d) b;rw[k]at e;cases e
def xD(b:Array Oper)(L:Nat):Bool:=(List.range L).all (fun j=>CQ b 12 L j)&&(List.range b.size).all fun i=> !decide (L<i)||CQ b 12 i (i-1)
section
variable {P:Program} {ops:Array Oper} {Q:Exit->Act->World->Prop}
theorem aTH{i:Nat}{o:Oper}{t:Nat}(h:ops[i]?=some o)(ht:o.dst=some t):t∈ops.toList.filterMap (·.dst):=by refine lW.mpr ⟨o,?_,ht⟩;rw[<-fZ]at h;exact mB h
theorem aTG:∀(l:List Oper),(l.filterMap (·.dst)).Nodup->∀(i j:Nat)(o b:Oper)(t:Nat),l[i]?=some o->l[j]?=some b->o.dst=some t->b.dst=some t->i=j
 |[],_,i,j,o,b,t,h,_,_,_=>by simp at h
 |x::l,hn,i,j,o,b,t,hi,hj,ho,ho'=>by
  have c:∀k (o:Oper),l[k]?=some o->o.dst=some t->t∈l.filterMap (·.dst):=fun k o e f=>lW.mpr ⟨o,mB e,f⟩
  cases i with
  |zero=>
   cases j with
   |zero=>rfl
   |succ j=>
    simp only[List.getElem?_cons_zero,Option.some.injEq]at hi;subst hi;simp only[List.getElem?_cons_succ]at hj;rw[qZ,ho]at hn;exact absurd (c j b hj ho') (qY.mp hn).1
  |succ i=>
   cases j with
   |zero=>
    simp only[List.getElem?_cons_zero,Option.some.injEq]at hj;subst hj;simp only[List.getElem?_cons_succ]at hi;rw[qZ,ho']at hn;exact absurd (c i o hi ho) (qY.mp hn).1
   |succ j=>
    simp only[List.getElem?_cons_succ]at hi hj;have g:(l.filterMap (·.dst)).Nodup:=by
     rw[qZ]at hn
     cases d:x.dst with
     |none=>rw[d]at hn;exact hn
     |some z=>rw[d]at hn;exact(qY.mp hn).2
    exact congrArg (·+1) (aTG l g i j o b t hi hj ho ho')
theorem Jg{i L:Nat}{o:Oper}(b:i<L)(c:ops[i]?=some o):o∈ops.toList.take L:=by refine mB (i:=i) ?_;rw[jA,if_pos b,fZ];exact c
theorem XF{s:Array Bool}{i:Nat}(h:s[i]?=some false):(s.setIfInBounds i true)[i]?=some true:=by rw[Array.getElem?_setIfInBounds,if_pos rfl,if_pos (aK.mp h).1]
theorem SO{s:Array Bool}{i j:Nat}(h:j≠i):(s.setIfInBounds i true)[j]?=s[j]?:=by rw[Array.getElem?_setIfInBounds,if_neg (Ne.symm h)]
theorem Mp{s:Array Bool}{i j:Nat}(b:s[i]?=some false)(h:s[j]?=some true):(s.setIfInBounds i true)[j]?=some true:=by
 by_cases e:j=i
 ·rw[e];exact XF b
 rw[SO e];exact h
theorem aAE{s:Array Bool}{i:Nat}(h:i<s.size):s[i]?=some false\/s[i]?=some true:=by
 rw[jO h];cases s[i]
 ·exact .inl rfl
 exact .inr rfl
theorem aX2{n:Nat}(b:xX ops n=true)(i:Nat)(o:Oper)(d:ops[i]?=some o)(e:Edge)(g:e∈o.after)(f:Region.binds .any e=true):e.on<i:=by unfold xX at b;rw[eI]at b;have h:=fA.mp b.2 i (lL.mpr (aK.mp d).1);rw[d,nU,qA]at h;have c:=fA.mp h e (by simpa using g);rw[f]at c;exact fJ (by simpa using c)
theorem bE6{n:Nat}{s:Array Bool}(k:xX ops n=true)(r:s.size=ops.size)(hr:Region.ready .any ops s=[]):∀m:Nat,m<=ops.size->∀i:Nat,i<m->s[i]?=some true:=by
 intro m
 induction m with
 |zero=>intro _ i c;exact absurd c (yR _)
 |succ m b=>
  intro q i c;have b:=b oM;by_cases l:i<m
  ·exact b i l
  obtain rfl:i=m:=oM;refine(aAE (s:=s) (i:=i) oM).resolve_left fun p=>?_;have d:i<ops.size:=oM;have :i∈Region.ready .any ops s:=by
   unfold Region.ready;refine kG.mpr ⟨lL.mpr d,?_⟩;rw[eI];refine⟨by simp[Array.getD_eq_getD_getElem?,p],?_⟩;have f:ops[i]?=some ops[i]:=jO d;rw[f,nU,qA,Array.all_eq_true_iff_forall_mem];intro e j
   cases g:Region.binds .any e with
   |false=>rfl
   |true=>simp[Array.getD_eq_getD_getElem?,b e.on (aX2 k i _ f e j g)]
  rw[hr]at this;cases this
theorem MP(J:Array Bool->Act->World->Prop)(L:Nat){n id:Nat}{T:Act}{w0:World}(hL:L<=ops.size)(a1:L<ops.size->xD ops L=true)(R:P.follows .mixedOrders=true)(hf:xX ops n=true)
 (a7:∀s a w i o,s.size=ops.size->AJ ops s->J s a w->i<L->s[i]?=some false->ops[i]?=some o->(∀e,e∈o.after->Region.binds .any e=true->s[e.on]?=some true)->wpOp P ops Q i (J (s.setIfInBounds i true)) a w)
 (htail:∀s a w,(∀j,j<L->s[j]?=some true)->J s a w->wpOps P ops Q (List.range' L (ops.size-L)) a w)
 (h0:J (Array.replicate ops.size false) T {w0 with drawn:=w0.drawn+1}):(Code.region id ops true).wp P Q T w0:=by
 (have a8:L<ops.size->∀j,j<L->CQ ops 12 L j=true:=fun N j c=>by have h:=a1 N;unfold xD at h;rw[eI]at h;exact fA.mp h.1 j (lL.mpr c));have a9:∀i,i<ops.size->L<i->CQ ops 12 i (i-1)=true:=fun i p a2=>by have h:=a1 oM;unfold xD at h;rw[eI]at h;have h:=fA.mp h.2 i (lL.mpr p);rw[aP a2]at h;simpa using h
 refine aC6 (fun s a w=>(s.size=ops.size/\AJ ops s)/\(((∀i,L<=i->i<ops.size->s[i]?=some false)/\J s a w)\/
  (∃m,L<=m/\m<=ops.size/\(∀i,i<m->s[i]?=some true)/\(∀i,m<=i->i<ops.size->s[i]?=some false)/\wpOps P ops Q (List.range' m (ops.size-m)) a w))) R ?_ ?_ ?_
 ·rintro s a w hr ⟨⟨F,l⟩,I⟩;have E:=bE6 hf F hr ops.size (aH _);(have no:∀m,m<ops.size->¬s[m]?=some false:=fun m R h=>by rw[E m R]at h;cases h);(have fin:∀m,m=ops.size->wpOps P ops Q (List.range' m (ops.size-m)) a w->Q .normal a w:=fun m e h=>by rw[e,EH]at h;exact h);rcases I with⟨b,u⟩|⟨m,_,a6,_,b,f⟩
  ·have N:L=ops.size:=by
    rcases lP L ops.size with h|h
    ·exact absurd (b L (aH _) h) (no L h)
    omega
   exact fin L N (htail s a w (fun j c=>E j oM) u)
  refine fin m ?_ f;rcases lP m ops.size with h|h
  ·exact absurd (b m (aH _) h) (no m h)
  omega
 ·rintro s a w i p ⟨⟨F,l⟩,I⟩;obtain⟨g,o,q,D⟩:=Mm p;have a4:i<ops.size:=(aK.mp q).1;have Z:(s.setIfInBounds i true).size=ops.size/\AJ ops (s.setIfInBounds i true):=by
   refine⟨by simp[F],fun i' o' X S e W U=>?_⟩;by_cases Y:i'=i
   ·subst Y;rw[q]at S;cases S;exact Mp g (D e W U)
   rw[SO Y]at X;exact Mp g (l i' o' X S e W U)
  have first:∀m,L<=m->m<=i->(∀j,m<=j->j<ops.size->s[j]?=some false)->i=m:=fun m x aa b=>by
   rcases lP m i with h|h
   ·have k:=SM l 12 i (i-1) o q D (a9 i a4 oM);rw[b (i-1) oM oM]at k;cases k
   omega
  have go:∀m,L<=m->i=m->(∀j,j<m->s[j]?=some true)->(∀j,m<=j->j<ops.size->s[j]?=some false)->wpOps P ops Q (List.range' m (ops.size-m)) a w->
   wpOp P ops Q i (fun r G=>((s.setIfInBounds i true).size=ops.size/\AJ ops (s.setIfInBounds i true))/\(((∀j,L<=j->j<ops.size->(s.setIfInBounds i true)[j]?=some false)/\J (s.setIfInBounds i true) r G)\/
    (∃m,L<=m/\m<=ops.size/\(∀j,j<m->(s.setIfInBounds i true)[j]?=some true)/\(∀j,m<=j->j<ops.size->(s.setIfInBounds i true)[j]?=some false)/\wpOps P ops Q (List.range' m (ops.size-m)) r G))) a w:=by
   intro m x K C b f;subst K;obtain⟨d,E⟩:∃d,ops.size-i=d+1:=⟨ops.size-i-1,oM⟩;rw[E,List.range'_succ,lH]at f;refine wpOp_mono (fun r G H=>⟨Z, .inr ⟨i+1,oM,oM,fun j c=>?_,fun j c M=>?_,?_⟩⟩) f
   ·by_cases a5:j=i
    ·rw[a5];exact XF g
    exact Mp g (C j oM)
   ·rw[SO oM];exact b j oM M
   rw[show ops.size-(i+1)=d by omega];exact H
  rcases I with⟨b,u⟩|⟨m,x,a6,C,b,f⟩
  ·by_cases a3:L<=i
   ·have e:=first L (aH _) a3 b;have V:∀j,j<L->s[j]?=some true:=fun j c=>SM l 12 i j o q D (by rw[e];exact a8 oM j c);exact go L (aH _) e V b (htail s a w V u)
   exact wpOp_mono (fun r G H=>⟨Z, .inl ⟨fun j c M=>by rw[SO oM];exact b j c M,H⟩⟩) (a7 s a w i o F l u oM g q D)
  have K:m<=i:=by
   rcases lP i m with h|h
   ·have k:=C i h;rw[g]at k;cases k
   exact h
  exact go m x (first m x K b) C b f
 exact⟨⟨by simp,fun i o h=>by rw[KU]at h;split at h<;>simp at h⟩, .inl ⟨fun i _ p=>by rw[KU,if_pos p],h0⟩⟩
end
def SJ(b:Array Oper)(wr:Nat->Bool)(c:Nat->Nat->Bool)(i j:Nat):Bool:=(wr i&&decide (i<b.size))&& !decide (i=j)&& !CQ b 12 j i&& !(((b[j]?).map fun o=>(o.dst.map (c i)).getD true).getD true)
def aRO(b:Array Oper)(wr:Nat->Bool)(c:Nat->Nat->Bool)(m j:Nat):Bool:=(List.range b.size).all fun i=> !SJ b wr c i j||(i==m||CQ b 12 i m)
def aNR(b:Array Oper)(wr:Nat->Bool)(c:Nat->Nat->Bool)(i:Nat):Bool:=(List.range b.size).all fun k=> !SJ b wr c k i
def bE3(b:Array Oper)(wr:Nat->Bool)(m:Nat):Bool:=(List.range b.size).all fun i=> !wr i||(i==m||CQ b 12 i m)
structure aJR (R:World->World->Prop) (E:Nat->World->Prop) (ops:Array Oper) (wr:Nat->Bool) (surv:Nat->Nat->Bool) (T:Nat->Value->World->Prop) (a0:Act) (w0:World) (m:Nat) (o:Oper) (a:Act) (w:World):Prop where
 z:R w0 w
 still:∀t,t∉ops.toList.filterMap (·.dst)->a.tmps.getD t undef=a0.tmps.getD t undef
 has:∀e,e∈o.after->Region.binds .any e=true->aRO ops wr surv m e.on=true->∀(o':Oper)(t:Nat),ops[e.on]?=some o'->o'.dst=some t->T t (a.tmps.getD t undef) w
 wrote:∀e,e∈o.after->Region.binds .any e=true->wr e.on=true->E e.on w
 pre:bE3 ops wr m=true->Below w0.heap.size w0 w
structure IC (R:World->World->Prop) (E:Nat->World->Prop) (ops:Array Oper) (wr:Nat->Bool) (surv:Nat->Nat->Bool) (T:Nat->Value->World->Prop) (a0:Act) (w0:World) (s:Array Bool) (a:Act) (w:World):Prop where
 z:R w0 w
 defers:a.defers=a0.defers
 size:a.tmps.size=a0.tmps.size
 still:∀t,t∉ops.toList.filterMap (·.dst)->a.tmps.getD t undef=a0.tmps.getD t undef
 done:∀(i:Nat)(o:Oper)(t:Nat),s[i]?=some true->ops[i]?=some o->o.dst=some t->(∀k,SJ ops wr surv k i=true->s[k]?=some false)->T t (a.tmps.getD t undef) w
 wrote:∀i,s[i]?=some true->wr i=true->E i w
 pre:(∀i,wr i=true->¬s[i]?=some true)->Below w0.heap.size w0 w
structure aZO (R:World->World->Prop) (E:Nat->World->Prop) (ops:Array Oper) (wr:Nat->Bool) (surv:Nat->Nat->Bool) (T:Nat->Value->World->Prop) (a0:Act) (w0:World) (L:Nat) (a:Act) (w:World):Prop where
 z:R w0 w
 defers:a.defers=a0.defers
 size:a.tmps.size=a0.tmps.size
 still:∀t,t∉ops.toList.filterMap (·.dst)->a.tmps.getD t undef=a0.tmps.getD t undef
 all:∀(i:Nat)(o:Oper)(t:Nat),i<L->ops[i]?=some o->o.dst=some t->(∀k,SJ ops wr surv k i=false)->T t (a.tmps.getD t undef) w
 wrote:∀i,i<L->wr i=true->E i w
section
variable {P:Program} {ops:Array Oper} {Q:Exit->Act->World->Prop} {R:World->World->Prop} {E:Nat->World->Prop} {wr:Nat->Bool} {surv:Nat->Nat->Bool} {T:Nat->Value->World->Prop} {a0:Act} {w0:World}
theorem aTL{i j:Nat}(h:SJ ops wr surv i j=true):i<ops.size:=by unfold SJ at h;rw[eI,eI,eI,eI]at h;exact fJ h.1.1.1.2
theorem IC.start(b:R w0 {w0 with drawn:=w0.drawn+1}):IC R E ops wr surv T a0 w0 (Array.replicate ops.size false) a0 {w0 with drawn:=w0.drawn+1}:=by(have no:∀{i:Nat},¬(Array.replicate ops.size false)[i]?=some true:=fun h=>by rw[KU]at h;split at h<;>simp at h);exact⟨b,rfl,rfl,fun _ _=>rfl,fun i o t h _ _ _=>absurd h no,fun i h _=>absurd h no,fun _=>⟨rfl,rfl,rfl,aH _,fun _ _=>rfl⟩⟩
theorem IC.set{s:Array Bool}{a:Act}{w:World}(d:IC R E ops wr surv T a0 w0 s a w)(M:∀a b c,R a b->R b c->R a c)(x:xX ops a0.tmps.size=true){i:Nat}{o:Oper}(F:s[i]?=some false)(C:ops[i]?=some o)
 {v:Value} {w':World} (X:∀t,o.dst=some t->T t v w') (N:R w w') (K:∀j,E j w->E j w') (L:wr i=true->E i w') (J:¬wr i=true->Below w.heap.size w w')
 (Q:∀(j:Nat)(m:Oper)(t:Nat),s[j]?=some true->ops[j]?=some m->m.dst=some t->SJ ops wr surv i j=false->∀u,T t u w->T t u w'):IC R E ops wr surv T a0 w0 (s.setIfInBounds i true) (a.put o.dst v) w':=by
 unfold xX at x;rw[eI,eI]at x;have S:=fJ x.1.1;refine⟨M _ _ _ d.z N,by rw[aRV];exact d.defers,by rw[zX];exact d.size,Mk (fun u W=>aTH C W) d.still,fun j m t l r f G=>?_,fun j l D=>?_,fun I=>?_⟩
 ·by_cases g:j=i
  ·subst g;rw[C]at r;cases r;rw[f,jV (by rw[d.size];exact fJ (fA.mp x.1.2 t (aTH C f)))];exact X t f
  have H:SJ ops wr surv i j=false:=by
   cases q:SJ ops wr surv i j with
   |false=>rfl
   |true=>
    have p:=G i q;rw[XF F]at p;cases p
  rw[SO g]at l;have n:=Q j m t l r f H _ (d.done j m t l r f (fun k q=>by
   have p:=G k q;rw[SO (fun e=>by subst e;rw[H]at q;cases q)]at p
   exact p))
  cases P:o.dst with
  |none=>exact n
  |some u=>
   have U:t≠u:=fun h=>g (aTG ops.toList S j i m o t (by rw[fZ];exact r) (by rw[fZ];exact C) f (h▸P));rw[jM U];exact n
 ·by_cases g:j=i
  ·subst g;exact L D
  rw[SO g]at l;exact K j (d.wrote j l D)
 have n:=d.pre (fun j D V=>I j D (Mp F V));exact n.trans ((J fun h=>I i h (XF F)).mono n.size)
theorem aTX{J:Act->World->Prop}{i:Nat}{o:Oper}{a:Act}{w:World}(f:ops[i]?=some o)(h:IU P ops Q T o a w)
 (c:∀v b,(∀t,o.dst=some t->T t v b)->Below w.heap.size w b->J (a.put o.dst v) b):wpOp P ops Q i J a w:=by
 unfold IU at h;unfold wpOp;rw[f];dsimp only;by_cases d:Region.wanted o (yielded ops a.tmps)=true
 ·rw[if_pos d]at h ⊢;refine h.imp (Oper.wp_mono ?_) (fun h=>h);rintro j b ⟨v,rfl,g,e⟩;exact c v b g e
 rw[if_neg d]at h ⊢;exact c _ _ h (aG _ _)
theorem XK{J:Act->World->Prop}{i:Nat}{o:Oper}{a:Act}{w:World}(b:ops[i]?=some o)(c:Region.wanted o (yielded ops a.tmps)=true)(h:o.wp P a w J Q):wpOp P ops Q i J a w:=by unfold wpOp;rw[b];dsimp only;rw[if_pos c];exact .inl h
theorem PG(R:World->World->Prop)(X:∀a b c,R a b->R b c->R a c)(W:∀w d,Below w.heap.size w d->R w d)(T:Nat->Value->World->Prop)(E:Nat->World->Prop)(L:Nat)(wr:Nat->Bool)(G:Nat->Nat->Bool){id:Nat}{l:Act}{w0:World}(hL:L<=ops.size)(ae:L<ops.size->xD ops L=true)(hm:P.follows .mixedOrders=true)
 (I:xX ops l.tmps.size=true)
 (a8:∀t v w d,Below w.heap.size w d->T t v w->T t v d)
 (a9:∀i w d,Below w.heap.size w d->E i w->E i d)
 (aa:∀i t v w d,wr i=true->G i t=true->R w d->T t v w->T t v d)
 (hop:∀(i:Nat)(o:Oper),i<L->ops[i]?=some o->∀a w,aJR R E ops wr G T l w0 i o a w->(∀t,t∉(ops.toList.take L).filterMap (·.dst)->a.tmps.getD t undef=l.tmps.getD t undef)->if wr i=true then(Region.wanted o (yielded ops a.tmps)=true/\o.wp P a w (fun N d=>∃v,N=a.put o.dst v/\(∀t,o.dst=some t->T t v d)/\R w d/\(∀j,E j w->E j d)/\E i d) Q)else IU P ops Q T o a w)
 (htail:∀a w,aZO R E ops wr G T l w0 L a w->(∀t,t∉(ops.toList.take L).filterMap (·.dst)->a.tmps.getD t undef=l.tmps.getD t undef)->wpOps P ops Q (List.range' L (ops.size-L)) a w):
 (Code.region id ops true).wp P Q l w0:=by
 refine MP (fun s a w=>(∀t,t∉(ops.toList.take L).filterMap (·.dst)->a.tmps.getD t undef=l.tmps.getD t undef)/\IC R E ops wr G T l w0 s a w) L hL ae hm I ?_ ?_ ⟨fun _ _=>rfl,IC.start (W _ _ ⟨rfl,rfl,rfl,aH _,fun _ _=>rfl⟩)⟩
 ·rintro s a w i o hs V ⟨hO,f⟩ a1 x n Y;have a3:∀k,k<ops.size->k=i\/CQ ops 12 k i=true->s[k]?=some false:=fun k r h=>by
   refine(aAE (s:=s) oM).resolve_right fun p=>?_;rcases h with h|h
   ·rw[h,x]at p;cases p
   rw[Jf V p x]at h;cases h
  have a7:=Jg a1 n;have a2:∀(v:Value)(t:Nat),t∉(ops.toList.take L).filterMap (·.dst)->(a.put o.dst v).tmps.getD t undef=l.tmps.getD t undef:=fun v=>Mk (fun u F=>lW.mpr ⟨o,a7,F⟩) hO;have D:=hop i o a1 n a w ⟨f.z,f.still,fun e H g ac o' t ab C=>f.done e.on o' t (Y e H g) ab C (fun k r=>by
   have U:=fA.mp ac k (lL.mpr (aTL r));rw[r,Bool.not_true,rE,yQ,nQ]at U
   exact a3 k (aTL r) U),fun e H g af=>f.wrote e.on (Y e H g) af,fun ad=>f.pre (fun k ah p=>by
   have ai:=(aK.mp p).1;have S:=fA.mp ad k (lL.mpr oM);rw[ah,Bool.not_true,rE,yQ,nQ]at S;rw[a3 k oM S]at p
   cases p)⟩ hO
  by_cases q:wr i=true
  ·rw[if_pos q]at D;refine XK n D.1 (Oper.wp_mono ?_ D.2);rintro N d ⟨v,rfl,M,g,a4,a5⟩;refine⟨a2 v,f.set X I x n M g a4 (fun _=>a5) (fun h=>absurd q h) (fun j oj t m K C J u F=>aa i t u w d q ?_ g F)⟩;unfold SJ at J;rw[q,aP (aK.mp n).1,K,nU,qA,C,nU,qA,aF (fun e=>by subst e;rw[x]at m;cases m),Jf V m x]at J;simpa using J
  rw[if_neg q]at D;exact aTX n D fun v d M g=>⟨a2 v,f.set X I x n M (W _ _ g) (fun j m=>a9 j w d g m) (fun h=>absurd h q) (fun _=>g) (fun _ _ t _ _ _ _ u F=>a8 t u w d g F)⟩
 rintro s a w Z ⟨hO,f⟩;exact htail a w ⟨f.z,f.defers,f.size,f.still,fun j oj t m K C a6=>f.done j oj t (Z j m) K C (fun k r=>absurd r (by rw[a6 k];exact Bool.false_ne_true)),fun j m ag=>f.wrote j (Z j m) ag⟩ hO
theorem DO(T:Nat->Value->World->Prop)(L:Nat){id:Nat}{d:Act}{w0:World}(r:L<=ops.size)(E:L<ops.size->xD ops L=true)(C:P.follows .mixedOrders=true)
 (x:II ops d.tmps.size=true)
 (D:∀t v w f,Below w.heap.size w f->T t v w->T t v f)
 (hop:∀(i:Nat)(o:Oper),i<L->ops[i]?=some o->∀a w,QX ops T d w0 o a w->(∀t,t∉(ops.toList.take L).filterMap (·.dst)->a.tmps.getD t undef=d.tmps.getD t undef)->IU P ops Q T o a w)
 (htail:∀a w,Below w0.heap.size w0 w->a.defers=d.defers->a.tmps.size=d.tmps.size->(∀t,t∉ops.toList.filterMap (·.dst)->a.tmps.getD t undef=d.tmps.getD t undef)->(∀(i:Nat)(o:Oper)(t:Nat),i<L->ops[i]?=some o->o.dst=some t->T t (a.tmps.getD t undef) w)->(∀t,t∉(ops.toList.take L).filterMap (·.dst)->a.tmps.getD t undef=d.tmps.getD t undef)->wpOps P ops Q (List.range' L (ops.size-L)) a w):
 (Code.region id ops true).wp P Q d w0:=by
 have p:∀i j,SJ ops (fun _=>false) (fun _ _=>true) i j=false:=fun i j=>by unfold SJ;simp
 refine PG (fun w f=>w0.heap.size<=w.heap.size->Below w0.heap.size w f) (fun a b c n q h=>(n h).trans (q (bP h (n h).size))) (fun w f g h=>g.mono h) T (fun _ _=>True) L (fun _=>false) (fun _ _=>true) r E C (Mw x) D (fun _ _ _ _ _=>trivial) (fun _ _ _ _ _ h=>by cases h)
  (fun i o l m a w h hO=>?_) (fun a w h hO=>htail a w (h.z (aH _)) h.defers h.size h.still (fun i o t l m s=>h.all i o t l m s fun k=>p k i) hO)
 rw[if_neg Bool.false_ne_true];exact hop i o l m a w ⟨h.z (aH _),h.still,fun e u g=>h.has e u g (fA.mpr fun k _=>by rw[p];rfl)⟩ hO
theorem aC7(T:Nat->Value->World->Prop){id:Nat}{b:Act}{w0:World}(p:P.follows .mixedOrders=true)
 (n:II ops b.tmps.size=true)
 (q:∀t v w e,Below w.heap.size w e->T t v w->T t v e)
 (hop:∀(i:Nat)(o:Oper),ops[i]?=some o->∀a w,QX ops T b w0 o a w->IU P ops Q T o a w)
 (hend:∀a w,Below w0.heap.size w0 w->a.defers=b.defers->a.tmps.size=b.tmps.size->(∀t,t∉ops.toList.filterMap (·.dst)->a.tmps.getD t undef=b.tmps.getD t undef)->(∀t,t∈ops.toList.filterMap (·.dst)->T t (a.tmps.getD t undef) w)->Q .normal a w):
 (Code.region id ops true).wp P Q b w0:=by
 refine DO T ops.size (aH _) (fun h=>absurd h (Nat.lt_irrefl _)) p n q (fun i o _ d a w h _=>hop i o d a w h) (fun a w f g j k l _=>?_);rw[EH];refine hend a w f g j k fun t ht=>?_;obtain⟨o,d,m⟩:=lW.mp ht;obtain⟨i,c⟩:=FW.mp d;rw[fZ]at c;exact l i o t (aK.mp c).1 c m
end
def Jp(c:Array Oper)(o:Oper)(t:Nat):Bool:=o.after.toList.any fun e=>Region.binds .any e&&((c[e.on]?).map fun b=>b.dst==some t).getD false
def ZZ(b:Array Oper)(t:Nat):Bool:= !(b.toList.filterMap (·.dst)).contains t
section
variable {P:Program} {ops:Array Oper} {Q:Exit->Act->World->Prop} {T:Nat->Value->World->Prop} {a0 a:Act} {w0 w:World} {o:Oper}
theorem QX.of(h:QX ops T a0 w0 o a w)(t:Nat)(d:Jp ops o t=true:=by kernel_rfl):T t (a.tmps.getD t undef) w:=by
 unfold Jp at d;obtain⟨e,f,b⟩:=jW.mp d;rw[eI]at b
 cases c:ops[e.on]? with
 |none=>rw[c]at b;simp at b
 |some g=>
  rw[c,nU,qA]at b;exact h.has e (by simpa using f) b.1 g t c (by simpa using b.2)
theorem QX.old(h:QX ops T a0 w0 o a w)(t:Nat)(b:ZZ ops t=true:=by kernel_rfl):a.tmps.getD t undef=a0.tmps.getD t undef:=by refine h.still t fun c=>?_;unfold ZZ at b;simp[c]at b
theorem bI{y:Nat->Option Bool}(hg:o.guard=none):Region.wanted o y=true:=by simp[Region.wanted,hg]
theorem JK{j t:Nat}{b:Bool}{d:Oper}(hg:o.guard=some (j,b))(f:ops[j]?=some d)(e:d.dst=some t)(c:a.tmps.getD t undef=.bool b):Region.wanted o (yielded ops a.tmps)=true:=by
 have ht:a.tmps[t]?=some (.bool b):=by
  rw[uU]at c
  cases h:a.tmps[t]? with
  |none=>rw[h]at c;simp[undef]at c
  |some v=>rw[h]at c;simpa using c
 unfold Region.wanted;rw[hg];dsimp only;unfold yielded;rw[f,nL,e,nL,ht];simp
theorem dG{v:Value}{w':World}(d:Region.wanted o (yielded ops a.tmps)=true)(hr:(execOp a.eval o).run P w=.ok (.value v) w')(b:∀t,o.dst=some t->T t v w')(c:Below w.heap.size w w'):IU P ops Q T o a w:=by unfold IU;rw[if_pos d];left;unfold Oper.wp;rw[hr,Oper.upon_value];exact⟨v,rfl,b,c⟩
theorem ZW{v:Value}(hr:(execOp a.eval o).run P w=.ok (.value v) w)(hg:o.guard=none:=by rfl)(b:∀t,o.dst=some t->T t v w:=by intro t ht;cases ht;first|exact rfl|exact⟨rfl,trivial⟩):IU P ops Q T o a w:=dG (bI hg) hr b (aG _ _)
theorem iQ(v:Value)(hr:(execOp a.eval o).run P w=.ok (.value v) w:=by have ec:=kZ a;generalize a.eval=ev at *;(try clear hO);clear h;go_simp)(hg:o.guard=none:=by rfl)(b:∀t,o.dst=some t->T t v w:=by intro t ht;cases ht;first|exact rfl|exact⟨rfl,trivial⟩):IU P ops Q T o a w:=ZW hr hg b
theorem fI{f:FuncId}{args:Array Value}(i:Region.wanted o (yielded ops a.tmps)=true)(hr:(execOp a.eval o).run P w=.ok (.enter f args) w)
 (g:Calls P f args w fun e b=>∃v,e=.returned v/\(∀t,o.dst=some t->T t v b)/\Below w.heap.size w b):IU P ops Q T o a w:=by
 unfold IU;rw[if_pos i];left;unfold Oper.wp;rw[hr,Oper.upon_enter];refine Calls.mono g ?_;rintro e b ⟨v,rfl,c,d⟩;exact⟨v,rfl,c,d⟩
theorem wG{j t:Nat}{b:Bool}{c:Oper}(f:a.tmps.getD t undef=.bool b)(hg:o.guard=some (j,b):=by rfl)(e:ops[j]?=some c:=by rfl)(d:c.dst=some t:=by rfl):Region.wanted o (yielded ops a.tmps)=true:=JK hg e d f
def OI(Φ:Oper->Prop):List Oper->Prop
 |[]=>True
 |o::l=>Φ o/\OI Φ l
theorem OI.nil{Φ:Oper->Prop}:OI Φ []:=trivial
theorem OI.cons{Φ:Oper->Prop}{o:Oper}{l:List Oper}(h:Φ o)(b:OI Φ l):OI Φ (o::l):=⟨h,b⟩
abbrev oC:=@OI.cons
theorem OI.mem{Φ:Oper->Prop}:∀(l:List Oper),OI Φ l->∀o,o∈l->Φ o
 |[],_,o,b=>absurd b sI
 |x::l,h,o,b=>by
  rcases eA.mp b with rfl|b
  ·exact h.1
  exact OI.mem l h.2 o b
theorem OI.at{Φ:Oper->Prop}{c:Array Oper}(h:OI Φ c.toList)(i:Nat)(o:Oper)(b:c[i]?=some o):Φ o:=by rw[<-fZ]at b;exact OI.mem _ h o (mB b)
theorem tW{t:Nat}(h:∀t,t∈ops.toList.filterMap (·.dst)->T t (a.tmps.getD t undef) w)(b:ZZ ops t=false):T t (a.tmps.getD t undef) w:=by refine h t ?_;unfold ZZ at b;simpa[List.contains_iff_mem]using b
theorem kB(T:Nat->Value->World->Prop){id:Nat}{b:Act}{w0:World}(e:P.follows .mixedOrders=true)(d:II ops b.tmps.size=true)
 (f:∀t v w c,Below w.heap.size w c->T t v w->T t v c)
 (hop:OI (fun o=>∀a w,QX ops T b w0 o a w->IU P ops Q T o a w) ops.toList)
 (hend:∀a w,Below w0.heap.size w0 w->a.defers=b.defers->a.tmps.size=b.tmps.size->(∀t,t∉ops.toList.filterMap (·.dst)->a.tmps.getD t undef=b.tmps.getD t undef)->(∀t,t∈ops.toList.filterMap (·.dst)->T t (a.tmps.getD t undef) w)->Q .normal a w):
 (Code.region id ops true).wp P Q b w0:=
 aC7 T e d f (fun i o g=>OI.at hop i o g) hend
end

theorem eB(y:World)(o:Obj):Below y.heap.size y (y.alloc o):=(aG _ _).alloc (aH _) o
theorem aQP(y:World)(f:aQ)(u:Value)(h:eT y u f.args):bS (y.alloc (.cells #[.int .i64 f.g,u] 72)) (.slice (some ⟨y.heap.size,0,none⟩) 1 1) [f]:=by refine⟨_,_,rfl,⟨aH _,fun h=>by cases h⟩, .inr ⟨_,_,rfl,fun i c=>?_⟩⟩;(have b:i=0:=by simp at c;omega);subst b;exact⟨cH (iC y _),u,cH (iC y _),bC h (eB _ _)⟩
theorem Ym(y:World)(f g:aQ)(u v:Value)(h:eT y u f.args)(k:eT y v g.args):bS (y.alloc (.cells #[.int .i64 f.g,u, .int .i64 g.g,v] 72)) (.slice (some ⟨y.heap.size,0,none⟩) 2 2) [f,g]:=by
 refine⟨_,_,rfl,⟨aH _,fun h=>by cases h⟩, .inr ⟨_,_,rfl,fun i c=>?_⟩⟩;(have b:i=0\/i=1:=by simp at c;omega);rcases b with rfl|rfl
 ·exact⟨cH (iC y _),u,cH (iC y _),bC h (eB _ _)⟩
 exact⟨cH (iC y _),v,cH (iC y _),bC k (eB _ _)⟩
end Go.Proofs.YtfljoehbbncooaaGreat
namespace Go.Proofs.YtfljoehbbncooaaGreat
structure cB where
 j:List Int
 q:List Bool
def fH(x:List Int)(t:eE):Int:=if t.var<0 then t.n else x.getD t.var.toNat 0
def dO(ts:List eE)(x:List Int):List Int:=ts.map (fH x)
def mL(w:cB)(t:eE)(n:Int):Option cB:=
 if cY w.q t=true then(if fH w.j t=n then some w else none)
 else some ⟨w.j.set t.var.toNat n,w.q.set t.var.toNat true⟩
def iB:cB->List eE->List Int->Option cB
 |w,[],_=>some w
 |w,t::ts,ns=>match mL w t (ns.headD 0)with
  |none=>none
  |some b=>iB b ts ns.tail
def pS(w:cB)(x:List Int):Prop:=∀i:Nat,w.q.getD i false=true->w.j.getD i 0=x.getD i 0
structure lI (m:Nat) (w:cB):Prop where
 n:w.j.length=m
 k:w.q.length=m
def vA(m:Nat)(t:eE):Prop:=t.var<0\/t.var.toNat<m
def kV(m:Nat)(l:List eE):Prop:=∀t,t∈l->vA m t
theorem wW{α:Type}(l:List α)(i:Nat)(v d:α)(h:i<l.length):(l.set i v).getD i d=v:=by rw[aI,List.getElem?_set_self h];rfl
theorem pF{α:Type}(l:List α)(i j:Nat)(v d:α)(h:¬i=j):(l.set i v).getD j d=l.getD j d:=by rw[aI,List.getElem?_set_ne h,aI]
theorem oH{w:cB}{x:List Int}(h:pS w x){t:eE}(b:cY w.q t=true):fH w.j t=fH x t:=by
 unfold fH;split
 ·rfl
 rename_i c;refine h _ ?_;unfold cY at b;simpa[c]using b
theorem zF{w:cB}{t:eE}(b:¬cY w.q t=true):0<=t.var/\w.q.getD t.var.toNat false=false:=by unfold cY at b;simp only[Bool.or_eq_true,not_or,decide_eq_true_eq,Bool.not_eq_true]at b;exact⟨oM,b.2⟩
theorem NM{m:Nat}{w w':cB}{t:eE}{n:Int}(b:lI m w)(h:mL w t n=some w'):lI m w':=by
 unfold mL at h;split at h
 ·split at h
  ·injection h with h;subst h;exact b
  cases h
 injection h with h;subst h;exact⟨by simpa using b.n,by simpa using b.k⟩
theorem Ww{w w':cB}{t:eE}{n:Int}(h:mL w t n=some w'):w'.q=mN w.q t:=by
 unfold mL at h;split at h
 ·rename_i b;split at h
  ·injection h with h;subst h;symm;refine RM fun c _=>?_;unfold cY at b;simpa[show¬t.var<0 by omega]using b
  cases h
 rename_i b;injection h with h;subst h;unfold mN;rw[if_pos (zF b).1]
theorem aGU{m:Nat}{w:cB}{t:eE}{n:Int}{x:List Int}(p:lI m w)(ht:vA m t):(∃g,mL w t n=some g/\pS g x)↔pS w x/\fH x t=n:=by
 unfold mL;by_cases e:cY w.q t=true
 ·rw[if_pos e];constructor
  ·rintro⟨g,h,b⟩;split at h
   ·rename_i f;injection h with h;subst h;exact⟨b,by rw[<-oH b e];exact f⟩
   cases h
  rintro⟨b,f⟩;refine⟨w,?_,b⟩;rw[if_pos ((oH b e).trans f)]
 rw[if_neg e];obtain⟨u,r⟩:=zF e;(have l:t.var.toNat<m:=by rcases ht with h|h;omega;exact h);(have s:fH x t=x.getD t.var.toNat 0:=by unfold fH;rw[if_neg oM]);rw[s];constructor
 ·rintro⟨g,h,b⟩;injection h with h;subst h;refine⟨fun i d=>?_,?_⟩
  ·by_cases c:t.var.toNat=i
   ·subst c;rw[r]at d;cases d
   have :=b i (by show(w.q.set _ true).getD i false=true;rw[pF _ _ _ _ _ c];exact d);rw[<-this];show _=(w.j.set _ n).getD i 0;rw[pF _ _ _ _ _ c]
  have :=b t.var.toNat (by show(w.q.set _ true).getD _ false=true;rw[wW _ _ _ _ (by rw[p.k];exact l)]);rw[<-this];show(w.j.set _ n).getD _ 0=n;rw[wW _ _ _ _ (by rw[p.n];exact l)]
 rintro⟨b,f⟩;refine⟨_,rfl,fun i d=>?_⟩;by_cases c:t.var.toNat=i
 ·subst c;show(w.j.set _ n).getD _ 0=_;rw[wW _ _ _ _ (by rw[p.n];exact l),f]
 show(w.j.set _ n).getD i 0=_;rw[pF _ _ _ _ _ c];refine b i ?_;have :(w.q.set t.var.toNat true).getD i false=true:=d;rwa[pF _ _ _ _ _ c]at this
theorem wH{m:Nat}:∀{ts:List eE}{ns:List Int}{w w':cB},lI m w->iB w ts ns=some w'->lI m w'
 |[],_,_,_,c,h=>by unfold iB at h;injection h with h;subst h;exact c
 |t::ts,ns,w,w',c,h=>by
  unfold iB at h
  cases b:mL w t (ns.headD 0)with
  |none=>rw[b]at h;cases h
  |some d=>rw[b]at h;exact wH (NM c b) h
theorem FE:∀{ts:List eE}{ns:List Int}{w w':cB},iB w ts ns=some w'->w'.q=jE w.q ts
 |[],_,_,_,h=>by unfold iB at h;injection h with h;subst h;rfl
 |t::ts,ns,w,w',h=>by
  unfold iB at h
  cases b:mL w t (ns.headD 0)with
  |none=>rw[b]at h;cases h
  |some c=>
   rw[b]at h;rw[FE h,Ww b];rfl
theorem sV{m:Nat}{x:List Int}:∀{ts:List eE}{ns:List Int}{w:cB},lI m w->kV m ts->ts.length=ns.length->((∃b,iB w ts ns=some b/\pS b x)↔pS w x/\dO ts x=ns)
 |[],ns,w,_,_,e=>by
  have :ns=[]:=oJ.mp e.symm;subst this;constructor
  ·rintro⟨b,h,c⟩;unfold iB at h;injection h with h;subst h;exact⟨c,rfl⟩
  rintro⟨c,_⟩;exact⟨w,rfl,c⟩
 |t::ts,[],_,_,_,e=>by cases e
 |t::ts,n::ns,w,hw,hT,e=>by
  have l:=aGU (n:=n) (x:=x) hw (hT t dL);have p:kV m ts:=fun t ht=>hT t (bY _ ht);(have q:ts.length=ns.length:=by simpa using e);show(∃b,(match mL w t n with |none=>none|some f=>iB f ts ns)=some b/\pS b x)↔_;constructor
  ·rintro⟨b,h,c⟩
   cases d:mL w t n with
   |none=>rw[d]at h;cases h
   |some f=>
    rw[d]at h;obtain⟨g,i⟩:=(sV (NM hw d) p q).mp ⟨b,h,c⟩;obtain⟨s,k⟩:=l.mp ⟨f,d,g⟩;exact⟨s,by show fH x t::dO ts x=_;rw[k,i]⟩
  rintro⟨c,i⟩;have j:fH x t::dO ts x=n::ns:=i;injection j with k j;obtain⟨f,d,g⟩:=l.mpr ⟨c,k⟩;obtain⟨b,h,r⟩:=(sV (NM hw d) p q).mpr ⟨g,j⟩;refine⟨b,?_,r⟩;rw[d];exact h
def vX(c a b:Int):Bool:=if c=1 then decide (a<b)else if c=2 then decide (a<=b)else if c=3 then decide (a=b)else decide (a≠b)
def pV(c a b:Int):Int:=if c=5 then a+b else if c=6 then a-b else a*b
def pT(l:cX)(x:List Int):Int:=pV l.op (fH x (cQ l.v 0)) (fH x (cQ l.v 1))
def iF(facts:List aQ)(l:cX)(x:List Int):Bool:=
 if l.kind=1 then mJ facts ⟨l.g,dO l.v x⟩
 else if l.kind=2 then !mJ facts ⟨l.g,dO l.v x⟩
 else if l.kind=3 then vX l.op (fH x (cQ l.v 0)) (fH x (cQ l.v 1))
 else dJ (pT l x)&&decide (pT l x=fH x (cQ l.v 2))
def mO(facts:List aQ)(l:cX)(w:cB):List cB:=
 if l.kind=1 then facts.filterMap (fun f=>if f.g=l.g then iB w l.v f.args else none)
 else if l.kind=2 then(if mJ facts ⟨l.g,dO l.v w.j⟩=true then [] else [w])
 else if l.kind=3 then(if vX l.op (fH w.j (cQ l.v 0)) (fH w.j (cQ l.v 1))=true then [w] else [])
 else match iB w (l.v.drop 2) [pT l w.j]with
  |none=>[]
  |some b=>if dJ (pT l w.j)=true then [b] else []
def iT(w:cB)(l:cX):Bool:=
 if l.kind=1 then true
 else if l.kind=4 then cY w.q (cQ l.v 0)&&cY w.q (cQ l.v 1)
 else l.v.all (cY w.q)
structure Vw (m:Nat) (facts:List aQ) (l:cX):Prop where
 t:kV m l.v
 k:l.kind=1\/l.kind=2\/l.kind=3\/l.kind=4
 k3:l.kind=3->l.v.length=2
 k4:l.kind=4->l.v.length=3
 a:l.kind=1->∀f,f∈facts->f.g=l.g->l.v.length=f.args.length
theorem OO{w:cB}{x:List Int}(b:pS w x){ts:List eE}(h:ts.all (cY w.q)=true):dO ts w.j=dO ts x:=by unfold dO;refine List.map_congr_left fun t ht=>oH b ?_;exact fA.mp h t ht
theorem pD{l:List eE}{i:Nat}(h:i<l.length):cQ l i∈l:=by unfold cQ;rw[aI,aM h];exact fG h
theorem LR{l:List eE}(h:l.length=3):l.drop 2=[cQ l 2]:=by
 match l,h with
 |[a,b,c],_=>rfl
theorem aVG{m:Nat}{facts:List aQ}{l:cX}{w:cB}{x:List Int}(G:lI m w)(n:Vw m facts l)(hr:iT w l=true):(∃e,e∈mO facts l w/\pS e x)↔pS w x/\iF facts l x=true:=by
 unfold mO iF;by_cases p:l.kind=1
 ·rw[if_pos p,if_pos p,qD];constructor
  ·rintro⟨e,c,b⟩;obtain⟨f,g,F⟩:=lW.mp c;split at F
   ·rename_i N;obtain⟨s,R⟩:=(sV G n.t (n.a p f g N)).mp ⟨e,F,b⟩;refine⟨s,?_⟩;rw[R,<-N];exact g
   cases F
  rintro⟨b,g⟩;obtain⟨e,H,E⟩:=(sV (ns:=dO l.v x) (x:=x) G n.t (by unfold dO;simp)).mpr ⟨b,rfl⟩;refine⟨e,lW.mpr ⟨_,g,?_⟩,E⟩;rw[if_pos rfl];exact H
 rw[if_neg p,if_neg p];unfold iT at hr;rw[if_neg p]at hr;by_cases r:l.kind=2
 ·rw[if_pos r,if_pos r];rw[if_neg oM]at hr;constructor
  ·rintro⟨e,c,b⟩;split at c
   ·cases c
   rename_i d;rcases cP.mp c with rfl;refine⟨b,?_⟩;rw[<-OO b hr];simpa using d
  rintro⟨b,d⟩;refine⟨w,?_,b⟩;rw[<-OO b hr]at d;rw[if_neg (by simpa using d)];exact cP.mpr rfl
 rw[if_neg r,if_neg r];by_cases q:l.kind=3
 ·rw[if_pos q,if_pos q];rw[if_neg oM]at hr;have u:=fA.mp hr;have I:=pD (l:=l.v) (i:=0) (by rw[n.k3 q];omega);have J:=pD (l:=l.v) (i:=1) (by rw[n.k3 q];omega);constructor
  ·rintro⟨e,c,b⟩;split at c
   ·rename_i d;rcases cP.mp c with rfl;refine⟨b,?_⟩;rw[<-oH b (u _ I),<-oH b (u _ J)];exact d
   cases c
  rintro⟨b,d⟩;refine⟨w,?_,b⟩;rw[<-oH b (u _ I),<-oH b (u _ J)]at d;rw[if_pos d];exact cP.mpr rfl
 rw[if_neg q,if_neg q];(have K:l.kind=4:=by rcases n.k with h|h|h|h<;>first|exact h|contradiction);rw[if_pos K,eI]at hr;(have D:pS w x->pT l w.j=pT l x:=fun b=>by unfold pT;rw[oH b hr.1,oH b hr.2]);have L:=LR (n.k4 K);have P:kV m (l.v.drop 2):=fun t ht=>n.t t (uV ht);have C:=sV (ns:=[pT l w.j]) (x:=x) G P (by rw[L];rfl);(have Q:dO (l.v.drop 2) x=[fH x (cQ l.v 2)]:=by rw[L];rfl);rw[Q]at C;constructor
 ·rintro⟨e,c,b⟩;split at c
  ·cases c
  rename_i T S;split at c
  ·rename_i M;rcases cP.mp c with rfl;obtain⟨s,g⟩:=C.mp ⟨_,S,b⟩;injection g with g _;refine⟨s,?_⟩;rw[D s]at M g;rw[M,g];simp
  cases c
 rintro⟨b,d⟩;rw[eI,BL]at d;obtain⟨e,H,E⟩:=C.mpr ⟨b,by rw[D b,d.2]⟩;refine⟨e,?_,E⟩;rw[H];show e∈if dJ (pT l w.j)=true then [e] else [];rw[if_pos (by rw[D b];exact d.1)];exact cP.mpr rfl
theorem UU{m:Nat}{facts:List aQ}{l:cX}{w w':cB}(b:lI m w)(h:w'∈mO facts l w):lI m w':=by
 unfold mO at h;split at h
 ·obtain⟨f,_,c⟩:=lW.mp h;split at c
  ·exact wH b c
  cases c
 split at h
 ·split at h
  ·cases h
  rcases cP.mp h with rfl;exact b
 split at h
 ·split at h
  ·rcases cP.mp h with rfl;exact b
  cases h
 split at h
 ·cases h
 rename_i e d;split at h
 ·rcases cP.mp h with rfl;exact wH b d
 cases h
theorem aKA{m:Nat}{facts:List aQ}{l:cX}{w w':cB}(i:Vw m facts l)(hr:iT w l=true)(h:w'∈mO facts l w):w'.q=fS w.q l:=by
 unfold mO at h;unfold fS oO;split at h
 ·rename_i b;rw[if_pos b];obtain⟨f,_,c⟩:=lW.mp h;split at c
  ·exact FE c
  cases c
 rename_i b;rw[if_neg b];split at h
 ·rename_i e;rw[if_neg oM];split at h
  ·cases h
  rcases cP.mp h with rfl;rfl
 rename_i e;split at h
 ·rename_i g;rw[if_neg oM];split at h
  ·rcases cP.mp h with rfl;rfl
  cases h
 rename_i g;(have d:l.kind=4:=by rcases i.k with h|h|h|h<;>first|exact h|contradiction);unfold iT at hr;rw[if_neg b,if_pos d,eI]at hr;rw[if_pos ⟨d,hr.1,hr.2⟩];split at h
 ·cases h
 rename_i n j;split at h
 ·rcases cP.mp h with rfl;exact FE j
 cases h
def tX(a b:cB):Prop:=∀x:List Int,pS a x->pS b x->False
theorem aJ9{m:Nat}{facts:List aQ}{l:cX}{w:cB}(n:lI m w)(c:Vw m facts l)(E:facts.Nodup):(mO facts l w).Pairwise tX:=by
 unfold mO;split
 ·rename_i i;rw[List.pairwise_filterMap];refine BM ?_ E;intro f g u D C a d b e x r s;split at d
  ·rename_i j;split at e
   ·rename_i k;have p:=((sV n c.t (c.a i f u j)).mp ⟨a,d,r⟩).2;have q:=((sV n c.t (c.a i g D k)).mp ⟨b,e,s⟩).2;apply C;obtain⟨G,F⟩:=f;obtain⟨I,H⟩:=g;dsimp only at *;rw[j,k,<-p,<-q]
   cases e
  cases d
 split
 ·split
  ·exact List.Pairwise.nil
  exact uT _ _
 split
 ·split
  ·exact uT _ _
  exact List.Pairwise.nil
 split
 ·exact List.Pairwise.nil
 split
 ·exact uT _ _
 exact List.Pairwise.nil
end Go.Proofs.YtfljoehbbncooaaGreat
namespace Go.Proofs.YtfljoehbbncooaaGreat
def tI(facts:List aQ)(w:cB)(l:cX)(i:Nat)(a:Nat×Int):Nat×Int:=
 if iT w l=true then(if a.2<0\/((mO facts l w).length:Int)<a.2 then(i,((mO facts l w).length:Int))else a)else a
def uB(facts:List aQ)(w:cB):List cX->Nat->Nat×Int->Nat×Int
 |[],_,a=>a
 |l::r,i,a=>uB facts w r (i+1) (tI facts w l i a)
def sS(facts:List aQ)(body:List cX)(w:cB):Nat:=(uB facts w body 0 (0, -1)).1
def lA(facts:List aQ):Nat->List cX->cB->List cB
 |0,_,w=>[w]
 |n+1,b,w=>(mO facts (dR b (sS facts b w)) w).flatMap (lA facts n (b.eraseIdx (sS facts b w)))
def uM(facts:List aQ)(body:List cX)(w:cB):List cB:=lA facts body.length body w
def Kw(w:cB)(body:List cX)(a:Nat×Int):Prop:=0<=a.2/\a.1<body.length/\iT w (dR body a.1)=true
theorem UQ{a b:List cX}{i:Nat}(h:i<a.length):dR (a++b) i=dR a i:=by unfold dR;rw[aI,aI,lB h]
theorem aGI(a:List cX)(x:cX):dR (a++[x]) a.length=x:=by unfold dR;rw[aI,kS (aH _)];simp
theorem OS(facts:List aQ)(w:cB):∀(r b:List cX)(a:Nat×Int),(Kw w b a\/(a.2<0/\a.1=0/\∀l,l∈b->iT w l=false))->
 Kw w (b++r) (uB facts w r b.length a)\/((uB facts w r b.length a).2<0/\(uB facts w r b.length a).1=0/\∀l,l∈b++r->iT w l=false)
 |[],b,a,h=>by rw[iZ];exact h
 |l::r,b,a,h=>by
  (have e:b++l::r=(b++[l])++r:=by simp);(have f:b.length+1=(b++[l]).length:=by simp);show Kw w (b++l::r) (uB facts w r (b.length+1) (tI facts w l b.length a))\/_;rw[e];show _\/((uB facts w r (b.length+1) (tI facts w l b.length a)).2<0/\(uB facts w r (b.length+1) (tI facts w l b.length a)).1=0/\_);rw[f];refine OS facts w r (b++[l]) _ ?_;unfold tI;by_cases d:iT w l=true
  ·rw[if_pos d];left;split
   ·exact⟨by simp,by simp,by show iT w (dR (b++[l]) b.length)=true;rw[aGI];exact d⟩
   rename_i g;rcases h with h|h
   ·exact⟨h.1,by have :=h.2.1;simp;omega,by rw[UQ h.2.1];exact h.2.2⟩
   exact absurd (Or.inl h.1) g
  rw[if_neg d];rcases h with h|h
  ·exact .inl ⟨h.1,by have :=h.2.1;simp;omega,by rw[UQ h.2.1];exact h.2.2⟩
  refine .inr ⟨h.1,h.2.1,fun x c=>?_⟩;rcases cW.mp c with c|c
  ·exact h.2.2 x c
  rcases cP.mp c with rfl;simpa using d
theorem aPR(facts:List aQ)(body:List cX)(w:cB)(h:∃l,l∈body/\iT w l=true):sS facts body w<body.length/\iT w (dR body (sS facts body w))=true:=by
 have b:=OS facts w body [] (0, -1) (.inr ⟨dE,rfl,fun l c=>absurd c sI⟩);rw[uN]at b;rcases b with b|b
 ·exact b.2
 obtain⟨l,c,d⟩:=h;rw[b.2.2 l c]at d;cases d
def LQ(b c:List Bool):Prop:=∀i:Nat,b.getD i false=true->c.getD i false=true
theorem aJW{b c:List Bool}(h:LQ b c)(t:eE)(g:b.length<=c.length):LQ (mN b t) (mN c t):=by
 unfold mN;split
 ·intro i d;by_cases e:t.var.toNat=i
  ·subst e;by_cases f:t.var.toNat<b.length
   ·exact wW _ _ _ _ oM
   rw[List.set_eq_of_length_le oM]at d;rw[aI,dK oM]at d;simp at d
  rw[pF _ _ _ _ _ e]at d ⊢;exact h i d
 exact h
theorem YX:∀(l:List eE){b c:List Bool},LQ b c->b.length<=c.length->LQ (jE b l) (jE c l)
 |[],_,_,h,_=>h
 |t::l,b,c,h,hl=>by show LQ (jE (mN b t) l) (jE (mN c t) l);refine YX l (aJW h t hl) ?_;rw[<-(NN b t).1,<-(NN c t).1];exact hl
theorem Om{b c:List Bool}(h:LQ b c){t:eE}(d:cY b t=true):cY c t=true:=VE h t d
theorem aGS{b c:List Bool}(h:LQ b c){l:cX}(hr:jF b l=true):jF c l=true:=by
 unfold jF at hr ⊢;rcases yQ _ _▸hr with d|d
 ·simp[d]
 simp only[Bool.and_eq_true]at d;simp[d.1.1,Om h d.1.2,Om h d.2]
theorem aBN{b c:List Bool}(h:LQ b c)(f:b.length<=c.length)(l:cX):LQ (fS b l) (fS c l):=by
 unfold fS;rw[BF,BF];by_cases d:jF b l=true
 ·rw[if_pos d,if_pos (aGS h d)];exact YX _ h f
 rw[if_neg d];intro i e;exact(GX _ c).2 i (h i e)
theorem NG(b:List Bool)(l:cX):(fS b l).length=b.length:=(GY b l).1.symm
theorem Pc:∀(body:List cX){b c:List Bool},LQ b c->b.length<=c.length->LQ (bH body b) (bH body c)
 |[],_,_,h,_=>h
 |l::body,b,c,h,hl=>by show LQ (bH body (fS b l)) (bH body (fS c l));exact Pc body (aBN h hl l) (by rw[NG,NG];exact hl)
theorem DG(body:List cX)(b:List Bool):(bH body b).length=b.length:=(qV body b).1.symm
theorem Gd(body:List cX):∀(n:Nat){b c:List Bool},LQ b c->b.length<=c.length->LQ (jZ body n b) (jZ body n c)
 |0,_,_,h,_=>h
 |n+1,b,c,h,d=>Gd body n (Pc body h d) (by rw[DG,DG];exact d)
theorem PS(body:List cX):∀(n:Nat)(b:List Bool),(jZ body n b).length=b.length
 |0,_=>rfl
 |n+1,b=>by show(jZ body n (bH body b)).length=_;rw[PS body n,DG]
theorem UZ{r:cA}(e:xS r=true){K:List Bool}(m:r.vars.toNat<=K.length)(k:bH r.body K=K)(i:Nat)(l:i<r.vars.toNat):K.getD i false=true:=by(have f:LQ (List.replicate r.vars.toNat false) K:=fun j b=>by rw[aI,rN]at b;split at b<;>simp at b);have c:=Gd r.body r.body.length f (by simpa using m);rw[CX _ _ _ k]at c;refine c i ?_;unfold xS at e;have g:=fA.mp e;(have d:i<(jZ r.body r.body.length (List.replicate r.vars.toNat false)).length:=by rw[PS];simpa using l);rw[aI,aM d];exact g _ (fG d)
structure uZ (r:cA) (K:List Bool) (R:List cX):Prop where
 sub:∀l,l∈R->l∈r.body
 done:∀l,l∈r.body->l∈R\/((l.kind=1\/l.kind=4)->RL K (Bk l))
structure aDR (facts:List aQ) (r:cA):Prop where
 safe:xS r=true
 v8:r.vars.toNat<=8
 lit:∀l,l∈r.body->Vw r.vars.toNat facts l
theorem Rx{m n:Nat}{l:List eE}(h:kV m l)(b:m<=n):kV n l:=fun t ht=>by
 rcases h t ht with h|h
 ·exact .inl h
 exact .inr (dS h b)
theorem Vw.mono{m n:Nat}{facts:List aQ}{l:cX}(h:Vw m facts l)(b:m<=n):Vw n facts l:=⟨Rx h.t b,h.k,h.k3,h.k4,h.a⟩
theorem Fk{m:Nat}{K:List Bool}{l:List eE}(h:kV m l)(b:∀i,i<m->K.getD i false=true):∀t,t∈l->cY K t=true:=fun t ht=>by
 unfold cY;rcases h t ht with h|h
 ·simp[h]
 simp only[b _ h,Bool.or_true]
theorem aBV{facts:List aQ}{r:cA}{w:cB}{R:List cX}(e:aDR facts r)(x:lI 8 w)(g:uZ r w.q R)(u:R≠[]):∃l,l∈R/\iT w l=true:=by
 refine Classical.byContradiction fun s=>?_;have j:∀l,l∈R->¬iT w l=true:=fun l c b=>s ⟨l,c,b⟩;have p:bH r.body w.q=w.q:=FF _ _ fun l c b=>by
  rcases g.done l c with h|h
  ·refine absurd ?_ (j l h);unfold jF at b;unfold iT;by_cases d:l.kind=1
   ·rw[if_pos d]
   rw[if_neg d];simp only[Bool.or_eq_true,Bool.and_eq_true,beq_iff_eq,d,false_or]at b;rw[if_pos b.1.1,b.1.2,b.2];rfl
  refine h ?_;unfold jF at b;simp only[Bool.or_eq_true,Bool.and_eq_true,beq_iff_eq]at b;rcases b with b|b
  ·exact .inl b
  exact .inr b.1.1
 have n:=UZ e.safe (by rw[x.k];exact e.v8) p;obtain⟨l,c⟩:∃l,l∈R:=by
  cases R with
  |nil=>exact absurd rfl u
  |cons a _=>exact⟨a,dL⟩
 have i:=e.lit l (g.sub l c);have f:=Fk i.t n;refine j l c ?_;unfold iT;split
 ·rfl
 split
 ·rename_i m;have C:=i.k4 m;rw[f _ (pD oM),f _ (pD oM)];rfl
 exact fA.mpr f
theorem zN{facts:List aQ}{r:cA}{w w':cB}{R:List cX}{i:Nat}(f:uZ r w.q R)(C:i<R.length)(hr:iT w (dR R i)=true)(x:w'∈mO facts (dR R i) w)(s:Vw r.vars.toNat facts (dR R i)):uZ r w'.q (R.eraseIdx i):=by
 have n:=aKA s hr x;refine⟨fun l c=>f.sub l (Jy c),fun l c=>?_⟩;(have u:qU w.q w'.q:=by rw[n];exact GY _ _);rcases f.done l c with h|h
 ·by_cases g:l=dR R i
  ·right;intro b;rw[g]at b ⊢;rw[n];unfold fS;rw[BF,if_pos ?_]
   ·exact LZ _ _
   unfold jF;unfold iT at hr;rcases b with p|d
   ·simp[p]
   rw[if_neg oM,if_pos d]at hr;simp only[d];rw[eI]at hr;simp[hr.1,hr.2]
  left;obtain⟨j,k,m⟩:=TN.mp h;rw[List.mem_eraseIdx_iff_getElem];refine⟨j,k,fun e=>g ?_,m⟩;subst e;unfold dR;rw[aI,aM k,m];rfl
 exact .inr fun b=>(h b).le u
theorem BW{R:List cX}{i:Nat}(h:i<R.length):dR R i∈R:=by unfold dR;rw[aI,aM h];exact fG h
theorem aGL{R:List cX}{i:Nat}(k:i<R.length)(P:cX->Prop):(∀l,l∈R->P l)↔P (dR R i)/\∀l,l∈R.eraseIdx i->P l:=by
 constructor
 ·exact fun h=>⟨h _ (BW k),fun l b=>h l (Jy b)⟩
 rintro⟨f,g⟩ l b;obtain⟨j,c,d⟩:=TN.mp b;by_cases e:j=i
 ·subst e;(have :l=dR R j:=by unfold dR;rw[aI,aM c,d];rfl);rw[this];exact f
 exact g l (by rw[List.mem_eraseIdx_iff_getElem];exact⟨j,c,e,d⟩)
theorem BV{R:List cX}{i n:Nat}(b:i<R.length)(h:R.length=n+1):(R.eraseIdx i).length=n:=by rw[List.length_eraseIdx,if_pos b];omega
section
variable {facts:List aQ} {r:cA}
theorem KE(d:aDR facts r){n:Nat}{R:List cX}{w:cB}(f:R.length=n+1)(i:lI 8 w)(c:uZ r w.q R):
 sS facts R w<R.length/\iT w (dR R (sS facts R w))=true/\Vw r.vars.toNat facts (dR R (sS facts R w)):=by
 obtain⟨b,g⟩:=aPR facts R w (aBV d i c (fun e=>by rw[e]at f;cases f));exact⟨b,g,d.lit _ (c.sub _ (BW b))⟩
theorem BU(i:aDR facts r)(x:List Int):∀(n:Nat)(R:List cX)(w:cB),R.length=n->lI 8 w->uZ r w.q R->((∃b,b∈lA facts n R w/\pS b x)↔pS w x/\∀l,l∈R->iF facts l x=true)
 |0,R,w,e,_,_=>by
  have :R=[]:=oJ.mp e;subst this;constructor
  ·rintro⟨b,h,d⟩;rcases cP.mp h with rfl;exact⟨d,fun l e=>absurd e sI⟩
  rintro⟨d,_⟩;exact⟨w,cP.mpr rfl,d⟩
 |n+1,R,w,e,j,p=>by
  obtain⟨f,u,s⟩:=KE i e j p;have C:=aVG (x:=x) j (s.mono i.v8) u;rw[aGL f];show(∃b,b∈(mO facts (dR R (sS facts R w)) w).flatMap (lA facts n (R.eraseIdx (sS facts R w)))/\pS b x)↔_;constructor
  ·rintro⟨b,h,d⟩;obtain⟨g,c,F⟩:=jX.mp h;obtain⟨k,m⟩:=(BU i x n _ g (BV f e) (UU j c) (zN p f u c s)).mp ⟨b,F,d⟩;obtain⟨D,E⟩:=C.mp ⟨g,c,k⟩;exact⟨D,E,m⟩
  rintro⟨d,k,m⟩;obtain⟨g,c,H⟩:=C.mpr ⟨d,k⟩;obtain⟨b,h,G⟩:=(BU i x n _ g (BV f e) (UU j c) (zN p f u c s)).mpr ⟨H,m⟩;exact⟨b,jX.mpr ⟨g,c,h⟩,G⟩
theorem UM(d:aDR facts r)(p:facts.Nodup):∀(n:Nat)(R:List cX)(w:cB),R.length=n->lI 8 w->uZ r w.q R->(lA facts n R w).Pairwise tX
 |0,_,_,_,_,_=>uT _ _
 |n+1,R,w,i,e,f=>by obtain⟨c,j,g⟩:=KE d i e f;show((mO facts (dR R (sS facts R w)) w).flatMap (lA facts n (R.eraseIdx (sS facts R w)))).Pairwise tX;rw[List.pairwise_flatMap];refine⟨fun H k=>UM d p n _ H (BV c i) (UU e k) (zN f c j k g),?_⟩;refine BM ?_ (aJ9 e (g.mono d.v8) p);intro a b l m C x D y E z F G;have s:=((BU d z n _ a (BV c i) (UU e l) (zN f c j l g)).mp ⟨x,D,F⟩).1;have u:=((BU d z n _ b (BV c i) (UU e m) (zN f c j m g)).mp ⟨y,E,G⟩).1;exact C z s u
structure sQ (m:Nat) (w:cB):Prop where
 wf:lI 8 w
 lo:∀i,w.q.getD i false=true->i<m
 nm:∀i,w.q.getD i false=true->dJ (w.j.getD i 0)=true
theorem aB4{m:Nat}{w w':cB}{t:eE}{n:Int}(hg:sQ m w)(ht:vA m t)(k:m<=8)(g:dJ n=true)(h:mL w t n=some w'):sQ m w':=by
 refine⟨NM hg.wf h,fun i b=>?_,fun i b=>?_⟩<;>unfold mL at h<;>split at h
 ·split at h
  ·injection h with h;subst h;exact hg.lo i b
  cases h
 ·rename_i d;injection h with h;subst h;by_cases c:t.var.toNat=i
  ·have e:=(zF d).1;rcases ht with h|h<;>omega
  refine hg.lo i ?_;have :(w.q.set t.var.toNat true).getD i false=true:=b;rwa[pF _ _ _ _ _ c]at this
 ·split at h
  ·injection h with h;subst h;exact hg.nm i b
  cases h
 rename_i d;injection h with h;subst h;show dJ ((w.j.set t.var.toNat n).getD i 0)=true;by_cases c:t.var.toNat=i
 ·have e:=(zF d).1;(have f:t.var.toNat<w.j.length:=by rw[hg.wf.n];rcases ht with h|h<;>omega);rw[<-c,wW _ _ _ _ f];exact g
 rw[pF _ _ _ _ _ c];refine hg.nm i ?_;have :(w.q.set t.var.toNat true).getD i false=true:=b;rwa[pF _ _ _ _ _ c]at this
theorem OX{m:Nat}(e:m<=8):∀{ts:List eE}{ns:List Int}{w w':cB},sQ m w->kV m ts->(∀n,n∈ns->dJ n=true)->ts.length=ns.length->iB w ts ns=some w'->sQ m w'
 |[],_,_,_,d,_,_,_,h=>by unfold iB at h;injection h with h;subst h;exact d
 |t::ts,[],_,_,_,_,_,hl,_=>by cases hl
 |t::ts,n::ns,w,w',d,hT,hN,hl,h=>by
  have b:(match mL w t n with |none=>none|some f=>iB f ts ns)=some w':=h
  cases c:mL w t n with
  |none=>rw[c]at b;cases b
  |some f=>
   rw[c]at b;exact OX e (aB4 d (hT t dL) e (hN n dL) c) (fun t ht=>hT t (bY _ ht)) (fun n g=>hN n (bY _ g)) (by simpa using hl) b
theorem Wj{m:Nat}{l:cX}{w w':cB}(g:m<=8)(hg:sQ m w)(b:Vw m facts l)(j:∀f,f∈facts->∀n,n∈f.args->dJ n=true)(h:w'∈mO facts l w):sQ m w':=by
 unfold mO at h;split at h
 ·rename_i d;obtain⟨f,e,c⟩:=lW.mp h;split at c
  ·rename_i s;exact OX g hg b.t (j f e) (b.a d f e s) c
  cases c
 split at h
 ·split at h
  ·cases h
  rcases cP.mp h with rfl;exact hg
 split at h
 ·split at h
  ·rcases cP.mp h with rfl;exact hg
  cases h
 split at h
 ·cases h
 rename_i d x C _ D u;(have i:l.kind=4:=by rcases b.k with h|h|h|h<;>first|exact h|contradiction);have p:=LR (b.k4 i);split at h
 ·rename_i q;rcases cP.mp h with rfl;exact OX g hg (fun t ht=>b.t t (uV ht)) (fun n r=>by rcases cP.mp r with rfl;exact q) (by rw[p];rfl) u
 cases h
theorem AB(e:aDR facts r)(j:∀f,f∈facts->∀n,n∈f.args->dJ n=true):∀(n:Nat)(R:List cX)(w w':cB),R.length=n->sQ r.vars.toNat w->uZ r w.q R->w'∈lA facts n R w->sQ r.vars.toNat w'/\uZ r w'.q []
 |0,R,w,w',d,c,b,h=>by have :R=[]:=oJ.mp d;subst this;rcases cP.mp h with rfl;exact⟨c,b⟩
 |n+1,R,w,w',d,c,b,h=>by obtain⟨k,p,i⟩:=KE e d c.wf b;have l:w'∈(mO facts (dR R (sS facts R w)) w).flatMap (lA facts n (R.eraseIdx (sS facts R w))):=h;obtain⟨s,g,m⟩:=jX.mp l;exact AB e j n _ s w' (BV k d) (Wj e.v8 c i j g) (zN b k p g i) m
theorem Oq(c:aDR facts r){w:cB}(hg:sQ r.vars.toNat w)(d:uZ r w.q [])(i:Nat)(e:i<r.vars.toNat):w.q.getD i false=true:=by
 refine UZ c.safe (by rw[hg.wf.k];exact c.v8) (FF _ _ fun l f b=>?_) i e;rcases d.done l f with h|h
 ·exact absurd h sI
 refine h ?_;unfold jF at b;simp only[Bool.or_eq_true,Bool.and_eq_true,beq_iff_eq]at b;rcases b with b|b
 ·exact .inl b
 exact .inr b.1.1
end
def yM:cB:=⟨List.replicate 8 0,List.replicate 8 false⟩
def kF(facts:List aQ)(r:cA):List (List Int):=(uM facts r.body yM).map fun w=>w.j.take r.vars.toNat
def sJ(facts:List aQ)(r:cA)(x:List Int):Prop:=x.length=r.vars.toNat/\∀l,l∈r.body->iF facts l x=true
theorem OU(i:Nat):yM.q.getD i false=false:=by show(List.replicate 8 false).getD i false=false;rw[aI,rN];split<;>rfl
theorem vY(m:Nat):sQ m yM:=⟨⟨rfl,rfl⟩,fun i b=>(by rw[OU]at b;cases b),fun i b=>(by rw[OU]at b;cases b)⟩
theorem aKH(x:List Int):pS yM x:=fun i b=>by rw[OU]at b;cases b
theorem vZ(r:cA):uZ r yM.q r.body:=⟨fun _ h=>h,fun _ h=>.inl h⟩
theorem KF{x:List Int}{m i:Nat}(h:i<m):(x.take m).getD i 0=x.getD i 0:=by rw[aI,List.getElem?_take_of_lt h,aI]
theorem UO{m:Nat}{w:cB}(hg:sQ m w):pS w (w.j.take m):=fun i b=>by rw[KF (hg.lo i b)]
theorem aKG{m:Nat}{w:cB}{x:List Int}(hg:sQ m w)(p:m<=8)(k:∀i,i<m->w.q.getD i false=true)(e:x.length=m)(g:pS w x):w.j.take m=x:=by(have l:(w.j.take m).length=m:=by rw[dV,hg.wf.n];omega);refine JL (by rw[l,e]) fun i f c=>?_;(have d:i<m:=by rw[<-e];exact c);have b:=g i (k i d);rw[<-KF (m:=m) d]at b;rw[aI,aM f,aI,aM c]at b;exact b
section
variable {facts:List aQ} {r:cA}
theorem tH(b:aDR facts r)(g:∀f,f∈facts->∀n,n∈f.args->dJ n=true)(x:List Int):x∈kF facts r↔sJ facts r x:=by
 unfold kF;rw[cJ];constructor
 ·rintro⟨w,d,rfl⟩;obtain⟨c,e⟩:=AB b g _ _ _ w rfl (vY _) (vZ r) d;obtain⟨_,h⟩:=(BU b (w.j.take r.vars.toNat) _ _ _ rfl (vY 8).wf (vZ r)).mp ⟨w,d,UO c⟩;refine⟨?_,h⟩;rw[dV,c.wf.n];have :=b.v8;omega
 rintro⟨k,h⟩;obtain⟨w,d,i⟩:=(BU b x _ _ _ rfl (vY 8).wf (vZ r)).mpr ⟨aKH x,h⟩;obtain⟨c,e⟩:=AB b g _ _ _ w rfl (vY _) (vZ r) d;exact⟨w,d,aKG c b.v8 (Oq b c e) k i⟩
theorem wD(c:aDR facts r)(d:∀f,f∈facts->∀n,n∈f.args->dJ n=true)(p:facts.Nodup):(kF facts r).Nodup:=by unfold kF List.Nodup;rw[vL];refine BM ?_ (UM c p _ _ _ rfl (vY 8).wf (vZ r));intro a b g k i e;obtain⟨l,_⟩:=AB c d _ _ _ a rfl (vY _) (vZ r) g;obtain⟨m,_⟩:=AB c d _ _ _ b rfl (vY _) (vZ r) k;exact i (a.j.take r.vars.toNat) (UO l) (by rw[e];exact UO m)
theorem Pg(b:aDR facts r)(c:∀f,f∈facts->∀n,n∈f.args->dJ n=true){x:List Int}(h:sJ facts r x):∀n,n∈x->dJ n=true:=by obtain⟨w,l,rfl⟩:=cJ.mp ((tH b c x).mpr h);obtain⟨d,j⟩:=AB b c _ _ _ w rfl (vY _) (vZ r) l;intro n k;obtain⟨i,e,rfl⟩:=TN.mp k;(have g:i<r.vars.toNat:=by rw[dV]at e;omega);have :=d.nm i (Oq b d j i g);rw[<-KF g,aI,aM e]at this;exact this
end
end Go.Proofs.YtfljoehbbncooaaGreat

namespace Go.Proofs.YtfljoehbbncooaaGreat
def BD(L:List (List Int)):List (List Int):=(eZ (L.map (aQ.mk 0))).map (·.args)
theorem aDT(x y:List Int):eU ⟨0,x⟩ ⟨0,y⟩=fP x y:=by unfold eU;rw[if_pos (EX 0)]
theorem RJ{L:List (List Int)}{f:aQ}(h:f∈eZ (L.map (aQ.mk 0))):f=⟨0,f.args⟩/\f.args∈L:=by obtain⟨x,b,rfl⟩:=cJ.mp (lM.mp h);exact⟨rfl,b⟩
theorem LV{L:List (List Int)}{x:List Int}:x∈BD L↔x∈L:=by
 unfold BD;rw[cJ];constructor
 ·rintro⟨f,b,rfl⟩;exact(RJ b).2
 intro h;exact⟨⟨0,x⟩,lM.mpr (cJ.mpr ⟨x,h,rfl⟩),rfl⟩
def aF7(s:List (List Int)):Prop:=s.Pairwise fun x y=>fP x y<0
theorem aDV(L:List (List Int)):aF7 (BD L):=by unfold aF7 BD;rw[vL];refine BM ?_ (kU (L.map (aQ.mk 0))).1;intro f g c d h;have b:eU f g<0:=h;rw[(RJ c).1,(RJ d).1,aDT]at b;exact b
theorem aDU{s L:List (List Int)}(j:aF7 s)(h:∀x,x∈s↔x∈L):s=BD L:=by
 (have e:dD (s.map (aQ.mk 0)):=by unfold dD;rw[vL];exact j.imp fun {a b} i=>by show eU _ _<0;rw[aDT];exact i);have g:s.map (aQ.mk 0)=eZ (L.map (aQ.mk 0)):=IW ⟨e,fun f=>by
  constructor
  ·intro c;obtain⟨x,d,rfl⟩:=cJ.mp c;exact cJ.mpr ⟨x,(h x).mp d,rfl⟩
  intro c;obtain⟨x,d,rfl⟩:=cJ.mp c
  exact cJ.mpr ⟨x,(h x).mpr d,rfl⟩⟩
 unfold BD;rw[<-g,List.map_map];exact(List.map_id' s).symm
theorem aGT(L:List (List Int)):(BD L).Nodup:=by refine(aDV L).imp ?_;intro a b h e;rw[zM.mpr e]at h;omega
theorem IZ{L:List (List Int)}(b:L.Nodup):(BD L).Perm L:=(sB (aGT L) b).mpr fun _=>LV
def sF:List Int->Int
 |[]=>0
 |a::r=>r.foldl (fun m x=>if x<m then x else m) a
def sE:List Int->Int
 |[]=>0
 |a::r=>r.foldl (fun m x=>if m<x then x else m) a
def gL(f:Int)(l:List Int):Int:=if f=1 then(l.length:Int)else if f=3 then sF l else if f=4 then sE l else l.sum
theorem aJY(r:List Int):∀a:Int,(r.foldl (fun m x=>if x<m then x else m) a=a\/r.foldl (fun m x=>if x<m then x else m) a∈r)/\r.foldl (fun m x=>if x<m then x else m) a<=a/\∀x,x∈r->r.foldl (fun m x=>if x<m then x else m) a<=x:=by
 induction r with
 |nil=>exact fun a=>⟨.inl rfl,CN _,fun x d=>absurd d sI⟩
 |cons b r g=>
  intro a;obtain⟨c,e,f⟩:=g (if b<a then b else a);simp only[List.foldl_cons];refine⟨?_,?_,?_⟩
  ·rcases c with c|c
   ·rw[c];split
    ·exact .inr dL
    exact .inl rfl
   exact .inr (bY _ c)
  ·refine JS e ?_;split<;>omega
  intro x d;rcases eA.mp d with rfl|d
  ·refine JS e ?_;split<;>omega
  exact f x d
theorem aJX(r:List Int):∀a:Int,(r.foldl (fun m x=>if m<x then x else m) a=a\/r.foldl (fun m x=>if m<x then x else m) a∈r)/\a<=r.foldl (fun m x=>if m<x then x else m) a/\∀x,x∈r->x<=r.foldl (fun m x=>if m<x then x else m) a:=by
 induction r with
 |nil=>exact fun a=>⟨.inl rfl,CN _,fun x d=>absurd d sI⟩
 |cons b r g=>
  intro a;obtain⟨c,e,f⟩:=g (if a<b then b else a);simp only[List.foldl_cons];refine⟨?_,?_,?_⟩
  ·rcases c with c|c
   ·rw[c];split
    ·exact .inr dL
    exact .inl rfl
   exact .inr (bY _ c)
  ·refine JS ?_ e;split<;>omega
  intro x d;rcases eA.mp d with rfl|d
  ·refine JS ?_ e;split<;>omega
  exact f x d
theorem Oy{l:List Int}(h:l≠[]):sF l∈l/\∀x,x∈l->sF l<=x:=by
 cases l with
 |nil=>exact absurd rfl h
 |cons a r=>
  obtain⟨b,d,e⟩:=aJY r a;refine⟨?_,fun x c=>?_⟩
  ·rcases b with b|b
   ·show r.foldl _ a∈_;rw[b];exact dL
   exact bY _ b
  rcases eA.mp c with rfl|c
  ·exact d
  exact e x c
theorem Ox{l:List Int}(h:l≠[]):sE l∈l/\∀x,x∈l->x<=sE l:=by
 cases l with
 |nil=>exact absurd rfl h
 |cons a r=>
  obtain⟨b,d,e⟩:=aJX r a;refine⟨?_,fun x c=>?_⟩
  ·rcases b with b|b
   ·show r.foldl _ a∈_;rw[b];exact dL
   exact bY _ b
  rcases eA.mp c with rfl|c
  ·exact d
  exact e x c
theorem aKB{l m:List Int}(h:l.Perm m):l.sum=m.sum:=by
 induction h with
 |nil=>rfl
 |cons a _ e=>simp only[List.sum_cons,e]
 |swap a b l=>simp only[List.sum_cons];omega
 |trans _ _ c d=>exact c.trans d
theorem aBQ(f:Int){l m:List Int}(h:l.Perm m):gL f l=gL f m:=by
 unfold gL;rw[h.length_eq,aKB h];by_cases g:l=[]
 ·subst g;have :m=[]:=List.nil_perm.mp h;subst this;rfl
 have i:m≠[]:=fun e=>g (by subst e;exact List.perm_nil.mp h);have a:=Oy g;have b:=Oy i;have c:=Ox g;have d:=Ox i;(have j:sF l=sF m:=by have :=a.2 _ (h.mem_iff.mpr b.1);have :=b.2 _ (h.mem_iff.mp a.1);omega);(have k:sE l=sE m:=by have :=c.2 _ (h.mem_iff.mpr d.1);have :=d.2 _ (h.mem_iff.mp c.1);omega);rw[j,k]
def aZ(a:List Int):List Int:=a.dropLast
def qO(a:List Int):Int:=a.getLastD 0
def gA(r:cA)(x:List Int):aQ:=⟨r.g,dO r.v x⟩
def iE(H:List aQ)(p:List Int):List Int:=(H.filter fun g=>decide (aZ g.args=p)).map fun g=>qO g.args
def xQ(f:Int)(H:List aQ)(h:aQ):Option aQ:=
 if dJ (gL f (iE H (aZ h.args)))=true then some ⟨h.g,aZ h.args++[gL f (iE H (aZ h.args))]⟩else none
def qN(r:cA)(W:List (List Int)):List aQ:=
 if r.h=0 then W.map (gA r)else(W.map (gA r)).filterMap (xQ r.h (W.map (gA r)))
def pU(r:cA)(W:List (List Int)):List aQ:=eZ (qN r W)
theorem aBS{H K:List aQ}(h:H.Perm K)(p:List Int):(iE H p).Perm (iE K p):=(h.filter _).map _
theorem GW(f:Int){H K:List aQ}(h:H.Perm K)(x:aQ):xQ f H x=xQ f K x:=by unfold xQ;rw[aBQ f (aBS h _)]
theorem Wb(r:cA){W V:List (List Int)}(h:W.Perm V)(x:aQ):x∈qN r W↔x∈qN r V:=by
 unfold qN;have b:=h.map (gA r);split
 ·exact b.mem_iff
 rw[lW,lW];constructor
 ·rintro⟨a,c,d⟩;exact⟨a,b.mem_iff.mp c,by rw[<-GW _ b];exact d⟩
 rintro⟨a,c,d⟩;exact⟨a,b.mem_iff.mpr c,by rw[GW _ b];exact d⟩
theorem CW(r:cA){W V:List (List Int)}(h:W.Perm V):pU r W=pU r V:=UL (Wb r h)
theorem Oj:∀{x y:List Int},x.length=y.length->fP x y<=0->fP (aZ x) (aZ y)<=0
 |[],[],_,_=>dE
 |[],_::_,h,_=>by cases h
 |_::_,[],h,_=>by cases h
 |[a],[b],_,_=>by show fP [] []<=0;decide
 |[a],b::c::y,h,_=>by simp at h
 |a::c::x,[b],h,_=>by simp at h
 |a::d::x,b::f::y,hl,h=>by
  have i:=Oj (x:=d::x) (y:=f::y) (by simpa using hl);show fP (a::aZ (d::x)) (b::aZ (f::y))<=0;have g:(if fX a b=0 then fP (d::x) (f::y)else fX a b)<=0:=h;show(if fX a b=0 then fP (aZ (d::x)) (aZ (f::y))else fX a b)<=0;by_cases e:fX a b=0
  ·rw[if_pos e]at g ⊢;exact i g
  rw[if_neg e]at g ⊢;exact g
def jI(f:Int):List aQ->List Int->List aQ
 |[],_=>[]
 |h::t,ns=>
  (match t with
   |[]=>if dJ (gL f (ns++[qO h.args]))=true then [⟨h.g,aZ h.args++[gL f (ns++[qO h.args])]⟩] else []
   |g::_=>if aZ h.args=aZ g.args then jI f t (ns++[qO h.args])
    else(if dJ (gL f (ns++[qO h.args]))=true then [⟨h.g,aZ h.args++[gL f (ns++[qO h.args])]⟩] else [])++jI f t [])
def yK(f b:Int)(p:List Int)(ns:List Int):List aQ:=if dJ (gL f ns)=true then [⟨b,p++[gL f ns]⟩] else []
theorem SV(f c:Int)(p:List Int):∀(G:List aQ)(h:aQ)(R:List aQ)(ns:List Int),(∀g,g∈h::G->aZ g.args=p/\g.g=c)->(∀g,R.head?=some g->¬aZ g.args=p)->
 jI f (h::G++R) ns=yK f c p (ns++(h::G).map fun g=>qO g.args)++jI f R []
 |[],h,R,ns,b,j=>by
  obtain⟨d,i⟩:=b h dL
  cases R with
  |nil=>
   show(if dJ (gL f (ns++[qO h.args]))=true then [(⟨h.g,aZ h.args++[gL f (ns++[qO h.args])]⟩:aQ)] else [])=_;rw[d,i];show yK f c p (ns++[qO h.args])=yK f c p (ns++[qO h.args])++[];rw[iZ]
  |cons g R=>
   show(if aZ h.args=aZ g.args then jI f (g::R) (ns++[qO h.args])else(if dJ (gL f (ns++[qO h.args]))=true then [⟨h.g,aZ h.args++[gL f (ns++[qO h.args])]⟩] else [])++jI f (g::R) [])=_;rw[d,if_neg (fun e=>j g rfl e.symm),i];rfl
 |g::G,h,R,ns,b,j=>by obtain⟨d,i⟩:=b h dL;obtain⟨k,m⟩:=b g (bY _ dL);show(if aZ h.args=aZ g.args then jI f (g::G++R) (ns++[qO h.args])else(if dJ (gL f (ns++[qO h.args]))=true then [⟨h.g,aZ h.args++[gL f (ns++[qO h.args])]⟩] else [])++jI f (g::G++R) [])=_;rw[d,k,if_pos rfl,SV f c p G g R _ (fun x l=>b x (bY _ l)) j];simp
theorem YY(f m:Int)(T:Nat):∀(n:Nat)(H:List aQ),H.length<=n->(∀h,h∈H->h.g=m/\h.args.length=T)->H.Pairwise (fun a b=>eU a b<=0)->∀x,x∈jI f H []↔∃h,h∈H/\xQ f H h=some x
 |_,[],_,_,_,x=>by
  constructor
  ·intro h;cases h
  rintro⟨h,hh,_⟩;cases hh
 |0,_::_,hl,_,_,_=>by simp at hl
 |n+1,h::t,hl,hP,hS,x=>by
  obtain⟨p,s⟩:∃p,p=aZ h.args:=⟨_,rfl⟩
  let q:aQ->Bool:=fun g=>decide (aZ g.args=p)
  have i:t=t.takeWhile q++t.dropWhile q:=(List.takeWhile_append_dropWhile).symm;obtain⟨G,J⟩:∃G,G=t.takeWhile q:=⟨_,rfl⟩;obtain⟨R,L⟩:∃R,R=t.dropWhile q:=⟨_,rfl⟩;rw[<-J,<-L]at i;(have C:∀g,g∈G->aZ g.args=p:=fun g c=>by rw[J]at c;(have :q g=true:=by have w:=List.all_takeWhile (p:=q) (l:=t);exact fA.mp w g c);exact fJ this);(have M:∀g,R.head?=some g->¬aZ g.args=p:=fun g c he=>by have w:=List.head?_dropWhile_not q t;rw[<-L,c]at w;simp[q,he]at w);have E:=nP.mp hS;have K:∀g,g∈R->¬aZ g.args=p:=by
   intro g c
   cases r:R with
   |nil=>rw[r]at c;cases c
   |cons a W=>
    have P:¬aZ a.args=p:=M a (by rw[r];rfl);(have F:a∈t:=by rw[i,r];simp);(have V:∀{u v:aQ},u∈h::t->v∈h::t->eU u v<=0->fP (aZ u.args) (aZ v.args)<=0:=by intro u v hu hv U;obtain⟨u1,u2⟩:=hP u hu;obtain⟨v1,v2⟩:=hP v hv;refine Oj (by rw[u2,v2]) ?_;unfold eU at U;rwa[u1,v1,if_pos (EX m)]at U);(have j:=V dL (bY _ F) (E.1 a F);rw[<-s]at j;have h2:fP p (aZ a.args)<0:=by have :¬fP p (aZ a.args)=0:=fun e=>P (zM.mp e).symm;omega);rw[r]at c;rcases eA.mp c with rfl|d
    ·exact P
    (have a4:g∈t:=by rw[i,r];simp[d]);(have a5:(a::W).Pairwise (fun a b=>eU a b<=0):=by have :=E.2;rw[i,yA]at this;rw[<-r];exact this.2.1);have Z:=V (bY _ F) (bY _ a4) ((nP.mp a5).1 g d);intro e;rw[e]at Z;have :=EY p (aZ a.args);omega
  have a1:jI f (h::t) []=yK f m p ((h::G).map fun g=>qO g.args)++jI f R []:=by
   have :=SV f m p G h R [] (fun g c=>by
    rcases eA.mp c with rfl|d
    ·exact⟨s.symm,(hP g dL).1⟩
    exact⟨C g d,(hP g (bY _ (by rw[i];simp[d]))).1⟩) M
   rw[uN]at this;rw[<-this,Sx,<-i]
  have a2:iE (h::t) p=(h::G).map fun g=>qO g.args:=by
   unfold iE
   congr 1
   rw[rA,if_pos (aP s.symm)]
   congr 1
   rw[i,nN];have D:G.filter (fun g=>decide (aZ g.args=p))=G:=YP.mpr fun g c=>aP (C g c);(have Y:R.filter (fun g=>decide (aZ g.args=p))=[]:=List.filter_eq_nil_iff.mpr fun g c=>by simpa using K g c);rw[D,Y,iZ]
  have a3:∀g,g∈R->iE (h::t) (aZ g.args)=iE R (aZ g.args):=fun g c=>by
   unfold iE
   congr 1
   have S:=K g c;rw[rA,if_neg (by simp only[decide_eq_true_eq];rw[<-s];exact fun e=>S e.symm)];rw[i,nN];(have D:G.filter (fun k=>decide (aZ k.args=aZ g.args))=[]:=List.filter_eq_nil_iff.mpr fun k hk=>by simp only[decide_eq_true_eq];rw[C k hk];exact fun e=>S e.symm);rw[D,uN]
  have a0:R.length<=n:=by
   (have :t.length<=n:=by simpa using hl);rw[i,aV]at this
   omega
  have N:∀g,g∈R->g∈h::t:=fun g c=>bY _ (by rw[i];simp[c]);have ih:=YY f m T n R a0 (fun g c=>hP g (N g c)) (by
   have :=E.2;rw[i,yA]at this
   exact this.2.1) x
  (have Q:∀g,g∈R->xQ f (h::t) g=xQ f R g:=fun g c=>by unfold xQ;rw[a3 g c]);have I:∀g,g∈h::G->(xQ f (h::t) g=some x↔x∈yK f m p ((h::G).map fun g=>qO g.args)):=fun g c=>by
   have e:aZ g.args=p:=by
    rcases eA.mp c with rfl|d
    ·exact s.symm
    exact C g d
   have X:g.g=m:=by
    rcases eA.mp c with rfl|d
    ·exact(hP g dL).1
    exact(hP g (bY _ (by rw[i];simp[d]))).1
   unfold xQ yK;rw[e,a2,X];split
   ·rw[cP];constructor
    ·intro h;injection h with h;exact h.symm
    intro h;rw[h]
   constructor
   ·intro h;cases h
   intro h;cases h
  rw[a1,cW,ih];constructor
  ·rintro(j|⟨g,c,j⟩)
   ·exact⟨h,dL,(I h dL).mpr j⟩
   exact⟨g,N g c,by rw[Q g c];exact j⟩
  rintro⟨g,c,j⟩;rcases eA.mp c with rfl|d
  ·exact .inl ((I g dL).mp j)
  rw[i]at d;rcases cW.mp d with d|d
  ·exact .inl ((I g (bY _ d)).mp j)
  exact .inr ⟨g,d,by rw[<-Q g d];exact j⟩
theorem Rp{r:cA}(i:¬r.h=0){W:List (List Int)}{H:List aQ}(c:H.Perm (W.map (gA r)))(f:H.Pairwise (fun a b=>eU a b<=0)):eZ (jI r.h H [])=pU r W:=by
 refine UL fun x=>?_;rw[YY r.h r.g r.v.length H.length H (aH _) (fun h d=>by
  obtain⟨y,_,rfl⟩:=cJ.mp (c.mem_iff.mp d)
  exact⟨rfl,by simp[gA,dO]⟩) f x]
 unfold qN;rw[if_neg i,lW];constructor
 ·rintro⟨h,d,e⟩;exact⟨h,c.mem_iff.mp d,by rw[<-GW _ c];exact e⟩
 rintro⟨h,d,e⟩;exact⟨h,c.mem_iff.mpr d,by rw[GW _ c];exact e⟩
theorem ZC{l:cX}{x:List Int}{f g:List aQ}(c:¬l.kind=2)(h:∀a,a∈f->a∈g)(hh:iF f l x=true):iF g l x=true:=by
 unfold iF at hh ⊢;split
 ·rename_i b;rw[if_pos b,qD]at hh;rw[qD];exact h _ hh
 rename_i b;rw[if_neg b,if_neg c]at hh;exact hh
theorem aBT{r:cA}{W V:List (List Int)}(c:r.h=0)(h:∀x,x∈W->x∈V)(f:aQ)(b:f∈pU r W):f∈pU r V:=by unfold pU qN at b ⊢;rw[if_pos c,lM]at b ⊢;obtain⟨x,d,rfl⟩:=cJ.mp b;exact cJ.mpr ⟨x,h x d,rfl⟩
end Go.Proofs.YtfljoehbbncooaaGreat
namespace Go.Proofs.YtfljoehbbncooaaGreat
theorem DY{α:Type}{f:α->Int}:∀{l:List α},aW f l=0->∀x,x∈l->f x=0
 |[],_,_,b=>by cases b
 |a::l,h,x,b=>by
  unfold aW at h;split at h
  ·rename_i c;rcases eA.mp b with rfl|b
   ·exact c
   exact DY h x b
  rename_i c;exact absurd h c
theorem yL{a b:Int}(h:iV a b=0):a=0/\b=0:=by
 unfold iV at h;split at h
 ·exact⟨by assumption,h⟩
 exact absurd h (by assumption)
theorem mK{n a b:Int}:dT n a b=true↔a<=n/\n<=b:=by unfold dT;simp
structure XR (vars:Int) (t:eE):Prop where
 lo: -1<=t.var
 hi:t.var<=vars-1
 num:dJ t.n=true
theorem Gw{c:Int}{t:eE}(h:mZ c t=0):XR c t:=by
 unfold mZ at h;split at h
 ·rename_i f;obtain⟨d,e⟩:=mK.mp f;split at h
  ·omega
  rename_i b;simp only[Bool.or_eq_true,not_or,Bool.not_eq_true']at b;exact⟨d,e,by simpa using b.1⟩
 omega
structure oY (ar:List Int) (r:cA):Prop where
 p0:0<=r.g
 p1:r.g<(ar.length:Int)
 tl:(r.v.length:Int)=cI ar r.g.toNat
 v0:0<=r.vars
 v8:r.vars<=8
 tm:∀t,t∈r.v->XR r.vars t
 f0:0<=r.h
 f4:r.h<=4
 ff:¬r.h=0->¬r.v.length=0/\¬r.body.length=0
 b4:r.body.length<=4
 lit:∀l,l∈r.body->eW ar l=0/\∀t,t∈l.v->XR r.vars t
 safe:xS r=true
theorem aGP{f:List Int}{r:cA}(h:eQ f r=0):oY f r:=by
 unfold eQ at h;split at h
 ·rename_i j;unfold nX at j;obtain⟨D,E⟩:=mK.mp j;obtain⟨m,h⟩:=yL h;obtain⟨n,h⟩:=yL h;obtain⟨p,h⟩:=yL h;obtain⟨q,h⟩:=yL h;obtain⟨s,h⟩:=yL h;obtain⟨u,h⟩:=yL h;obtain⟨w,x⟩:=yL h;have k:0<=r.vars/\r.vars<=8:=by
   split at n
   ·rename_i d;exact mK.mp d
   omega
  have i:0<=r.h/\r.h<=4:=by
   split at q
   ·rename_i d;exact mK.mp d
   omega
  refine⟨D,oM,?_,k.1,k.2,fun t ht=>Gw (DY p t ht),i.1,i.2,fun c=>?_,?_,fun l C=>?_,?_⟩
  ·split at m
   ·omega
   rename_i c;exact Classical.not_not.mp c
  ·split at s
   ·omega
   rename_i g;exact⟨fun e=>g ⟨c, .inl e⟩,fun e=>g ⟨c, .inr e⟩⟩
  ·split at u
   ·omega
   omega
  ·obtain⟨a,b⟩:=yL (DY w l C);exact⟨a,fun t ht=>Gw (DY b t ht)⟩
  split at x
  ·assumption
  omega
 omega
structure xK (p:bK):Prop where
 a10:p.x.length<=10
 r12:p.y.length<=12
 nm:p.r.length=p.x.length
 ar:∀i,i<p.x.length->0<=cI p.x i/\cI p.x i<=3
 A:∀r,r∈p.y->oY p.x r
theorem RH{p:bK}(h:dB p=0):xK p:=by
 unfold dB at h;split at h
 ·omega
 rename_i k;split at h
 ·omega
 rename_i b;obtain⟨c,d⟩:=yL h;have g:p.r.length=p.x.length:=Classical.not_not.mp b;refine⟨oM,oM,g,fun i l=>?_,fun r j=>aGP (DY d r j)⟩;have :=DY c i (lL.mpr oM);unfold lX at this;obtain⟨e,_⟩:=yL this;split at e
 ·rename_i f;exact mK.mp f
 omega
structure mD (ar:List Int) (f:aQ):Prop where
 p0:0<=f.g
 p1:f.g<(ar.length:Int)
 al:(f.args.length:Int)=cI ar f.g.toNat
 nm:∀n,n∈f.args->dJ n=true
theorem Gc{p:bK}{f:aQ}:lN p f.g f.args=0↔mD p.x f:=by
 unfold lN nX;constructor
 ·intro h;split at h
  ·rename_i i;obtain⟨j,k⟩:=mK.mp i;obtain⟨c,d⟩:=yL h;refine⟨j,oM,?_,?_⟩
   ·split at c
    ·omega
    rename_i b;exact Classical.not_not.mp b
   split at d
   ·rename_i e;exact fA.mp e
   omega
  omega
 intro h;rw[if_pos (mK.mpr ⟨h.p0,by have :=h.p1;omega⟩),if_neg (fun b=>b h.al),if_pos (fA.mpr h.nm)];rfl
theorem US{e:List Int}{r:cA}(hr:oY e r){facts:List aQ}(q:∀f,f∈facts->mD e f){l:cX}(u:l∈r.body):Vw r.vars.toNat facts l:=by
 obtain⟨b,m⟩:=hr.lit l u;unfold eW at b;refine⟨fun t ht=>?_,?_,fun n=>?_,fun p=>?_,fun c f s w=>?_⟩
 ·have :=m t ht;by_cases k:t.var<0
  ·exact .inl k
  right;have :=this.hi;omega
 ·split at b
  ·rename_i c;rcases c with h|h<;>simp[h]
  split at b
  ·rename_i c;simp[c]
  split at b
  ·rename_i c;simp[c]
  omega
 ·rw[if_neg oM,if_pos n]at b;split at b
  ·split at b
   ·omega
   rename_i d;refine Classical.byContradiction fun i=>d (.inr i)
  omega
 ·rw[if_neg oM,if_neg oM,if_pos p]at b;split at b
  ·split at b
   ·omega
   rename_i d;refine Classical.byContradiction fun i=>d (.inr i)
  omega
 rw[if_pos (.inl c)]at b;split at b
 ·omega
 split at b
 ·split at b
  ·omega
  rename_i d;have x:(l.v.length:Int)=cI e l.g.toNat:=Classical.not_not.mp d;have j:=(q f s).al;rw[w]at j;omega
 omega
theorem RD{c:List Int}{r:cA}(hr:oY c r){l:cX}(f:l∈r.body)(e:l.kind=1\/l.kind=2):0<=l.g/\l.g<(c.length:Int)/\(l.v.length:Int)=cI c l.g.toNat:=by
 obtain⟨b,_⟩:=hr.lit l f;unfold eW at b;rw[if_pos e]at b;split at b
 ·omega
 split at b
 ·rename_i d;unfold nX at d;obtain⟨j,k⟩:=mK.mp d;split at b
  ·omega
  rename_i i;exact⟨j,oM,Classical.not_not.mp i⟩
 omega
theorem lF{b:List Int}{r:cA}(hr:oY b r){facts:List aQ}(c:∀f,f∈facts->mD b f):aDR facts r:=
 ⟨hr.safe,by have :=hr.v8;have :=hr.v0;omega,fun l d=>US hr c d⟩
theorem aGO{c:Int}{t:eE}{x:List Int}(ht:XR c t)(f:x.length=c.toNat)(d:∀n,n∈x->dJ n=true):dJ (fH x t)=true:=by
 unfold fH;split
 ·exact ht.num
 rename_i e;(have b:t.var.toNat<x.length:=by have :=ht.hi;omega);rw[aI,aM b];exact d _ (fG b)
def cZ(facts:List aQ)(r:cA):List aQ:=pU r (kF facts r)
section
variable {ar:List Int} {r:cA} {facts:List aQ}
theorem lS(b:∀f,f∈facts->mD ar f):∀f,f∈facts->∀n,n∈f.args->dJ n=true:=fun f c=>(b f c).nm
theorem OQ(hr:oY ar r)(b:∀f,f∈facts->mD ar f){x:List Int}(c:sJ facts r x):mD ar (gA r x):=by
 refine⟨hr.p0,hr.p1,?_,fun n d=>?_⟩
 ·show((dO r.v x).length:Int)=_;unfold dO;rw[aY];exact hr.tl
 obtain⟨t,ht,rfl⟩:=cJ.mp d;exact aGO (hr.tm t ht) c.1 (Pg (lF hr b) (lS b) c)
theorem NJ{a:List Int}(h:a≠[]):aZ a++[qO a]=a:=by unfold aZ qO;rw[List.getLastD_eq_getLast?,List.getLast?_eq_some_getLast h];exact List.dropLast_concat_getLast h
theorem NI(hr:oY ar r)(j:∀f,f∈facts->mD ar f){f:aQ}(b:f∈cZ facts r):mD ar f:=by
 unfold cZ pU at b;rw[lM]at b;have l:∀x,x∈kF facts r->mD ar (gA r x):=fun x d=>OQ hr j ((tH (lF hr j) (lS j) x).mp d);unfold qN at b;split at b
 ·obtain⟨x,d,rfl⟩:=cJ.mp b;exact l x d
 rename_i m;obtain⟨g,p,c⟩:=lW.mp b;obtain⟨x,d,rfl⟩:=cJ.mp p;have i:=l x d;unfold xQ at c;split at c
 ·rename_i q;injection c with c;subst c;(have k:(gA r x).args≠[]:=by show dO r.v x≠[];intro e;(have :(dO r.v x).length=0:=by rw[e];rfl);unfold dO at this;rw[aY]at this;exact(hr.ff m).1 this);refine⟨i.p0,i.p1,?_,fun n s=>?_⟩
  ·(have e:(aZ (gA r x).args++[gL r.h (iE (List.map (gA r) (kF facts r)) (aZ (gA r x).args))]).length=(gA r x).args.length:=by(conv=>rhs;rw[<-NJ k]);rw[aV,aV];rfl);rw[e];exact i.al
  rcases cW.mp s with h|h
  ·exact i.nm n (by rw[<-NJ k];exact eX _ h)
  rcases cP.mp h with rfl;exact q
 cases c
theorem aPP{f:aQ}(b:f∈cZ facts r):f.g=r.g:=by
 unfold cZ pU at b;rw[lM]at b;unfold qN at b;split at b
 ·obtain⟨x,e,rfl⟩:=cJ.mp b;rfl
 obtain⟨g,d,c⟩:=lW.mp b;obtain⟨x,e,rfl⟩:=cJ.mp d;unfold xQ at c;split at c
 ·injection c with c;subst c;rfl
 cases c
end
theorem OR{l:cX}{x:List Int}{S T:List aQ}(h:l.kind=1\/l.kind=2->∀a,(⟨l.g,a⟩:aQ)∈S↔(⟨l.g,a⟩:aQ)∈T):iF S l x=iF T l x:=by
 unfold iF;(have e:l.kind=1\/l.kind=2->mJ S ⟨l.g,dO l.v x⟩=mJ T ⟨l.g,dO l.v x⟩:=fun d=>by rw[sL,qD,qD];exact h d _);split
 ·rename_i b;exact e (.inl b)
 split
 ·rename_i c;rw[e (.inr c)]
 rfl
theorem Gp{r:cA}{x:List Int}{S T:List aQ}(h:∀l,l∈r.body->l.kind=1\/l.kind=2->∀a,(⟨l.g,a⟩:aQ)∈S↔(⟨l.g,a⟩:aQ)∈T):sJ S r x↔sJ T r x:=by
 unfold sJ;constructor
 ·rintro⟨c,d⟩;exact⟨c,fun l b=>by rw[<-OR (h l b)];exact d l b⟩
 rintro⟨c,d⟩;exact⟨c,fun l b=>by rw[OR (h l b)];exact d l b⟩
section
variable {ar:List Int} {r:cA} {S T:List aQ}
theorem Gx(hr:oY ar r)(b:∀f,f∈S->mD ar f)(c:∀f,f∈T->mD ar f)(d:S.Nodup)(e:T.Nodup)(h:∀x,sJ S r x↔sJ T r x):(kF S r).Perm (kF T r):=
 (sB (wD (lF hr b) (lS b) d) (wD (lF hr c) (lS c) e)).mpr fun x=>(tH (lF hr b) (lS b) x).trans ((h x).trans (tH (lF hr c) (lS c) x).symm)
theorem Vz(hr:oY ar r)(b:∀f,f∈S->mD ar f)(c:∀f,f∈T->mD ar f)(d:S.Nodup)(e:T.Nodup)(h:∀x,sJ S r x↔sJ T r x):cZ S r=cZ T r:=CW r (Gx hr b c d e h)
theorem aPS(hr:oY ar r)(b:∀f,f∈S->mD ar f)(c:∀f,f∈T->mD ar f)(e:S.Nodup)(h:∀x,sJ S r x->sJ T r x):(kF S r).length<=(kF T r).length:=by refine(wD (lF hr b) (lS b) e).length_le_of_subset fun x d=>?_;exact(tH (lF hr c) (lS c) x).mpr (h x ((tH (lF hr b) (lS b) x).mp d))
theorem aZT(hr:oY ar r)(c:∀f,f∈S->mD ar f)(d:∀f,f∈T->mD ar f)(e:r.h=0)(h:∀x,sJ S r x->sJ T r x){f:aQ}(b:f∈cZ S r):f∈cZ T r:=
 aBT e (fun x b=>(tH (lF hr d) (lS d) x).mpr (h x ((tH (lF hr c) (lS c) x).mp b))) f b
end
end Go.Proofs.YtfljoehbbncooaaGreat
namespace Go.Proofs.YtfljoehbbncooaaGreat
abbrev gI:=Nat×Nat×Int
def bE(l:List Int)(e:gI):List Int:=if l.getD e.1 0<l.getD e.2.1 0+e.2.2 then l.set e.1 (l.getD e.2.1 0+e.2.2)else l
def aU(E:List gI)(l:List Int):List Int:=E.foldl bE l
def eJ(E:List gI):Nat->List Int->List Int
 |0,l=>l
 |k+1,l=>eJ E k (aU E l)
def qK(l o:List Int):Prop:=l.length=o.length/\∀i:Nat,l.getD i 0<=o.getD i 0
def aZH(E:List gI)(o:List Int):Prop:=∀e,e∈E->o.getD e.2.1 0+e.2.2<=o.getD e.1 0
def uY(E:List gI)(n:Nat):Prop:=∀e,e∈E->e.1<n
theorem qK.refl(l:List Int):qK l l:=⟨rfl,fun _=>CN _⟩
theorem qK.trans{a b c:List Int}(h:qK a b)(k:qK b c):qK a c:=⟨h.1.trans k.1,fun i=>JS (h.2 i) (k.2 i)⟩
theorem qK.anti{a b:List Int}(h:qK a b)(k:qK b a):a=b:=by refine JL h.1 fun i c d=>?_;have :=Int.le_antisymm (h.2 i) (k.2 i);rw[aI,aI,aM c,aM d]at this;exact this
theorem IL(l:List Int)(h i:Nat)(v:Int):(l.set h v).getD i 0=if i=h/\h<l.length then v else l.getD i 0:=by
 rw[aI,fU,aI];by_cases b:h=i
 ·subst b;by_cases c:h<l.length
  ·simp[c]
  simp[c]
 rw[if_neg b,if_neg (fun h=>b h.1.symm)]
theorem QR(l:List Int)(e:gI):qK l (bE l e):=by
 unfold bE;split
 ·rename_i h;refine⟨by simp,fun i=>?_⟩;rw[IL];split
  ·rename_i b;rw[b.1];omega
  exact CN _
 exact qK.refl l
theorem Uk(l:List Int)(e:gI):(bE l e).length=l.length:=(QR l e).1.symm
theorem rR:∀(E:List gI)(l:List Int),qK l (aU E l)
 |[],l=>qK.refl l
 |e::E,l=>(QR l e).trans (rR E (bE l e))
theorem vF(E:List gI)(l:List Int):(aU E l).length=l.length:=(rR E l).1.symm
theorem Rm{l:List Int}{e:gI}(h:e.1<l.length):l.getD e.2.1 0+e.2.2<=(bE l e).getD e.1 0:=by
 unfold bE;split
 ·rw[IL,if_pos ⟨rfl,h⟩];exact CN _
 rename_i b;omega
theorem GF:∀(E:List gI){l:List Int},uY E l.length->∀e,e∈E->l.getD e.2.1 0+e.2.2<=(aU E l).getD e.1 0
 |e0::E,l,hi,e,b=>by
  rcases eA.mp b with rfl|b
  ·exact JS (Rm (hi _ dL)) ((rR E (bE l e)).2 _)
  have f:=GF E (l:=bE l e0) (fun c d=>by rw[Uk];exact hi c (bY _ d)) e b;have g:=(QR l e0).2 e.2.1;show _<=(aU E (bE l e0)).getD e.1 0;omega
theorem GV{E:List gI}{l:List Int}(c:uY E l.length)(h:aU E l=l):aZH E l:=fun e b=>by have :=GF E c e b;rw[h]at this;exact this
theorem uG(E:List gI):∀(k:Nat)(l:List Int),eJ E (k+1) l=aU E (eJ E k l)
 |0,_=>rfl
 |k+1,l=>by show eJ E (k+1) (aU E l)=_;rw[uG E k (aU E l)];rfl
theorem DQ(E:List gI):∀(k:Nat)(l:List Int),qK l (eJ E k l)
 |0,l=>qK.refl l
 |k+1,l=>(rR E l).trans (DQ E k (aU E l))
theorem rC(E:List gI)(k:Nat)(l:List Int):(eJ E k l).length=l.length:=(DQ E k l).1.symm
theorem NA(E:List gI):∀(j k:Nat)(l:List Int),eJ E (j+k) l=eJ E k (eJ E j l)
 |0,k,l=>by rw[eP];rfl
 |j+1,k,l=>by rw[Nat.add_right_comm];exact NA E j k (aU E l)
theorem TW{E:List gI}{l:List Int}(h:aU E l=l):∀k,eJ E k l=l
 |0=>rfl
 |k+1=>by rw[uG,TW h k,h]
end Go.Proofs.YtfljoehbbncooaaGreat
namespace Go.Proofs.YtfljoehbbncooaaGreat
def rJ(x:cX):Bool:=decide (x.kind=1\/x.kind=2)
def nY(r:cA)(x:cX):Int:=if x.kind=2\/r.h≠0 then 1 else 0
def FH(r:cA):List gI:=(r.body.filter rJ).map fun x=>(r.g.toNat,x.g.toNat,nY r x)
def eD(p:bK):List gI:=p.y.flatMap FH
def dU(n:Nat):List Int:=List.replicate n 0
def kA(p:bK):List Int:=eJ (eD p) p.x.length (dU p.x.length)
def yN(p:bK):Bool:=decide (aU (eD p) (kA p)=kA p)
theorem IB(n i:Nat):(dU n).getD i 0=0:=by unfold dU;rw[aI,rN];split<;>rfl
theorem rK(p:bK):(kA p).length=p.x.length:=by unfold kA;rw[rC];simp[dU]
theorem JN(p:bK)(i:Nat):0<=(kA p).getD i 0:=by have :=(DQ (eD p) p.x.length (dU p.x.length)).2 i;rw[IB]at this;exact this
def KJ(p:bK)(o:List Int):Prop:=o.length=p.x.length/\(∀i:Nat,0<=o.getD i 0)/\aZH (eD p) o
theorem aB5{p:bK}(b:uY (eD p) p.x.length)(h:yN p=true):KJ p (kA p):=
 ⟨rK p,JN p,GV (by rw[rK];exact b) (fJ h)⟩
end Go.Proofs.YtfljoehbbncooaaGreat
namespace Go.Proofs.YtfljoehbbncooaaGreat
open Go.RowKit
theorem aQD(f:List Int)(va vn vr:Value)(b c:Int)(ts:List eE)(at_:Option Addr)(n:Nat)(w:World):
 Calls Tryz.prog 155 #[gU va vn vr,sH ⟨3,b,c,ts⟩ (.slice at_ ts.length n)] w fun e E=>e=Ig (eW f ⟨3,b,c,ts⟩)/\Below w.heap.size w E:=by
 have d:Below w.heap.size w ((w.alloc (.cells #[va,vn,vr] 26)).alloc (.cells #[.int .i64 3, .int .i64 b, .int .i64 c, .slice at_ ts.length n] 109)):=EB w _ _;(have j:O (eW f ⟨3,b,c,ts⟩=if dT b 1 4 then(if c≠0\/¬ts.length=2 then 1 else 0)else 3):=by show _=_;simp[eW]);by_cases q:b<1
 ·(have HV:O (eW f ⟨3,b,c,ts⟩=3):=by show _=_;have :¬1<=b:=oM;rw[j.o];simp[dT,this]);have s:decide (b<1)=true:=aP q;clear j
  go_enter Tryz.func155,Tryz.ntmps155
  go_wp2_with fail;refine(iY 3 _).mono ?_;rintro e i ⟨rfl,g⟩;go_wp2_with fail;exact⟨rfl,rV,d.trans (g.mono d.size)⟩
 have s:decide (b<1)=false:=aF q;by_cases r:4<b
 ·(have HV:O (eW f ⟨3,b,c,ts⟩=3):=by show _=_;have :¬b<=4:=oM;rw[j.o];simp[dT,this]);have u:decide (4<b)=true:=aP r;clear j
  go_enter Tryz.func155,Tryz.ntmps155
  go_wp2_with fail;refine(iY 3 _).mono ?_;rintro e i ⟨rfl,g⟩;go_wp2_with fail;exact⟨rfl,rV,d.trans (g.mono d.size)⟩
 have u:decide (4<b)=false:=aF r;(have k:O (eW f ⟨3,b,c,ts⟩=if c≠0\/¬ts.length=2 then 1 else 0):=by show _=_;have C:1<=b:=oM;have D:b<=4:=oM;rw[j.o];simp[dT,C,D]);clear j;cases p:(c != 0)
 ·(have l:c=0:=by simpa using p);by_cases m:ts.length=2
  ·(have HV:O (eW f ⟨3,b,c,ts⟩=0):=by show _=_;rw[k.o];simp[l,m]);(have x:((ts.length:Int) != 2)=false:=by rw[m];rfl);clear k l m
   go_enter Tryz.func155,Tryz.ntmps155
   go_wp2_with fail;refine(kN 3 _).mono ?_;rintro e i ⟨rfl,rfl⟩;go_wp2_with fail;refine(kN 1 _).mono ?_;rintro e i ⟨rfl,rfl⟩;go_wp2_with fail;exact⟨rfl, .tuple #[],by simp[results,Tryz.results155],rV,d⟩
  (have HV:O (eW f ⟨3,b,c,ts⟩=1):=by show _=_;rw[k.o];simp[m]);(have x:((ts.length:Int) != 2)=true:=by simp;omega);clear k l m
  go_enter Tryz.func155,Tryz.ntmps155
  go_wp2_with fail;refine(kN 3 _).mono ?_;rintro e i ⟨rfl,rfl⟩;go_wp2_with fail;refine(iY 1 _).mono ?_;rintro e i ⟨rfl,g⟩;go_wp2_with fail;exact⟨rfl,rV,d.trans (g.mono d.size)⟩
 (have l:¬c=0:=by simpa using p);(have HV:O (eW f ⟨3,b,c,ts⟩=1):=by show _=_;rw[k.o];simp[l]);clear k l
 go_enter Tryz.func155,Tryz.ntmps155
 go_wp2_with fail;refine(kN 3 _).mono ?_;rintro e i ⟨rfl,rfl⟩;go_wp2_with fail;refine(iY 1 _).mono ?_;rintro e i ⟨rfl,g⟩;go_wp2_with fail;exact⟨rfl,rV,d.trans (g.mono d.size)⟩
theorem aQE(f:List Int)(va vn vr:Value)(b c:Int)(ts:List eE)(at_:Option Addr)(n:Nat)(w:World):
 Calls Tryz.prog 155 #[gU va vn vr,sH ⟨4,b,c,ts⟩ (.slice at_ ts.length n)] w fun e E=>e=Ig (eW f ⟨4,b,c,ts⟩)/\Below w.heap.size w E:=by
 have d:Below w.heap.size w ((w.alloc (.cells #[va,vn,vr] 26)).alloc (.cells #[.int .i64 4, .int .i64 b, .int .i64 c, .slice at_ ts.length n] 109)):=EB w _ _;(have j:O (eW f ⟨4,b,c,ts⟩=if dT b 5 7 then(if c≠0\/¬ts.length=3 then 1 else 0)else 3):=by show _=_;simp[eW]);by_cases q:b<5
 ·(have HV:O (eW f ⟨4,b,c,ts⟩=3):=by show _=_;have :¬5<=b:=oM;rw[j.o];simp[dT,this]);have s:decide (b<5)=true:=aP q;clear j
  go_enter Tryz.func155,Tryz.ntmps155
  go_wp2_with fail;refine(iY 3 _).mono ?_;rintro e i ⟨rfl,g⟩;go_wp2_with fail;exact⟨rfl,rV,d.trans (g.mono d.size)⟩
 have s:decide (b<5)=false:=aF q;by_cases r:7<b
 ·(have HV:O (eW f ⟨4,b,c,ts⟩=3):=by show _=_;have :¬b<=7:=oM;rw[j.o];simp[dT,this]);have u:decide (7<b)=true:=aP r;clear j
  go_enter Tryz.func155,Tryz.ntmps155
  go_wp2_with fail;refine(iY 3 _).mono ?_;rintro e i ⟨rfl,g⟩;go_wp2_with fail;exact⟨rfl,rV,d.trans (g.mono d.size)⟩
 have u:decide (7<b)=false:=aF r;(have k:O (eW f ⟨4,b,c,ts⟩=if c≠0\/¬ts.length=3 then 1 else 0):=by show _=_;have C:5<=b:=oM;have D:b<=7:=oM;rw[j.o];simp[dT,C,D]);clear j;cases p:(c != 0)
 ·(have l:c=0:=by simpa using p);by_cases m:ts.length=3
  ·(have HV:O (eW f ⟨4,b,c,ts⟩=0):=by show _=_;rw[k.o];simp[l,m]);(have x:((ts.length:Int) != 3)=false:=by rw[m];rfl);clear k l m
   go_enter Tryz.func155,Tryz.ntmps155
   go_wp2_with fail;refine(kN 3 _).mono ?_;rintro e i ⟨rfl,rfl⟩;go_wp2_with fail;refine(kN 1 _).mono ?_;rintro e i ⟨rfl,rfl⟩;go_wp2_with fail;exact⟨rfl, .tuple #[],by simp[results,Tryz.results155],rV,d⟩
  (have HV:O (eW f ⟨4,b,c,ts⟩=1):=by show _=_;rw[k.o];simp[m]);(have x:((ts.length:Int) != 3)=true:=by simp;omega);clear k l m
  go_enter Tryz.func155,Tryz.ntmps155
  go_wp2_with fail;refine(kN 3 _).mono ?_;rintro e i ⟨rfl,rfl⟩;go_wp2_with fail;refine(iY 1 _).mono ?_;rintro e i ⟨rfl,g⟩;go_wp2_with fail;exact⟨rfl,rV,d.trans (g.mono d.size)⟩
 (have l:¬c=0:=by simpa using p);(have HV:O (eW f ⟨4,b,c,ts⟩=1):=by show _=_;rw[k.o];simp[l]);clear k l
 go_enter Tryz.func155,Tryz.ntmps155
 go_wp2_with fail;refine(kN 3 _).mono ?_;rintro e i ⟨rfl,rfl⟩;go_wp2_with fail;refine(iY 1 _).mono ?_;rintro e i ⟨rfl,g⟩;go_wp2_with fail;exact⟨rfl,rV,d.trans (g.mono d.size)⟩
theorem aCF(i:List Int)(va vn vr:Value)(kind b c:Int)(ts:List eE)(at_:Option Addr)(j:Nat)(w:World)(h1:¬kind=1)(d:¬kind=2)(f:¬kind=3)(g:¬kind=4):
 Calls Tryz.prog 155 #[gU va vn vr,sH ⟨kind,b,c,ts⟩ (.slice at_ ts.length j)] w fun e m=>e=Ig (eW i ⟨kind,b,c,ts⟩)/\Below w.heap.size w m:=by
 have k:Below w.heap.size w ((w.alloc (.cells #[va,vn,vr] 26)).alloc (.cells #[.int .i64 kind, .int .i64 b, .int .i64 c, .slice at_ ts.length j] 109)):=EB w _ _;(have HV:O (eW i ⟨kind,b,c,ts⟩=7):=by show _=_;simp[eW,h1,d,f,g]);(have n:(kind==1)=false:=by simpa using h1);(have p:(kind==2)=false:=by simpa using d);(have q:(kind==3)=false:=by simpa using f);(have r:(kind==4)=false:=by simpa using g);clear h1 d f g
 go_enter Tryz.func155,Tryz.ntmps155
 go_wp2_with fail;refine(iY 7 _).mono ?_;rintro e s ⟨rfl,l⟩;go_wp2_with fail;exact⟨rfl,rV,k.trans (l.mono k.size)⟩
theorem aHK(b:List Int)(va vn vr:Value)(x:cX)(v:Value)(w:World)(k:eT w va b)(n:∃j cap,v=.slice j x.v.length cap):
 Calls Tryz.prog 155 #[gU va vn vr,sH x v] w fun e p=>e=Ig (eW b x)/\Below w.heap.size w p:=by
 obtain⟨c,f,g,i⟩:=x;obtain⟨at_,d,rfl⟩:=n;obtain⟨j,cap,rfl,k⟩:=k;by_cases h:c=1\/c=2
 ·exact aCG b j cap vn vr c f g i at_ d w k h
 by_cases l:c=3
 ·subst l;exact aQD b _ vn vr f g i at_ d w
 by_cases m:c=4
 ·subst m;exact aQE b _ vn vr f g i at_ d w
 exact aCF b _ vn vr c f g i at_ d w (fun e=>h (.inl e)) (fun e=>h (.inr e)) l m
structure Bd (w:World) (X:Nat) (R:Nat) (bs:List Bool):Prop where
 box:w.heap[X]?=some (.cells #[.slice (some ⟨R,0,none⟩) bs.length bs.length] 140 (0,0))
 row:w.heap[R]?=some (.cells (bs.map Value.bool).toArray 4 (0,0))
theorem Bd.c0{w:World}{X R:Nat}{b:List Bool}(h:Bd w X R b):w.cell? ⟨X,0,none⟩=some (.slice (some ⟨R,0,none⟩) b.length b.length):=cH h.box
theorem Bd.at{w:World}{X R:Nat}{b:List Bool}(h:Bd w X R b)(i:Nat)(c:i<b.length):w.cell? ⟨R,i,none⟩=some (.bool (b.getD i false)):=by rw[cM h.row];simp[List.getD_eq_getElem?_getD,c]
theorem Bd.z{w w':World}{X R:Nat}{b:List Bool}(h:Bd w X R b)(c:Below w.heap.size w w'):Bd w' X R b:=
 ⟨(c.block _ (cV h.box)).trans h.box,(c.block _ (cV h.row)).trans h.row⟩
theorem aEN(X R:Nat)(c:List Bool)(t:eE)(w:World)(b:Bd w X R c)(ht:t.var<c.length):
 Calls Tryz.prog 188 #[jG t, .pointer (some ⟨X,0,none⟩)] w fun e j=>e=.returned (.bool (cY c t))/\Below w.heap.size w j:=by
 have n:=b.c0;have m:=cV b.box;have l:=cV b.row;have d:∀o,Below w.heap.size w (w.alloc o):=fun o=>(aG _ _).alloc (aH _) o;unfold cY;by_cases h:t.var<0
 ·have g:decide (t.var<0)=true:=aP h
  go_enter Tryz.func188,Tryz.ntmps188
  go_wp2;go_ret;exact⟨by rw[g];rfl,d _⟩
 have g:decide (t.var<0)=false:=aF h;obtain⟨k,f⟩:∃k:Nat,t.var=k:=⟨t.var.toNat,oM⟩;have i:k<c.length:=oM;have p:=b.at k i;obtain⟨r,q⟩:=t;simp only at f ht h g;subst f;clear h ht b
 go_enter Tryz.func188,Tryz.ntmps188
 go_wp2_with fail;go_ret;exact⟨by rw[g];simp[i],d _⟩
theorem aWE:GE 188:=oQ Tryz.func188 kR rfl
def Tc(n:Nat)(x:cX):Prop:=(x.kind=4->x.v.length=3)/\(∀t,t∈x.v->t.var<n)/\x.v.length<=9223372036854775807
theorem aTK{n:Nat}{x:cX}(h:Tc n x)(i:Nat)(b:i<x.v.length):(cQ x.v i).var<n:=by refine h.2.1 _ ?_;unfold cQ;rw[aI,aM b];exact fG b
theorem uC{w:World}{ao:Option Addr}{l:List eE}(h:UK w ao l)(n:Nat)(d:n<l.length):∃b c,ao=some ⟨b,c,none⟩/\∀i,i<l.length->ND w b (c+i*2) (cQ l i):=by
 rcases h with h|⟨b,c,e,f⟩
 ·rw[h]at d;exact absurd d sI
 exact⟨b,c,e,f⟩
theorem aVY(X R:Nat)(d:List Bool)(x:cX)(v:Value)(w:World)(H:Bd w X R d)(hT:iX w v x.v)(s:Tc d.length x):
 Calls Tryz.prog 189 #[sH x v, .func (.func 188) #[] #[.pointer (some ⟨X,0,none⟩)]] w fun e r=>∃u,e=.returned u/\(∀y,iX y v x.v->iX y u (oO d x))/\Below w.heap.size w r:=by
 have he:=aWE;unfold GE at he;have J:∀o,Below w.heap.size w (w.alloc o):=fun o=>(aG _ _).alloc (aH _) o;obtain⟨j,l,m,c⟩:=x;obtain⟨W,cap,rfl,M,n⟩:=hT;have n:UK w W c:=n;have HT:O (UK w W c):=n;have M:c.length<=cap:=M;cases Y:(j==1)
 ·(have p:¬j=1:=by simpa using Y);cases Z:(j==4)
  ·(have q:¬j=4:=by simpa using Z);(have HV:O (oO d ⟨j,l,m,c⟩=[]):=by show _=_;simp[oO,p,q]);clear p q n
   go_enter Tryz.func189,Tryz.ntmps189
   go_wp2_with fail;go_ret;exact⟨_,rfl,by rw[HV.o];exact fun _ _=>⟨none,0,rfl,aH _, .inl rfl⟩,J _⟩
  (have q:j=4:=by simpa using Z);have P:c.length=3:=s.1 q;obtain⟨b,f,rfl,E⟩:=uC n 0 oM;obtain⟨G,T⟩:=E 0 oM;obtain⟨U,V⟩:=E 1 oM;have ac:(cQ c 0).var<d.length:=aTK s 0 (show 0<c.length by omega);have ad:(cQ c 1).var<d.length:=aTK s 1 (show 1<c.length by omega);simp only[Nat.zero_mul,Nat.one_mul,Nat.add_zero]at G T U V;have ah:b<w.heap.size:=jR w _ G;have S:O (∀y,Below w.heap.size w y->Calls Tryz.prog 188 #[jG (cQ c 0), .pointer (some ⟨X,0,none⟩)] y fun e r=>e=.returned (.bool (cY d (cQ c 0)))/\Below y.heap.size y r):=fun y g=>aEN X R d _ y (H.z g) ac;have a6:O (∀y,Below w.heap.size w y->Calls Tryz.prog 188 #[jG (cQ c 1), .pointer (some ⟨X,0,none⟩)] y fun e r=>e=.returned (.bool (cY d (cQ c 1)))/\Below y.heap.size y r):=fun y g=>aEN X R d _ y (H.z g) ad;(have F:O (oO d ⟨j,l,m,c⟩=if cY d (cQ c 0)=true/\cY d (cQ c 1)=true then c.drop 2 else []):=by show _=_;simp[oO,q]);have HC:O (∀i,i<c.length->ND w b (f+i*2) (cQ c i)):=E;subst q;have Q:O (c.length=3):=P;have ai:3<=cap:=oM;have I:=bA w (.cells #[.int .i64 4, .int .i64 l, .int .i64 m, .slice (some ⟨b,f,none⟩) 3 cap] 109);have D:=J (.cells #[.int .i64 4, .int .i64 l, .int .i64 m, .slice (some ⟨b,f,none⟩) 3 cap] 109);rw[show c.length=3 from P];clear E n HT H s M P p;generalize a7:cQ c 0=t0 at *;generalize a8:cQ c 1=t1 at *;clear a7 a8
  go_enter Tryz.func189,Tryz.ntmps189
  go_wp2_with fail;refine Calls.mono (S.o _ D) ?_;rintro e w1 ⟨rfl,K⟩;have C:=(K.block _ (cV I)).trans I;have k:=D.trans (K.mono D.size);have b0:=aB k G;have b1:=aB k T;have b2:=aB k U;have b3:=aB k V;(have d0:w1.cell? ⟨w.heap.size,3,none⟩=some (.slice (some ⟨b,f,none⟩) 3 cap):=cH C);clear K I D S;cases N:cY d t0
  ·(have HV:O (oO d ⟨4,l,m,c⟩=[]):=by show _=_;rw[F.o,N];simp);go_wp2_with fail;go_ret;exact⟨_,rfl,by rw[HV.o];exact fun _ _=>⟨none,0,rfl,aH _, .inl rfl⟩,k⟩
  go_wp2_with fail;refine Calls.mono (a6.o _ k) ?_;rintro e w2 ⟨rfl,L⟩;have a9:=(L.block _ (cV C)).trans C;have a5:=k.trans (L.mono k.size);(have d2:w2.cell? ⟨w.heap.size,3,none⟩=some (.slice (some ⟨b,f,none⟩) 3 cap):=cH a9);clear L C d0 b0 b1 b2 b3;cases a4:cY d t1
  ·(have HV:O (oO d ⟨4,l,m,c⟩=[]):=by show _=_;rw[F.o,N,a4];simp);go_wp2_with fail;go_ret;exact⟨_,rfl,by rw[HV.o];exact fun _ _=>⟨none,0,rfl,aH _, .inl rfl⟩,a5⟩
  (have HV:O (oO d ⟨4,l,m,c⟩=c.drop 2):=by show _=_;rw[F.o,N,a4];simp);go_wp2_with fail;go_ret;refine⟨_,rfl,?_,a5⟩;rw[HV.o];show∀y,iX y (.slice (some ⟨b,f,none⟩) 3 cap) c->iX y (.slice (some ⟨b,f+4,none⟩) 1 (cap-2)) (c.drop 2);intro y g;(have ab:(c.drop 2).length=1:=by rw[xJ,Q.o]);refine⟨some ⟨b,f+4,none⟩,cap-2,by rw[ab],oM, .inr ⟨b,f+4,rfl,fun i hi=>?_⟩⟩;obtain rfl:i=0:=oM;obtain⟨af,ag,hv,_,g⟩:=g;injection hv with e1 e2 e3;subst e1;obtain⟨b',ae,aa,g⟩:=uC g 2 (by rw[Q.o];omega);(obtain⟨rfl,rfl⟩:b=b'/\f=ae:=by simpa using aa);have h2:=g 2 (by rw[Q.o];omega);(have hd:cQ (c.drop 2) 0=cQ c 2:=by simp[cQ,List.getD_eq_getElem?_getD]);rw[hd];exact h2
 (have p:j=1:=by simpa using Y);(have HV:O (oO d ⟨j,l,m,c⟩=c):=by show _=_;simp[oO,p]);clear p n
 go_enter Tryz.func189,Tryz.ntmps189
 go_wp2_with fail;go_ret;exact⟨_,rfl,by rw[HV.o];exact fun _ h=>h,J _⟩
theorem aWZ(R:Nat)(b:List Bool)(n cap:Nat)(w:World)(m:b.length=n)(C:n<=9223372036854775807)(f:∀i,i<n->w.cell? ⟨R,i,none⟩=some (.bool (b.getD i false))):
 Calls Tryz.prog 211 #[.slice (some ⟨R,0,none⟩) n cap, .bool false] w fun e p=>∃r:Int,e=.returned (.int .i64 r)/\decide (0<=r)= !(b.all id)/\∃k,p=w.drewN k:=by
 have g:O (b.length=n):=m;clear m
 go_enter Tryz.func211,Tryz.ntmps211
 go_wp2_with fail;go_loopw [8] (fun i wr=>∃k:Nat,k<=n/\i=.int .i64 k/\b.all id=(b.drop k).all id/\∃q,wr=w.drewN q) (fun i _=>n-(intOf i).toNat);case atStart=>exact⟨0,bL _,rfl,rfl,0,rfl⟩
 case round=>
  obtain⟨k,u,rfl,j,q,rfl⟩:=hrel;have c:O (b.all id=(b.drop k).all id):=j;clear j;by_cases l:k<n
  ·have s:=f k l;have d:O (b.all id=(b.getD k false&&(b.drop (k+1)).all id)):=c.o.trans (JD _ _ _ k (by rw[g.o];exact l));clear f c;generalize b.getD k false=x at *;cases x
   ·have HV:O (b.all id=false):=d.o;go_wp2_with fail;go_ret;exact⟨k,rfl,by rw[HV.o];simp,_,rfl⟩
   (have HV:O (b.all id=(b.drop (k+1)).all id):=by show _=_;rw[d.o];rfl);clear d;go_wp2_with fail;go_roundw;(case rel=>exact⟨k+1,oM,gN,HV.o,_,rfl⟩);case measure=>exact mI
  (have HV:O (b.all id=true):=by show _=_;rw[c.o,bG (by rw[g.o];omega)];rfl);clear f;go_wp2_with fail;go_ret;exact⟨-1,rfl,rV,_,rfl⟩
theorem aHM(R:Nat)(b:List Bool)(n cap:Nat)(w:World)(f:b.length=n)(d:n<=9223372036854775807)(c:∀i,i<n->w.cell? ⟨R,i,none⟩=some (.bool (b.getD i false))):
 Calls Tryz.prog 190 #[.slice (some ⟨R,0,none⟩) n cap, .bool false] w fun e g=>e=.returned (.bool (!(b.all id)))/\∃k,g=w.drewN k:=by
 go_enter Tryz.func190,Tryz.ntmps190
 go_wp2_with fail;refine(aWZ R b n cap w f d c).mono ?_;rintro e l ⟨r,rfl,j,k,rfl⟩;go_wp2_with fail;go_ret;exact⟨rfl,_,rfl⟩
def Gy(r:cA):Prop:=0<=r.vars/\r.vars<=8/\r.body.length<=4/\∀i,i<r.body.length->Tc r.vars.toNat (dR r.body i)
structure aKM (w:World) (rb:Obj) (X R:Nat) (bs:List Bool) (wr:World):Prop where
 d:Below w.heap.size w wr
 box:wr.heap[w.heap.size]?=some rb
 bd:Bd wr X R bs
 r0:w.heap.size<R
 r1:R<X
theorem aKM.z{w wr e:World}{rb:Obj}{X R:Nat}{c:List Bool}(h:aKM w rb X R c wr)(b:Below wr.heap.size wr e):aKM w rb X R c e:=
 ⟨h.d.trans (b.mono h.d.size),(b.block _ (cV h.box)).trans h.box,h.bd.z b,h.r0,h.r1⟩
theorem aKM.set{w wr:World}{rb:Obj}{X R:Nat}{b:List Bool}(h:aKM w rb X R b wr)(k:Nat):aKM w rb X R (b.set k true) (wr.setCell ⟨R,k,none⟩ (.bool true)):=by
 have c:=h.r0;have e:=h.r1;refine⟨h.d.setCell (p:=⟨R,k,none⟩) (wK c) _,?_,⟨?_,?_⟩,c,e⟩
 ·rw[iG _ _ _ _ (show¬w.heap.size=R by omega)];exact h.box
 ·rw[iG _ _ _ _ (show¬X=R by omega),iS];exact h.bd.box
 rw[bD h.bd.row];simp[List.map_set]
theorem Cv(n:Nat):madeCells #[Value.bool false] n=((List.replicate n false).map Value.bool).toArray:=by
 apply Array.ext
 ·simp[size_madeCells]
 intro i b c;simp[madeCells,Nat.mod_one]
theorem Qx(body:List cX)(n k:Nat)(h:k<n)(b:List Bool):jZ body (n-k) b=jZ body (n-(k+1)) (bH body b):=by obtain⟨m,c⟩:∃m,n-k=m+1:=⟨n-k-1,oM⟩;rw[c,show n-(k+1)=m by omega];rfl
theorem MI{α β:Type}(f:β->α->β)(d:α)(l:List α)(k:Nat)(h:k<l.length)(b:β):(l.drop k).foldl f b=(l.drop (k+1)).foldl f (f b (l.getD k d)):=by rw[dA h,List.foldl_cons,aI,aM h];rfl
theorem aV0{b:List Bool}{x:cX}{t:eE}(h:t∈oO b x):t∈x.v:=by
 unfold oO at h;split at h
 ·exact h
 split at h
 ·exact uV h
 simp at h
theorem aVZ(b:List Bool)(x:cX):(oO b x).length<=x.v.length:=by
 unfold oO;split
 ·exact aH _
 split
 ·simp
 simp
theorem uD{l:List eE}{i:Nat}(h:i<l.length):cQ l i∈l:=by unfold cQ;rw[aI,aM h];exact fG h
theorem FO{w:World}{ao:Option Addr}{l:List cX}(h:QY w ao l)(n:Nat)(d:n<l.length):∃b c,ao=some ⟨b,c,none⟩/\Vp w b (c+n*4) (dR l n):=by
 rcases h with h|⟨b,c,e,f⟩
 ·rw[h]at d;exact absurd d sI
 exact⟨b,c,e,f n d⟩
theorem aRC(r:cA)(E vb:Value)(w:World)(hL:uA w vb r.body)(hG:Gy r):
 Calls Tryz.prog 156 #[rZ r E vb] w fun e w'=>e=.returned (.bool (xS r))/\Below w.heap.size w w':=by
 obtain⟨D,ts,C,c,ah⟩:=r;obtain⟨h0,h8,h4,hG⟩:=hG;obtain⟨f,au⟩:∃f:Nat,ah=f:=⟨ah.toNat,by simp only at h0;omega⟩;subst au;simp only[Int.toNat_natCast]at *;obtain⟨p,s,rfl,hL⟩:=hL;have aJ:=run_make_row' (P:=Tryz.prog) 140 4 (.bool false) 1 Tryz.underlying140 kR rfl .i64 .i64 f oM oM;have aD:∀(fn:Fn)(first cap:Array Value)(w:World),(Instr.makeFunc fn first cap).run Tryz.prog w=.ok (.func fn first cap) w:=fun _ _ _ _=>rfl;(have ag:aKM w (.cells #[.int .i64 D,E, .int .i64 C, .slice p c.length s, .int .i64 f] 97) (w.heap.size+1+1) (w.heap.size+1) (List.replicate f false) (((w.alloc (.cells #[.int .i64 D,E, .int .i64 C, .slice p c.length s, .int .i64 f] 97)).alloc (.cells (madeCells #[Value.bool false] f) 4)).alloc (.cells #[.slice (some ⟨w.heap.size+1,0,none⟩) f f] 140)):=by have e1:=bA w (.cells #[.int .i64 D,E, .int .i64 C, .slice p c.length s, .int .i64 f] 97);have e2:=bA (w.alloc (.cells #[.int .i64 D,E, .int .i64 C, .slice p c.length s, .int .i64 f] 97)) (.cells (madeCells #[Value.bool false] f) 4);have e3:=bA ((w.alloc (.cells #[.int .i64 D,E, .int .i64 C, .slice p c.length s, .int .i64 f] 97)).alloc (.cells (madeCells #[Value.bool false] f) 4)) (.cells #[.slice (some ⟨w.heap.size+1,0,none⟩) f f] 140);(have s1:(w.alloc (.cells #[.int .i64 D,E, .int .i64 C, .slice p c.length s, .int .i64 f] 97)).heap.size=w.heap.size+1:=by simp);(have s2:((w.alloc (.cells #[.int .i64 D,E, .int .i64 C, .slice p c.length s, .int .i64 f] 97)).alloc (.cells (madeCells #[Value.bool false] f) 4)).heap.size=w.heap.size+1+1:=by simp);rw[s1]at e2;rw[s2]at e3;have B:∀(u:World)(o:Obj),Below u.heap.size u (u.alloc o):=fun u o=>(aG _ _).alloc (aH _) o;have b2:=B (w.alloc (.cells #[.int .i64 D,E, .int .i64 C, .slice p c.length s, .int .i64 f] 97)) (.cells (madeCells #[Value.bool false] f) 4);have N:=B ((w.alloc (.cells #[.int .i64 D,E, .int .i64 C, .slice p c.length s, .int .i64 f] 97)).alloc (.cells (madeCells #[Value.bool false] f) 4)) (.cells #[.slice (some ⟨w.heap.size+1,0,none⟩) f f] 140);have b1:=B w (.cells #[.int .i64 D,E, .int .i64 C, .slice p c.length s, .int .i64 f] 97);have a6:=b1.trans (b2.mono b1.size);refine⟨a6.trans (N.mono a6.size),(N.block _ (by rw[s2];omega)).trans ((b2.block _ (by rw[s1];omega)).trans e1),⟨by simpa using e3,?_⟩,oM,oM⟩;rw[<-Cv];exact(N.block _ (by rw[s2];omega)).trans e2);have HS:O (xS ⟨D,ts,C,c,f⟩=(jZ c c.length (List.replicate f false)).all id):=rfl;have ad:(List.replicate f false).length=f:=by simp
 go_enter Tryz.func156,Tryz.ntmps156
 go_wp2_with fail;generalize ((w.alloc (.cells #[.int .i64 D,E, .int .i64 C, .slice p c.length s, .int .i64 f] 97)).alloc (.cells (madeCells #[Value.bool false] f) 4)).alloc (.cells #[.slice (some ⟨w.heap.size+1,0,none⟩) f f] 140)=w0 at *;generalize w.heap.size+1+1=X at *;generalize hR:w.heap.size+1=R at *;clear hR;generalize List.replicate f false=Q at *;generalize ae:Obj.cells #[.int .i64 D,E, .int .i64 C, .slice p c.length s, .int .i64 f] 97=rb at *;have ai:O _:=ae;clear ae;go_loopw [16] (fun i wr=>∃(k:Nat)(F:List Bool),k<=c.length/\i=.int .i64 k/\aKM w rb X R F wr/\F.length=f/\jZ c (c.length-k) F=jZ c c.length Q) (fun i _=>c.length-(intOf i).toNat);case atStart=>exact⟨0,Q,bL _,rfl,ag,ad,rfl⟩
 case round=>
  obtain⟨k,I,hk,rfl,l,Y,af⟩:=hrel;have HR:O _:=af;clear af ag ad;(have ak:wr.cell? ⟨w.heap.size,3,none⟩=some (.slice p c.length s):=by rw[cM (l.box.trans (congrArg some ai.o.symm))];rfl);by_cases aq:k<c.length
  ·go_wp2_with fail;go_loopw [21] (fun i wq=>∃(j:Nat)(F:List Bool),j<=c.length/\i=.int .i64 j/\aKM w rb X R F wq/\F.length=f/\(c.drop j).foldl fS F=bH c I) (fun i _=>c.length-(intOf i).toNat);case atStart=>exact⟨0,I,bL _,rfl,l,Y,rfl⟩
   case round=>
    clear l ak Y;obtain⟨j,n,hj,rfl,l,Z,aa⟩:=hrel;have a2:O _:=aa;clear aa;by_cases a4:j<c.length
    ·obtain⟨b,aN,rfl,p0,p1,p2,v,p3,hT⟩:=FO hL j a4;have HT:O (iX w v (dR c j).v):=hT;obtain⟨at_,ct,rfl,_,_⟩:=hT;have q0:=aB l.d p0;have q1:=aB l.d p1;have q2:=aB l.d p2;have q3:=aB l.d p3;have V:=hG j a4;rw[<-Z]at V;have a5:O ((c.drop (j+1)).foldl fS (fS n (dR c j))=bH c I):=(MI fS ⟨0,0,0,[]⟩ c j a4 n).symm.trans a2.o;have U:Below wr.heap.size wr (wr.alloc (.cells #[.int .i64 (dR c j).kind, .int .i64 (dR c j).op, .int .i64 (dR c j).g, .slice at_ (dR c j).v.length ct] 109)):=(aG _ _).alloc (aH _) _;have S:=l.z U;clear p0 p1 p2 p3 U l a2;generalize hx:dR c j=x at *;clear hx;go_wp2_with fail;refine Calls.mono (aVY X R n x (.slice at_ x.v.length ct) _ S.bd (fV HT.o S.d) V) ?_;rintro e w2 ⟨u,rfl,hu,a8⟩;have a7:=S.z a8;have K:=hu w HT.o;(have hv:∀i,i<(oO n x).length->(cQ (oO n x) i).var<f:=fun i hi=>by have :=V.2.1 _ (aV0 (uD hi));rw[Z]at this;exact this);have aL:(oO n x).length<=9223372036854775807:=bP (aVZ n x) V.2.2;have aj:O ((c.drop (j+1)).foldl fS (jE n (oO n x))=bH c I):=a5.o;clear hu S a8 q0 q1 q2 q3 HT a5;generalize oO n x=q at *;obtain⟨ao,cp,rfl,_,K⟩:=K;go_wp2_with fail;go_loopw [29] (fun i wz=>∃(m:Nat)(F:List Bool),m<=q.length/\i=.int .i64 m/\aKM w rb X R F wz/\F.length=f/\jE F (q.drop m)=jE n q) (fun i _=>q.length-(intOf i).toNat);case atStart=>exact⟨0,n,bL _,rfl,a7,Z,rfl⟩
     case round=>
      clear a7;obtain⟨m,H,hm,rfl,l,a0,a9⟩:=hrel;have a1:O _:=a9;clear a9;by_cases W:m<q.length
      ·obtain⟨N,aO,rfl,hc⟩:=uC K m W;obtain⟨r0,r1⟩:=hc m W;have s0:=aB l.d r0;have s1:=aB l.d r1;have av:=hv m W;have M:O (jE (mN H (cQ q m)) (q.drop (m+1))=jE n q):=(MI mN ⟨0,0⟩ q m W H).symm.trans a1.o;clear a1 r0 r1 hc K hv;generalize am:cQ q m=t0 at *;clear am;obtain⟨J,nn⟩:=t0;have U:Below wr.heap.size wr (wr.alloc (.cells #[.int .i64 J, .int .i64 nn] 107)):=(aG _ _).alloc (aH _) _;have T:=l.z U;have aw:=cV l.bd.row;have ax:=cV l.bd.box;by_cases h5:0<=J
       ·have g5:decide (0<=J)=true:=aP h5;obtain⟨G,rfl⟩:∃G:Nat,J=G:=⟨J.toNat,oM⟩;(have aC:G<f:=by simp only at av;omega);have a3:=T.bd.c0;rw[a0]at a3;have ay:=T.bd.at G oM;have az:=bM T.bd.row G;have al:=(l.set G).z ((aG _ _).alloc (aH _) (.cells #[.int .i64 G, .int .i64 nn] 107));(have HV:O (jE (H.set G true) (q.drop (m+1))=jE n q):=by show _=_;rw[<-M.o];simp[mN]);(have ar:(H.set G true).length=f:=by rw[iS];exact a0);clear M;go_wp2_with fail;go_roundw;(case rel=>exact⟨m+1,_,oM,gN,al,ar,HV.o⟩);case measure=>exact mI
       have g5:decide (0<=J)=false:=aF h5;(have HV:O (jE H (q.drop (m+1))=jE n q):=by show _=_;rw[<-M.o];simp[mN,h5]);clear M;go_wp2_with fail;go_roundw;(case rel=>exact⟨m+1,_,oM,gN,T,a0,HV.o⟩);case measure=>exact mI
      (have L:jE H (q.drop m)=H:=by rw[bG oM];rfl);(have HV:O ((c.drop (j+1)).foldl fS H=bH c I):=by show _=_;rw[<-aj.o,<-a1.o,L]);clear K hv L;go_wp2_with fail;go_roundw;(case rel=>exact⟨j+1,_,oM,gN,l,a0,HV.o⟩);case measure=>exact mI
    (have L:(c.drop j).foldl fS n=n:=by rw[bG oM];rfl);(have HV:O (jZ c (c.length-(k+1)) n=jZ c c.length Q):=by show _=_;rw[<-HR.o,Qx c _ k aq,<-a2.o,L]);clear L;go_wp2_with fail;go_roundw;(case rel=>exact⟨k+1,_,oM,gN,l,Z,HV.o⟩);case measure=>exact mI
  have ac:k=c.length:=oM;(have HV:O (I=jZ c c.length Q):=by show _=_;have :=HR.o;rw[ac,EH]at this;exact this);have a3:=l.bd.c0;rw[Y]at a3;clear ac;go_wp2_with fail;refine Calls.mono (aHM R I f f _ Y oM (fun i hi=>l.bd.at i oM)) ?_;rintro e w2 ⟨rfl,q,rfl⟩;have an:=l.d;go_wp2_with fail;go_ret;exact⟨by rw[HS.o,<-HV.o];simp,uS an _⟩
end Go.Proofs.YtfljoehbbncooaaGreat
namespace Go.Proofs.YtfljoehbbncooaaGreat
open Go.RowKit Go.Shelf
attribute [local go_sem] Oper.semAt_some
abbrev HP(n:Nat):={p:Int×Int//0<=p.1/\p.1<(n:Int)/\(p.2=0\/p.2=1)}
theorem NP(r:cA)(x:cX):nY r x=0\/nY r x=1:=by
 unfold nY;split
 ·exact .inr rfl
 exact .inl rfl
def MD(n:Nat)(r:cA)(x:cX):Option (HP n):=if h:rJ x=true/\0<=x.g/\x.g<(n:Int)then some ⟨(x.g,nY r x),h.2.1,h.2.2,NP r x⟩else none
def pW(n:Nat)(r:cA)(l:List cX):List (HP n):=l.filterMap (MD n r)
theorem IA(n:Nat)(r:cA)(l:List cX)(x:cX):pW n r (l++[x])=pW n r l++(MD n r x).toList:=by unfold pW;rw[List.filterMap_append,qZ,List.filterMap_nil];cases MD n r x<;>rfl
theorem Rz(n:Nat)(r:cA)(l:List cX):(pW n r l).length<=l.length:=KV _ _
def VK(n:Nat)(l:List cX):Prop:=∀x,x∈l->rJ x=true->0<=x.g/\x.g<(n:Int)
theorem CY{n:Nat}{r:cA}{x:cX}(h:rJ x=true)(h0:0<=x.g)(h1:x.g<(n:Int)):MD n r x=some ⟨(x.g,nY r x),h0,h1,NP r x⟩:=by unfold MD;rw[dif_pos ⟨h,h0,h1⟩]
theorem PA{n:Nat}{r:cA}{x:cX}(h:¬rJ x=true):MD n r x=none:=by unfold MD;rw[dif_neg (fun k=>h k.1)]
theorem VU{n:Nat}{r:cA}:∀{l:List cX},VK n l->(pW n r l).map (fun p=>((r.g.toNat,p.1.1.toNat,p.1.2):gI))=(l.filter rJ).map fun x=>(r.g.toNat,x.g.toNat,nY r x)
 |[],_=>rfl
 |x::l,h=>by
  have c:=VU (r:=r) (l:=l) (fun y e=>h y (bY _ e));unfold pW at c ⊢;by_cases b:rJ x=true
  ·have d:=h x dL b;rw[qZ,CY b d.1 d.2,rA,if_pos b,jN,jN,c]
  rw[qZ,PA b,rA,if_neg b,c]
def HK(c RB:Nat)(W b:World):Prop:=Below c W b/\∀o:Obj,o.isCells=true->W.heap[RB]?=some o->b.heap[RB]?=some o
theorem HK.refl(b RB:Nat)(W:World):HK b RB W W:=⟨aG _ _,fun _ _ h=>h⟩
theorem HK.trans{b RB:Nat}{A B C:World}(h:HK b RB A B)(k:HK b RB B C):HK b RB A C:=⟨h.1.trans k.1,fun o c d=>k.2 o c (h.2 o c d)⟩
theorem HK.put{e RB:Nat}{w:World}(i:e<=w.heap.size)(W:World)(l:Nat)(o o':Obj)(g:w.heap.size<=l)(h:W.heap[l]?=some o)(h1:o.isCells=false)(f:o.isWalk=false):HK e RB W (W.putObj l o'):=by
 refine⟨belowK_b i W l o o' g h h1 f,fun q d b=>?_⟩;by_cases c:RB=l
 ·subst c;rw[h]at b;cases b;rw[h1]at d;cases d
 rw[World.putObj_heap_other c];exact b
theorem HK.alloc{c RB:Nat}{W:World}(d:c<=W.heap.size)(o:Obj):HK c RB W (W.alloc o):=
 ⟨(aG _ _).alloc d o,fun _ _ b=>((aG W.heap.size W).alloc (aH _) o).block RB (aK.mp b).1 |>.trans b⟩
abbrev Iv{n:Nat}(p:HP n):Array Value:=#[.int .i64 p.1.1, .int .i64 p.1.2]
theorem aWP(F:Fence)(n:Nat)(ac:F.fn 212)(ag:F.round=none)(hn:1<=n)(l RB:Nat)(m:World)(d:Nat)(r:cA)(vt:Value)(T:Option Addr)(cb:Nat)(hL:QY m T r.body)(ai:r.body.length<=9223372036854775807)(hG:VK d r.body)(J Jx:List (HP d)->World->Prop)(W:World)
 (a4:∀s A B,J s A->A.grownBy B none->J s B) (ad:Below m.heap.size m W)
 (hY:∀C x Z,J C Z->C.length<r.body.length->YieldAt F (n-1) Tryz.prog l (Iv x) Z fun e D=>
  (e=.returned (.bool true)/\J (C++[x]) D/\HK m.heap.size RB Z D)\/(e=.returned (.bool false)/\Jx (C++[x]) D))
 (p:W.heap[RB]?=some (.cells #[.int .i64 r.g,vt, .int .i64 r.h, .slice T r.body.length cb, .int .i64 r.vars] 97)) (h0:J [] W):
 CallsIn F n Tryz.prog 212 #[.func (.yield l) #[] #[], .pointer (some ⟨RB,0,none⟩)] W fun e D=>(∃v,e=.returned v)/\
  ((∃ys,ys=pW d r r.body/\J ys D)\/(∃C,(∃k,C=pW d r (r.body.take k))/\Jx C D)):=by
 refine Px Tryz.func212 rfl ac ?_ ag;simp only[Tryz.ntmps212,List.size_toArray,List.length_cons,List.length_nil,Nat.reduceAdd,Nat.reduceSub,Array.replicate_succ,Array.replicate_zero,List.push_toArray,List.append_toArray,List.nil_append,List.cons_append];(have c3:W.cell? ⟨RB,3,none⟩=some (.slice T r.body.length cb):=cH p);have HL:O (QY m T r.body):=hL;have Y:O _:=hY;have a8:O _:=hG;have a9:O _:=a4;have HR:O _:=p;clear hL hY a4 p hG;gi_wp2;gi_loopw [9] (fun i wr=>∃k:Nat,k<=r.body.length/\i=.int .i64 k/\J (pW d r (r.body.take k)) wr/\HK m.heap.size RB W wr) (fun i _=>r.body.length-(intOf i).toNat);case atStart=>exact⟨0,bL _,rfl,h0,HK.refl _ _ _⟩
 case round=>
  clear c3 h0;obtain⟨k,hk,rfl,a5,U⟩:=hrel;have w:Below m.heap.size m wr:=ad.trans U.1;have ah:O _:=w;have a6:=U.2 _ rfl HR.o;have R:O _:=U;have a0:O _:=a5;(have c2:wr.cell? ⟨RB,2,none⟩=some (.int .i64 r.h):=cH a6);clear U a5;by_cases q:k<r.body.length
  ·obtain⟨b,al,rfl,p0,p1,p2,v,p3,hT⟩:=FO HL.o k q;obtain⟨at_,ct,rfl,_,_⟩:=hT;have q0:=aB w p0;have q1:=aB w p1;have q2:=aB w p2;have q3:=aB w p3;have af:m.heap.size<=wr.heap.size:=w.size;have S:O (r.body.take (k+1)=r.body.take k++[dR r.body k]):=by
    show _=_;rw[gQ]
    congr 1
    unfold dR;rw[aI,aM q];rfl
   (have X:O ((pW d r (r.body.take k)).length<r.body.length):=by show _<_;have :=Rz d r (r.body.take k);rw[dV]at this;omega);have V:O (rJ (dR r.body k)=true->0<=(dR r.body k).g/\(dR r.body k).g<(d:Int)):=a8.o _ (by unfold dR;rw[aI,aM q];exact fG q);clear p0 p1 p2 p3 w;generalize dR r.body k=x at *;have e2:(wr.alloc (.cells #[.int .i64 x.kind, .int .i64 x.op, .int .i64 x.g, .slice at_ x.v.length ct] 109)).cell? ⟨RB,2,none⟩=some (.int .i64 r.h):=aB ((aG _ _).alloc (aH _) _) c2;have Q:O (J (pW d r (r.body.take k)) (wr.alloc (.cells #[.int .i64 x.kind, .int .i64 x.op, .int .i64 x.g, .slice at_ x.v.length ct] 109))):=a9.o _ _ _ a0.o (JW _ _ none);have P:O (HK m.heap.size RB wr (wr.alloc (.cells #[.int .i64 x.kind, .int .i64 x.op, .int .i64 x.g, .slice at_ x.v.length ct] 109))):=HK.alloc af _;obtain⟨H,op,u,ts⟩:=x;dsimp only at *;by_cases E:H=1
   ·subst E;(have j:rJ ⟨1,op,u,ts⟩=true:=by simp[rJ]);by_cases G:r.h=0
    ·(have ae:(r.h==0)=true:=by simp[G]);have c:=V.o j;(have f:O (pW d r (r.body.take (k+1))=pW d r (r.body.take k)++[⟨(u,0),c.1,c.2, .inl rfl⟩]):=by show _=_;rw[S.o,IA,CY j c.1 c.2];simp[nY,G]);clear j G;obtain⟨fn,a7,a1,a2,N,p⟩:=Y.o _ ⟨(u,0),c.1,c.2, .inl rfl⟩ _ Q.o X.o;dsimp only[Iv]at N;gi_wp2;refine p.mono ?_;rintro e W3 (⟨rfl,K,M⟩|⟨rfl,L⟩)
     ·gi_wp2;go_roundw;(case rel=>exact⟨k+1,q,by simp,by rw[f.o];exact K,HK.trans R.o (HK.trans P.o M)⟩);case measure=>exact mI
     gi_wp2;refine dP (yC rfl _ _ _) rfl ?_;exact⟨⟨_,rfl⟩, .inr ⟨_,⟨k+1,f.o.symm⟩,L⟩⟩
    (have ae:(r.h==0)=false:=by simp[G]);have c:=V.o j;(have f:O (pW d r (r.body.take (k+1))=pW d r (r.body.take k)++[⟨(u,1),c.1,c.2, .inr rfl⟩]):=by show _=_;rw[S.o,IA,CY j c.1 c.2];simp[nY,G]);clear j G;obtain⟨fn,a7,a1,a2,N,p⟩:=Y.o _ ⟨(u,1),c.1,c.2, .inr rfl⟩ _ Q.o X.o;dsimp only[Iv]at N;gi_wp2;refine p.mono ?_;rintro e W3 (⟨rfl,K,M⟩|⟨rfl,L⟩)
    ·gi_wp2;go_roundw;(case rel=>exact⟨k+1,q,by simp,by rw[f.o];exact K,HK.trans R.o (HK.trans P.o M)⟩);case measure=>exact mI
    gi_wp2;refine dP (yC rfl _ _ _) rfl ?_;exact⟨⟨_,rfl⟩, .inr ⟨_,⟨k+1,f.o.symm⟩,L⟩⟩
   (have a3:(H==1)=false:=by simp[E]);by_cases I:H=2
   ·subst I;(have j:rJ ⟨2,op,u,ts⟩=true:=by simp[rJ]);clear E a3;have c:=V.o j;(have f:O (pW d r (r.body.take (k+1))=pW d r (r.body.take k)++[⟨(u,1),c.1,c.2, .inr rfl⟩]):=by show _=_;rw[S.o,IA,CY j c.1 c.2];simp[nY]);clear j;obtain⟨fn,a7,a1,a2,N,p⟩:=Y.o _ ⟨(u,1),c.1,c.2, .inr rfl⟩ _ Q.o X.o;dsimp only[Iv]at N;gi_wp2;refine p.mono ?_;rintro e W3 (⟨rfl,K,M⟩|⟨rfl,L⟩)
    ·gi_wp2;go_roundw;(case rel=>exact⟨k+1,q,by simp,by rw[f.o];exact K,HK.trans R.o (HK.trans P.o M)⟩);case measure=>exact mI
    gi_wp2;refine dP (yC rfl _ _ _) rfl ?_;exact⟨⟨_,rfl⟩, .inr ⟨_,⟨k+1,f.o.symm⟩,L⟩⟩
   (have aa:(H==2)=false:=by simp[I]);(have f:O (pW d r (r.body.take (k+1))=pW d r (r.body.take k)):=by show _=_;rw[S.o,IA,PA (by simp[rJ,E,I])];simp);(have aj:(H != 1)=true:=by simp[E]);(have ak:(H != 2)=true:=by simp[I]);clear E I a3 aa;gi_wp2;go_roundw;(case rel=>exact⟨k+1,q,by simp,by rw[f.o];exact Q.o,HK.trans R.o P.o⟩);case measure=>exact mI
  obtain rfl:k=r.body.length:=oM;clear c2 a6;gi_wp2;go_end0;have h9:=a0.o;rw[nK]at h9;exact⟨⟨_,rfl⟩, .inl ⟨_,rfl,h9⟩⟩
theorem bAZ(F:Fence)(n:Nat)(d:F.fn 192)(f:F.round=none)(r:cA)(at_ ab:Option Addr)(b cb:Nat)(w:World):
 CallsIn F n Tryz.prog 192 #[rZ r (.slice at_ r.v.length b) (.slice ab r.body.length cb)] w fun e i=>e=.returned (.func (.func 212) #[] #[.pointer (some ⟨w.heap.size,0,none⟩)])/\
  i=w.alloc (.cells #[.int .i64 r.g, .slice at_ r.v.length b, .int .i64 r.h, .slice ab r.body.length cb, .int .i64 r.vars] 97):=by
 have j:∀(c:Fn)(first cap:Array Value)(w:World),(Instr.makeFunc c first cap).run Tryz.prog w=.ok (.func c first cap) w:=fun _ _ _ _=>rfl;refine Px Tryz.func192 rfl d ?_ f;simp only[Tryz.ntmps192,List.size_toArray,List.length_cons,List.length_nil,Nat.reduceAdd,Nat.reduceSub,Array.replicate_succ,Array.replicate_zero,List.push_toArray,List.append_toArray,List.nil_append,List.cons_append];gi_wp2;go_ret;exact⟨rfl,rfl⟩
theorem aLY(F:Fence)(n:Nat)(u:F.fn 212)(L:F.round=none)(K:1<=n)(RB:Nat)(c:World)(b:Nat)(r:cA)(m:Value)(d:Option Addr)(cb:Nat)(E:QY c d r.body)(I:r.body.length<=9223372036854775807)(C:VK b r.body)(w:World)
 (j:Below c.heap.size c w) (f:w.heap[RB]?=some (.cells #[.int .i64 r.g,m, .int .i64 r.h, .slice d r.body.length cb, .int .i64 r.vars] 97)):
 SeqStopsK F n Tryz.prog 212 #[.pointer (some ⟨RB,0,none⟩)] (fun x:HP b=>Iv x) (HK c.heap.size RB) (fun P=>P=pW b r r.body) (fun N=>∃k,N=pW b r (r.body.take k)) r.body.length w:=fun l J p W i D _ G q=>
 aWP F n u L K l RB c b r m d cb E I C J p W (fun s A B M H=>D s A B none M H (fun _ e=>by cases e)) (j.trans (i.mono j.size)) G ((i.block RB (aK.mp f).1).trans f) q
end Go.Proofs.YtfljoehbbncooaaGreat
namespace Go.Proofs.YtfljoehbbncooaaGreat
open Go.RowKit Go.Shelf
def BJ(l:List Int):Array Value:=(l.map (Value.int .i64)).toArray
theorem JF{w:World}{b:Nat}{l:List Int}(h:w.heap[b]?=some (.cells (BJ l) 3)){i:Nat}(c:i<l.length):w.cell? ⟨b,i,none⟩=some (.int .i64 (l.getD i 0)):=by rw[cM h];unfold BJ;simp[c]
theorem Zk{w:World}{b:Nat}{l:List Int}(h:w.heap[b]?=some (.cells (BJ l) 3))(i:Nat)(v:Int):(w.setCell ⟨b,i,none⟩ (.int .i64 v)).heap[b]?=some (.cells (BJ (l.set i v)) 3):=by rw[bD h];unfold BJ;simp[List.map_set]
theorem eC{w:World}{b c i:Nat}{v:Value}(h:¬c=b):(w.setCell ⟨b,i,none⟩ v).heap[c]?=w.heap[c]?:=iG _ _ _ _ h
def JM(B:Nat)(w:World):List Deferred->Prop
 |[]=>True
 |d::ds=>(∃D,B<=D/\d={target:=.collected D,args:=#[]}/\w.heap[D]?=some (.deferred (some []))/\∀b,b∈ds->b≠d)/\JM B w ds
theorem JM.keep{B:Nat}{w w':World}:∀{b:List Deferred},JM B w b->(∀D,B<=D->{target:=.collected D,args:=#[]}∈b->w.heap[D]?=some (.deferred (some []))->w'.heap[D]?=some (.deferred (some [])))->JM B w' b
 |[],_,_=>trivial
 |_::_,⟨⟨D,hB,hd,hD,hn⟩,h⟩,hk=>⟨⟨D,hB,hd,hk D hB (hd▸dL) hD,hn⟩,h.keep fun c d f e=>hk c d (bY _ f) e⟩
theorem JM.mem{B:Nat}{w:World}:∀{c:List Deferred},JM B w c->∀D,{target:=.collected D,args:=#[]}∈c->w.heap[D]?=some (.deferred (some []))
 |d::c,⟨⟨D0,hB,hd,hD,hn⟩,h⟩,D,b=>by
  rcases eA.mp b with b|b
  ·rw[hd]at b;injection b with e _;injection e with e;rw[e];exact hD
  exact h.mem D b
theorem Qk{F:Fence}{n:Nat}{P:Program}{g:Func}{tmps:Array Value}{R:Ending->World->Prop}{v:Value}{B:Nat}(i:∀w,(results g tmps).run P w=.ok v w):
 ∀(b:List Deferred)(w:World),JM B w b->(∀c,Below B w c->R (.returned v) c)->LeavesInM F n P g tmps R b .returning w
 |[],w,_,f=>⟨v,i w,f w (aG _ _)⟩
 |d::b,w,⟨⟨D,hB,hd,hD,hn⟩,h⟩,f=>by subst hd;refine⟨by simp, .inl ⟨D,_,rfl,run_takeDeferred hD,?_⟩⟩;have s:=(aK.mp hD).1;have l:Below B w (w.putObj D (.deferred none)):=(aG B w).grown (grownBy_putObj' w D (.deferred none)) oM (fun k e=>by cases e;exact hB);refine Qk i b _ (h.keep fun q r p j=>?_) (fun c m=>f c (l.trans m));rw[World.putObj_heap_other (fun e=>hn _ p (by rw[e]))];exact j
theorem aBC{l:List Int}{e:gI}{K:Int}(h:∀i:Nat,l.getD i 0<=K)(b:e.2.2<=1)(i:Nat):(bE l e).getD i 0<=K+1:=by
 unfold bE;split
 ·rw[IL];split
  ·have :=h e.2.1;omega
  have :=h i;omega
 have :=h i;omega
theorem EQ:∀(E:List gI){l:List Int}{K:Int},(∀i:Nat,l.getD i 0<=K)->(∀e,e∈E->e.2.2<=1)->∀i:Nat,(aU E l).getD i 0<=K+E.length
 |[],l,K,h,_,i=>by have :=h i;simpa[aU]using this
 |e::E,l,K,h,he,i=>by have d:=EQ E (l:=bE l e) (K:=K+1) (aBC h (he e dL)) (fun b c=>he b (bY _ c)) i;show(aU E (bE l e)).getD i 0<=_;rw[nJ];omega
theorem uH(E:List gI)(e:gI)(l:List Int):aU (E++[e]) l=bE (aU E l) e:=by unfold aU;rw[rL];rfl
theorem EP(E:List gI)(e:gI)(l:List Int)(j:e.1<l.length):
 decide (aU (E++[e]) l≠l)=(decide (aU E l≠l)||decide ((aU E l).getD e.1 0<(aU E l).getD e.2.1 0+e.2.2)):=by
 rw[uH];by_cases b:(aU E l).getD e.1 0<(aU E l).getD e.2.1 0+e.2.2
 ·have c:=rR E l;have d:=QR (aU E l) e;(have k:bE (aU E l) e≠l:=fun f=>by rw[f]at d;have g:=qK.anti c d;(have i:(bE (aU E l) e).getD e.1 0=(aU E l).getD e.2.1 0+e.2.2:=by unfold bE;rw[if_pos b,IL,if_pos ⟨rfl,by rw[vF];exact j⟩]);rw[f]at i;have m:l.getD e.1 0=(aU E l).getD e.1 0:=congrArg (fun x:List Int=>x.getD e.1 0) g;omega);rw[aP k,aP b,EG]
 (have c:bE (aU E l) e=aU E l:=by unfold bE;rw[if_neg b]);rw[c,aF b,Nh]
end Go.Proofs.YtfljoehbbncooaaGreat
namespace Go.Proofs.YtfljoehbbncooaaGreat
open Go.RowKit
theorem fB(w:World)(n:Nat):Below w.heap.size w (w.drewN n):=⟨rfl,rfl,rfl,aH _,fun _ _=>rfl⟩
def eY(y:cB):Array Value:=(y.j.map (Value.int .i64)++y.q.map Value.bool).toArray
abbrev fY(y:cB):Value:=.agg (eY y)
def mP(w:World)(b:Nat)(y:cB):Prop:=w.heap[b]?=some (.cells (eY y) 277)
theorem mP.num{w:World}{b:Nat}{y:cB}(h:mP w b y)(d:lI 8 y){i:Nat}(c:i<8):w.cell? ⟨b,i,none⟩=some (.int .i64 (y.j.getD i 0)):=by rw[cM h];unfold eY;(have e:i<(y.j.map (Value.int .i64)).length:=by rw[aY,d.n];exact c);rw[List.getElem?_toArray,lB e,dW,aI,aM (by rw[d.n];exact c)];rfl
theorem mP.kn{w:World}{b:Nat}{y:cB}(h:mP w b y)(c:lI 8 y){i:Nat}(e:i<8):w.cell? ⟨b,8+i,none⟩=some (.bool (y.q.getD i false)):=by rw[cM h];unfold eY;(have d:(y.j.map (Value.int .i64)).length=8:=by rw[aY,c.n]);rw[List.getElem?_toArray,kS oM,d,yG,dW,aI,aM (by rw[c.k];exact e)];rfl
theorem Vj(t:eE)(x:List Int)(v:Value)(w:World)(p:eT w v x)(ht:t.var<0\/t.var.toNat<x.length):
 Calls Tryz.prog 216 #[jG t,v] w fun e r=>e=.returned (.int .i64 (fH x t))/\Below w.heap.size w r:=by
 obtain⟨s,c,rfl,f⟩:=p;have i:Below w.heap.size w (w.alloc (.cells #[.int .i64 t.var, .int .i64 t.n] 107)):=(aG _ _).alloc (aH _) _;by_cases h:t.var<0
 ·have g:decide (t.var<0)=true:=aP h;(have HV:O (fH x t=t.n):=by show _=_;unfold fH;rw[if_pos h]);clear ht h f
  go_enter Tryz.func216,Tryz.ntmps216
  go_wp2;go_ret;exact⟨rV,i⟩
 have g:decide (t.var<0)=false:=aF h;(have l:t.var.toNat<x.length:=by rcases ht with d|d;exact absurd d h;exact d);obtain⟨k,j⟩:∃k:Nat,t.var=k:=⟨t.var.toNat,oM⟩;(have HV:O (fH x t=cI x k):=by show _=_;unfold fH;rw[if_neg h,j];rfl);have q:k<x.length:=oM;obtain⟨b,C,rfl,m⟩:=sY f k q;have D:=aB i m;obtain⟨E,u⟩:=t;simp only at j h g ht l;subst j;clear ht h l f m;generalize cI x k=F at *
 go_enter Tryz.func216,Tryz.ntmps216
 go_wp2;go_ret;exact⟨rV,i⟩
theorem PZ(y:cB)(t:eE)(w:World)(l:lI 8 y)(ht:vA 8 t):
 Calls Tryz.prog 276 #[fY y,jG t] w fun e m=>e=.returned (.bool (cY y.q t))/\Below w.heap.size w m:=by
 have d:Below w.heap.size w ((w.alloc (.cells (eY y) 277)).alloc (.cells #[.int .i64 t.var, .int .i64 t.n] 107)):=((aG _ _).alloc (aH _) _).alloc sI _;(have c:mP ((w.alloc (.cells (eY y) 277)).alloc (.cells #[.int .i64 t.var, .int .i64 t.n] 107)) w.heap.size y:=by have :=((aG (w.alloc (.cells (eY y) 277)).heap.size (w.alloc (.cells (eY y) 277))).alloc (aH _) (.cells #[.int .i64 t.var, .int .i64 t.n] 107)).block w.heap.size sI;exact this.trans (bA w _));unfold cY;by_cases h:t.var<0
 ·have g:decide (t.var<0)=true:=aP h;clear ht h c
  go_enter Tryz.func276,Tryz.ntmps276
  go_wp2;go_ret;exact⟨by rw[g];rfl,d⟩
 have g:decide (t.var<0)=false:=aF h;(have i:t.var.toNat<8:=by rcases ht with b|b;exact absurd b h;exact b);obtain⟨k,f⟩:∃k:Nat,t.var=k:=⟨t.var.toNat,oM⟩;have j:k<8:=oM;have q:=c.kn l j;obtain⟨r,p⟩:=t;simp only at f h g ht i;subst f;clear ht h i c
 go_enter Tryz.func276,Tryz.ntmps276
 go_wp2;go_ret;exact⟨rfl,d⟩
theorem mP.ints{w:World}{b:Nat}{y:cB}(h:mP w b y)(c:lI 8 y):eT w (.slice (some ⟨b,0,none⟩) 8 8) y.j:=by refine⟨some ⟨b,0,none⟩,8,by rw[c.n], .inr ⟨b,0,rfl,fun i d=>?_⟩⟩;rw[eP];exact h.num c (by rw[<-c.n];exact d)
theorem mP.z{w w':World}{b:Nat}{y:cB}(h:mP w b y)(c:Below w.heap.size w w'):mP w' b y:=(c.block _ (cV h)).trans h
theorem PE(w:World)(o q:Obj):((w.alloc o).alloc q).heap[w.heap.size]?=some o/\((w.alloc o).alloc q).heap[w.heap.size+1]?=some q/\Below w.heap.size w ((w.alloc o).alloc q):=by
 refine⟨?_,?_,((aG _ _).alloc (aH _) _).alloc sI _⟩
 ·have :=((aG (w.alloc o).heap.size (w.alloc o)).alloc (aH _) q).block w.heap.size sI;exact this.trans (bA w _)
 have :=bA (w.alloc o) q;simpa using this
theorem BK(y:cB)(t:eE)(w:World)(g:lI 8 y)(ht:vA 8 t):
 Calls Tryz.prog 268 #[fY y,jG t] w fun e m=>e=.returned (.int .i64 (fH y.j t))/\Below w.heap.size w m:=by
 obtain⟨d,b,f⟩:=PE w (.cells (eY y) 277) (.cells #[.int .i64 t.var, .int .i64 t.n] 107);have k:O (mP ((w.alloc (.cells (eY y) 277)).alloc (.cells #[.int .i64 t.var, .int .i64 t.n] 107)) w.heap.size y):=d;have c:O _:=f;(have c0:((w.alloc (.cells (eY y) 277)).alloc (.cells #[.int .i64 t.var, .int .i64 t.n] 107)).cell? ⟨w.heap.size+1,0,none⟩=some (.int .i64 t.var):=cH b);(have q:((w.alloc (.cells (eY y) 277)).alloc (.cells #[.int .i64 t.var, .int .i64 t.n] 107)).cell? ⟨w.heap.size+1,1,none⟩=some (.int .i64 t.n):=cH b);(have i:O (t.var<0\/t.var.toNat<y.j.length):=by show _\/_;rw[g.n];exact ht);clear d b f ht
 go_enter Tryz.func268,Tryz.ntmps268
 go_upto_region 1 with fail;generalize (w.alloc (.cells (eY y) 277)).alloc (.cells #[.int .i64 t.var, .int .i64 t.n] 107)=p at *;(go_region_with (go_at_call 216;refine Calls.mono (Vj t y.j _ _ (mP.ints (mP.z k.o (fB p _)) g) i.o) ?_;rintro _ r ⟨rfl,l⟩));go_wp2_with fail;go_ret;exact⟨rfl,c.o.drew.trans (l.mono c.o.size)⟩
end Go.Proofs.YtfljoehbbncooaaGreat
namespace Go.Proofs
open Go.Shelf
def Tryz.sortI_ren:Go.Shelf.Ren:=⟨fun |6=>215|15=>150|14=>236|28=>184|29=>185|20=>248|21=>249|22=>250|23=>251|24=>252|25=>253|26=>254|27=>255|46=>271|47=>203|48=>204|49=>272|50=>273|57=>280|n=>n,fun |22=>143|24=>22|25=>158|3=>3|39=>155|0=>0|53=>223|55=>225|4=>4|46=>217|45=>216|50=>114|5=>5|9=>9|66=>245|70=>249|76=>267|77=>183|n=>n,fun |n=>n⟩
theorem Tryz.sortI:Go.Proofs.SlLaysF.n6 Tryz.prog Tryz.sortI_ren:={
 mixed:=by kernel_rfl
 f6:=⟨Tryz.f215.name,by decide,Tryz.func215.trans (congrArg some (by kernel_rfl))⟩
 f14:=⟨Tryz.f236.name,by decide,Tryz.func236.trans (congrArg some (by kernel_rfl))⟩
 f15:=Tryz.func150.trans (congrArg some (by kernel_rfl))
 f20:=⟨Tryz.f248.name,by decide,Tryz.func248.trans (congrArg some (by kernel_rfl))⟩
 f21:=⟨Tryz.f249.name,by decide,Tryz.func249.trans (congrArg some (by kernel_rfl))⟩
 f22:=⟨Tryz.f250.name,by decide,Tryz.func250.trans (congrArg some (by kernel_rfl))⟩
 f23:=⟨Tryz.f251.name,by decide,Tryz.func251.trans (congrArg some (by kernel_rfl))⟩
 f24:=⟨Tryz.f252.name,by decide,Tryz.func252.trans (congrArg some (by kernel_rfl))⟩
 f25:=⟨Tryz.f253.name,by decide,Tryz.func253.trans (congrArg some (by kernel_rfl))⟩
 f26:=⟨Tryz.f254.name,by decide,Tryz.func254.trans (congrArg some (by kernel_rfl))⟩
 f27:=⟨Tryz.f255.name,by decide,Tryz.func255.trans (congrArg some (by kernel_rfl))⟩
 f28:=Tryz.func184.trans (congrArg some (by kernel_rfl))
 f29:=Tryz.func185.trans (congrArg some (by kernel_rfl))
 f46:=⟨Tryz.f271.name,by decide,Tryz.func271.trans (congrArg some (by kernel_rfl))⟩
 f47:=Tryz.func203.trans (congrArg some (by kernel_rfl))
 f48:=Tryz.func204.trans (congrArg some (by kernel_rfl))
 f49:=⟨Tryz.f272.name,by decide,Tryz.func272.trans (congrArg some (by kernel_rfl))⟩
 f50:=⟨Tryz.f273.name,by decide,Tryz.func273.trans (congrArg some (by kernel_rfl))⟩
 f57:=⟨Tryz.f280.name,by decide,Tryz.func280.trans (congrArg some (by kernel_rfl))⟩
 t0:=Tryz.underlying0
 a0:=Tryz.isAgg0
 z0:=Tryz.sizeOf0
 v0:=Tryz.zeroValue0
 t3:=Tryz.underlying3
 a3:=Tryz.isAgg3
 z3:=Tryz.sizeOf3
 v3:=Tryz.zeroValue3
 t4:=Tryz.underlying4
 a4:=Tryz.isAgg4
 z4:=Tryz.sizeOf4
 v4:=Tryz.zeroValue4
 t5:=Tryz.underlying5
 a5:=Tryz.isAgg5
 z5:=Tryz.sizeOf5
 v5:=Tryz.zeroValue5
 t9:=Tryz.underlying9
 a9:=Tryz.isAgg9
 z9:=Tryz.sizeOf9
 v9:=Tryz.zeroValue9
 t22:=Tryz.underlying143
 a22:=Tryz.isAgg143
 z22:=Tryz.sizeOf143
 v22:=Tryz.zeroValue143
 a24:=Tryz.isAgg22
 z24:=Tryz.sizeOf22
 t25:=Tryz.underlying158
 a25:=Tryz.isAgg158
 z25:=Tryz.sizeOf158
 v25:=Tryz.zeroValue158
 t39:=Tryz.underlying155
 a39:=Tryz.isAgg155
 z39:=Tryz.sizeOf155
 v39:=Tryz.zeroValue155
 t45:=Tryz.underlying216
 a45:=Tryz.isAgg216
 z45:=Tryz.sizeOf216
 v45:=Tryz.zeroValue216
 t46:=Tryz.underlying217
 a46:=Tryz.isAgg217
 z46:=Tryz.sizeOf217
 v46:=Tryz.zeroValue217
 t50:=Tryz.underlying114
 a50:=Tryz.isAgg114
 z50:=Tryz.sizeOf114
 v50:=Tryz.zeroValue114
 t53:=Tryz.underlying223
 a53:=Tryz.isAgg223
 z53:=Tryz.sizeOf223
 v53:=Tryz.zeroValue223
 t55:=Tryz.underlying225
 a55:=Tryz.isAgg225
 z55:=Tryz.sizeOf225
 v55:=Tryz.zeroValue225
 t66:=Tryz.underlying245
 a66:=Tryz.isAgg245
 z66:=Tryz.sizeOf245
 v66:=Tryz.zeroValue245
 t70:=Tryz.underlying249
 a70:=Tryz.isAgg249
 z70:=Tryz.sizeOf249
 v70:=Tryz.zeroValue249
 t76:=Tryz.underlying267
 a76:=Tryz.isAgg267
 z76:=Tryz.sizeOf267
 v76:=Tryz.zeroValue267
 t77:=Tryz.underlying183
 a77:=Tryz.isAgg183
 z77:=Tryz.sizeOf183
 v77:=Tryz.zeroValue183}
end Go.Proofs
namespace Go.Proofs.YtfljoehbbncooaaGreat
open Go.RowKit
theorem tM{y:cB}(b:lI 8 y):(eY y).size=16:=by unfold eY;rw[List.size_toArray,aV,aY,aY,b.n,b.k]
theorem Dj(y:cB):(eY y).all (·.oneCell')=true:=by
 unfold eY;refine all_oneCell_toArray fun v b=>?_;rcases cW.mp b with h|h
 ·obtain⟨n,_,rfl⟩:=cJ.mp h;rfl
 obtain⟨n,_,rfl⟩:=cJ.mp h;rfl
theorem QE:(Tryz.prog.info? 277).map (·.size)=some 16:=kR
theorem aYX{w:World}{b:Nat}{y:cB}(h:mP w b y):w.rangeAt b 0 (eY y).toList:=fun j v c=>by rw[eP,cM h];simpa using c
theorem Qj{w:World}{b:Nat}{y:cB}(h:mP w b y)(c:lI 8 y):(loadVar 277 ⟨b,0,none⟩).run Tryz.prog w=.ok (fY y) w:=by have :=run_loadVar_mid (P:=Tryz.prog) w b 0 277 (eY y).toList _ (aYX h) Tryz.underlying277 rfl (by rw[vM,tM c];exact QE);simpa using this
theorem vK{a:Act}{o:Oper}{x:Operand}{w:World}{b:Nat}{y:cB}(c:o.op=.load 277 x)(d:a.eval x=.pointer (some ⟨b,0,none⟩))(h:mP w b y)(e:lI 8 y):(execOp a.eval o).run Tryz.prog w=.ok (.value (fY y)) w:=by unfold execOp;simp only[c,d,Instr.loadAt,Instr.sureAddr,Sem.run_bind,Sem.run_pure,Result.andThen_ok,Qj h e]
theorem pK{c:Array Oper}{rest:List Oper}{o:Oper}{a:Act}{w:World}{Q:Exit->Act->World->Prop}(g:Region.wanted o (yielded c a.tmps)=true)(x:Operand)(f:o.op=.load 277 x)
 (b:Nat) (i:a.eval x=.pointer (some ⟨b,0,none⟩)) (y:cB) (e:mP w b y) (j:lI 8 y) (h:wpList Tryz.prog c Q rest (a.put o.dst (fY y)) w):wpList Tryz.prog c Q (o::rest) a w:=by
 refine wpList_step fun K d=>?_;rw[if_pos g];unfold Oper.wp;rw[vK f i e j,Oper.upon_value];exact d _ _ h
theorem JR{d:Array Oper}{rest:List Oper}{o:Oper}{a:Act}{w:World}{Q:Exit->Act->World->Prop}(g:o.guard=none)(x u:Operand)(i:o.op=.store 277 x u)
 (b:Nat) (l:a.eval x=.pointer (some ⟨b,0,none⟩)) (y z:cB) (k:a.eval u=fY z) (f:mP w b y) (m:lI 8 y) (c:lI 8 z) (h:wpList Tryz.prog d Q rest (a.put o.dst undef) (w.setRow b (eY z))):wpList Tryz.prog d Q (o::rest) a w:=by
 refine wpList_plain g fun K e=>?_;have j:=Tb (P:=Tryz.prog) w b 277 277 (eY y) (eY z) f (by rw[tM c];exact QE) (by rw[tM m,tM c]) (Dj z);unfold Oper.wp execOp;simp only[i,l,k,Instr.storeAt,Instr.sureAddr,Sem.run_bind,Sem.run_pure,Result.andThen_ok,j];exact e _ _ h
theorem Qv{c:Func}{t u:Tmp}(h:c.results=#[.cell t 277, .tmp u]){tmps:Array Value}{w:World}{b:Nat}{y:cB}(ht:tmps.getD t undef=.pointer (some ⟨b,0,none⟩))(e:mP w b y)(g:lI 8 y):
 (results c tmps).run Tryz.prog w=.ok (.tuple #[fY y,tmps.getD u undef]) w:=by
 have d:=Qj e g;(have f:tmps[t]?.getD undef=.pointer (some ⟨b,0,none⟩):=by simpa using ht);simp[results,h,f,asAddr,d]
theorem Tv{w:World}{b:Nat}{y z:cB}(h:mP w b y):mP (w.setRow b (eY z)) b z:=setRow_heap w b _ _ 277 _ h
theorem PF{w:World}{b k:Nat}{z:cB}(h:¬k=b):(w.setRow b (eY z)).heap[k]?=w.heap[k]?:=setRow_other w b k _ h
theorem Af{n:Nat}{w wr:World}{b:Nat}{z:cB}(h:Below n w wr)(c:n<=b):Below n w (wr.setRow b (eY z)):=
 h.trans ⟨rfl,rfl,rfl,by simp,fun k d=>setRow_other wr b k _ oM⟩
theorem aD7:(Tryz.prog.info? 109).map (fun i=>(i.zero,i.size,i.bytes))=some (some (.agg #[.int .i64 0, .int .i64 0, .int .i64 0, .slice none 0 0]),4,48):=kR
end Go.Proofs.YtfljoehbbncooaaGreat
namespace Go.Proofs.YtfljoehbbncooaaGreat
open Go.RowKit
open Go.Maps
structure aUT (ns:List (List UInt8)) (D:DataW Unit):Prop where
 size:Maps.size D=ns.length
 has:∀s:List UInt8,Maps.has D (.string s)=ns.contains s
 at_:∀s:List UInt8,s∈ns->D.atKey (.string s) (.lit (.int .i64 0))=.lit (.int .i64 (ns.idxOf s))
def Oh(w:World)(B:Nat)(ns:List (List UInt8)):Prop:=∃D:DataW Unit,w.ownsMap Tryz.prog 9 (plainElem Tryz.prog 3) B ns.length D/\aUT ns D
theorem bET{x:List UInt8}:∀{l m:List (List UInt8)},x∈l->(l++m).idxOf x=l.idxOf x:=by
 intro l
 induction l with
 |nil=>exact fun h=>absurd h sI
 |cons a r d=>
  intro m h;rw[Sx,List.idxOf_cons,List.idxOf_cons];by_cases b:a=x
  ·simp[b]
  have c:x∈r:=by
   rcases eA.mp h with h|h
   ·exact absurd h.symm b
   exact h
  rw[d c]
theorem bEU{x:List UInt8}:∀{l:List (List UInt8)},¬x∈l->(l++[x]).idxOf x=l.length:=by
 intro l
 induction l with
 |nil=>intro _;simp
 |cons a r c=>
  intro h;have b:¬a=x:=fun e=>h (by simp[e]);rw[Sx,List.idxOf_cons,c (fun e=>h (bY _ e)),MS b];rfl
theorem aL4{x:List UInt8}:∀{l:List (List UInt8)},¬x∈l->l.idxOf x=l.length:=by
 intro l
 induction l with
 |nil=>intro _;simp
 |cons a r c=>
  intro h;have b:¬a=x:=fun e=>h (by simp[e]);rw[List.idxOf_cons,c (fun e=>h (bY _ e)),MS b];rfl
theorem aHY:Keyed Tryz.prog 9:=string_keyed Tryz.underlying9
theorem aTQ(w:World):(zeroValue 3).run Tryz.prog w=.ok (.int .i64 0) w:=kR
theorem aUT.nil:aUT [] (.map []):=⟨rfl,fun _=>rfl,fun _ h=>absurd h sI⟩
theorem aUT.push{ns:List (List UInt8)}{D:DataW Unit}(h:aUT ns D)(c:Tidy D)(s:List UInt8)(f:ns.contains s=false):aUT (ns++[s]) (D.put (.string s) (.lit (.int .i64 ns.length))):=by
 (have e:WideAt.IsKeyLit (.string s):=by simp[WideAt.IsKeyLit]);(have i:¬s∈ns:=by simpa using f);refine⟨?_,fun x=>?_,fun x b=>?_⟩
 ·rw[size_put c,h.has,f,h.size];simp
 ·by_cases b:x=s
  ·subst b;rw[has_put_same c.isMap e];simp
  rw[has_put_other (by simpa using b),h.has];simp[b]
 by_cases d:x=s
 ·subst d;rw[atKey_put_same c.isMap e,bEU i]
 have g:x∈ns:=by
  rcases cW.mp b with h|h
  ·exact h
  exact absurd (by simpa using h) d
 rw[atKey_put_other (by simpa using d),h.at_ x g,bET g]
theorem Oh.z{w w':World}{B:Nat}{ns:List (List UInt8)}(h:Oh w B ns)(j:Below w.heap.size w w'):Oh w' B ns:=by obtain⟨D,⟨d,c,b,e,f,g⟩,i⟩:=h;exact⟨D,⟨d,c,(j.block _ (cV b)).trans b,e,f,g⟩,i⟩
theorem aRM(w:World):Oh (w.alloc (.map #[] 0)) w.heap.size []:=⟨_,Dp _ _ _ _,aUT.nil⟩
theorem bIA(B:Nat)(ns:List (List UInt8))(s:List UInt8)(w:World)(h:Oh w B ns)(F:s.length<=5000)(E:ns.length<=1000000):
 Calls Tryz.prog 114 #[.map (some B), .string ⟨s.toArray⟩] w fun e m=>e=.returned (.int .i64 (ns.idxOf s))/\Oh m B (if ns.contains s then ns else ns++[s])/\w.grownBy m (some B):=by
 obtain⟨D,d,b⟩:=h;(have i:keyOf Tryz.prog 9 (.string ⟨s.toArray⟩)=some (.string s):=by have :keyOf Tryz.prog 9 (.string ⟨s.toArray⟩)=some (.string (⟨s.toArray⟩:ByteArray).data.toList):=Go.WideMaps.keyOf_string_mk Tryz.underlying9 (by unfold maxLen;simp[ByteArray.size];omega);simpa using this);have g:=d.tidy aHY;have l:=b.has s;cases f:ns.contains s
 ·rw[f]at l;have G:=b.size;have HP:O (aUT (ns++[s]) (D.put (.string s) (.lit (.int .i64 ns.length)))):=b.push g s f;have C:ns.idxOf s=ns.length:=aL4 (by simpa using f);clear b g;have x:(Lit.int IntKind.i64 (ns.length:Int)).wf=true:=WalkArith.wf_i64 oM
  go_enter Tryz.func114,Tryz.ntmps114
  go_wp2_with(first
   |(at_lookup;refine wpList_lookup_own_ok_int _ rfl _ _ 161 rfl 9 3 .i64 aHY Tryz.underlying161 Tryz.underlying3 (aTQ _) B ns.length D rfl d _ _ rfl i ?_;intro c k u)
   |(at_len;refine wpList_len_own _ rfl _ 161 rfl 9 3 Tryz.underlying161 _ B ns.length D rfl d ?_)
   |(at_mapUpdate;refine wpList_mapUpdate_own _ rfl _ _ _ 161 rfl 9 3 aHY Tryz.underlying161 _ B ns.length _ rfl d (by unfold maxLen;omega) _ _ _ rfl rfl i _ [] (plainElem_int Tryz.underlying3 x) ?_;intro H r q))
  go_ret;exact⟨rfl,⟨_,by rw[aV];exact r,HP.o⟩,q⟩
 rw[f]at l;have k:=b.at_ s (by simpa using f);have n:O (aUT ns D):=b;clear b g
 go_enter Tryz.func114,Tryz.ntmps114
 go_wp2_with(at_lookup;refine wpList_lookup_own_ok_int _ rfl _ _ 161 rfl 9 3 .i64 aHY Tryz.underlying161 Tryz.underlying3 (aTQ _) B ns.length D rfl d _ _ rfl i ?_;intro c j u);go_ret;(have p:c=(ns.idxOf s:Int):=by rw[k]at j;simpa using j.symm);subst p;exact⟨rfl,⟨D,d,n.o⟩,rX (aG _ _) _⟩
end Go.Proofs.YtfljoehbbncooaaGreat
