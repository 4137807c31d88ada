/- Own texts, one behind the other (part 10). -/
import Derived.Test.YthenjegmigeieaaGreatBundleI
import Derived.Test.YthenjegmigeieaaGreatRows
import Derived.Laws.AppendOwnNone
import Derived.ArgAppend
set_option maxRecDepth 100000
set_option maxHeartbeats 8000000
namespace Go.Proofs.YthenjegmigeieaaGreat
open Go.RowKit
abbrev BN:=List (List Int)×Bool
def xX(s:BN)(x:List Int):BN:=if s.2=true then s else if s.1.length=2000 then(s.1,true)else(s.1++[x],false)
def sD(s:BN)(L:List (List Int)):BN:=L.foldl xX s
theorem EZ{s:BN}(h:s.2=true):∀L,sD s L=s
 |[]=>rfl
 |x::L=>by show sD (xX s x) L=s;rw[show xX s x=s from if_pos h];exact EZ h L
theorem xW(s:BN)(L M:List (List Int)):sD s (L++M)=sD (sD s L) M:=qV
theorem aEJ{s:BN}(h:s.1.length<=2000)(x:List Int):(xX s x).1.length<=2000:=by
 unfold xX;split
 ·exact h
 split
 ·exact h
 show(s.1++[x]).length<=2000;rw[bA,qZ];omega
theorem Gj:∀(L:List (List Int)){s:BN},s.1.length<=2000->(sD s L).1.length<=2000
 |[],_,h=>h
 |x::L,_,h=>Gj L (aEJ h x)
def qD(facts:List aN)(body:List cI)(k j:Nat)(b:bK)(f:aN):List (List Int):=
 if f.z=(cJ body j).z then(match fU b (cJ body j).p f.args with |none=>[]|some d=>mY facts body k (j+1) d)else []
theorem Mv{facts:List aN}{body:List cI}{k i:Nat}{w:bK}(h:kN body (body.length+1) w=none):mY facts body (k+1) i w=[]:=by unfold mY;rw[h]
theorem Fq{facts:List aN}{body:List cI}{k i:Nat}{w b:bK}(h:kN body (body.length+1) w=some b)(d:tK facts body b=true):mY facts body (k+1) i w=[]:=by unfold mY;rw[h];simp only[if_pos d]
theorem aAF{facts:List aN}{body:List cI}{k i:Nat}{w b:bK}(h:kN body (body.length+1) w=some b)(e:tK facts body b=false)(d:¬iI body i<body.length):mY facts body (k+1) i w=[b.y]:=by unfold mY;rw[h];simp only[e,if_neg d];rfl
theorem aD3{facts:List aN}{body:List cI}{k i:Nat}{w b:bK}(h:kN body (body.length+1) w=some b)(e:tK facts body b=false)(d:iI body i<body.length):mY facts body (k+1) i w=facts.flatMap (qD facts body k (iI body i) b):=by unfold mY;rw[h];simp only[e,if_pos d];rfl
theorem aAW{body:List cI}{j:Nat}(b:j<body.length):iI body j=if(cJ body j).kind=1 then j else iI body (j+1):=by
 (have :body.drop j=cJ body j::body.drop (j+1):=by rw[dB b];unfold cJ;rw[aC,aD b];rfl);unfold iI;rw[this];rfl
theorem Nh{body:List cI}{j:Nat}(b:body.length<=j):iI body j=j:=by unfold iI;rw[bD b];rfl
theorem aA0{z:bK}{d b a:Int}(h:d<0):kB z ⟨d,b⟩ a=if b=a then some z else none:=by(have e:cC z.w ⟨d,b⟩=true:=by unfold cC;simp[h]);(have f:eJ z.y ⟨d,b⟩=b:=by unfold eJ;rw[if_pos h]);unfold kB;rw[if_pos e,f]
theorem aEM{z:bK}{v:Nat}{b a:Int}(h:z.w.getD v false=true):kB z ⟨(v:Int),b⟩ a=if z.y.getD v 0=a then some z else none:=by(have d:cC z.w ⟨(v:Int),b⟩=true:=by unfold cC;dsimp only;rw[fJ,h,BD]);(have e:eJ z.y ⟨(v:Int),b⟩=z.y.getD v 0:=by unfold eJ;rw[if_neg (show¬(v:Int)<0 by omega)];dsimp only;rw[fJ]);unfold kB;rw[if_pos d,e]
theorem aEO{z:bK}{v:Nat}{b a:Int}(h:z.w.getD v false=false):kB z ⟨(v:Int),b⟩ a=some ⟨z.y.set v a,z.w.set v true⟩:=by(have d:¬cC z.w ⟨(v:Int),b⟩=true:=by unfold cC;dsimp only;rw[fJ,h,Bool.or_false,decide_eq_true_iff];omega);unfold kB;rw[if_neg d];dsimp only;rw[fJ]
structure wX (FB:Nat) (vt vb vf:Value) (r:bB) (s:BN) (q:List (List Int×Value)) (vo:Value) (w:World):Prop where
 hq:q.map (·.1)=s.1
 b:ZF w FB vt vb vf vo r s.2
 o:w.ownsRow (FB+1) 22 1 vo q.length (q.map (·.2))
 hr:∀p,p∈q->w.ownsRow (FB+1) 3 1 p.2 p.1.length (p.1.map (Value.int .i64))
theorem wX.u{e:Nat}{j f g:Value}{r:bB}{s:BN}{q:List (List Int×Value)}{i:Value}{w w':World}(h:wX e j f g r s q i w)(d:Below w.heap.size w w'):wX e j f g r s q i w':=
 ⟨h.hq,(d.block _ (bP h.b)).trans h.b,bI h.o d,fun p k=>bI (h.hr p k) d⟩
theorem wX.lt{d:Nat}{i e f:Value}{r:bB}{s:BN}{q:List (List Int×Value)}{g:Value}{w:World}(h:wX d i e f r s q g w):d<w.heap.size:=bP h.b
theorem vD.keep{B v NB:Nat}{w w':World}{vn vs:Value}{m:Nat}{y:bK}(h:vD B w vn vs m y)(l:Kp v NB w w')(x:NB<B):vD B w' vn vs m y:=
 ⟨kH h.n (fun g b=>by
  obtain⟨q,d⟩:=h.n;rcases d with⟨d,_⟩|⟨f,p,j,k,r,i,_⟩
  ·rw[d]at b;cases b
  rw[k]at b;(have e:f=g:=by simpa[Value.ownBlock]using b);subst e;rw[i]
  exact l.keep f j 3 i oM dE),
  kH h.s (fun g b=>by
   obtain⟨q,d⟩:=h.s;rcases d with⟨d,_⟩|⟨f,p,j,k,r,i,_⟩
   ·rw[d]at b;cases b
   rw[k]at b;(have e:f=g:=by simpa[Value.ownBlock]using b);subst e;rw[i]
   exact l.keep f j 4 i oM dE),h.ok⟩
theorem Kp.setB{d NB o:Nat}{w:World}(h:d<=NB)(v:Value):Kp d NB w (w.setCell ⟨NB,o,none⟩ v):=
 ⟨rfl,rfl,rfl,by simp,fun k b=>cL oM,fun k c t b e _=>(cL e).trans b⟩
theorem wX.other{b:Nat}{l i j:Value}{r:bB}{s f:BN}{q:List (List Int×Value)}{n k:Value}{w:World}{o:Nat}{v:Value}(h:wX b l i j r s q n w)(y:q.map (·.1)=f.1)(x:ZF (w.setCell ⟨b,o,none⟩ v) b l i j k r f.2)(z:k=n):wX b l i j r f q k (w.setCell ⟨b,o,none⟩ v):=by subst z;exact⟨y,x,kH h.o (fun g d=>cL (fun e=>by have :=(h.o.lt g d).1;omega)),fun p m=>kH (h.hr p m) (fun g d=>cL (fun e=>by have :=((h.hr p m).lt g d).1;omega))⟩
theorem wX.many{d:Nat}{j f g:Value}{r:bB}{e:List (List Int)}{q:List (List Int×Value)}{i:Value}{w:World}(h:wX d j f g r (e,false) q i w):wX d j f g r (e,true) q i (w.setCell ⟨d,7,none⟩ (.bool true)):=
 h.other h.hq (by unfold ZF;rw[bV h.b];rfl) rfl
theorem wX.push{f G B m:Nat}{K I J y j u:Value}{r:bB}{H:List (List Int)}{q:List (List Int×Value)}{w i:World}{x:List Int}(h:wX f K I J r (H,false) q y w)(U:G<=f)(L:f+1<=B)(S:x.length=m)(R:w.ownsRow B 3 1 u m (x.map (Value.int .i64)))(D:i.ownsRow (f+1) 22 1 j (q.length+1) (q.map (·.2)++[u]))(hg:w.grownBy i y.ownBlock):
 wX f K I J r (H++[x],false) (q++[(x,u)]) j (i.setCell ⟨f,6,none⟩ j)/\Kp G f w (i.setCell ⟨f,6,none⟩ j):=by
 have Q:∀s,y.ownBlock=some s->f+1<=s:=fun s d=>(h.o.lt s d).1;have E:∀(k:Nat)(c:Array Value)(t:TypeId),w.heap[k]?=some (.cells c t)->t≠22->i.heap[k]?=some (.cells c t):=fun k c t d ht=>(hg.block k (bP d) (fun e=>ht (xJ h.o e.symm d))).trans d;have M:=E _ _ _ h.b dE;have F:∀(k:Nat)(c:Array Value)(t:TypeId),w.heap[k]?=some (.cells c t)->k≠f->t≠22->(i.setCell ⟨f,6,none⟩ j).heap[k]?=some (.cells c t):=fun k c t d P ht=>(cL P).trans (E k c t d ht);have C:∀(v n:Nat)(A:List Value)(z:Value),w.ownsRow v 3 1 z n A->(i.setCell ⟨f,6,none⟩ j).ownsRow v 3 1 z n A:=fun v n A z T=>gR T (fun k c d=>F k c 3 d (fun e=>by rw[e,h.b]at d;injection d with d;injection d with _ d;cases d) dE);refine⟨⟨by rw[cB];show _++[x]=_;rw[h.hq],by unfold ZF;rw[bV M];rfl,?_,fun p l=>?_⟩,hg.os,hg.tape,hg.output,by simpa using hg.size,fun k d=>(cL oM).trans (hg.block k (by have :=h.lt;omega) (fun e=>by have :=Q k e.symm;omega)),F⟩
 ·rw[bA,cB];exact kH D (fun g N=>cL (fun e=>by have :=(D.lt g N).1;omega))
 rcases dP.mp l with l|l
 ·exact C _ _ _ _ (h.hr p l)
 rcases cQ.mp l with rfl;show World.ownsRow _ (f+1) 3 1 u x.length _;rw[S];exact gL (C _ _ _ _ R) L
theorem aGV:(Tryz.prog.info? 4).map (fun i=>(i.zero,i.size,i.bytes))=some (some (.bool false),1,1):=kR
theorem XL{w:World}{H:Array Oper}{rest:List Oper}{o:Oper}{a:Act}{Q:Exit->Act->World->Prop}(A:o.guard=none)(s x:Operand)(t e:TypeId)(b:TypeInfo)(z:Value)(l:Nat)
 (D:o.op=.call {callee:=.builtin .append,args:=#[s,x],argTypes:=#[t,t]}) (ht:Tryz.prog.underlying t=some (.slice e)) (C:Tryz.prog.info? e=some b) (N:b.zero=some z) (P:b.size=1) (R:b.bytes=l) (S:z.cells.size=1) (hby:l<=8)
 (base B m:Nat) (v u:Value) (d:List Value) (F:a.eval s=v) (G:a.eval x=u) (p:w.ownsRow base e 1 v 0 []) (f:w.ownsRow B e 1 u m d) (h1:∀c,c∈d->c.oneCell'=true) (L:m<=1000) (J:base<=w.heap.size)
 (h:∀k i,i.ownsRow base e 1 k m d->w.grownBy i v.ownBlock->wpList Tryz.prog H Q rest (a.put o.dst k) i):wpList Tryz.prog H Q (o::rest) a w:=by
 rcases id f.2 with⟨q,r⟩|⟨g,I,T,q,_⟩
 ·have M:d=[]:=eB (by rw[f.1,r]);refine BB A s x t D base e b 1 ht C v 0 [] F p (by rw[G,q]) ?_;refine h v w (by rw[r,M];exact p) ⟨rfl,rfl,rfl,aE _,fun _ _ _=>rfl⟩
 subst q;refine fX w A s x t D base e b z 1 l ht C N P R S dE v 0 [] F p ⟨g,0,none⟩ m I d G (by rw[f.1]) (fun j c n=>?_) h1 (by unfold maxLen;omega) ?_ J ?_
 ·have U:j<m:=by
   have :=f.1;rcases jW j d.length with y|y
   ·omega
   rw[cZ y]at n;cases n
  rw[Addr.add_lit,dV,World.ownsRow.cellAt f j oM];exact n
 ·rw[dV];exact bH (UD L hby) dE
 intro k i E K _;rw[dV,qB]at E;exact h k i E K
end Go.Proofs.YthenjegmigeieaaGreat

namespace Go.Proofs.YthenjegmigeieaaGreat
open Go.RowKit
def RL(b:Array Oper)(wr:Nat->Bool)(f:Nat->Nat->Bool)(m:Nat)(o:Oper)(t:Nat):Bool:=o.after.toList.any fun e=>Region.binds .any e&&aJU b wr f m e.on&&((b[e.on]?).map fun d=>d.dst==some t).getD false
theorem aKO.of{R:World->World->Prop}{E:Nat->World->Prop}{f:Array Oper}{wr:Nat->Bool}{i:Nat->Nat->Bool}{T:Nat->Value->World->Prop}{j:Act}{n:World}{m:Nat}{o:Oper}{a:Act}{w:World}(h:aKO R E f wr i T j n m o a w)(t:Nat)(g:RL f wr i m o t=true:=by kernel_rfl):T t (a.tmps.getD t undef) w:=by
 unfold RL at g;obtain⟨e,k,b⟩:=kI.mp g;rw[eF,eF]at b
 cases d:f[e.on]? with
 |none=>rw[d]at b;simp at b
 |some l=>
  rw[d,lE,oA]at b;exact h.has e (by simpa using k) b.1.1 b.1.2 l t d (by simpa using b.2)
theorem aKO.old{R:World->World->Prop}{E:Nat->World->Prop}{e:Array Oper}{wr:Nat->Bool}{g:Nat->Nat->Bool}{T:Nat->Value->World->Prop}{b:Act}{i:World}{m:Nat}{o:Oper}{a:Act}{w:World}(h:aKO R E e wr g T b i m o a w)(t:Nat)(d:SR e t=true:=by kernel_rfl):a.tmps.getD t undef=b.tmps.getD t undef:=by refine h.still t fun f=>?_;unfold SR at d;simp[f]at d
theorem aO0.of{R:World->World->Prop}{E:Nat->World->Prop}{b:Array Oper}{wr:Nat->Bool}{e:Nat->Nat->Bool}{T:Nat->Value->World->Prop}{f:Act}{n:World}{L:Nat}{a:Act}{w:World}(h:aO0 R E b wr e T f n L a w)(i:Nat)(o:Oper)(t:Nat)(j:i<L)(l:b[i]?=some o)(g:o.dst=some t)(m:aG9 b wr e i=true):T t (a.tmps.getD t undef) w:=by
 refine h.all i o t j l g fun k=>?_
 cases d:decide (k<b.size)with
 |true=>
  have :=eX.mp m k (jV.mpr (eL d));simpa using this
 |false=>unfold MV;rw[d];simp
section
variable {P:Program} {ops:Array Oper} {Q:Exit->Act->World->Prop}
theorem NP(R:World->World->Prop)(p:∀a b c,R a b->R b c->R a c)(n:∀w d,Below w.heap.size w d->R w d)(T:Nat->Value->World->Prop)(E:Nat->World->Prop)(L:Nat)(wr:Nat->Bool)(f:Nat->Nat->Bool){id:Nat}{e:Act}{g:World}(m:L<ops.size)(B:tN ops L=true)(s:P.follows .mixedOrders=true)
 (q:uK ops e.tmps.size=true)
 (x:∀t v w d,Below w.heap.size w d->T t v w->T t v d)
 (y:∀i w d,Below w.heap.size w d->E i w->E i d)
 (z:∀i t v w d,wr i=true->f i t=true->R w d->T t v w->T t v d)
 (hop:xK (fun i o=>∀a w,aKO R E ops wr f T e g i o a w->(∀t,t∉(ops.toList.take L).filterMap (·.dst)->a.tmps.getD t undef=e.tmps.getD t undef)->if wr i=true then(Region.wanted o (yielded ops a.tmps)=true/\o.wp P a w (fun l d=>∃v,l=a.put o.dst v/\(∀t,o.dst=some t->T t v d)/\R w d/\(∀j,E j w->E j d)/\E i d) Q)else DS P ops Q T o a w) 0 (ops.toList.take L))
 (htail:∀a w,aO0 R E ops wr f T e g L a w->(∀t,t∉(ops.toList.take L).filterMap (·.dst)->a.tmps.getD t undef=e.tmps.getD t undef)->wpOps P ops Q (List.range' L (ops.size-L)) a w):
 (Code.region id ops true).wp P Q e g:=
 KM R p n T E L wr f (wR m) (fun _=>B) s q x y z (fun i o r A a w h hO=>by
  have k:=xK.get _ 0 hop i o (by rw[gS,if_pos r,fH];exact A) a w (by rw[dV];exact h) hO;rw[dV]at k
  exact k) htail
end
def aHI(p A:World)(m b:Nat)(l f g:Value)(r:bB)(facts:List aN)(d:Nat):Prop:=
 ∀(i:Nat)(y:bK)(s:BN)(q:List (List Int×Value))(x:Value)(B:Nat)(j k:Value)(w:World),Kp p.heap.size b A w->wX b l f g r s q x w->b<B->vD B w j k m y->i<=r.body.length->r.body.length<i+d->s.1.length<=2000->
  Calls Tryz.prog 60 #[.pointer (some ⟨b,0,none⟩), .int .i64 (i:Nat),j,k] w fun e n=>e=.returned (.tuple #[])/\(∃v z,wX b l f g r (sD s (mY facts r.body d i y)) v z n)/\Kp p.heap.size b w n
structure aHH (w0 wF:World) (m FB:Nat) (vb vf:Value) (r:bB) (facts:List aN):Prop where
 lo:w0.heap.size<=FB
 b:pI w0 vb r.body
 f:∀w,Kp w0.heap.size FB wF w->dA w vf facts
 base:Below w0.heap.size w0 wF
 fl:facts.length<=1000000
 ff:∀f,f∈facts->fW f
 fn:∀f,f∈facts->∀n,n∈f.args->cP n=true
 l:∀l,l∈r.body->xS facts m l
 b4:r.body.length<=4
 m8:m<=8
structure NbR (NB:Nat) (w w':World):Prop where
 os:w'.os=w.os
 tape:w'.tape=w.tape
 output:w'.output=w.output
 size:w.heap.size<=w'.heap.size
 block:∀k,k<w.heap.size->¬k=NB->w'.heap[k]?=w.heap[k]?
theorem NbR.trans{NB:Nat}{a b c:World}(h:NbR NB a b)(k:NbR NB b c):NbR NB a c:=⟨k.os.trans h.os,k.tape.trans h.tape,k.output.trans h.output,bH h.size k.size,fun j d e=>(k.block j (dQ d h.size) e).trans (h.block j d e)⟩
theorem NbR.of_below{NB:Nat}{w w':World}(h:Below w.heap.size w w'):NbR NB w w':=⟨h.os,h.tape,h.output,h.size,fun k b _=>h.block k b⟩
theorem NbR.set{NB:Nat}(w:World)(o:Nat)(v:Value):NbR NB w (w.setCell ⟨NB,o,none⟩ v):=⟨rfl,rfl,rfl,by simp,fun _ _ b=>cL b⟩
theorem NbR.cell{NB:Nat}{w w':World}(h:NbR NB w w'){b o:Nat}{v:Value}(d:w.cell? ⟨b,o,none⟩=some v)(e:¬b=NB):w'.cell? ⟨b,o,none⟩=some v:=(lQ (a:=⟨b,o,none⟩) (h.block b (jE w _ d) e)).trans d
theorem aF7{P:Program}{o:Oper}{a:Act}{w w':World}{K:Act->World->Prop}{Q:Exit->Act->World->Prop}(d:(execOp a.eval o).run P w=.ok .skip w')(b:K (a.put o.dst undef) w'):o.wp P a w K Q:=by unfold Oper.wp;rw[d,Oper.upon_skip];exact b
def aRW(i:Nat):Bool:=i==12
def aPU(NB SB b g j k t v:Nat)(i:Int)(e f d:Value):Nat->Value
 |143=>e
 |144=>.pointer (some ⟨b,0,none⟩)
 |145=>.int .i64 (v:Nat)
 |146=>f
 |147=>.pointer (some ⟨b,0,none⟩)
 |148=>.int .i64 (v:Nat)
 |149=>.pointer (some ⟨g,1,none⟩)
 |150=>d
 |151=>.int .i64 (t:Nat)
 |152=>.pointer (some ⟨j,k+t,none⟩)
 |153=>.int .i64 i
 |154=>.pointer (some ⟨NB,v,none⟩)
 |155=>.pointer (some ⟨SB,v,none⟩)
 |_=>.bool false
theorem aLP(F wF:World)(m x:Nat)(vt vb vf:Value)(r:bB)(facts:List aN)(I:Nat)(hF:aHH F wF m x vb vf r facts)(IH:aHI F wF m x vt vb vf r facts I):aHI F wF m x vt vb vf r facts (I+1):=by
 intro i y s q vo B vn vs w ch bu hH hR hi hP ek;have em:Below F.heap.size F w:=Kp.u ch hF.base;have bN:O _:=ch;clear ch;obtain⟨i3,dh,di,dj,dk⟩:=iT IC;obtain⟨i4,dl,dm,dn,dp⟩:=iT aGV;obtain⟨D,many⟩:=s;obtain⟨ab,cb,rfl,dq⟩:=id hF.b;obtain⟨af,cf,rfl,hM,_⟩:=id (hF.f wF (Kp.refl _ _ _));(have f7:w.cell? ⟨x,7,none⟩=some (.bool many):=cH bu.b);obtain⟨an,cn,rfl⟩:=bJ hR.n;obtain⟨dd,cs,rfl⟩:=bJ hR.s;have HF:O _:=hF;have er:O _:=dq;have L:O _:=em;have ey:O _:=IH;have az:O (wX x vt (.slice ab r.body.length cb) (.slice af facts.length cf) r (D,many) q vo w):=bu;have HR:O (vD B w (.slice an m cn) (.slice dd m cs) m y):=hR;have gn:=hF.m8;have e7:=hF.b4;have gi:=hF.fl;have cx:=bu.lt;clear hF dq em IH bu hR
 cases many with
 |true=>
  have V:O (sD (D,true) (mY facts r.body (I+1) i y)=(D,true)):=EZ rfl _
  go_enter Tryz.func60,Tryz.ntmps60
  go_wp2_with fail;refine dF (sA rfl _ _ _) rfl ?_;exact⟨rfl,⟨q,vo,by rw[V.o];exact az.o⟩,Kp.refl _ _ _⟩
 |false=>
  have a8:Below w.heap.size w (w.alloc (.cells #[] 3)):=dD _ _;have hG:B<=B:=aE _
  go_enter Tryz.func60,Tryz.ntmps60
  go_wp2_with(at_builtin;refine XL rfl (.tmp 20) (.tmp 21) 22 3 i3 _ 8 rfl Tryz.underlying22 dh di dj dk rfl dE w.heap.size B m _ _ _ rfl rfl (lY w #[] 0 (aE _) (bG _) sI) (HR.o.n.alloc _) (fun c hc=>by obtain⟨n,_,rfl⟩:=cR.mp hc;rfl) oM a8.size ?_);intro v1 w1 au bh;have a7:Below w.heap.size w w1:=a8.grown bh a8.size (fun kQ J=>by have :w.heap.size=kQ:=(by simpa[Value.ownBlock]using J);omega);obtain⟨P,Q,rfl⟩:=bJ au;have bY:O (vD B w1 (.slice an m cn) (.slice dd m cs) m y):=HR.o.u a7;have Y:Below w1.heap.size w1 (w1.alloc (.cells #[] 4)):=dD _ _;have cX:O (w1.ownsRow w.heap.size 3 1 (.slice P m Q) m (y.y.map (Value.int .i64))):=au;have cz:O _:=a7;have bk:=a7.size;clear au bh a7 a8;go_wp2_with(at_builtin;refine XL rfl (.tmp 23) (.tmp 24) 57 4 i4 _ 1 rfl Tryz.underlying57 dl dm dn dp rfl dE w.heap.size B m _ _ _ rfl rfl (lY w1 #[] 0 bk (bG _) sI) (bY.o.s.alloc _) (fun c hc=>by obtain⟨n,_,rfl⟩:=cR.mp hc;rfl) oM (bH bk Y.size) ?_);intro v2 w2 ay aq;obtain⟨a2,c2,rfl⟩:=bJ ay;have b7:O (Below w.heap.size w w2):=(cz.o.trans (Y.mono bk)).grown aq (bH bk Y.size) (fun kQ J=>by have :w1.heap.size=kQ:=(by simpa[Value.ownBlock]using J);omega);have d5:O (vD w.heap.size w2 (.slice P m Q) (.slice a2 m c2) m y):=⟨gR cX.o (fun k c J=>(aq.block k (dQ (bP J) Y.size) (fun e=>by
   have T:w1.heap.size=k:=(by simpa[Value.ownBlock]using e.symm);have :=bP J
   omega)).trans ((Y.block k (bP J)).trans J)),ay,bY.o.ok⟩
  clear ay aq Y cX cz bY HR bk;have cG:O (wX x vt (.slice ab r.body.length cb) (.slice af facts.length cf) r (D,false) q vo w2):=az.o.u b7.o;have da:O (Below F.heap.size F w2):=L.o.trans (b7.o.mono L.o.size);have aI:O _:=aH0 F w.heap.size m x facts r vt (.slice ab r.body.length cb) (.slice af facts.length cf) vo (.slice P m Q) (.slice a2 m c2) false y w2 L.o.size cx b7.o.size da.o cG.o.b HF.o.b e7 HF.o.l gn d5.o;go_wp2_with fail;refine Calls.mono aI.o ?_;rintro e w3 ⟨he,e6⟩;have ae:O (Below w.heap.size w w3):=b7.o.trans e6;clear e6 aI d5 b7 cG da;rcases he with⟨bj,rfl⟩|⟨d,bj,rfl,dy⟩
  ·have V:O (mY facts r.body (I+1) i y=[]):=Mv bj;clear bj;go_wp2_with fail;refine dF (sA rfl _ _ _) rfl ?_;exact⟨rfl,⟨q,vo,by rw[V.o];exact az.o.u ae.o⟩,Kp.of_below ae.o L.o.size⟩
  have aI:O _:=bj;have bc:O _:=dy;have cK:O (wX x vt (.slice ab r.body.length cb) (.slice af facts.length cf) r (D,false) q vo w3):=az.o.u ae.o;have db:O (Below F.heap.size F w3):=L.o.trans (ae.o.mono L.o.size);have aS:O _:=aME m x facts r vt (.slice ab r.body.length cb) (.slice af facts.length cf) vo (.slice P m Q) (.slice a2 m c2) false d w3 cK.o.b (nU HF.o.b db.o) (HF.o.f w3 (bN.o.trans (Kp.of_below ae.o L.o.size))) gi HF.o.ff e7 HF.o.l bc.o.ints bc.o.bools bc.o.ok;clear bj dy;go_wp2_with fail;refine Calls.mono aS.o ?_;rintro e G ⟨rfl,ck⟩;have a5:O (Below w.heap.size w G):=ae.o.trans (ck.mono ae.o.size);have bZ:O (vD w.heap.size G (.slice P m Q) (.slice a2 m c2) m d):=bc.o.u ck;clear aS bc cK db ae ck;cases bw:tK facts r.body d
  ·have dc:O _:=bw;clear bw;have a4:O (wX x vt (.slice ab r.body.length cb) (.slice af facts.length cf) r (D,false) q vo G):=az.o.u a5.o;have be:O (Below F.heap.size F G):=L.o.trans (a5.o.mono L.o.size);(have f3:G.cell? ⟨x,3,none⟩=some (.slice ab r.body.length cb):=cH a4.o.b);go_wp2_with fail;go_loopw [1] (fun iv wr=>G=wr/\∃j:Nat,i<=j/\j<=r.body.length/\iv=.int .i64 j/\O (iI r.body i=iI r.body j)) (fun iv _=>r.body.length-(intOf iv).toNat);case atStart=>exact⟨rfl,i,aE _,hi,rfl,rfl⟩
   case round=>
    obtain⟨rfl,j,hN,hj,rfl,c6⟩:=hrel;by_cases bi:j<r.body.length
    ·obtain⟨b,cy,rfl,q0,q1,q2,i0,q3,hT⟩:=vH er.o j bi;have p0:=aB be.o q0;have c7:O _:=aAW bi;have g4:decide ((j:Int)<(r.body.length:Int))=true:=aQ oM;by_cases ar:(cJ r.body j).kind=1
     ·(have gk:((cJ r.body j).kind != 1)=false:=by simpa using ar);(have d8:O (iI r.body i=j):=by show _=_;rw[c6.o,c7.o,if_pos ar]);have ez:O _:=ar;(have g0:((j:Int)==(r.body.length:Int))=false:=by simp;omega);have f9:O (cJ r.body j∈r.body):=iN (xG bi);have p1:=aB be.o q1;have p2:=aB be.o q2;have p3:=aB be.o q3;have HT:O _:=hT;obtain⟨at_,ct,rfl,hL,e0⟩:=hT;have fk:O _:=e0;clear q0 q1 q2 q3 e0 ar c7;generalize ee:cJ r.body j=l at *;have bp:O _:=ee;clear ee;go_upto_region 10 with fail;(have b9:O (mY facts r.body (I+1) i y=facts.flatMap (qD facts r.body I j d)):=by show _=_;rw[aD3 aI.o dc.o (by rw[d8.o];exact bi),d8.o]);have a9:=dD G (.cells #[.int .i64 l.kind, .int .i64 l.op, .int .i64 l.z, .slice at_ l.p.length ct] 49);have cU:O _:=aR G (.cells #[.int .i64 l.kind, .int .i64 l.op, .int .i64 l.z, .slice at_ l.p.length ct] 49);have bn:O (Below w.heap.size w (G.alloc (.cells #[.int .i64 l.kind, .int .i64 l.op, .int .i64 l.z, .slice at_ l.p.length ct] 49))):=a5.o.trans (a9.mono a5.o.size);have eu:O (wX x vt (.slice (some ⟨b,cy,none⟩) r.body.length cb) (.slice af facts.length cf) r (D,false) q vo (G.alloc (.cells #[.int .i64 l.kind, .int .i64 l.op, .int .i64 l.z, .slice at_ l.p.length ct] 49))):=a4.o.u a9;have fe:O (vD w.heap.size (G.alloc (.cells #[.int .i64 l.kind, .int .i64 l.op, .int .i64 l.z, .slice at_ l.p.length ct] 49)) (.slice P m Q) (.slice a2 m c2) m d):=bZ.o.u a9;(have cV:O (¬G.heap.size=x):=by have T:=a4.o.lt;show¬_;omega);have bz:O _:=HF.o.l _ f9.o;clear p0 p1 p2 p3 f3 a9 a4 bZ a5 be;generalize ge:G.heap.size=LB at *;generalize G.alloc (.cells #[.int .i64 l.kind, .int .i64 l.op, .int .i64 l.z, .slice at_ l.p.length ct] 49)=wl at *;clear ge;have fo:O (Below F.heap.size F wl):=L.o.trans (bn.o.mono L.o.size);go_wp2_with fail;go_loopw [9] (fun kv wr=>∃(k:Nat)(M:BN)(q':List (List Int×Value))(ad:Value),k<=facts.length/\kv=.int .i64 k/\O (M=sD (D,false) ((facts.take k).flatMap (qD facts r.body I j d)))/\O (wX x vt (.slice (some ⟨b,cy,none⟩) r.body.length cb) (.slice af facts.length cf) r M q' ad wr)/\O (Kp F.heap.size x wl wr)) (fun kv _=>facts.length-(intOf kv).toNat);case atStart=>exact⟨0,(D,false),q,vo,bG _,rfl,rfl,eu.o,Kp.refl _ _ _⟩
      case round=>
       obtain⟨k,M,q',ad,J,rfl,aj,aF,bo⟩:=hrel;(have f5:wr.cell? ⟨x,5,none⟩=some (.slice af facts.length cf):=cH aF.o.b);(have ce:wr.cell? ⟨x,7,none⟩=some (.bool M.2):=cH aF.o.b);have bT:O (Kp F.heap.size x w wr):=(Kp.of_below bn.o L.o.size).trans bo.o;by_cases aa:k<facts.length
       ·(have fj:O (facts.flatMap (qD facts r.body I j d)=(facts.take k).flatMap (qD facts r.body I j d)++(facts.drop k).flatMap (qD facts r.body I j d)):=by show _=_;rw[<-ES,nL]);have g1:decide ((k:Int)<(facts.length:Int))=true:=aQ oM;have g3:decide (k<facts.length)=true:=aQ aa;cases b3:M.2
        ·rw[b3]at ce;have gd:=HF.o.f wr (bN.o.trans bT.o);obtain⟨gW,h2,gq,_,ds⟩:=gd;injection gq with e9 _ _;subst e9;obtain⟨fb,fN,rfl,f0,fv,f1,du⟩:=qJ ds k aa;have cq:=mT facts k aa;have aS:O (Below F.heap.size F wr):=Kp.u bo.o fo.o;have z0:=f0;have z1:=f1;have bq:O ((facts.take (k+1)).flatMap (qD facts r.body I j d)=(facts.take k).flatMap (qD facts r.body I j d)++qD facts r.body I j d (aZ facts k)):=by
          show _=_;rw[eI,CX facts k aa,ES]
          congr 1
          exact List.flatMap_singleton _ _
         have f4:O ((aZ facts k).z=l.z->l.p.length=(aZ facts k).args.length):=fun h=>bz.o.i.a ez.o _ cq h;have ep:O (∀n,n∈(aZ facts k).args->cP n=true):=HF.o.fn _ cq;have gw:O _:=du;obtain⟨ai,W,rfl,dt⟩:=du;have ex:O _:=dt;have gx:O _:=b3;(have dg:wr.cell? ⟨LB,2,none⟩=some (.int .i64 l.z):=cH (bo.o.keep _ _ _ cU.o cV.o dE));clear f0 f1 dt cq b3 ds;generalize gh:aZ facts k=ff at *;obtain⟨X,A⟩:=ff;dsimp only at *;clear gh;go_upto_region 14 with fail;have ap:=dD wr (.cells #[.int .i64 X, .slice ai A.length W] 55);have bs:O _:=aR wr (.cells #[.int .i64 X, .slice ai A.length W] 55);have ba:O (wX x vt (.slice (some ⟨b,cy,none⟩) r.body.length cb) (.slice (some ⟨fb,fN,none⟩) facts.length cf) r M q' ad (wr.alloc (.cells #[.int .i64 X, .slice ai A.length W] 55))):=aF.o.u ap;have ag:O (Kp F.heap.size x wl (wr.alloc (.cells #[.int .i64 X, .slice ai A.length W] 55))):=bo.o.trans (Kp.of_below ap aS.o.size);have d7:O (vD w.heap.size (wr.alloc (.cells #[.int .i64 X, .slice ai A.length W] 55)) (.slice P m Q) (.slice a2 m c2) m d):=fe.o.keep ag.o cx;have aT:O (Below F.heap.size F (wr.alloc (.cells #[.int .i64 X, .slice ai A.length W] 55))):=aS.o.trans (ap.mono aS.o.size);have fx:=aB ap dg;have f8:O _:=ag.o.keep _ _ _ cU.o cV.o dE;have gz:O (x<wr.heap.size):=aF.o.lt;have es:O (∀z,Below (wr.alloc (.cells #[.int .i64 X, .slice ai A.length W] 55)).heap.size (wr.alloc (.cells #[.int .i64 X, .slice ai A.length W] 55)) z->∀(b o:Nat)(u:Value),wr.cell? ⟨b,o,none⟩=some u->z.cell? ⟨b,o,none⟩=some u):=fun z hz b o u hc=>aB (ap.trans (hz.mono ap.size)) hc;clear z0 z1 f5 ce dg ap;generalize e5:wr.heap.size=XB at *;generalize wr.alloc (.cells #[.int .i64 X, .slice ai A.length W] 55)=C at *;have fq:O _:=e5;clear e5;(have x0:C.cell? ⟨XB,0,none⟩=some (.int .i64 X):=cH bs.o);by_cases ax:X=l.z
         ·(have gp:(X != l.z)=false:=by simpa using ax);have bU:O (l.p.length=A.length):=f4.o ax;have hX:=bz.o.s;have bX:O _:=ax;have a8:Below C.heap.size C (C.alloc (.cells #[] 3)):=dD _ _;have hK:w.heap.size<=C.heap.size:=bH bn.o.size ag.o.size;clear ax;go_wp2_with(at_builtin;refine XL rfl (.tmp 122) (.tmp 123) 22 3 i3 _ 8 rfl Tryz.underlying22 dh di dj dk rfl dE C.heap.size w.heap.size m _ _ _ rfl rfl (lY C #[] 0 (aE _) (bG _) sI) (d7.o.n.alloc _) (fun c hc=>by obtain⟨n,_,rfl⟩:=cR.mp hc;rfl) oM a8.size ?_);intro v1 w6 au bh;have a7:Below C.heap.size C w6:=a8.grown bh a8.size (fun kQ J=>by have :C.heap.size=kQ:=(by simpa[Value.ownBlock]using J);omega);obtain⟨am,cm,rfl⟩:=bJ au;have c3:O (vD w.heap.size w6 (.slice P m Q) (.slice a2 m c2) m d):=d7.o.u a7;have Y:Below w6.heap.size w6 (w6.alloc (.cells #[] 4)):=dD _ _;have d1:O (w6.ownsRow C.heap.size 3 1 (.slice am m cm) m (d.y.map (Value.int .i64))):=au;have cE:O _:=a7;have bl:=a7.size;clear au bh a7 a8 x0 fx;go_wp2_with(at_builtin;refine XL rfl (.tmp 125) (.tmp 126) 57 4 i4 _ 1 rfl Tryz.underlying57 dl dm dn dp rfl dE C.heap.size w.heap.size m _ _ _ rfl rfl (lY w6 #[] 0 bl (bG _) sI) (c3.o.s.alloc _) (fun c hc=>by obtain⟨n,_,rfl⟩:=cR.mp hc;rfl) oM (bH bl Y.size) ?_);intro v2 w7 ay aq;obtain⟨aw,cw,rfl⟩:=bJ ay;have cF:O (Below C.heap.size C w7):=(cE.o.trans (Y.mono bl)).grown aq (bH bl Y.size) (fun kQ J=>by have :w6.heap.size=kQ:=(by simpa[Value.ownBlock]using J);omega);have d6:O (vD C.heap.size w7 (.slice am m cm) (.slice aw m cw) m d):=⟨gR d1.o (fun k c J=>(aq.block k (dQ (bP J) Y.size) (fun e=>by
           have T:w6.heap.size=k:=(by simpa[Value.ownBlock]using e.symm);have :=bP J
           omega)).trans ((Y.block k (bP J)).trans J)),ay,c3.o.ok⟩
          clear ay aq Y d1 cE c3 bl;have d2:O (∀z:World,Below C.heap.size C z->z.cell? ⟨LB,3,none⟩=some (.slice at_ l.p.length ct)/\z.cell? ⟨XB,1,none⟩=some (.slice ai A.length W)):=fun z hz=>⟨aB hz (cH f8.o),aB hz (cH bs.o)⟩;go_wp2_with fail;go_loopw [13,14] (fun gs N wr=>∃(t:Nat)(z:bK)(ok:Bool),t<=l.p.length/\N=.int .i64 t/\gs=.bool ok/\O (fU d l.p A=if ok=true then fU z (l.p.drop t) (A.drop t)else none)/\O (vD C.heap.size wr (.slice am m cm) (.slice aw m cw) m z)/\O (Below C.heap.size C wr)) (fun _ N _=>l.p.length-(intOf N).toNat);case atStart=>exact⟨0,d,true,bG _,rfl,rfl,by show _=_;rw[if_pos rfl,gJ,gJ],d6.o,cF.o⟩
          case round=>
           clear d6 cF;obtain⟨t,z,ok,ht,rfl,rfl,br,c4,a3⟩:=hrel;obtain⟨en,bm⟩:=d2.o wr a3.o;by_cases ac:t<l.p.length
           ·have g5:decide ((t:Int)<(l.p.length:Int))=true:=aQ oM;have g6:decide (t<l.p.length)=true:=aQ ac;cases ok
            ·(have bW:O (fU d l.p A=none):=by show _=_;rw[br.o];rfl);(have ak:O (M=sD (D,false) ((facts.take (k+1)).flatMap (qD facts r.body I j d))):=by show _=_;rw[bq.o,xW,<-aj.o];unfold qD;rw[bp.o,if_pos bX.o,bW.o];rfl);go_wp2_with fail;go_roundw;(case rel=>exact⟨k+1,M,q',ad,aa,gN,ak.o,ba.o.u a3.o,ag.o.trans (Kp.of_below a3.o aT.o.size)⟩);case measure=>exact mI
            obtain⟨tb,hZ,rfl,hc⟩:=rI fk.o t ac;obtain⟨e8,ea⟩:=hc t ac;obtain⟨gb,aV,rfl,ed⟩:=pF ex.o (show t<A.length by have :=bU.o;omega);(have hW:t<A.length:=by have :=bU.o;omega);have cd:O (Below F.heap.size F wr):=aT.o.trans (a3.o.mono aT.o.size);have y0:=aB cd.o e8;have gu:=aB cd.o ea;have fm:O (qK m (cA l.p t)):=bz.o.i.t _ (mW ac);(have c8:O (fU d l.p A=match kB z (cA l.p t) (bM A t)with |none=>none|some y'=>fU y' (l.p.drop (t+1)) (A.drop (t+1))):=by show _=_;rw[br.o,if_pos rfl];exact SF z l.p A t ac);have eo:O (cP (bM A t)=true):=ep.o _ (by unfold bM;rw[aC,aD (by have :=bU.o;omega)];exact dY _);have cT:O _:=ed;clear hc e8 ea ed;generalize bM A t=K at *;generalize cA l.p t=tm at *;obtain⟨N,tn⟩:=tm;dsimp only at *;go_upto_region 22 with fail;have cl:=dD wr (.cells #[.int .i64 N, .int .i64 tn] 147);have c9:O _:=aR wr (.cells #[.int .i64 N, .int .i64 tn] 147);have a6:O (vD C.heap.size (wr.alloc (.cells #[.int .i64 N, .int .i64 tn] 147)) (.slice am m cm) (.slice aw m cw) m z):=c4.o.u cl;have a0:O (Below C.heap.size C (wr.alloc (.cells #[.int .i64 N, .int .i64 tn] 147))):=a3.o.trans (cl.mono a3.o.size);clear en bm y0 gu c4 a3 cl cd;generalize gg:wr.heap.size=TB at *;generalize wr.alloc (.cells #[.int .i64 N, .int .i64 tn] 147)=Z at *;clear gg;(have b0:Z.cell? ⟨TB,0,none⟩=some (.int .i64 N):=cH c9.o);(have b1:Z.cell? ⟨TB,1,none⟩=some (.int .i64 tn):=cH c9.o);obtain⟨_,bm⟩:=d2.o Z a0.o;have ga:=es.o Z a0.o _ _ _ cT.o;by_cases b6:N<0
            ·have gv:decide (N<0)=true:=aQ b6;have bd:O (kB z ⟨N,tn⟩ K=if tn=K then some z else none):=aA0 b6;clear b6;obtain⟨eb,bg⟩:∃eb,(tn==K)=eb:=⟨_,rfl⟩;have ca:O (fU d l.p A=if eb=true then fU z (l.p.drop (t+1)) (A.drop (t+1))else none):=by
              show _=_;rw[c8.o,bd.o,<-bg];by_cases he:tn=K
              ·rw[if_pos he,if_pos (by simpa using he)]
              rw[if_neg he,if_neg (by simpa using he)]
             go_upto_region 23 with fail;go_quiet(fail);go_wp2_with fail;go_roundw;(case rel=>exact⟨t+1,z,eb,ac,gN,by first|rfl|rw[bg],ca.o,a6.o.u (eO _ _),a0.o.trans ((eO _ _).mono a0.o.size)⟩);case measure=>exact mI
            have gv:decide (N<0)=false:=aJ b6;obtain⟨v,rfl⟩:∃v:Nat,N=v:=⟨N.toNat,oM⟩;(have hY:v<m:=by rcases fm.o with h|h<;>(dsimp only at h;omega));obtain⟨E,H,cN,cS,R,e2,hJ,gf,b5⟩:=a6.o.forms oM;injection R with R _ e3;injection e2 with e2 _ e4;subst R e2 e3 e4;have hU:=a6.o.ok.wf.n;have hS:=a6.o.ok.wf.k;(have de:Z.cell? ⟨E,v,none⟩=some (.int .i64 (z.y.getD v 0)):=by rw[World.ownsRow.cellAt a6.o.n v oM,cY,aD oM,aC,aD oM];rfl);(have bt:Z.cell? ⟨H,v,none⟩=some (.bool (z.w.getD v false)):=by rw[World.ownsRow.cellAt a6.o.s v oM,cY,aD oM,aC,aD oM];rfl);cases bv:z.w.getD v false
            ·have bd:O (kB z ⟨v,tn⟩ K=some ⟨z.y.set v K,z.w.set v true⟩):=aEO bv;rw[bv]at bt;clear b6;go_upto_region 21 with fail;have fc:∃al,Z.heap[E]?=some (.cells al 3):=by
              rcases id a6.o.n.2 with⟨h0,_⟩|⟨g,ft,al,hv,_,hg,_⟩
              ·cases h0
              injection hv with R;injection R with R;injection R with R;subst R;exact⟨al,hg⟩
             have fg:∃al,Z.heap[H]?=some (.cells al 4):=by
              rcases id a6.o.s.2 with⟨h0,_⟩|⟨g,ft,al,hv,_,hg,_⟩
              ·cases h0
              injection hv with R;injection R with R;injection R with R;subst R;exact⟨al,hg⟩
             obtain⟨fu,dx⟩:=fc;obtain⟨fw,dz⟩:=fg;have bb:O (Z.heap[E]?=some (.cells fu 3)):=dx;have c5:O (Z.heap[H]?=some (.cells fw 4)):=dz;clear dx dz;obtain⟨oN,eg⟩:∃oN,(Z.setCell ⟨E,v,none⟩ (.int .i64 K)).heap[E]?=some oN:=⟨_,bV bb.o _⟩;have d3:O ((Z.setCell ⟨E,v,none⟩ (.int .i64 K)).heap[E]?=some oN):=eg;clear eg;(have d9:O (¬TB=E):=fun e=>by have T:=c9.o;rw[e,bb.o]at T;injection T with T;injection T with _ T;cases T);(have fr:O (¬XB=E):=fun e=>by have T:=bs.o;have :=bP T;omega);(have ew:O (¬gb=E):=fun e=>by have h7:=jE _ _ cT.o;have h8:=bP bs.o;have T:=fq.o;dsimp only at h7;omega);refine NP (NbR E) (fun _ _ _ h k=>h.trans k) (fun _ _ h=>NbR.of_below h) (fun tQ vQ _=>vQ=aPU E H TB XB gb aV t v K (.slice (some ⟨E,0,none⟩) m cm) (.slice (some ⟨H,0,none⟩) m cw) (.slice (some ⟨gb,aV,none⟩) A.length W) tQ) (fun _ wQ=>wQ.heap[E]?=some oN) 14 aRW (fun _ _=>true) dE kR kR kR (fun _ _ _ _ _ h=>h) (fun _ _ _ hb h=>(hb.block _ (bP h)).trans h) (fun _ _ _ _ _ _ _ _ h=>h) ?hopA ?htailA;case hopA=>refine xK.cons (fun a S h hO=>by rw[if_neg dE];have h4:a.eval (.tmp 11)=(.slice (some ⟨E,0,none⟩) m cm:Value):=h.old 11;exact jC (.slice (some ⟨E,0,none⟩) m cm)) ?_;refine xK.cons (fun a S h hO=>by rw[if_neg dE];have fy:a.eval (.tmp 15)=(.pointer (some ⟨TB,0,none⟩):Value):=h.old 15;exact jC (.pointer (some ⟨TB,0,none⟩))) ?_;refine xK.cons (fun a S h hO=>by rw[if_neg dE];have hf:a.eval (.tmp 144)=(.pointer (some ⟨TB,0,none⟩):Value):=h.of 144;have c0:=h.u.cell b0 d9.o;exact jC (.int .i64 (v:Nat))) ?_;refine xK.cons (fun a S h hO=>by rw[if_neg dE];have h5:a.eval (.tmp 12)=(.slice (some ⟨H,0,none⟩) m cw:Value):=h.old 12;exact jC (.slice (some ⟨H,0,none⟩) m cw)) ?_;refine xK.cons (fun a S h hO=>by rw[if_neg dE];have fy:a.eval (.tmp 15)=(.pointer (some ⟨TB,0,none⟩):Value):=h.old 15;exact jC (.pointer (some ⟨TB,0,none⟩))) ?_;refine xK.cons (fun a S h hO=>by rw[if_neg dE];have hm:a.eval (.tmp 147)=(.pointer (some ⟨TB,0,none⟩):Value):=h.of 147;have c0:=h.u.cell b0 d9.o;exact jC (.int .i64 (v:Nat))) ?_;refine xK.cons (fun a S h hO=>by rw[if_neg dE];have h3:a.eval (.tmp 10)=(.pointer (some ⟨XB,0,none⟩):Value):=h.old 10;exact jC (.pointer (some ⟨XB,1,none⟩))) ?_;refine xK.cons (fun a S h hO=>by rw[if_neg dE];have ho:a.eval (.tmp 149)=(.pointer (some ⟨XB,1,none⟩):Value):=h.of 149;have c0:=h.u.cell bm fr.o;exact jC (.slice (some ⟨gb,aV,none⟩) A.length W)) ?_;refine xK.cons (fun a S h hO=>by rw[if_neg dE];have h6:a.eval (.tmp 14)=(.int .i64 (t:Nat):Value):=h.old 14;exact jC (.int .i64 (t:Nat))) ?_;refine xK.cons (fun a S h hO=>by rw[if_neg dE];have hr:a.eval (.tmp 150)=(.slice (some ⟨gb,aV,none⟩) A.length W:Value):=h.of 150;have hs:a.eval (.tmp 151)=(.int .i64 (t:Nat):Value):=h.of 151;exact jC (.pointer (some ⟨gb,aV+t,none⟩))) ?_;refine xK.cons (fun a S h hO=>by rw[if_neg dE];have hw:a.eval (.tmp 152)=(.pointer (some ⟨gb,aV+t,none⟩):Value):=h.of 152;have c0:=h.u.cell ga ew.o;exact jC (.int .i64 K)) ?_;refine xK.cons (fun a S h hO=>by rw[if_neg dE];have ha:a.eval (.tmp 143)=(.slice (some ⟨E,0,none⟩) m cm:Value):=h.of 143;have hh:a.eval (.tmp 145)=(.int .i64 (v:Nat):Value):=h.of 145;exact jC (.pointer (some ⟨E,v,none⟩))) ?_;refine xK.cons (fun a S h hO=>by rw[if_pos dE];have hA:a.eval (.tmp 154)=(.pointer (some ⟨E,v,none⟩):Value):=h.of 154;have hx:a.eval (.tmp 153)=(.int .i64 K:Value):=h.of 153;have eh:=h.pre kR;have cc:=aB eh de;have hy:=(eh.block _ (bP bb.o)).trans bb.o;have ff:=cM hy v;(have ef:(S.setCell ⟨E,v,none⟩ (.int .i64 K)).heap[E]?=some oN:=by rw[bV hy,<-d3.o,bV bb.o]);refine⟨bF rfl,aF7 (w':=S.setCell ⟨E,v,none⟩ (.int .i64 K)) ?_ ⟨undef,rfl,fun t ht=>(by cases ht),NbR.set _ _ _,fun _ _=>ef,ef⟩⟩;have ec:=qM a;generalize a.eval=ev at *;clear h hO;go_simp) ?_;refine xK.cons (fun a S h hO=>by rw[if_neg dE];have hl:a.eval (.tmp 146)=(.slice (some ⟨H,0,none⟩) m cw:Value):=h.of 146;have hn:a.eval (.tmp 148)=(.int .i64 (v:Nat):Value):=h.of 148;exact jC (.pointer (some ⟨H,v,none⟩))) ?_;exact xK.nil
             case htailA=>
              rintro⟨ah,df⟩ w8 U _;have fz:Act.eval ⟨ah,df⟩ (.tmp 155)=.pointer (some ⟨H,v,none⟩):=U.of 13 _ 155 dE rfl rfl kR;have dw:w8.heap[E]?=some oN:=U.wrote 12 dE rfl;have go:H<Z.heap.size:=bP c5.o;have cj:=(U.u.block H go b5).trans c5.o;have fs:w8.cell? ⟨H,v,none⟩=some (.bool false):=U.u.cell bt b5;have fG:w8.frozen? ⟨H,v,none⟩=false:=cM cj v;have ej:ah.size=192:=U.size;show wpOps Tryz.prog _ _ [14] _ _;rw[iO];refine zK rfl (bF rfl) rfl (w':=w8.setCell ⟨H,v,none⟩ (.bool true)) ?_ ?_
              ·show Sem.run Tryz.prog (execOp (Act.eval ⟨ah,df⟩) _) w8=_;have ec:=qM ⟨ah,df⟩;generalize Act.eval ⟨ah,df⟩=ev at *;clear U;go_simp
              have fd:O (vD C.heap.size (w8.setCell ⟨H,v,none⟩ (.bool true)) (.slice (some ⟨E,0,none⟩) m cm) (.slice (some ⟨H,0,none⟩) m cw) m ⟨z.y.set v K,z.w.set v true⟩):=by
               have hp:=a6.o.put b5 v K eo.o;refine⟨kH hp.n (fun g hg=>?_),kH hp.s (fun g hg=>?_),hp.ok⟩
               ·have gj:E=g:=(by simpa[Value.ownBlock]using hg);subst gj;rw[cL (fun e=>b5 e.symm),cL (fun e=>b5 e.symm),dw,d3.o]
               have gl:H=g:=(by simpa[Value.ownBlock]using hg);subst gl;rw[bV cj,bV ((cL b5).trans c5.o)]
              (have eq:O (Below C.heap.size C (w8.setCell ⟨H,v,none⟩ (.bool true))):=by have h1:Below C.heap.size C w8:=⟨U.u.os.trans a0.o.os,U.u.tape.trans a0.o.tape,U.u.output.trans a0.o.output,bH a0.o.size U.u.size,fun k J=>(U.u.block k (dQ J a0.o.size) oM).trans (a0.o.block k J)⟩;exact h1.setCell (p:=⟨H,v,none⟩) gf _);have el:∀t,t∉[143,144,145,146,147,148,149,150,151,152,153,154,155]->ah.getD t undef=_:=fun t ht=>U.still t ht;obtain rfl:df=[]:=U.defers;clear U fz dw cj fs fG b0 b1 bm ga de bt;show Exit.inBlock _ _ Exit.normal ⟨ah,[]⟩ (w8.setCell ⟨H,v,none⟩ (.bool true));generalize w8.setCell ⟨H,v,none⟩ (.bool true)=w9 at *;obtain⟨fQ,hQ,cg⟩:=pQ [143,144,145,146,147,148,149,150,151,152,153,154,155] ah _ (ej.trans rF) el;clear ej el;simp only[List.foldl_cons,List.foldl_nil]at cg;clear hQ;simp only[List.setIfInBounds_toArray,List.set_cons_zero,List.set_cons_succ]at cg;subst cg;go_wp2_with fail;go_roundw;(case rel=>exact⟨t+1,⟨z.y.set v K,z.w.set v true⟩,true,ac,gN,rfl,by show _=_;rw[if_pos rfl,c8.o,bd.o],fd.o,eq.o⟩);case measure=>exact mI
            have bd:O (kB z ⟨v,tn⟩ K=if z.y.getD v 0=K then some z else none):=aEM bv;rw[bv]at bt;clear b6;generalize z.y.getD v 0=nv at *;obtain⟨eb,bg⟩:∃eb,(nv==K)=eb:=⟨_,rfl⟩;have ca:O (fU d l.p A=if eb=true then fU z (l.p.drop (t+1)) (A.drop (t+1))else none):=by
             show _=_;rw[c8.o,bd.o,<-bg];by_cases he:nv=K
             ·rw[if_pos he,if_pos (by simpa using he)]
             rw[if_neg he,if_neg (by simpa using he)]
            go_upto_region 25 with fail;go_quiet(fail);go_wp2_with fail;go_roundw;(case rel=>exact⟨t+1,z,eb,ac,gN,by first|rfl|rw[bg],ca.o,a6.o.u (eO _ _),a0.o.trans ((eO _ _).mono a0.o.size)⟩);case measure=>exact mI
           have g5:decide ((t:Int)<(l.p.length:Int))=false:=aJ oM;have g6:decide (t<l.p.length)=false:=aJ ac;cases ok
           ·(have bW:O (fU d l.p A=none):=by show _=_;rw[br.o];rfl);(have ak:O (M=sD (D,false) ((facts.take (k+1)).flatMap (qD facts r.body I j d))):=by show _=_;rw[bq.o,xW,<-aj.o];unfold qD;rw[bp.o,if_pos bX.o,bW.o];rfl);go_wp2_with fail;go_roundw;(case rel=>exact⟨k+1,M,q',ad,aa,gN,ak.o,ba.o.u a3.o,ag.o.trans (Kp.of_below a3.o aT.o.size)⟩);case measure=>exact mI
           (have fi:O (fU d l.p A=some z):=by show _=_;rw[br.o,if_pos rfl,bD oM];cases A.drop t<;>rfl);(have bx:O _:=ey.o (j+1) z M q' ad C.heap.size (.slice am m cm) (.slice aw m cw) wr (bN.o.trans (((Kp.of_below bn.o L.o.size).trans ag.o).trans (Kp.of_below a3.o aT.o.size))) (ba.o.u a3.o) ba.o.lt c4.o oM oM (by rw[aj.o];exact Gj _ ek);rw[show((j+1:Nat):Int)=(j:Int)+1 from by omega]at bx;have ak:O (sD M (mY facts r.body I (j+1) z)=sD (D,false) ((facts.take (k+1)).flatMap (qD facts r.body I j d))):=by show _=_;rw[bq.o,xW,<-aj.o];unfold qD;rw[bp.o,if_pos bX.o,fi.o]);go_wp2_with fail;refine Calls.mono bx.o ?_;rintro _ w9 ⟨rfl,⟨q9,gt,b2⟩,dv⟩;have et:O _:=b2;have f2:O (Kp F.heap.size x wl w9):=(ag.o.trans (Kp.of_below a3.o aT.o.size)).trans dv;clear b2 dv bx en bm;go_wp2_with fail;go_roundw;(case rel=>exact⟨k+1,_,q9,gt,aa,gN,ak.o,et.o,f2.o⟩);case measure=>exact mI
         (have gp:(X != l.z)=true:=by simpa using ax);(have ak:O (M=sD (D,false) ((facts.take (k+1)).flatMap (qD facts r.body I j d))):=by show _=_;rw[bq.o,xW,<-aj.o];unfold qD;rw[bp.o,if_neg ax];rfl);clear ax;go_wp2_with fail;go_roundw;(case rel=>exact⟨k+1,M,q',ad,aa,gN,ak.o,ba.o,ag.o⟩);case measure=>exact mI
        rw[b3]at ce;(have V:O (sD (D,false) (facts.flatMap (qD facts r.body I j d))=M):=by show _=_;rw[fj.o,xW,<-aj.o];exact EZ b3 _);clear b3;go_wp2_with fail;refine bodyPost_end (sA rfl _ _ _) rfl ?_;exact⟨rfl,⟨q',ad,by rw[b9.o,V.o];exact aF.o⟩,bT.o⟩
       have g1:decide ((k:Int)<(facts.length:Int))=false:=aJ oM;have g3:decide (k<facts.length)=false:=aJ aa;(have V:O (sD (D,false) (facts.flatMap (qD facts r.body I j d))=M):=by show _=_;rw[aj.o,dU oM]);go_wp2_with fail;refine bodyPost_end (sA rfl _ _ _) rfl ?_;exact⟨rfl,⟨q',ad,by rw[b9.o,V.o];exact aF.o⟩,bT.o⟩
     (have gk:((cJ r.body j).kind != 1)=true:=by simpa using ar);(have fh:O (iI r.body i=iI r.body (j+1)):=by show _=_;rw[c6.o,c7.o,if_neg ar]);clear ar q0 q1 q2 q3 hT;generalize cJ r.body j=l at *;go_wp2_with fail;go_roundw;(case rel=>exact⟨trivial,j+1,oM,bi,gN,fh.o⟩);case measure=>exact mI
    have gm:j=r.body.length:=oM;have g4:decide ((j:Int)<(r.body.length:Int))=false:=aJ oM;have b9:O (mY facts r.body (I+1) i y=[d.y]):=aAF aI.o dc.o (by rw[c6.o,Nh oM];omega);(have g0:((j:Int)==(r.body.length:Int))=true:=by simp;omega);(have HQ:O (q.length=D.length):=by show _=_;have T:q.map (·.1)=D:=a4.o.hq;rw[<-T,aP]);obtain⟨ao,co,gr⟩:=bJ a4.o.o;subst gr;(have f6:G.cell? ⟨x,6,none⟩=some (.slice ao q.length co):=cH a4.o.b);clear gm;by_cases bf:q.length=2000
    ·(have g2:((q.length:Int)==2000)=true:=by simp;omega);(have hC:G.cell? ⟨x,7,none⟩=some (.bool false):=cH a4.o.b);have hE:G.frozen? ⟨x,7,none⟩=false:=cM a4.o.b 7;(have V:O (sD (D,false) [d.y]=(D,true)):=by show xX (D,false) d.y=_;unfold xX;rw[if_neg sI,if_pos (by show D.length=2000;rw[<-HQ.o];exact bf)]);have gy:O _:=bf;clear bf;go_wp2_with fail;refine dF (sA rfl _ _ _) rfl ?_;exact⟨rfl,⟨q,_,by rw[b9.o,V.o];exact a4.o.many⟩,(Kp.of_below a5.o L.o.size).trans (Kp.setB HF.o.lo _)⟩
    (have g2:((q.length:Int)==2000)=false:=by simp;omega);(have V:O (sD (D,false) [d.y]=(D++[d.y],false)):=by show xX (D,false) d.y=_;unfold xX;rw[if_neg sI,if_neg (by show¬D.length=2000;rw[<-HQ.o];exact bf)]);obtain⟨i2,g7,g8,g9,gc⟩:=iT Xq;(have hV:q.length<=2000:=by rw[HQ.o];exact ek);have a9:=dD G (.cells #[.slice P m Q] 22);have b8:O (wX x vt (.slice ab r.body.length cb) (.slice af facts.length cf) r (D,false) q (.slice ao q.length co) (G.alloc (.cells #[.slice P m Q] 22))):=a4.o.u a9;have d0:O (vD w.heap.size (G.alloc (.cells #[.slice P m Q] 22)) (.slice P m Q) (.slice a2 m c2) m d):=bZ.o.u a9;have eR:O (Kp F.heap.size x w (G.alloc (.cells #[.slice P m Q] 22))):=(Kp.of_below a5.o L.o.size).trans (Kp.of_below a9 (bH L.o.size a5.o.size));have dr:=b8.o.b;have cu:x+1<=(G.alloc (.cells #[.slice P m Q] 22)).heap.size:=b8.o.lt;clear bf;go_wp2_with(at_builtin;refine fX _ rfl (.tmp 80) (.tmp 82) 28 rfl (x+1) 22 i2 _ 1 24 Tryz.underlying28 g7 g8 g9 gc rfl dE _ _ _ rfl b8.o.o ⟨G.heap.size,0,none⟩ 1 1 [.slice P m Q] rfl rfl (aP8 G _ 22) (fun u hu=>by rw[cQ.mp hu];rfl) (by unfold maxLen;omega) oM cu ?_);intro v9 w9 cr cp _;have ei:=b8.o.push HF.o.lo cx d0.o.ok.wf.n d0.o.n cr cp;have b2:w9.heap[x]?=_:=(cp.block x cu (fun e=>by have :=(b8.o.o.lt x e.symm).1;omega)).trans dr;(have hB:w9.cell? ⟨x,6,none⟩=some (.slice ao q.length co):=cH b2);have hD:w9.frozen? ⟨x,6,none⟩=false:=cM b2 6;obtain⟨av,cv,rfl⟩:=bJ cr;have d4:O _:=ei;clear ei b2 cr cp dr cu f6 a9;go_wp2_with fail;refine dF (sA rfl _ _ _) rfl ?_;exact⟨rfl,⟨_,_,by rw[b9.o,V.o];exact d4.o.1⟩,eR.o.trans d4.o.2⟩
  have V:O (mY facts r.body (I+1) i y=[]):=Fq aI.o bw;clear bw;go_wp2_with fail;refine dF (sA rfl _ _ _) rfl ?_;exact⟨rfl,⟨q,vo,by rw[V.o];exact az.o.u a5.o⟩,Kp.of_below a5.o L.o.size⟩
theorem aDI(g j:World)(m b:Nat)(k e f:Value)(r:bB)(facts:List aN)(l:aHH g j m b e f r facts):∀d,aHI g j m b k e f r facts d
 |0=>fun i _ _ _ _ _ _ _ _ _ _ _ _ p n _=>absurd n oM
 |d+1=>aLP g j m b k e f r facts d l (aDI g j m b k e f r facts l d)

end Go.Proofs.YthenjegmigeieaaGreat
namespace Go.Proofs.YthenjegmigeieaaGreat
def lL(Q:List Nv)(x:Nv)(i k:Nat):List Nv:=Q.take k++x::((Q.take i).drop k++Q.drop (i+1))
def IR(l:List Nv):Prop:=l.Pairwise fun a b=>¬eS b.1 a.1<0
section
variable {Q:List Nv} {x:Nv} {i k:Nat}
theorem aAG(b:Q[i]?=some x):lL Q x i i=Q:=by unfold lL;have e:i<Q.length:=(eP.mp b).1;rw[bD (by rw[cW];omega),qB];(have d:Q.drop i=x::Q.drop (i+1):=by rw[dB e,(eP.mp b).2]);rw[<-d,nL]
theorem RU(b:Q[i]?=some x)(e:k<=i):(lL Q x i k).length=Q.length:=by have d:i<Q.length:=(eP.mp b).1;unfold lL;simp only[List.length_append,List.length_cons,List.length_take,List.length_drop];omega
theorem aL7(b:Q[i]?=some x)(e:k<=i):(lL Q x i k)[k]?=some x:=by have d:i<Q.length:=(eP.mp b).1;unfold lL;rw[jP (by rw[cW];omega),cW,show k-min k Q.length=0 by omega];rfl
theorem aD4(b:Q[i]?=some x)(e:k+1<=i):(lL Q x i (k+1))[k]?=Q[k]?:=by have d:i<Q.length:=(eP.mp b).1;unfold lL;rw[mL (by rw[cW];omega),gS,if_pos oM]
theorem aD5{y:Nv}(g:Q[i]?=some x)(l:k+1<=i)(b:Q[k]?=some y):((lL Q x i (k+1)).set (k+1) y).set k x=lL Q x i k:=by
 have j:i<Q.length:=(eP.mp g).1;(have d:Q.take (k+1)=Q.take k++[y]:=by rw[eI,b];rfl);have e:(Q.take i).drop k=y::(Q.take i).drop (k+1):=by
  rw[dB (by rw[cW];omega)]
  congr 1
  rw[XP];exact(eP.mp b).2
 (have f:(Q.take k).length=k:=by rw[cW];omega);unfold lL;rw[d,e,iP,List.set_append_right _ _ oM,List.set_append_right _ _ oM,f,show k+1-k=1 by omega,wS];rfl
theorem DW(d:Q[i]?=some x)(l:k<=i):(lL Q x i k).Perm Q:=by
 have j:i<Q.length:=(eP.mp d).1;have b:(lL Q x i k).Perm (x::(Q.take k++((Q.take i).drop k++Q.drop (i+1)))):=List.perm_middle;have e:Q.take k++((Q.take i).drop k++Q.drop (i+1))=Q.take i++Q.drop (i+1):=by
  rw[<-iP]
  congr 1
  (have :Q.take k=(Q.take i).take k:=by rw[List.take_take,vA l]);rw[this,nL]
 rw[e]at b;refine b.trans ?_;(have f:Q=Q.take i++x::Q.drop (i+1):=by(have g:Q.drop i=x::Q.drop (i+1):=by rw[dB j,(eP.mp d).2]);rw[<-g,nL]);exact(List.perm_middle.symm).trans (by rw[<-f])
theorem aD6(b:Q[i]?=some x)(e:k<=i):(lL Q x i k).take (i+1)=Q.take k++x::(Q.take i).drop k:=by have d:i<Q.length:=(eP.mp b).1;(have :lL Q x i k=(Q.take k++x::(Q.take i).drop k)++Q.drop (i+1):=by unfold lL;simp);rw[this,qN (by simp only[List.length_append,List.length_cons,List.length_take,List.length_drop];omega),dU (by simp only[List.length_append,List.length_cons,List.length_take,List.length_drop];omega)]
theorem RW(p:Q[i]?=some x)(n:k<=i)(l:IR (Q.take i))(w:∀y,y∈(Q.take i).drop k->eS x.1 y.1<0)(A:k=0\/∃y,Q[k-1]?=some y/\¬eS x.1 y.1<0):IR ((lL Q x i k).take (i+1)):=by
 have H:i<Q.length:=(eP.mp p).1;rw[aD6 p n];have z:Q.take i=Q.take k++(Q.take i).drop k:=by
  (have :Q.take k=(Q.take i).take k:=by rw[List.take_take,vA n]);rw[this,nL]
 unfold IR at l ⊢;rw[z,uN]at l;obtain⟨e,r,s⟩:=l;rw[uN];refine⟨e,lW.mpr ⟨fun y m=>?_,r⟩,fun a d b f=>?_⟩
 ·have :=w y m;have F:=BM x.1 y.1;omega
 rcases eQ.mp f with rfl|f
 ·rcases A with q|⟨y,m,j⟩
  ·rw[q]at d;simp at d
  have I:0<k:=by
   rcases UC k with h|h
   ·rw[h]at d;simp at d
   exact h
  (have B:Q.take k=Q.take (k-1)++[y]:=by(conv=>lhs;rw[show k=(k-1)+1 by omega,eI,m]);rfl);rw[B]at d e;rcases dP.mp d with d|d
  ·have G:¬eS y.1 a.1<0:=(uN.mp e).2.2 a d y sI;intro g;have C:=BM y.1 a.1;have D:=BM b.1 y.1;have E:eS a.1 y.1<=0:=oM;by_cases v:eS a.1 y.1=0
   ·rw[vY.mp v]at g;exact j g
   exact j (JO g oM)
  rw[cQ.mp d];exact j
 exact s a d b f
end
end Go.Proofs.YthenjegmigeieaaGreat
namespace Go.Proofs.YthenjegmigeieaaGreat
open Go.RowKit
def KA(w:World)(B:Nat)(facts:List aN)(v:Value)(W:World):Prop:=∃q:List Fv,q.map (·.1)=dR facts/\W.ownsRow B 55 2 v q.length (q.map dW).flatten/\∀p,p∈q->DN w p
theorem KA.u{w:World}{B:Nat}{facts:List aN}{v:Value}{W W':World}(h:KA w B facts v W)(f:Below W.heap.size W W'):KA w B facts v W':=by obtain⟨q,b,d,e⟩:=h;exact⟨q,b,bI d f,e⟩
theorem KA.keep{w:World}{B m b:Nat}{facts:List aN}{v:Value}{W W':World}(h:KA w B facts v W)(l:∀c,¬W.heap[b]?=some (.cells c 55))(j:Kp m b W W'):KA w B facts v W':=by obtain⟨q,f,g,i⟩:=h;exact⟨q,f,gR g (fun k c d=>j.keep k c 55 d (fun e=>l c (by rw[<-e];exact d)) dE),i⟩
theorem KA.toV{w:World}{B:Nat}{facts:List aN}{v:Value}{W:World}(h:KA w B facts v W)(f:Below w.heap.size w W):dA W v (dR facts):=by obtain⟨q,b,d,e⟩:=h;rw[<-b];exact AL d e f
theorem aB0{o:Oper}{a:Act}{w:World}{K:Act->World->Prop}{Q:Exit->Act->World->Prop}(x u:Operand)(i:o.op=.store 100 x u)(b:Nat)(m:a.eval x=.pointer (some ⟨b,0,none⟩))(old new:Array Value)(l:a.eval u=.agg new)(e:w.heap[b]?=some (.cells old 100))(j:old.size=8)(d:new.size=8)(h1:new.all (·.oneCell')=true)(g:K (a.put o.dst undef) (w.setRow b new)):o.wp Tryz.prog a w K Q:=by have f:(Tryz.prog.info? 100).map (·.size)=some 8:=kR;have k:=Dg (P:=Tryz.prog) w b 100 100 old new e (by rw[d];exact f) (by rw[j,d]) h1;unfold Oper.wp execOp;simp only[i,m,l,Instr.storeAt,Instr.sureAddr,Sem.run_bind,Sem.run_pure,Result.andThen_ok,k];exact g
theorem Kh{o:Oper}{a:Act}{w:World}{f:FuncId}{args:Array Value}{K:Act->World->Prop}{Q:Exit->Act->World->Prop}(g:(execOp a.eval o).run Tryz.prog w=.ok (.enter f args) w)(d:Calls Tryz.prog f args w fun e b=>∃v,e=.returned v/\K (a.put o.dst v) b):o.wp Tryz.prog a w K Q:=by unfold Oper.wp;rw[g,Oper.upon_enter];refine Calls.mono d ?_;rintro e b ⟨v,rfl,h⟩;exact h
theorem aVK:∀{m:Nat},m<=8->(madeCells (Value.int .i64 0).cells (m*1)).toList=(yY m).y.map (Value.int .i64)
 |0,_=>by kernel_rfl|1,_=>by kernel_rfl|2,_=>by kernel_rfl|3,_=>by kernel_rfl|4,_=>by kernel_rfl|5,_=>by kernel_rfl|6,_=>by kernel_rfl|7,_=>by kernel_rfl|8,_=>kR
 |n+9,h=>absurd h oM
theorem aVL:∀{m:Nat},m<=8->(madeCells (Value.bool false).cells (m*1)).toList=(yY m).w.map Value.bool
 |0,_=>by kernel_rfl|1,_=>by kernel_rfl|2,_=>by kernel_rfl|3,_=>by kernel_rfl|4,_=>by kernel_rfl|5,_=>by kernel_rfl|6,_=>by kernel_rfl|7,_=>by kernel_rfl|8,_=>kR
 |n+9,h=>absurd h oM
def uA(facts:List aN)(r:bB):Bool:=decide ((qF (dR facts) r).length<=2000)
def pC(facts:List aN)(r:bB):List (List Int):=if uA facts r=true then rX (qF (dR facts) r)else []
theorem VE:∀(L:List (List Int))(b:List (List Int)),b.length<=2000->sD (b,false) L=((b++L).take 2000,decide (2000<(b++L).length))
 |[],b,h=>by show(b,false)=_;rw[jM,dU h,aJ oM]
 |x::L,b,h=>by
  show sD (xX (b,false) x) L=_;unfold xX;rw[if_neg sI];by_cases d:b.length=2000
  ·rw[if_pos d,EZ rfl,qN oM,dU oM,aQ (by rw[bA,zW];omega)]
  rw[if_neg d,VE L (b++[x]) (by rw[bA,qZ];omega),iP];rfl
def aSN(w:World)(B:Nat)(r:bB)(i g j:Value)(facts:List aN)(d:Nat)(b:Value)(f:World):Prop:=
 if d=9 then b=.agg #[.int .i64 r.z,i, .int .i64 r.x,g, .int .i64 r.vars]
 else if d=10 then b=j
 else if d=11 then KA w B facts b f
 else if d=12 then∃u,b=.agg #[.int .i64 r.z,i, .int .i64 r.x,g, .int .i64 r.vars,u, .slice none 0 0, .bool false]/\KA w B facts u f
 else∃e,b=.pointer (some ⟨e,0,none⟩)/\B<=e/\f.heap[e]?=some (.cells #[.int .i64 0, .slice none 0 0, .int .i64 0, .slice none 0 0, .int .i64 0, .slice none 0 0, .slice none 0 0, .bool false] 100)
theorem aOA(w:World)(B:Nat)(r:bB)(q p g:Value)(facts:List aN)(b:Nat)(n:Value)(W W':World)(f:Below W.heap.size W W')(h:aSN w B r q p g facts b n W):aSN w B r q p g facts b n W':=by
 unfold aSN at h ⊢;by_cases j:b=9
 ·rw[if_pos j]at h ⊢;exact h
 rw[if_neg j]at h ⊢;by_cases k:b=10
 ·rw[if_pos k]at h ⊢;exact h
 rw[if_neg k]at h ⊢;by_cases l:b=11
 ·rw[if_pos l]at h ⊢;exact h.u f
 rw[if_neg l]at h ⊢;by_cases m:b=12
 ·rw[if_pos m]at h ⊢;obtain⟨u,d,e⟩:=h;exact⟨u,d,e.u f⟩
 rw[if_neg m]at h ⊢;obtain⟨s,d,e,i⟩:=h;exact⟨s,d,e,(f.block _ (bP i)).trans i⟩
def aSO(B m RB:Nat)(d:Nat)(b:Value)(e:World):Prop:=
 if d=13 then b=.pointer (some ⟨RB,4,none⟩)
 else if d=14 then b=.int .i64 (m:Nat)
 else if d=15 then e.ownsRow B 3 1 b m ((yY m).y.map (Value.int .i64))
 else if d=16 then b=.pointer (some ⟨RB,4,none⟩)
 else if d=17 then b=.int .i64 (m:Nat)
 else e.ownsRow B 4 1 b m ((yY m).w.map Value.bool)
theorem aOB(B m RB:Nat)(b:Nat)(k:Value)(W W':World)(j:Below W.heap.size W W')(h:aSO B m RB b k W):aSO B m RB b k W':=by
 unfold aSO at h ⊢;by_cases d:b=13
 ·rw[if_pos d]at h ⊢;exact h
 rw[if_neg d]at h ⊢;by_cases e:b=14
 ·rw[if_pos e]at h ⊢;exact h
 rw[if_neg e]at h ⊢;by_cases f:b=15
 ·rw[if_pos f]at h ⊢;exact bI h j
 rw[if_neg f]at h ⊢;by_cases g:b=16
 ·rw[if_pos g]at h ⊢;exact h
 rw[if_neg g]at h ⊢;by_cases i:b=17
 ·rw[if_pos i]at h ⊢;exact h
 rw[if_neg i]at h ⊢;exact bI h j
theorem aJN(x y:List Int)(v u:Value)(w:World)(F:dM w v x)(E:dM w u y)(z:x.length=y.length)(R:x.length<=1000000):Calls Tryz.prog 61 #[v,u] w fun e H=>e=.returned (.bool (oG x y))/\∃n,H=w.drewN n:=by
 obtain⟨I,M,rfl,p⟩:=F;obtain⟨L,N,rfl,q⟩:=E;have A:O _:=p;have B:O _:=q;have i:O _:=z;clear p q z
 go_enter Tryz.func61,Tryz.ntmps61
 go_wp2_with fail;go_loopw [5] (fun iv wr=>∃k:Nat,k<=x.length/\iv=.int .i64 k/\O (oG x y=oG (x.drop k) (y.drop k))/\O (∃n,wr=w.drewN n)) (fun iv _=>x.length-(intOf iv).toNat);case atStart=>exact⟨0,oM,rfl,rfl,0,rfl⟩
 case round=>
  obtain⟨k,Q,rfl,j,d⟩:=hrel;(have l:O (Below w.heap.size w wr):=by obtain⟨n,rfl⟩:=d.o;exact eO _ _);by_cases f:k<x.length
  ·(have G:k<y.length:=by have :=i.o;omega);obtain⟨J,S,rfl,r⟩:=pF A.o f;obtain⟨K,T,rfl,s⟩:=pF B.o G;have U:=aB l.o r;have V:=aB l.o s;have m:O _:=RY i.o f;clear r s;generalize bM x k=a at *;generalize bM y k=c at *;by_cases b:a=c
   ·(have D:(a != c)=false:=by simpa using b);(have C:O (oG x y=oG (x.drop (k+1)) (y.drop (k+1))):=by show _=_;rw[j.o,m.o,if_pos b]);clear b;go_upto_region 4 with fail;go_quiet(fail);go_wp2_with fail;go_roundw;(case rel=>exact⟨k+1,f,gN,C.o,by obtain⟨n,rfl⟩:=d.o;exact⟨_,CE _ _ _⟩⟩);case measure=>exact mI
   (have D:(a != c)=true:=by simpa using b);(have g:O (oG x y=decide (a<c)):=by show _=_;rw[j.o,m.o,if_neg b]);clear b;go_upto_region 4 with fail;go_quiet(fail);go_upto_region 5 with fail;go_quiet(fail);go_wp2_with fail;go_ret;exact⟨by rw[g.o];rfl,by obtain⟨n,rfl⟩:=d.o;exact⟨_,by rw[CE,CE]⟩⟩
  have P:decide (k<x.length)=false:=aJ f;(have g:O (oG x y=false):=by show _=_;have :=i.o;rw[j.o,bD oM];unfold oG;rfl);go_wp2_with fail;go_ret;exact⟨by rw[g.o];rfl,d.o⟩
def aVU(i:Nat):Bool:=i==19
def aUG(b d k:Nat)(e f g:Value):Nat->Value
 |48=>.pointer (some ⟨b,6,none⟩)
 |49=>e
 |50=>.int .i64 ((k:Int)+1)
 |51=>.pointer (some ⟨b,6,none⟩)
 |52=>e
 |53=>.int .i64 ((k:Int)+1)
 |54=>.int .i64 (k:Nat)
 |55=>.pointer (some ⟨b,6,none⟩)
 |56=>e
 |57=>.int .i64 ((k:Int)+1)
 |58=>.int .i64 (k:Nat)
 |59=>.pointer (some ⟨d,k,none⟩)
 |60=>g
 |61=>.pointer (some ⟨b,6,none⟩)
 |62=>e
 |63=>.int .i64 ((k:Int)+1)
 |64=>.pointer (some ⟨d,k+1,none⟩)
 |65=>f
 |66=>.pointer (some ⟨d,k+1,none⟩)
 |67=>.pointer (some ⟨d,k,none⟩)
 |_=>.bool false
theorem aIE(facts:List aN)(r:bB)(vt vb vf:Value)(w:World)(hT:fT w vt r.p)(hB:pI w vb r.body)(hF:dA w vf facts)(f2:facts.length<=60)(c6:∀f,f∈facts->fW f)(m:Nat)(hm:r.vars=m)(bm:m<=8)(dy:r.body.length<=4)(ca:∀f,f∈dR facts->∀n,n∈f.args->cP n=true)(cj:∀l,l∈r.body->xS (dR facts) m l)(cl:(qF (dR facts) r).Nodup)(ci:∀x,x∈qF (dR facts) r->x.length=m):
 Calls Tryz.prog 17 #[lP r vt vb,vf] w fun e w'=>∃v q,e=.returned (.tuple #[v, .bool (uA facts r)])/\vC w.heap.size w' v q/\q.map (·.1)=pC facts r/\Below w.heap.size w w':=by
 obtain⟨at_,G,rfl,_⟩:=id hT;obtain⟨E,F,rfl,_⟩:=id hB;obtain⟨af,cf,rfl,_⟩:=id hF;have cu:=dD w (.cells #[.int .i64 r.z, .slice at_ r.p.length G, .int .i64 r.x, .slice E r.body.length F, .int .i64 r.vars] 40);have a5:O _:=aR w (.cells #[.int .i64 r.z, .slice at_ r.p.length G, .int .i64 r.x, .slice E r.body.length F, .int .i64 r.vars] 40);have a3:O _:=cu;have d3:O (dA w (.slice af facts.length cf) facts):=hF;have bu:O _:=c6;have HM:O _:=hm;have d2:O _:=ca;have d9:O _:=cj;have db:O ((qF (dR facts) r).Nodup):=cl;have d8:O _:=ci;have dh:O (pI w (.slice E r.body.length F) r.body):=hB;obtain⟨p0,p1,p2,p3,p4⟩:=iT IC;obtain⟨b0,b1,b2,b3,b4⟩:=iT aGV;clear hT hB hF c6 cu hm ca cj cl ci
 go_enter Tryz.func17,Tryz.ntmps17
 go_upto_region 1 with fail;generalize w.alloc (.cells #[.int .i64 r.z, .slice at_ r.p.length G, .int .i64 r.x, .slice E r.body.length F, .int .i64 r.vars] 40)=w1 at *;generalize dv:w.heap.size=RB at *;(have c0:w1.cell? ⟨RB,0,none⟩=some (.int .i64 r.z):=cH a5.o);(have c1:w1.cell? ⟨RB,1,none⟩=some (.slice at_ r.p.length G):=cH a5.o);(have c2:w1.cell? ⟨RB,2,none⟩=some (.int .i64 r.x):=cH a5.o);(have c3:w1.cell? ⟨RB,3,none⟩=some (.slice E r.body.length F):=cH a5.o);(have c4:w1.cell? ⟨RB,4,none⟩=some (.int .i64 r.vars):=cH a5.o);rw[<-dv]at a3;refine kU (aSN w w1.heap.size r (.slice at_ r.p.length G) (.slice E r.body.length F) (.slice af facts.length cf) facts) 5 dE kR kR kR (aOA w w1.heap.size r (.slice at_ r.p.length G) (.slice E r.body.length F) (.slice af facts.length cf) facts) ?hopA ?htailA
 case hopA=>
  refine oC (fun a d h=>by have e2:a.eval (.tmp 2)=(.pointer (some ⟨RB,0,none⟩):Value):=h.old 2;have x0:=aB h.u c0;have x1:=aB h.u c1;have x2:=aB h.u c2;have x3:=aB h.u c3;have x4:=aB h.u c4;exact jC (.agg #[.int .i64 r.z, .slice at_ r.p.length G, .int .i64 r.x, .slice E r.body.length F, .int .i64 r.vars])) ?_;refine oC (fun a d h=>by have e1:a.eval (.tmp 1)=(.slice af facts.length cf:Value):=h.old 1;exact jC (.slice af facts.length cf)) ?_;refine oC (fun a d h=>?_) ?_
  ·have eh:a.eval (.tmp 10)=(.slice af facts.length cf:Value):=h.of 10;refine iC (f:=35) (args:=#[.slice af facts.length cf]) (bF rfl) ?_ ?_
   ·have ec:=qM a;have ef:=IM a;generalize a.eval=ev at *;clear h;go_simp
   refine Calls.mono (Uy facts _ w d (a3.o.trans (h.u.mono a3.o.size)) d3.o oM bu.o) ?_;rintro _ y2 ⟨v',rfl,⟨q,h1,h2,h3⟩,dx⟩;refine⟨_,rfl,fun t ht=>?_,dx⟩;cases ht;exact⟨q,h1,gL h2 h.u.size,h3⟩
  refine oC (fun a d h=>by have e9:a.eval (.tmp 9)=(.agg #[.int .i64 r.z, .slice at_ r.p.length G, .int .i64 r.x, .slice E r.body.length F, .int .i64 r.vars]:Value):=h.of 9;have dt:KA w w1.heap.size facts (a.eval (.tmp 11)) d:=h.of 11;obtain⟨q,g1,g2,g3⟩:=dt;obtain⟨K,L,dl⟩:=bJ g2;rw[dl]at g2;refine fC (v:=.agg #[.int .i64 r.z, .slice at_ r.p.length G, .int .i64 r.x, .slice E r.body.length F, .int .i64 r.vars, .slice K q.length L, .slice none 0 0, .bool false]) (w':=d) (bF rfl) ?_ (fun t ht=>by cases ht;exact⟨_,rfl,q,g1,g2,g3⟩) (aH _ _);have ec:=qM a;generalize a.eval=ev at *;clear h;go_simp) ?_;refine oC (fun a d h=>by refine fC (v:=.pointer (some ⟨d.heap.size,0,none⟩)) (w':=d.alloc (.cells #[.int .i64 0, .slice none 0 0, .int .i64 0, .slice none 0 0, .int .i64 0, .slice none 0 0, .slice none 0 0, .bool false] 100)) (bF rfl) ?_ (fun t ht=>by cases ht;exact⟨_,rfl,h.u.size,aR d _⟩) ((aH _ _).alloc (aE _) _);have ec:=qM a;generalize a.eval=ev at *;clear h;go_simp) ?_;exact JL.nil
 case htailA=>
  rintro⟨ae,J⟩ d C;obtain⟨u,bX,e7⟩:∃u,Act.eval ⟨ae,J⟩ (.tmp 12)=.agg #[.int .i64 r.z, .slice at_ r.p.length G, .int .i64 r.x, .slice E r.body.length F, .int .i64 r.vars,u, .slice none 0 0, .bool false]/\KA w w1.heap.size facts u d:=C.all 3 _ 12 dE rfl rfl;obtain⟨A,e6,c5,az⟩:∃A,Act.eval ⟨ae,J⟩ (.tmp 6)=.pointer (some ⟨A,0,none⟩)/\w1.heap.size<=A/\d.heap[A]?=some (.cells #[.int .i64 0, .slice none 0 0, .int .i64 0, .slice none 0 0, .int .i64 0, .slice none 0 0, .slice none 0 0, .bool false] 100):=C.all 4 _ 6 dE rfl rfl;obtain⟨q,g1,g2,g3⟩:=e7;obtain⟨K,L,rfl⟩:=bJ g2;(have z0:∀k:Nat,k<8->∃v,d.cell? ⟨A,k,none⟩=some v:=fun k N=>by rw[cD az];exact⟨_,iG (by simpa using N)⟩);show wpOps Tryz.prog _ _ [5] _ _;rw[iO];refine CA rfl (bF rfl) (aB0 (.tmp 6) (.tmp 12) rfl A e6 _ _ bX az rfl rfl (by simp[Value.oneCell']) ?_);have ba:O ((d.setRow A #[.int .i64 r.z, .slice at_ r.p.length G, .int .i64 r.x, .slice E r.body.length F, .int .i64 r.vars, .slice K q.length L, .slice none 0 0, .bool false]).heap[A]?=some (.cells #[.int .i64 r.z, .slice at_ r.p.length G, .int .i64 r.x, .slice E r.body.length F, .int .i64 r.vars, .slice K q.length L, .slice none 0 0, .bool false] 100)):=setRow_heap _ _ _ _ _ _ az;have bl:Kp w.heap.size A d (d.setRow A #[.int .i64 r.z, .slice at_ r.p.length G, .int .i64 r.x, .slice E r.body.length F, .int .i64 r.vars, .slice K q.length L, .slice none 0 0, .bool false]):=⟨rfl,rfl,rfl,by simp[World.setRow],fun k N=>setRow_other _ _ _ _ (by have :=a3.o.size;omega),fun k c t N b5 _=>(setRow_other _ _ _ _ b5).trans N⟩;have ar:O (Below w.heap.size w (d.setRow A #[.int .i64 r.z, .slice at_ r.p.length G, .int .i64 r.x, .slice E r.body.length F, .int .i64 r.vars, .slice K q.length L, .slice none 0 0, .bool false])):=Kp.u bl (a3.o.trans (C.u.mono a3.o.size));have dk:O (KA w w1.heap.size facts (.slice K q.length L) (d.setRow A #[.int .i64 r.z, .slice at_ r.p.length G, .int .i64 r.x, .slice E r.body.length F, .int .i64 r.vars, .slice K q.length L, .slice none 0 0, .bool false])):=KA.keep ⟨q,g1,g2,g3⟩ (fun c U=>by rw[az]at U;injection U with U;injection U with _ U;cases U) bl;have di:O ((d.setRow A #[.int .i64 r.z, .slice at_ r.p.length G, .int .i64 r.x, .slice E r.body.length F, .int .i64 r.vars, .slice K q.length L, .slice none 0 0, .bool false]).heap[RB]?=some (.cells #[.int .i64 r.z, .slice at_ r.p.length G, .int .i64 r.x, .slice E r.body.length F, .int .i64 r.vars] 40)):=(setRow_other _ _ _ _ (by have :=bP a5.o;omega)).trans ((C.u.block _ (bP a5.o)).trans a5.o);have bt:O (w1.heap.size<=A):=c5;have a7:ae.size=70:=C.size;have a8:∀t,t∉[9,10,11,12,6]->ae.getD t undef=_:=fun t ht=>C.still t ht;have h6:ae.getD 6 undef=.pointer (some ⟨A,0,none⟩):=e6;have ee:O (q.map (·.1)=dR facts):=g1;obtain rfl:J=[]:=C.defers;clear C bX e6 az z0 g1 g2 g3 bl c5 c0 c1 c2 c3 c4;show Exit.then _ _ Exit.normal ⟨ae,[]⟩ (d.setRow A #[.int .i64 r.z, .slice at_ r.p.length G, .int .i64 r.x, .slice E r.body.length F, .int .i64 r.vars, .slice K q.length L, .slice none 0 0, .bool false]);generalize d.setRow A #[.int .i64 r.z, .slice at_ r.p.length G, .int .i64 r.x, .slice E r.body.length F, .int .i64 r.vars, .slice K q.length L, .slice none 0 0, .bool false]=wF at *;obtain⟨fQ,hQ,a1⟩:=pQ [9,10,11,12,6] ae _ (a7.trans rF) a8;clear a7 a8;simp only[List.foldl_cons,List.foldl_nil,(hQ 6).trans h6]at a1;clear h6 hQ;simp only[List.setIfInBounds_toArray,List.set_cons_zero,List.set_cons_succ]at a1;subst a1;(have r4:wF.cell? ⟨RB,4,none⟩=some (.int .i64 r.vars):=cH di.o);go_upto_region 2 with fail;refine kU (aSO wF.heap.size m RB) 6 dE kR kR kR (aOB wF.heap.size m RB) ?hopB ?htailB;case hopB=>refine oC (fun a d h=>by have e2:a.eval (.tmp 2)=(.pointer (some ⟨RB,0,none⟩):Value):=h.old 2;exact jC (.pointer (some ⟨RB,4,none⟩))) ?_;refine oC (fun a d h=>by have ei:a.eval (.tmp 13)=(.pointer (some ⟨RB,4,none⟩):Value):=h.of 13;have x4:=aB h.u r4;rw[HM.o]at x4;exact jC (.int .i64 (m:Nat))) ?_;refine oC (fun a d h=>by have dm:a.eval (.tmp 14)=(.int .i64 (m:Nat):Value):=h.of 14;obtain⟨w',hr,ho,V⟩:=run_makeSlice_full (P:=Tryz.prog) d wF.heap.size 22 3 p0 _ 1 Tryz.underlying22 p1 p2 p3 .i64 .i64 m oM (by rw[p4];omega) (by unfold maxLen;omega) h.u.size;rw[aVK bm]at ho;refine fC (v:=.slice (some ⟨d.heap.size,0,none⟩) m m) (w':=w') (bF rfl) ?_ (fun t ht=>by cases ht;exact ho) ⟨V.os,V.tape,V.output,V.size,fun k N=>V.block k N sI⟩;unfold execOp;simp only[dm];rw[Sem.run_bind,hr];rfl) ?_;refine oC (fun a d h=>by have e2:a.eval (.tmp 2)=(.pointer (some ⟨RB,0,none⟩):Value):=h.old 2;exact jC (.pointer (some ⟨RB,4,none⟩))) ?_;refine oC (fun a d h=>by have ej:a.eval (.tmp 16)=(.pointer (some ⟨RB,4,none⟩):Value):=h.of 16;have x4:=aB h.u r4;rw[HM.o]at x4;exact jC (.int .i64 (m:Nat))) ?_;refine oC (fun a d h=>by have dn:a.eval (.tmp 17)=(.int .i64 (m:Nat):Value):=h.of 17;obtain⟨w',hr,ho,V⟩:=run_makeSlice_full (P:=Tryz.prog) d wF.heap.size 57 4 b0 _ 1 Tryz.underlying57 b1 b2 b3 .i64 .i64 m oM (by rw[b4];omega) (by unfold maxLen;omega) h.u.size;rw[aVL bm]at ho;refine fC (v:=.slice (some ⟨d.heap.size,0,none⟩) m m) (w':=w') (bF rfl) ?_ (fun t ht=>by cases ht;exact ho) ⟨V.os,V.tape,V.output,V.size,fun k N=>V.block k N sI⟩;unfold execOp;simp only[dn];rw[Sem.run_bind,hr];rfl) ?_;exact JL.nil
  case htailB=>
   rintro⟨a0,J⟩ d C;have b8:d.ownsRow wF.heap.size 3 1 (Act.eval ⟨a0,J⟩ (.tmp 15)) m ((yY m).y.map (Value.int .i64)):=C.all 2 _ 15 dE rfl rfl;have b9:d.ownsRow wF.heap.size 4 1 (Act.eval ⟨a0,J⟩ (.tmp 18)) m ((yY m).w.map Value.bool):=C.all 5 _ 18 dE rfl rfl;obtain⟨an,cn,bY⟩:=bJ b8;obtain⟨bW,cs,bZ⟩:=bJ b9;rw[bY]at b8;rw[bZ]at b9;have e6:Act.eval ⟨a0,J⟩ (.tmp 6)=.pointer (some ⟨A,0,none⟩):=C.still 6 dE;have du:A<wF.heap.size:=bP ba.o;have cg:aHH w wF m A (.slice E r.body.length F) (.slice K q.length L) r (dR facts):=⟨bH a3.o.size bt.o,dh.o,fun z hz=>(dk.o.keep (fun c U=>by rw[ba.o]at U;injection U with U;injection U with _ U;cases U) hz).toV (Kp.u hz ar.o),ar.o,bH (CZ facts) oM,fun f hf=>bu.o f (iK.mp hf),d2.o,d9.o,dy,bm⟩;have aT:=aDI w wF m A (.slice at_ r.p.length G) (.slice E r.body.length F) (.slice K q.length L) r (dR facts) cg (r.body.length+1) 0 (yY m) ([],false) [] (.slice none 0 0) wF.heap.size (.slice an m cn) (.slice bW m cs) d (Kp.of_below C.u ar.o.size) (wX.u ⟨rfl,ba.o,eD _ _ _ _,fun _ hp=>absurd hp sI⟩ C.u) du ⟨b8,b9,TI m,fun n hn=>by rw[List.eq_of_mem_replicate hn];decide⟩ (bG _) oM sI;(have dj:O (mY (dR facts) r.body (r.body.length+1) 0 (yY m)=qF (dR facts) r):=by show _=mY _ _ _ _ (yY r.vars.toNat);rw[HM.o,fJ]);rw[dj.o,VE _ _ sI,qB]at aT;have bv:O _:=aT;have a7:a0.size=70:=C.size;show wpOps Tryz.prog _ _ [6] _ _;rw[iO];refine CA rfl (bF rfl) (Kh (f:=60) (args:=#[.pointer (some ⟨A,0,none⟩), .int .i64 0, .slice an m cn, .slice bW m cs]) ?_ (Calls.mono bv.o ?_))
   ·have ec:=qM ⟨a0,J⟩;have ef:=IM ⟨a0,J⟩;clear aT;generalize Act.eval ⟨a0,J⟩=ev at *;clear C;go_simp
   rintro _ w5 ⟨rfl,⟨Q,fa,c7⟩,ch⟩;have a4:O _:=c7;have br:O (Below w.heap.size w w5):=Kp.u ch (ar.o.trans (C.u.mono ar.o.size));(have a8:∀t,t∉[13,14,15,16,17,18,19]->(a0.setIfInBounds 19 (.tuple #[])).getD t undef=_:=fun t ht=>by have hA:t≠19:=fun e=>ht (by rw[e];decide);exact(gB (a:=⟨a0,J⟩) hA).trans (C.still t ht));(have cS:(a0.setIfInBounds 19 (.tuple #[])).size=70:=by simp[a7]);obtain rfl:J=[]:=C.defers;refine⟨_,rfl,?_⟩;clear C b8 b9 bY bZ e6 cg aT c7 ch r4 bv a7;show Exit.then _ _ Exit.normal ⟨a0.setIfInBounds 19 (.tuple #[]),[]⟩ w5;generalize a0.setIfInBounds 19 (.tuple #[])=tm at *;obtain⟨fQ,hQ,a1⟩:=pQ [13,14,15,16,17,18,19] tm _ (cS.trans rF) a8;clear cS a8;simp only[List.foldl_cons,List.foldl_nil]at a1;clear hQ;simp only[List.setIfInBounds_toArray,List.set_cons_zero,List.set_cons_succ]at a1;subst a1;obtain⟨LW,ag⟩:∃LW,O (qF (dR facts) r=LW):=⟨_,rfl⟩;rw[ag.o]at a4;(have f7:w5.cell? ⟨A,7,none⟩=some (.bool (decide (2000<LW.length))):=cH a4.o.b);by_cases am:2000<LW.length
   ·rw[aQ am]at f7;have cV:O _:=am;clear am;go_wp2_with fail;refine dF (fM rfl _ _ _) rfl ?_;(have aw:O (uA facts r=false):=by show _=_;unfold uA;rw[ag.o];exact aJ (by have :=cV.o;omega));(have be:O (pC facts r=[]):=by show _=_;unfold pC;rw[aw.o];rfl);exact⟨_,[],by rw[aw.o];rfl,⟨eD _ _ _ _,fun p hp=>absurd hp sI⟩,by rw[be.o];rfl,br.o⟩
   rw[aJ am]at f7;(have bg:O (Q.map (·.1)=LW):=by show _=_;have I:Q.map (·.1)=LW.take 2000:=a4.o.hq;rw[I,dU oM]);(have aw:O (uA facts r=true):=by show _=_;unfold uA;rw[ag.o];exact aQ oM);(have be:O (pC facts r=rX LW):=by show _=_;unfold pC;rw[aw.o,ag.o];rfl);(have dc:O LW.Nodup:=by show LW.Nodup;rw[<-ag.o];exact db.o);have bT:O (∀p,p∈Q->p.1.length=m):=fun p hp=>d8.o p.1 (by rw[ag.o,<-bg.o];exact sP hp);obtain⟨ao,H,ea⟩:=bJ a4.o.o;subst ea;(have f9:Q.length<=2000:=by have :Q.length=LW.length:=(by rw[<-bg.o,aP]);omega);have d0:O (wX A (.slice at_ r.p.length G) (.slice E r.body.length F) (.slice K q.length L) r (Q.map (·.1),false) Q (.slice ao Q.length H) w5):=⟨rfl,by have I:=a4.o.b;unfold ZF at I ⊢;rw[I,aJ am],a4.o.o,a4.o.hr⟩;have bb:O (w.heap.size<=A):=bH a3.o.size bt.o;clear am a4;generalize cF:Q.length=D at *;have dd:O _:=cF;clear cF;go_wp2_with fail;go_loopw [7] (fun iv wr=>∃(i:Nat)(B:List Nv),1<=i/\i<=D+1/\iv=.int .i64 i/\O (B.Perm Q)/\O (wX A (.slice at_ r.p.length G) (.slice E r.body.length F) (.slice K q.length L) r (B.map (·.1),false) B (.slice ao D H) wr)/\O (IR (B.take i))/\O (Below w.heap.size w wr)) (fun iv _=>D+1-(intOf iv).toNat);case atStart=>exact⟨1,Q,aE _,oM,rfl,List.Perm.refl _,d0.o,by
    show IR _;unfold IR
    cases Q with
    |nil=>exact List.Pairwise.nil
    |cons a l=>exact rZ _ _,br.o⟩
   case round=>
    obtain⟨i,B,f3,f4,rfl,ah,au,bj,bs⟩:=hrel;(have ai:O (B.length=D):=by show _=_;rw[ah.o.length_eq,dd.o]);(have dr:wr.cell? ⟨A,6,none⟩=some (.slice ao D H):=cH au.o.b);by_cases cv:i<D
    ·have ds:decide (i<D)=true:=aQ cv;obtain⟨x,hx⟩:∃x,B[i]?=some x:=⟨_,aD (by have :=ai.o;omega)⟩;have T:O _:=hx;have cT:x∈B:=iN hx;have bU:O _:=cT;have b7:=au.o.o;obtain⟨s,eg,hv⟩:∃g c,(Value.slice ao D H)=.slice (some ⟨g,0,none⟩) D c:=by
      rcases jJ (show wr.ownsRow (A+1) 22 1 (.slice ao D H) D (B.map (·.2))from by have I:=b7;rw[ai.o]at I;exact I)with⟨_,h0⟩|⟨g,c,h⟩
      ·omega
      exact⟨g,c,h⟩
     injection hv with e1 _ e3;subst e1 e3;(have bx:O (w.heap.size<=s):=by have :=(b7.lt s rfl).1;have :=bb.o;show _<=_;omega);(have av:O (¬A=s):=by have :=(b7.lt s rfl).1;show¬_;omega);clear hx cT b7;go_wp2_with fail;go_loopw [8] (fun kv wr=>∃k:Nat,k<=i/\kv=.int .i64 k/\O (wX A (.slice at_ r.p.length G) (.slice E r.body.length F) (.slice K q.length L) r ((lL B x i k).map (·.1),false) (lL B x i k) (.slice (some ⟨s,0,none⟩) D H) wr)/\O (∀y,y∈(B.take i).drop k->eS x.1 y.1<0)/\O (Below w.heap.size w wr)) (fun kv _=>(intOf kv).toNat);case atStart=>exact⟨i,aE _,rfl,by show wX _ _ _ _ _ _ _ _ _;rw[aAG T.o];exact au.o,(fun y Z=>by rw[bD (by rw[cW];omega)]at Z;cases Z),bs.o⟩
     case round=>
      clear dr;obtain⟨wk,eb⟩:∃wk,wk=wr:=⟨_,rfl⟩;subst eb;obtain⟨k0,a6,rfl,X,bd,S⟩:=hrel;have f6:wk.cell? ⟨A,6,none⟩=some (.slice (some ⟨s,0,none⟩) D H):=cH X.o.b
      cases k0 with
      |zero=>
       have bi:O (IR ((lL B x i 0).take (i+1))):=RW T.o (bG _) bj.o bd.o (.inl rfl);have bf:O ((lL B x i 0).Perm Q):=(DW T.o (bG _)).trans ah.o;go_upto_region 9 with fail;go_quiet(fail);go_wp2_with fail;go_roundw;(case rel=>exact⟨i+1,_,oM,oM,gN,bf.o,X.o.u (eO _ _),bi.o,S.o.trans ((eO _ _).mono S.o.size)⟩);case measure=>exact mI
      |succ k=>
       obtain⟨M,Z⟩:∃M,B[k]?=some M:=⟨_,aD (by have :=ai.o;omega)⟩;have HY:O _:=Z;have bq:M∈B:=iN Z;(have bh:O ((lL B x i (k+1)).length=D):=by show _=_;rw[RU T.o a6,ai.o]);have b6:=X.o.o;rw[bh.o]at b6;(have ck:wk.cell? ⟨s,k+1,none⟩=some x.2:=by rw[World.ownsRow.cellAt b6 (k+1) oM,cY,aL7 T.o a6];rfl);(have al:wk.cell? ⟨s,k,none⟩=some M.2:=by rw[World.ownsRow.cellAt b6 k oM,cY,aD4 T.o a6,HY.o];rfl);have bw:O (∀p,p∈B->p∈lL B x i (k+1)):=fun p hp=>(DW T.o a6).mem_iff.mpr hp;have bo:=X.o.hr x (bw.o _ bU.o);have bp:=X.o.hr M (bw.o _ bq);have cw:x.1.length=m:=bT.o x (ah.o.mem_iff.mp bU.o);have cz:M.1.length=m:=bT.o M (ah.o.mem_iff.mp bq);have aa:O (∀j,Calls Tryz.prog 61 #[x.2,M.2] (wk.drewN j) fun e w'=>e=.returned (.bool (oG x.1 M.1))/\∃n,w'=(wk.drewN j).drewN n):=fun j=>aJN _ _ _ _ _ (aM (oU bo) (eO _ _)) (aM (oU bp) (eO _ _)) oM oM;have aI:O _:=UW (x:=x.1) (y:=M.1) oM;(have aj:O (∃a c,x.2=.slice a m c):=by obtain⟨a,c,h⟩:=bJ bo;exact⟨a,c,by rw[h,cw]⟩);(have ak:O (∃a c,M.2=.slice a m c):=by obtain⟨a,c,h⟩:=bJ bp;exact⟨a,c,by rw[h,cz]⟩);clear Z bq b6 bo bp cw cz;cases aV:oG x.1 M.1
       ·rw[aV]at aa aI;have dg:O (¬eS x.1 M.1<0):=IK aI.o.symm;have bi:O (IR ((lL B x i (k+1)).take (i+1))):=RW T.o a6 bj.o bd.o (.inr ⟨M,by rw[BC];exact HY.o,dg.o⟩);have bf:O ((lL B x i (k+1)).Perm Q):=(DW T.o a6).trans ah.o;obtain⟨ax,cx,ac⟩:=aj.o;obtain⟨ay,cy,ad⟩:=ak.o;rw[ac]at ck;rw[ad]at al;rw[ac,ad]at aa;clear aV;go_upto_region 9 with fail;go_quiet(first|(go_at_call 61;exact uO (aa.o _)));go_wp2_with fail;go_roundw;(case rel=>exact⟨i+1,_,oM,oM,gN,bf.o,X.o.u (eO _ _),bi.o,S.o.trans ((eO _ _).mono S.o.size)⟩);case measure=>exact mI
       rw[aV]at aa aI;(have da:O (eS x.1 M.1<0):=by have I:=aI.o;show eS x.1 M.1<0;exact eL I.symm);have d7:O (∀y,y∈(B.take i).drop k->eS x.1 y.1<0):=by
        intro y Z;obtain⟨f5,ed⟩:=eP.mp HY.o;(have e0:k<(B.take i).length:=by rw[cW];omega);rw[dB e0]at Z;rcases eQ.mp Z with h|h
        ·rw[h,XP,ed];exact da.o
        exact bd.o y h
       (have d4:O ((lL B x i k).length=D):=by show _=_;rw[RU T.o oM,ai.o]);have d5:O ((lL B x i k).Perm (lL B x i (k+1))):=(DW T.o oM).trans (DW T.o a6).symm;obtain⟨ax,cx,ac⟩:=aj.o;obtain⟨ay,cy,ad⟩:=ak.o;(have d6:O ((((lL B x i (k+1)).map (·.2)).set (k+1) (Value.slice ay m cy)).set k (Value.slice ax m cx)=(lL B x i k).map (·.2)):=by show _=_;rw[<-aD5 T.o a6 HY.o,yP,yP];show _=((_:List Value).set (k+1) M.2).set k x.2;rw[ac,ad]);(rw[ac]at ck;rw[ad]at al;rw[ac,ad]at aa;clear aV ac ad aj ak;go_upto_region 9 with fail;go_quiet(first|(go_at_call 61;exact uO (aa.o _)));have ap:=eO wk nq;(replace X:=show O (wX A (.slice at_ r.p.length G) (.slice E r.body.length F) (.slice K q.length L) r ((lL B x i (k+1)).map (·.1),false) (lL B x i (k+1)) (.slice (some ⟨s,0,none⟩) D H) (wk.drewN nq))from X.o.u ap);(replace S:=show O (Below w.heap.size w (wk.drewN nq))from S.o.trans (ap.mono S.o.size));replace f6:=aB ap f6;replace ck:=aB ap ck;replace al:=aB ap al;clear ap aa;generalize wk.drewN nq=aq at *;generalize lL B x i (k+1)=R at *;have bN:O (aq.ownsRow (A+1) 22 1 (.slice (some ⟨s,0,none⟩) D H) D (R.map (·.2))):=by have I:=X.o.o;rw[bh.o]at I;exact I);generalize cq:Value.slice ax m cx=XV at *;generalize cr:Value.slice ay m cy=Y at *;have aj:O (∃a c,XV=Value.slice a m c):=⟨ax,cx,cq.symm⟩;have ak:O (∃a c,Y=Value.slice a m c):=⟨ay,cy,cr.symm⟩;clear cq cr;obtain⟨cG,bn⟩:=(aQF bN.o).2;have bc:O (aq.heap[s]?=some (.cells cG 22)):=bn;obtain⟨oN,cK⟩:∃o,(aq.setCell ⟨s,k+1,none⟩ Y).heap[s]?=some o:=⟨_,bV bn _⟩;have bz:O ((aq.setCell ⟨s,k+1,none⟩ Y).heap[s]?=some oN):=cK;clear bn cK;go_upto_region 11 with fail;refine NP (NbR s) (fun _ _ _ h k=>h.trans k) (fun _ _ h=>NbR.of_below h) (fun tQ vQ _=>vQ=aUG A s k (.slice (some ⟨s,0,none⟩) D H) XV Y tQ) (fun _ wQ=>wQ.heap[s]?=some oN) 21 aVU (fun _ _=>true) dE kR kR kR (fun _ _ _ _ _ h=>h) (fun _ _ _ hb h=>(hb.block _ (bP h)).trans h) (fun _ _ _ _ _ _ _ _ h=>h) ?hopC ?htailC;case hopC=>refine xK.cons (fun a d h hO=>by rw[if_neg dE];have e6:a.eval (.tmp 6)=(.pointer (some ⟨A,0,none⟩):Value):=h.old 6;exact jC (.pointer (some ⟨A,6,none⟩))) ?_;refine xK.cons (fun a d h hO=>by rw[if_neg dE];have ek:a.eval (.tmp 48)=(.pointer (some ⟨A,6,none⟩):Value):=h.of 48;have c0:=h.u.cell f6 av.o;exact jC (.slice (some ⟨s,0,none⟩) D H)) ?_;refine xK.cons (fun a d h hO=>by rw[if_neg dE];have e8:a.eval (.tmp 8)=(.int .i64 ((k:Int)+1):Value):=h.old 8;exact jC (.int .i64 ((k:Int)+1))) ?_;refine xK.cons (fun a d h hO=>by rw[if_neg dE];have e6:a.eval (.tmp 6)=(.pointer (some ⟨A,0,none⟩):Value):=h.old 6;exact jC (.pointer (some ⟨A,6,none⟩))) ?_;refine xK.cons (fun a d h hO=>by rw[if_neg dE];have en:a.eval (.tmp 51)=(.pointer (some ⟨A,6,none⟩):Value):=h.of 51;have c0:=h.u.cell f6 av.o;exact jC (.slice (some ⟨s,0,none⟩) D H)) ?_;refine xK.cons (fun a d h hO=>by rw[if_neg dE];have e8:a.eval (.tmp 8)=(.int .i64 ((k:Int)+1):Value):=h.old 8;exact jC (.int .i64 ((k:Int)+1))) ?_;refine xK.cons (fun a d h hO=>by rw[if_neg dE];have ep:a.eval (.tmp 53)=(.int .i64 ((k:Int)+1):Value):=h.of 53;refine XM (v:=.int .i64 (k:Nat)) ?_;have ec:=qM a;generalize a.eval=ev at *;clear h hO;go_simp;simp[IntKind.wrap,IntKind.bits,IntKind.signed];omega) ?_;refine xK.cons (fun a d h hO=>by rw[if_neg dE];have e6:a.eval (.tmp 6)=(.pointer (some ⟨A,0,none⟩):Value):=h.old 6;exact jC (.pointer (some ⟨A,6,none⟩))) ?_;refine xK.cons (fun a d h hO=>by rw[if_neg dE];have er:a.eval (.tmp 55)=(.pointer (some ⟨A,6,none⟩):Value):=h.of 55;have c0:=h.u.cell f6 av.o;exact jC (.slice (some ⟨s,0,none⟩) D H)) ?_;refine xK.cons (fun a d h hO=>by rw[if_neg dE];have e8:a.eval (.tmp 8)=(.int .i64 ((k:Int)+1):Value):=h.old 8;exact jC (.int .i64 ((k:Int)+1))) ?_;refine xK.cons (fun a d h hO=>by rw[if_neg dE];have et:a.eval (.tmp 57)=(.int .i64 ((k:Int)+1):Value):=h.of 57;refine XM (v:=.int .i64 (k:Nat)) ?_;have ec:=qM a;generalize a.eval=ev at *;clear h hO;go_simp;simp[IntKind.wrap,IntKind.bits,IntKind.signed];omega) ?_;refine xK.cons (fun a d h hO=>by rw[if_neg dE];have es:a.eval (.tmp 56)=(.slice (some ⟨s,0,none⟩) D H:Value):=h.of 56;have eu:a.eval (.tmp 58)=(.int .i64 (k:Nat):Value):=h.of 58;refine XM (v:=.pointer (some ⟨s,k,none⟩)) ?_;have ec:=qM a;generalize a.eval=ev at *;clear h hO;go_simp;intro I;exfalso;omega) ?_;refine xK.cons (fun a d h hO=>by rw[if_neg dE];have ew:a.eval (.tmp 59)=(.pointer (some ⟨s,k,none⟩):Value):=h.of 59;have c0:=aB (h.pre kR) al;refine XM (v:=Y) ?_;obtain⟨ay,cy,aF⟩:=ak.o;subst aF;have ec:=qM a;generalize a.eval=ev at *;clear h hO;go_simp) ?_;refine xK.cons (fun a d h hO=>by rw[if_neg dE];have e6:a.eval (.tmp 6)=(.pointer (some ⟨A,0,none⟩):Value):=h.old 6;exact jC (.pointer (some ⟨A,6,none⟩))) ?_;refine xK.cons (fun a d h hO=>by rw[if_neg dE];have ey:a.eval (.tmp 61)=(.pointer (some ⟨A,6,none⟩):Value):=h.of 61;have c0:=h.u.cell f6 av.o;exact jC (.slice (some ⟨s,0,none⟩) D H)) ?_;refine xK.cons (fun a d h hO=>by rw[if_neg dE];have e8:a.eval (.tmp 8)=(.int .i64 ((k:Int)+1):Value):=h.old 8;exact jC (.int .i64 ((k:Int)+1))) ?_;refine xK.cons (fun a d h hO=>by rw[if_neg dE];have ez:a.eval (.tmp 62)=(.slice (some ⟨s,0,none⟩) D H:Value):=h.of 62;have eR:a.eval (.tmp 63)=(.int .i64 ((k:Int)+1):Value):=h.of 63;refine XM (v:=.pointer (some ⟨s,k+1,none⟩)) ?_;have ec:=qM a;generalize a.eval=ev at *;clear h hO;go_simp;intro I;have :=I oM;exfalso;omega) ?_;refine xK.cons (fun a d h hO=>by rw[if_neg dE];have f0:a.eval (.tmp 64)=(.pointer (some ⟨s,k+1,none⟩):Value):=h.of 64;have c0:=aB (h.pre kR) ck;refine XM (v:=XV) ?_;obtain⟨ay,cy,aF⟩:=aj.o;subst aF;have ec:=qM a;generalize a.eval=ev at *;clear h hO;go_simp) ?_;refine xK.cons (fun a d h hO=>by rw[if_neg dE];have el:a.eval (.tmp 49)=(.slice (some ⟨s,0,none⟩) D H:Value):=h.of 49;have em:a.eval (.tmp 50)=(.int .i64 ((k:Int)+1):Value):=h.of 50;refine XM (v:=.pointer (some ⟨s,k+1,none⟩)) ?_;have ec:=qM a;generalize a.eval=ev at *;clear h hO;go_simp;intro I;have :=I oM;exfalso;omega) ?_;refine xK.cons (fun a d h hO=>by rw[if_pos dE];have f1:a.eval (.tmp 66)=(.pointer (some ⟨s,k+1,none⟩):Value):=h.of 66;have ex:a.eval (.tmp 60)=(Y:Value):=h.of 60;have cN:=h.pre kR;have cc:=aB cN ck;have Z:=(cN.block _ (bP bc.o)).trans bc.o;have ff:=cM Z (k+1);(have cE:(d.setCell ⟨s,k+1,none⟩ Y).heap[s]?=some oN:=by rw[bV Z,<-bz.o,bV bc.o]);refine⟨bF rfl,aF7 (w':=d.setCell ⟨s,k+1,none⟩ Y) ?_ ⟨undef,rfl,fun t ht=>(by cases ht),NbR.set _ _ _,fun _ _=>cE,cE⟩⟩;obtain⟨ay,cy,aF⟩:=ak.o;subst aF;have ec:=qM a;generalize a.eval=ev at *;clear h hO;go_simp) ?_;refine xK.cons (fun a d h hO=>by rw[if_neg dE];have eo:a.eval (.tmp 52)=(.slice (some ⟨s,0,none⟩) D H:Value):=h.of 52;have eq:a.eval (.tmp 54)=(.int .i64 (k:Nat):Value):=h.of 54;refine XM (v:=.pointer (some ⟨s,k,none⟩)) ?_;have ec:=qM a;generalize a.eval=ev at *;clear h hO;go_simp;intro I;exfalso;omega) ?_;exact xK.nil
       case htailC=>
        rintro⟨a2,J⟩ W C _;have dq:Act.eval ⟨a2,J⟩ (.tmp 67)=.pointer (some ⟨s,k,none⟩):=C.of 20 _ 67 dE rfl rfl kR;have dp:Act.eval ⟨a2,J⟩ (.tmp 65)=XV:=C.of 17 _ 65 dE rfl rfl kR;have cd:W.heap[s]?=some oN:=C.wrote 19 dE rfl;have cm:=(World.ownsRow.stored bN.o (k+1) Y).1;(have ce:W.heap[s]?=(aq.setCell ⟨s,k+1,none⟩ Y).heap[s]?:=by rw[cd,bz.o]);have aS:W.ownsRow (A+1) 22 1 (.slice (some ⟨s,0,none⟩) D H) D ((R.map (·.2)).set (k+1) Y):=kH cm (fun g V=>by
         have dz:s=g:=(by simpa[Value.ownBlock]using V);subst dz
         exact ce)
        have cp:=(World.ownsRow.stored aS k XV).1;(have e4:((R.map (·.2)).set (k+1) Y).length=D:=by rw[kL,aP];exact bh.o);obtain⟨u8,c8⟩:∃u8,W.cell? ⟨s,k,none⟩=some u8:=⟨_,(World.ownsRow.cellAt aS k oM).trans (aD oM)⟩;have f8:W.frozen? ⟨s,k,none⟩=false:=World.ownsRow.frozenAt aS k;have a7:a2.size=70:=C.size;show wpOps Tryz.prog _ _ [21] _ _;rw[iO];refine zK rfl (bF rfl) rfl (w':=W.setCell ⟨s,k,none⟩ XV) ?_ ?_
        ·obtain⟨ay,cy,dw⟩:=aj.o;subst dw;show Sem.run Tryz.prog (execOp (Act.eval ⟨a2,J⟩) _) W=_;have ec:=qM ⟨a2,J⟩;generalize Act.eval ⟨a2,J⟩=ev at *;clear C;go_simp
        have bk:∀(kQ:Nat)(c:Array Value)(t:TypeId),aq.heap[kQ]?=some (.cells c t)->¬kQ=s->(W.setCell ⟨s,k,none⟩ XV).heap[kQ]?=some (.cells c t):=fun kQ c t N b5=>(cL b5).trans ((C.u.block kQ (bP N) b5).trans N);have cX:O (wX A (.slice at_ r.p.length G) (.slice E r.body.length F) (.slice K q.length L) r ((lL B x i k).map (·.1),false) (lL B x i k) (.slice (some ⟨s,0,none⟩) D H) (W.setCell ⟨s,k,none⟩ XV)):=by
         refine⟨rfl,bk _ _ _ X.o.b av.o,?_,fun p hp=>?_⟩
         ·rw[d4.o,<-d6.o];exact cp
         have e5:p∈R:=(d5.o.mem_iff).mp hp;exact gR (X.o.hr p e5) (fun kQ c N=>bk kQ c 3 N (fun e=>by
          have :=xJ X.o.o (k:=s) rfl (by rw[<-e];exact N)
          cases this))
        (have cU:O (Below w.heap.size w (W.setCell ⟨s,k,none⟩ XV)):=by have h1:Below w.heap.size w W:=⟨C.u.os.trans S.o.os,C.u.tape.trans S.o.tape,C.u.output.trans S.o.output,bH S.o.size C.u.size,fun j hj=>(C.u.block j (dQ hj S.o.size) (by have :=bx.o;omega)).trans (S.o.block j hj)⟩;exact h1.setCell (p:=⟨s,k,none⟩) bx.o _);have a8:∀t,t∉[48,49,50,51,52,53,54,55,56,57,58,59,60,61,62,63,64,65,66,67]->a2.getD t undef=_:=fun t ht=>C.still t ht;obtain rfl:J=[]:=C.defers;clear C dq dp cd cm ce aS cp e4 c8 f8 bk f6 ck al;show Exit.inBlock _ _ Exit.normal ⟨a2,[]⟩ (W.setCell ⟨s,k,none⟩ XV);generalize W.setCell ⟨s,k,none⟩ XV=w9 at *;obtain⟨fQ,hQ,a1⟩:=pQ [48,49,50,51,52,53,54,55,56,57,58,59,60,61,62,63,64,65,66,67] a2 _ (a7.trans rF) a8;clear a7 a8;simp only[List.foldl_cons,List.foldl_nil]at a1;clear hQ;simp only[List.setIfInBounds_toArray,List.set_cons_zero,List.set_cons_succ]at a1;subst a1;go_wp2_with fail;go_roundw;(case rel=>exact⟨k,oM,gN,cX.o,d7.o,cU.o⟩);case measure=>simp[intOf]
    have ds:decide (i<D)=false:=aJ cv;(have d1:O (B.map (·.1)=rX LW):=by show _=_;refine SE (by rw[<-bg.o];exact ah.o.map _) dc.o ?_;have I:=bj.o;rw[dU (by have :=ai.o;omega)]at I;exact yL.mpr I);have de:O (vC w.heap.size wr (.slice ao D H) B):=⟨gL au.o.o (by have :=bb.o;omega),fun p hp=>gL (au.o.hr p hp) (by have :=bb.o;omega)⟩;go_wp2_with fail;refine dF (fM rfl _ _ _) rfl ?_;exact⟨_,B,by rw[aw.o];rfl,de.o,by rw[be.o];exact d1.o,bs.o⟩
end Go.Proofs.YthenjegmigeieaaGreat
namespace Go.Proofs.YthenjegmigeieaaGreat
theorem aAR(ns:List Int)(x:Int):pZ (ns++[x])=if ns.length=0\/x<pZ ns then x else pZ ns:=by
 cases ns with
 |nil=>rfl
 |cons a l=>
  (have b:pZ ((a::l)++[x])=if x<pZ (a::l)then x else pZ (a::l):=by show(l++[x]).foldl _ a=_;rw[qV];rfl);rw[b];by_cases h:x<pZ (a::l)
  ·rw[if_pos h,if_pos (Or.inr h)]
  have d:¬((a::l).length=0\/x<pZ (a::l)):=by
   rintro(e|e)
   ·simp at e
   exact h e
  rw[if_neg h,if_neg d]
theorem aAO(ns:List Int)(x:Int):pY (ns++[x])=if ns.length=0\/pY ns<x then x else pY ns:=by
 cases ns with
 |nil=>rfl
 |cons a l=>
  (have b:pY ((a::l)++[x])=if pY (a::l)<x then x else pY (a::l):=by show(l++[x]).foldl _ a=_;rw[qV];rfl);rw[b];by_cases h:pY (a::l)<x
  ·rw[if_pos h,if_pos (Or.inr h)]
  have d:¬((a::l).length=0\/pY (a::l)<x):=by
   rintro(e|e)
   ·simp at e
   exact h e
  rw[if_neg h,if_neg d]
theorem aAC(f:Int):fE f []=0:=by
 unfold fE;split
 ·rfl
 split
 ·rfl
 split<;>rfl
theorem aAD(ns:List Int):fE 1 ns=ns.length:=rfl
theorem aAE(ns:List Int)(x:Int):fE 2 (ns++[x])=fE 2 ns+x:=by show(ns++[x]).sum=ns.sum+x;simp
theorem Fp(ns:List Int)(x:Int):fE 3 (ns++[x])=if ns.length=0\/x<fE 3 ns then x else fE 3 ns:=aAR ns x
theorem Mp(ns:List Int)(x:Int):fE 4 (ns++[x])=if ns.length=0\/fE 4 ns<x then x else fE 4 ns:=aAO ns x
theorem aAI(p:List Int):fY [] p=[]:=rfl
theorem aAK{H:List aN}{g:aN}{p:List Int}(h:aK g.args=p):fY (H++[g]) p=fY H p++[oO g.args]:=by unfold fY;rw[lC,cB,List.filter_cons_of_pos (by simpa using h)];rfl
theorem aD8{H:List aN}{g:aN}{p:List Int}(h:¬aK g.args=p):fY (H++[g]) p=fY H p:=by unfold fY;rw[lC,cB,List.filter_cons_of_neg (by simpa using h)];simp
theorem aD7(H:List aN)(p:List Int):(fY H p).length<=H.length:=by unfold fY;rw[aP];exact wZ _ _
theorem aAJ{H:List aN}{p:List Int}(d:∀g,g∈H->0<g.args.length/\∀n,n∈g.args->cP n=true):∀n,n∈fY H p->cP n=true:=by intro n b;unfold fY at b;obtain⟨g,e,rfl⟩:=cR.mp b;have h:=d g (mX.mp e).1;exact TG h.1 h.2
def sX(r:bB)(H:List aN)(h:aN):List aN:=if r.x=0 then [h] else uU r.x r.z (aK h.args) (fY H (aK h.args))
theorem aAH(r:bB)(W:List (List Int)):((W.map (eU r)).map (sX r (W.map (eU r)))).flatten=mQ r W:=by
 unfold mQ;by_cases b:r.x=0
 ·rw[if_pos b];(have :sX r (W.map (eU r))=fun h=>[h]:=by funext h;unfold sX;rw[if_pos b]);rw[this];generalize W.map (eU r)=L
  induction L with
  |nil=>rfl
  |cons a l f=>rw[lF,yK,f];rfl
 rw[if_neg b];generalize i:W.map (eU r)=H;have j:∀h,h∈H->h.z=r.z:=fun h d=>by rw[<-i]at d;obtain⟨y,_,rfl⟩:=cR.mp d;rfl
 suffices ∀L:List aN,(∀h,h∈L->h.z=r.z)->(L.map (sX r H)).flatten=L.filterMap (sM r.x H)from this H j
 intro L
 induction L with
 |nil=>intro _;rfl
 |cons a l f=>
  intro g;rw[lF,yK,f (fun h d=>g h (bO _ d)),pA];unfold sX sM uU;rw[if_neg b,g a dC];by_cases e:cP (fE r.x (fY H (aK a.args)))=true
  ·rw[if_pos e];simp only[e,if_true];rfl
  rw[if_neg e];simp only[e];rfl
end Go.Proofs.YthenjegmigeieaaGreat
namespace Go.Proofs.YthenjegmigeieaaGreat
open Go.RowKit
theorem Cx{P:Program}{w:World}(base:Nat)(t s e:TypeId)(i:TypeInfo)(z:Value)(size n:Nat)(ht:P.underlying t=some (.slice e))(q:P.info? e=some i)(H:i.zero=some z)
 (F:i.size=size) (hby:i.bytes=n) (I:z.cells.size=size) (G:0<size) (g:Nat) (E:w.ownsRow base e size (.slice (some ⟨g,0,none⟩) 0 0) 0 [])
 (a:Addr) (m c:Nat) (d:List Value) (r:d.length=m*size) (D:∀j u,d[j]?=some u->w.cell? (a.add j)=some u) (h63:m<=maxLen) (y:m*n<=140737488355328) (x:base<=w.heap.size):
 ∃l f,(Builtin.append_ #[t,t] s #[.slice (some ⟨g,0,none⟩) 0 0, .slice (some a) m c]).run P w=.ok l f/\f.ownsRow base e size l m d/\Below w.heap.size w f:=by
 by_cases B:m=0
 ·subst B;have C:d=[]:=eB (by simpa using r);subst C;refine⟨_,w,?_,E,aH _ _⟩;simp[Builtin.append_,run_underlying ht,sizeOf,typeInfo,q,Builtin.lenOf,Builtin.firstCells,loadCells,loadCellsFrom,storeCells]
 obtain⟨l,f,v,p,b⟩:=run_append_arg_grows (P:=P) w t s e i z size n ht q H F hby I G ⟨g,0,none⟩ 0 0 [] sI (fun j u h=>by simp at h) a m c d r D oM (by rw[dV];exact h63) (by rw[dV];exact y);rw[dV,qB]at p;exact⟨l,f,v,gL p x,b.os,b.tape,b.output,b.size,fun k A=>b.block k A (fun e=>by cases e)⟩
section
variable {P:Program} {ops:Array Oper} {Q:Exit->Act->World->Prop} {T:Nat->Value->World->Prop} {a:Act} {w:World} {o:Oper}
theorem aNJ(J:Region.wanted o (yielded ops a.tmps)=true)(s x:Operand)(t:TypeId)(D:o.op=.call {callee:=.builtin .append,args:=#[s,x],argTypes:=#[t,t]})
 (base:Nat) (e:TypeId) (i:TypeInfo) (z:Value) (size l:Nat) (ht:P.underlying t=some (.slice e)) (A:P.info? e=some i) (L:i.zero=some z)
 (H:i.size=size) (hby:i.bytes=l) (M:z.cells.size=size) (I:0<size) (g:Nat) (G:a.eval s=.slice (some ⟨g,0,none⟩) 0 0) (E:w.ownsRow base e size (.slice (some ⟨g,0,none⟩) 0 0) 0 [])
 (k:Addr) (m c:Nat) (f:List Value) (K:a.eval x=.slice (some k) m c) (B:f.length=m*size) (C:∀j u,f[j]?=some u->w.cell? (k.add j)=some u) (h63:m<=1000) (r:l<=64) (y:base<=w.heap.size)
 (q:∀d b,b.ownsRow base e size d m f->Below w.heap.size w b->∀t,o.dst=some t->T t d b):DS P ops Q T o a w:=by
 obtain⟨d,b,F,p,n⟩:=Cx (P:=P) base t o.type e i z size l ht A L H hby M I g E k m c f B C (by unfold maxLen;omega) (bH (UD h63 r) dE) y;refine fC (v:=d) (w':=b) J ?_ (q d b p n) n;unfold execOp;simp only[D,resolve,invoke,builtin,Sem.run_bind,Sem.run_pure,Result.andThen_ok,List.map_toArray,List.map_cons,List.map_nil,G,K,F]
end
theorem aNG{w:World}{g:Nat}{m c:Nat}{l:List Int}(h:dM w (.slice (some ⟨g,0,none⟩) m c) l):∀j u,(l.map (Value.int .i64))[j]?=some u->w.cell? ((⟨g,0,none⟩:Addr).add j)=some u:=by
 intro j u f;obtain⟨r,s,q,n⟩:=h;injection q with d k v;subst d;have i:j<l.length:=by
  rcases jW j l.length with h|h
  ·exact h
  rw[cZ (by rw[aP];exact h)]at f;cases f
 obtain⟨b,x,e,p⟩:=qY n j i;injection e with e;injection e with d k;subst d k;rw[Addr.add_lit,p,<-f,cY,aD i];unfold bM;rw[aC,aD i];rfl
theorem aSF{wr:World}{B A:Nat}{v:Value}{d:List Fv}{b off n m k:Nat}{u:Value}(i:wr.ownsRow B 55 2 v d.length (d.map dW).flatten)(s:∀p,p∈d->wr.ownsRow A 3 1 p.2 p.1.args.length (p.1.args.map (Value.int .i64)))(y:v=.slice (some ⟨b,off,none⟩) n m)(E:k<d.length)(f:wr.cell? ⟨b,off+k*2+1,none⟩=some u):
 wr.ownsRow A 3 1 (aZ (d.map (·.1)) k,u).2 (aZ (d.map (·.1)) k,u).1.args.length ((aZ (d.map (·.1)) k,u).1.args.map (Value.int .i64)):=by
 rcases jJ i with⟨_,D⟩|⟨g,C,j⟩
 ·omega
 rw[j]at i;rw[y]at j;injection j with e _ _;injection e with e;injection e with e q _;subst e q;rw[dV]at f;obtain⟨x,l,z⟩:=JE d (k*2+1) oM;rw[World.ownsRow.cellAt i (k*2+1) oM,z,show(k*2+1)% 2=1 by omega]at f;rw[show(k*2+1)/2=k by omega]at l;(have w:x.2=u:=by have :(dW x)[1]?=some x.2:=rfl;rw[this]at f;injection f);(have r:aZ (d.map (·.1)) k=x.1:=by unfold aZ;rw[aC,cY,l];rfl);rw[r,<-w];exact s x (iN l)
section
variable {P:Program} {ops:Array Oper} {Q:Exit->Act->World->Prop}
theorem ZC(T f:Nat->Value->World->Prop)(L S:Nat)(g:Nat->Bool){id:Nat}{d:Act}{e:World}(k:L<ops.size)(_:S<ops.size)(s:tN ops L=true)(n:P.follows .mixedOrders=true)
 (m:DM ops d.tmps.size=true) (l:RE ops S g=true)
 (p:∀t v w b,Below w.heap.size w b->T t v w->T t v b) (q:∀t v w b,Below w.heap.size w b->f t v w->f t v b)
 (r:∀t v w b,g t=true->Below e.heap.size w b->T t v w->T t v b)
 (hop:xK (fun i o=>∀a w,LR ops T d e o a w->(∀t,t∉(ops.toList.take L).filterMap (·.dst)->a.tmps.getD t undef=d.tmps.getD t undef)->if i=S then(LR ops f d e o a w->Region.wanted o (yielded ops a.tmps)=true/\o.wp P a w (fun j b=>∃v,j=a.put o.dst v/\(∀t,o.dst=some t->T t v b)/\w.heap.size<=b.heap.size/\Below e.heap.size w b) Q)else((zN ops 12 S i=true->LR ops f d e o a w)->DS P ops Q (fun t v w=>T t v w/\f t v w) o a w)) 0 (ops.toList.take L))
 (htail:∀a w,Tz ops T d e L a w->(∀t,t∉(ops.toList.take L).filterMap (·.dst)->a.tmps.getD t undef=d.tmps.getD t undef)->wpOps P ops Q (List.range' L (ops.size-L)) a w):
 (Code.region id ops true).wp P Q d e:=
 ST T f L S g k s n (YW m) l p q r hop htail
end
def aVJ(RB gW j:Nat)(b d e:Value):Nat->Value
 |23=>.pointer (some ⟨RB,1,none⟩)
 |24=>b
 |25=>d
 |26=>.int .i64 (j:Nat)
 |27=>.pointer (some ⟨gW,j,none⟩)
 |28=>e
 |_=>.bool false
def aT4(RB gW j:Nat)(b d e:Value):Nat->Value
 |46=>.pointer (some ⟨RB,1,none⟩)
 |47=>b
 |48=>d
 |49=>.int .i64 (j:Nat)
 |50=>.pointer (some ⟨gW,j,none⟩)
 |51=>e
 |_=>.bool false
def aVI(f d e:Value)(RB m:Nat)(i g:Int)(j:Nat)(b:Value):Prop:=
 match j with
 |113=>b=f
 |114=>b=(.pointer (some ⟨RB,0,none⟩):Value)
 |115=>b=(.int .i64 i:Value)
 |117=>b=d
 |118=>b=(.int .i64 (m:Nat):Value)
 |119=>b=e
 |121=>b=(.int .i64 g:Value)
 |_=>True
def Jh(n j k:Value)(RB m:Nat)(g b:Int)(B:Nat)(l:List Int)(e:Nat)(f:Value)(d:World):Prop:=
 if e=123 then d.ownsRow B 3 1 f (l++[b]).length ((l++[b]).map (Value.int .i64))
 else if e=124 then∃u,f=.agg #[.int .i64 g,u]/\d.ownsRow B 3 1 u (l++[b]).length ((l++[b]).map (Value.int .i64))
 else if e=125 then∃i u,f=.slice (some ⟨i,0,none⟩) 1 1/\d.heap[i]?=some (.cells #[.int .i64 g,u] 55)/\d.ownsRow B 3 1 u (l++[b]).length ((l++[b]).map (Value.int .i64))else aVI n j k RB m g b e f
theorem aI7(j g i:Value)(RB m:Nat)(r q:Int)(B:Nat)(l:List Int)(b:Nat)(s:Value)(W W':World)(e:Below W.heap.size W W')(h:Jh j g i RB m r q B l b s W):Jh j g i RB m r q B l b s W':=by
 unfold Jh at h ⊢;by_cases ht:b=123
 ·rw[if_pos ht]at h ⊢;exact bI h e
 rw[if_neg ht]at h ⊢;by_cases n:b=124
 ·rw[if_pos n]at h ⊢;obtain⟨u,f,d⟩:=h;exact⟨u,f,bI d e⟩
 rw[if_neg n]at h ⊢;by_cases p:b=125
 ·rw[if_pos p]at h ⊢;obtain⟨k,u,f,d,v⟩:=h;exact⟨k,u,f,(e.block k (aG.mp d).1).trans d,bI v e⟩
 rw[if_neg p]at h ⊢;exact h
def aP0(t:Nat):Bool:= !(t==123||t==124||t==125)
theorem aFP(g e f:Value)(RB m:Nat)(j i:Int)(B:Nat)(l:List Int)(d:Nat)(k:Value)(W W':World)(b:aP0 d=true)(h:Jh g e f RB m j i B l d k W):Jh g e f RB m j i B l d k W':=by unfold aP0 at b;simp only[Bool.not_eq_true',Bool.or_eq_false_iff,beq_eq_false_iff_ne]at b;unfold Jh at h ⊢;rw[if_neg b.1.1,if_neg b.1.2,if_neg b.2]at h ⊢;exact h
def aK7(g:Int)(B:Nat)(l:List Int)(f:Nat)(d:Value)(e:World):Prop:=
 if f=120 then e.ownsRow B 3 1 d l.length (l.map (Value.int .i64))
 else if f=122 then∃b,d=.slice (some ⟨b,0,none⟩) 1 1/\e.heap[b]?=some (.cells #[.int .i64 g] 3)
 else if f=116 then∃b,d=.slice (some ⟨b,0,none⟩) 0 0/\e.ownsRow B 3 1 d 0 [] else True
theorem aI8(k:Int)(B:Nat)(l:List Int)(b:Nat)(m:Value)(W W':World)(g:Below W.heap.size W W')(h:aK7 k B l b m W):aK7 k B l b m W':=by
 unfold aK7 at h ⊢;by_cases ht:b=120
 ·rw[if_pos ht]at h ⊢;exact bI h g
 rw[if_neg ht]at h ⊢;by_cases i:b=122
 ·rw[if_pos i]at h ⊢;obtain⟨d,f,e⟩:=h;exact⟨d,f,(g.block d (aG.mp e).1).trans e⟩
 rw[if_neg i]at h ⊢;by_cases j:b=116
 ·rw[if_pos j]at h ⊢;obtain⟨d,f,e⟩:=h;exact⟨d,f,bI e g⟩
 rw[if_neg j]at h ⊢;exact h
theorem aDK(r:bB)(q:List Nv)(vt vb vw:Value)(B:Nat)(w:World)(hT:fT w vt r.p)(hB:pI w vb r.body)(hN:vC B w vw q)(fn:q.length<=2000)(fp:r.p.length<=3)(cp:∀y,y∈q->gX y.1.length r.p)(cn:∀y,y∈q->∀n,n∈bQ r.p y.1->cP n=true)(cr:0<=r.x/\r.x<=4)(cs:¬r.x=0->¬r.p.length=0):
 Calls Tryz.prog 18 #[lP r vt vb,vw] w fun e w'=>∃v',e=.returned v'/\tG w.heap.size w' v' (mP r (q.map (·.1)))/\Below w.heap.size w w':=by
 obtain⟨i0,hi,d2,d3,d4⟩:=iT vK;obtain⟨j3,cu,cw,cx,cE⟩:=iT IC;obtain⟨at_,U,rfl,_⟩:=id hT;obtain⟨ab,cb,rfl,_⟩:=id hB;obtain⟨av,cv,rfl⟩:=bJ hN.1;have b3:=dD w (.cells #[.int .i64 r.z, .slice at_ r.p.length U, .int .i64 r.x, .slice ab r.body.length cb, .int .i64 r.vars] 40);have bc:O _:=aR w (.cells #[.int .i64 r.z, .slice at_ r.p.length U, .int .i64 r.x, .slice ab r.body.length cb, .int .i64 r.vars] 40);have aq:O _:=b3;have HN:O (vC B (w.alloc (.cells #[.int .i64 r.z, .slice at_ r.p.length U, .int .i64 r.x, .slice ab r.body.length cb, .int .i64 r.vars] 40)) (.slice av q.length cv) q):=vC.u hN b3;have HT:O (fT (w.alloc (.cells #[.int .i64 r.z, .slice at_ r.p.length U, .int .i64 r.x, .slice ab r.body.length cb, .int .i64 r.vars] 40)) (.slice at_ r.p.length U) r.p):=dS hT b3;have cc:O _:=cp;have ba:O _:=cn;have bZ:O _:=cr;have dd:O _:=cs;(have ep:IntKind.i64.wrap ((r.p.length:Int)-1)=(r.p.length:Int)-1:=by simp[IntKind.wrap,IntKind.bits,IntKind.signed];omega);clear hT hB hN b3 cp cn cr cs
 go_enter Tryz.func18,Tryz.ntmps18
 go_upto_region 1 with fail;generalize w.alloc (.cells #[.int .i64 r.z, .slice at_ r.p.length U, .int .i64 r.x, .slice ab r.body.length cb, .int .i64 r.vars] 40)=D at *;generalize ee:w.heap.size=RB at *;(have c0:D.cell? ⟨RB,0,none⟩=some (.int .i64 r.z):=cH bc.o);(have c1:D.cell? ⟨RB,1,none⟩=some (.slice at_ r.p.length U):=cH bc.o);(have c2:D.cell? ⟨RB,2,none⟩=some (.int .i64 r.x):=cH bc.o);rw[<-ee]at aq;go_wp2_with fail;generalize fm:(r.p.length:Int)-1=ln at *;go_loopw [5,7] (fun vo iv wr=>∃(j:Nat)(i:List Fv),j<=q.length/\iv=.int .i64 j/\O (wr.ownsRow D.heap.size 55 2 vo i.length (i.map dW).flatten)/\O (i.map (·.1)=(((q.take j).map (fun y=>eU r y.1)).map (sX r (q.map (fun y=>eU r y.1)))).flatten)/\O (∀p,p∈i->wr.ownsRow D.heap.size 3 1 p.2 p.1.args.length (p.1.args.map (Value.int .i64)))/\i.length<=j/\O (Below D.heap.size D wr)) (fun _ iv _=>q.length-(intOf iv).toNat);case atStart=>exact⟨0,[],bG _,rfl,eD _ _ _ _,rfl,fun _ M=>absurd M sI,aE _,aH _ _⟩
 case round=>
  obtain⟨wo,eo⟩:∃wo,wo=wr:=⟨_,rfl⟩;subst eo;obtain⟨j,i,hj,rfl,HO,aV,au,cU,a1⟩:=hrel;obtain⟨ao,co,rfl⟩:=bJ HO.o;by_cases aF:j<q.length
  ·obtain⟨Z,cg,y,hv,hy,bv,bu,bw⟩:=FT HN.o aF;injection hv with ea _ ec;subst ea ec;obtain⟨ay,cy,bx⟩:=bJ bw;rw[bx]at bu;(have dr:O (dM D (.slice ay y.1.length cy) y.1):=by rw[<-bx];exact oU bw);have t1:=aB a1.o c1;have tj:=aB a1.o bu;have bY:O (∀z,Below wo.heap.size wo z->Calls Tryz.prog 62 #[.slice at_ r.p.length U, .slice ay y.1.length cy] z fun e w'=>∃v',e=.returned v'/\aDL w' z.heap.size v' (bQ r.p y.1)/\Below z.heap.size z w'):=fun z hz=>xO r.p y.1 _ _ z (dS (dS HT.o a1.o) hz) (aM (aM dr.o a1.o) hz) oM (cc.o y bv);have HY:O _:=hy;(have bd:O ((((q.take (j+1)).map (fun y=>eU r y.1)).map (sX r (q.map (fun y=>eU r y.1)))).flatten=(((q.take j).map (fun y=>eU r y.1)).map (sX r (q.map (fun y=>eU r y.1)))).flatten++sX r (q.map (fun y=>eU r y.1)) (eU r y.1)):=by show _=_;rw[eI,hy,cB,cB,fZ];simp);have ds:O _:=bv;clear hy bv bu bw bx;go_upto_region 6 with fail;refine kU (fun tQ vQ _=>vQ=aVJ RB Z j (.slice at_ r.p.length U) (.slice (some ⟨Z,0,none⟩) q.length cv) (.slice ay y.1.length cy) tQ) 6 dE kR kR kR (fun _ _ _ _ _ h=>h) ?hopA ?htailA;case hopA=>refine oC (fun a s h=>by have e2:a.eval (.tmp 2)=(.pointer (some ⟨RB,0,none⟩):Value):=h.old 2;exact jC (.pointer (some ⟨RB,1,none⟩))) ?_;refine oC (fun a s h=>by have f2:a.eval (.tmp 23)=(.pointer (some ⟨RB,1,none⟩):Value):=h.of 23;have x0:=aB h.u t1;exact jC (.slice at_ r.p.length U)) ?_;refine oC (fun a s h=>by have e1:a.eval (.tmp 1)=(.slice (some ⟨Z,0,none⟩) q.length cv:Value):=h.old 1;exact jC (.slice (some ⟨Z,0,none⟩) q.length cv)) ?_;refine oC (fun a s h=>by have e7:a.eval (.tmp 7)=(.int .i64 (j:Nat):Value):=h.old 7;exact jC (.int .i64 (j:Nat))) ?_;refine oC (fun a s h=>by have f3:a.eval (.tmp 25)=(.slice (some ⟨Z,0,none⟩) q.length cv:Value):=h.of 25;have f4:a.eval (.tmp 26)=(.int .i64 (j:Nat):Value):=h.of 26;refine XM (v:=.pointer (some ⟨Z,j,none⟩)) ?_;have ec:=qM a;generalize a.eval=ev at *;clear h;go_simp;try(intro h9;exfalso;omega)) ?_;refine oC (fun a s h=>by have f5:a.eval (.tmp 27)=(.pointer (some ⟨Z,j,none⟩):Value):=h.of 27;have x0:=aB h.u tj;exact jC (.slice ay y.1.length cy)) ?_;exact JL.nil
   case htailA=>
    rintro⟨C,E⟩ s F;have e1:Act.eval ⟨C,E⟩ (.tmp 24)=(.slice at_ r.p.length U:Value):=F.all 1 _ 24 dE rfl rfl;have e5:Act.eval ⟨C,E⟩ (.tmp 28)=(.slice ay y.1.length cy:Value):=F.all 5 _ 28 dE rfl rfl;have a5:C.size=129:=F.size;show wpOps Tryz.prog _ _ [6,7] _ _;rw[iO];refine CA rfl (bF rfl) (Kh (f:=62) (args:=#[.slice at_ r.p.length U, .slice ay y.1.length cy]) ?_ (Calls.mono (bY.o s F.u) ?_))
    ·have ec:=qM ⟨C,E⟩;have ef:=IM ⟨C,E⟩;generalize Act.eval ⟨C,E⟩=ev at *;clear F;go_simp
    rintro _ N ⟨va,rfl,bp,b4⟩;refine⟨_,rfl,?_⟩;obtain⟨H,A,rfl⟩:=bJ bp;have e6:Act.eval (Act.put ⟨C,E⟩ (some 29) (.slice H (bQ r.p y.1).length A)) (.tmp 29)=(.slice H (bQ r.p y.1).length A:Value):=iF (by show 29<C.size;omega);rw[iO];refine uM (v:=.slice H (bQ r.p y.1).length A) (w':=N) rfl (bF rfl) ?_ ?_
    ·show Sem.run Tryz.prog (execOp (Act.eval (Act.put ⟨C,E⟩ (some 29) (.slice H (bQ r.p y.1).length A))) _) N=_;generalize Act.eval (Act.put ⟨C,E⟩ (some 29) (.slice H (bQ r.p y.1).length A))=ev at *;clear F;go_simp
    have an:=F.u;(have af:∀t,t∉[23,24,25,26,27,28,29,8]->((C.setIfInBounds 29 (.slice H (bQ r.p y.1).length A)).setIfInBounds 8 (.slice H (bQ r.p y.1).length A)).getD t undef=_:=fun t ht=>by have hB:t≠29:=fun e=>ht (by rw[e];decide);have hC:t≠8:=fun e=>ht (by rw[e];decide);exact((gB (a:=Act.put ⟨C,E⟩ (some 29) (.slice H (bQ r.p y.1).length A)) hC).trans (gB (a:=⟨C,E⟩) hB)).trans (F.still t ht));(have ae:((C.setIfInBounds 29 (.slice H (bQ r.p y.1).length A)).setIfInBounds 8 (.slice H (bQ r.p y.1).length A)).size=129:=by simp[a5]);have hD:((C.setIfInBounds 29 (.slice H (bQ r.p y.1).length A)).setIfInBounds 8 (.slice H (bQ r.p y.1).length A)).getD 8 undef=(.slice H (bQ r.p y.1).length A):=iF (a:=Act.put ⟨C,E⟩ (some 29) (.slice H (bQ r.p y.1).length A)) (by show 8<(C.setIfInBounds 29 _).size;simp[a5]);obtain rfl:E=[]:=F.defers;clear F e1 e5 e6 a5;show Exit.then _ _ Exit.normal ⟨(C.setIfInBounds 29 (.slice H (bQ r.p y.1).length A)).setIfInBounds 8 (.slice H (bQ r.p y.1).length A),[]⟩ N;generalize (C.setIfInBounds 29 (.slice H (bQ r.p y.1).length A)).setIfInBounds 8 (.slice H (bQ r.p y.1).length A)=tm at *;obtain⟨fQ,hQ,a3⟩:=pQ [23,24,25,26,27,28,29,8] tm _ (ae.trans rF) af;clear ae af;simp only[List.foldl_cons,List.foldl_nil,(hQ 8).trans hD]at a3;clear hD hQ;simp only[List.setIfInBounds_toArray,List.set_cons_zero,List.set_cons_succ]at a3;subst a3;have aj:O (N.ownsRow D.heap.size 55 2 (.slice ao i.length co) i.length (i.map dW).flatten):=bI (bI HO.o an) b4;have b1:O (∀p,p∈i->N.ownsRow D.heap.size 3 1 p.2 p.1.args.length (p.1.args.map (Value.int .i64))):=fun p M=>bI (bI (au.o p M) an) b4;have X:O (Below D.heap.size D N):=a1.o.trans ((an.trans (b4.mono an.size)).mono a1.o.size);have b0:O (N.ownsRow D.heap.size 3 1 (.slice H (bQ r.p y.1).length A) (bQ r.p y.1).length ((bQ r.p y.1).map (Value.int .i64))):=gL bp (bH a1.o.size an.size);have s0:=aB X.o c0;have s2:=aB X.o c2;have fo:=X.o.size;clear bp b4 an bY t1 tj HO au a1;by_cases ad:r.x=0
    ·have el:decide (r.x=0)=true:=aQ ad;(have g0:(r.x==0)=true:=by simpa using ad);(have aS:O (sX r (q.map (fun y=>eU r y.1)) (eU r y.1)=[(⟨r.z,bQ r.p y.1⟩:aN)]):=by show _=_;unfold sX;rw[if_pos ad];rfl);(generalize bQ r.p y.1=d at *;clear ad;go_wp2_with(at_builtin;refine fX _ rfl (.tmp 33) (.tmp 38) 27 rfl D.heap.size 55 i0 _ 2 32 Tryz.underlying27 hi d2 d3 d4 rfl dE _ _ _ rfl (aj.o.alloc _) ⟨N.heap.size,0,none⟩ 1 1 (dW (⟨r.z,d⟩, .slice H d.length A)) rfl rfl ?c1 ?c2 ?c3 ?c4 ?c5 ?_);(case c1=>first|exact Wx N _ _ 55|exact fun _ _ h=>h);(case c2=>intro u hu;simp[dW]at hu;rcases hu with rfl|rfl<;>rfl);(case c3=>unfold maxLen;omega);(case c4=>omega);(case c5=>first|omega|(simp;omega));intro fu I bo bk _;obtain⟨dw,dx,rfl⟩:=bJ bo;have bi:Below N.heap.size N (N.alloc (.cells #[.int .i64 r.z, .slice H d.length A] 55)):=(aH _ _).alloc (aE _) _;have h3:∀(l:List Int)(u:Value),N.ownsRow D.heap.size 3 1 u l.length (l.map (Value.int .i64))->I.ownsRow D.heap.size 3 1 u l.length (l.map (Value.int .i64)):=fun l u hu=>gR hu (fun k c S=>(bk.block k (dQ (bP S) bi.size) (fun e=>by have :=xJ aj.o e.symm S;cases this)).trans ((bi.block k (bP S)).trans S));have a7:O (Below D.heap.size D I):=(X.o.alloc X.o.size _).grown bk sO (fun k S=>(aj.o.lt k S).1);have dh:O (I.ownsRow D.heap.size 55 2 (.slice dw (i.length+1) dx) (i++[((⟨r.z,d⟩:aN),Value.slice H d.length A)]).length ((i++[((⟨r.z,d⟩:aN),Value.slice H d.length A)]).map dW).flatten):=by show World.ownsRow _ _ _ _ _ _ _;rw[bA,cB,fZ];simpa using bo);have dn:O (∀p,p∈i++[((⟨r.z,d⟩:aN),Value.slice H d.length A)]->I.ownsRow D.heap.size 3 1 p.2 p.1.args.length (p.1.args.map (Value.int .i64))):=fun p M=>by
      rcases dP.mp M with M|M
      ·exact h3 _ _ (b1.o p M)
      rcases cQ.mp M with rfl;exact h3 _ _ b0.o
     (have bb:O ((i++[((⟨r.z,d⟩:aN),Value.slice H d.length A)]).map (·.1)=(((q.take (j+1)).map (fun y=>eU r y.1)).map (sX r (q.map (fun y=>eU r y.1)))).flatten):=by show _=_;rw[bd.o,aS.o,<-aV.o,cB];rfl);clear bo bk aj b1 X b0 h3 bi;go_wp2_with fail;go_roundw;(case rel=>exact⟨j+1,_,aF,gN,dh.o,bb.o,dn.o,by rw[bA];exact zX cU,a7.o⟩);case measure=>exact mI
    have el:decide (r.x=0)=false:=aJ ad;(have g0:(r.x==0)=false:=by simpa using ad);obtain⟨m,hm⟩:∃m,r.p.length=m+1:=⟨r.p.length-1,by have :=dd.o ad;omega⟩;have cd:O (r.p.length=m+1):=hm;obtain rfl:ln=(m:Int):=oM;(have ai:O ((bQ r.p y.1).length=m+1):=by show _=_;unfold bQ;rw[aP];exact hm);(have fj:1<=r.x:=by have :=bZ.o.1;omega);have fk:r.x<=4:=bZ.o.2;(have bW:O (dM N (.slice H m A) (aK (bQ r.p y.1))):=by obtain⟨x1,x2,bs,bg⟩:=oU b0.o;injection bs with e1 _ e3;subst e1 e3;have h9:=PZ A bg;rw[ai.o,BC]at h9;exact h9);(obtain⟨ga,et,cX,ff,_⟩:=LF b0.o ai.o;rw[ai.o]at cX;injection cX with e1 _ e3;subst e1 e3;have aS:O (sX r (q.map (fun y=>eU r y.1)) (eU r y.1)=uU r.x r.z (aK (bQ r.p y.1)) (fY (q.map (fun y=>eU r y.1)) (aK (bQ r.p y.1)))):=by show _=_;unfold sX;rw[if_neg ad];rfl);have es:O _:=ba.o y ds.o;rw[ai.o];generalize bQ r.p y.1=d at *;clear hm;go_upto_region 9 with fail;clear ep;go_wp2_with fail;go_loopw [9,10,11] (fun nv mv kv wr=>∃k:Nat,k<=q.length/\kv=.int .i64 k/\nv=.int .i64 (fE r.x (fY ((q.take k).map (fun y=>eU r y.1)) (aK d)))/\mv=.int .i64 ((fY ((q.take k).map (fun y=>eU r y.1)) (aK d)).length:Nat)/\O (Below N.heap.size N wr)) (fun _ _ kv _=>q.length-(intOf kv).toNat);case atStart=>exact⟨0,bG _,rfl,by rw[List.take_zero,List.map_nil,aAI,aAC],rfl,aH _ _⟩
    case round=>
     obtain⟨wk,en⟩:∃wk,wk=wr:=⟨_,rfl⟩;subst en;obtain⟨k,S,rfl,rfl,rfl,Y⟩:=hrel;by_cases a4:k<q.length
     ·obtain⟨fd,eu,z,em,hz,bN,bz,bT⟩:=FT HN.o a4;injection em with aw _ fc;injection aw with aw;injection aw with aw;subst aw;obtain⟨az,al,bU⟩:=bJ bT;rw[bU]at bz;(have dt:O (dM D (.slice az z.1.length al) z.1):=by rw[<-bU];exact oU bT);have d7:=aB Y.o (aB X.o c1);have d8:=aB Y.o (aB X.o bz);have bX:O (∀x,Below wk.heap.size wk x->Calls Tryz.prog 62 #[.slice at_ r.p.length U, .slice az z.1.length al] x fun e w'=>∃v',e=.returned v'/\aDL w' x.heap.size v' (bQ r.p z.1)/\Below x.heap.size x w'):=fun x hx=>xO r.p z.1 _ _ x (dS (dS (dS HT.o X.o) Y.o) hx) (aM (aM (aM dt.o X.o) Y.o) hx) oM (cc.o z bN);have du:O _:=bN;(have ce:O ((q.take (k+1)).map (fun y=>eU r y.1)=(q.take k).map (fun y=>eU r y.1)++[(⟨r.z,bQ r.p z.1⟩:aN)]):=by show _=_;rw[eI,hz,cB];rfl);clear hz bN bz bT bU;go_upto_region 13 with fail;refine kU (fun tQ vQ _=>vQ=aT4 RB Z k (.slice at_ r.p.length U) (.slice (some ⟨Z,0,none⟩) q.length cv) (.slice az z.1.length al) tQ) 6 dE kR kR kR (fun _ _ _ _ _ h=>h) ?hopC ?htailC;case hopC=>refine oC (fun a s h=>by have e2:a.eval (.tmp 2)=(.pointer (some ⟨RB,0,none⟩):Value):=h.old 2;exact jC (.pointer (some ⟨RB,1,none⟩))) ?_;refine oC (fun a s h=>by have f6:a.eval (.tmp 46)=(.pointer (some ⟨RB,1,none⟩):Value):=h.of 46;have x0:=aB h.u d7;exact jC (.slice at_ r.p.length U)) ?_;refine oC (fun a s h=>by have e1:a.eval (.tmp 1)=(.slice (some ⟨Z,0,none⟩) q.length cv:Value):=h.old 1;exact jC (.slice (some ⟨Z,0,none⟩) q.length cv)) ?_;refine oC (fun a s h=>by have ew:a.eval (.tmp 11)=(.int .i64 (k:Nat):Value):=h.old 11;exact jC (.int .i64 (k:Nat))) ?_;refine oC (fun a s h=>by have f7:a.eval (.tmp 48)=(.slice (some ⟨Z,0,none⟩) q.length cv:Value):=h.of 48;have f8:a.eval (.tmp 49)=(.int .i64 (k:Nat):Value):=h.of 49;refine XM (v:=.pointer (some ⟨Z,k,none⟩)) ?_;have ec:=qM a;generalize a.eval=ev at *;clear h;go_simp;try(intro h9;exfalso;omega)) ?_;refine oC (fun a s h=>by have f9:a.eval (.tmp 50)=(.pointer (some ⟨Z,k,none⟩):Value):=h.of 50;have x0:=aB h.u d8;exact jC (.slice az z.1.length al)) ?_;exact JL.nil
      case htailC=>
       rintro⟨C,E⟩ s F;have e1:Act.eval ⟨C,E⟩ (.tmp 47)=(.slice at_ r.p.length U:Value):=F.all 1 _ 47 dE rfl rfl;have e5:Act.eval ⟨C,E⟩ (.tmp 51)=(.slice az z.1.length al:Value):=F.all 5 _ 51 dE rfl rfl;have a5:C.size=129:=F.size;show wpOps Tryz.prog _ _ [6,7] _ _;rw[iO];refine CA rfl (bF rfl) (Kh (f:=62) (args:=#[.slice at_ r.p.length U, .slice az z.1.length al]) ?_ (Calls.mono (bX.o s F.u) ?_))
       ·have ec:=qM ⟨C,E⟩;have ef:=IM ⟨C,E⟩;generalize Act.eval ⟨C,E⟩=ev at *;clear F;go_simp
       rintro _ I ⟨ft,rfl,b8,am⟩;refine⟨_,rfl,?_⟩;obtain⟨P,L,rfl⟩:=bJ b8;have e6:Act.eval (Act.put ⟨C,E⟩ (some 52) (.slice P (bQ r.p z.1).length L)) (.tmp 52)=(.slice P (bQ r.p z.1).length L:Value):=iF (by show 52<C.size;omega);rw[iO];refine uM (v:=.slice P (bQ r.p z.1).length L) (w':=I) rfl (bF rfl) ?_ ?_
       ·show Sem.run Tryz.prog (execOp (Act.eval (Act.put ⟨C,E⟩ (some 52) (.slice P (bQ r.p z.1).length L))) _) I=_;generalize Act.eval (Act.put ⟨C,E⟩ (some 52) (.slice P (bQ r.p z.1).length L))=ev at *;clear F;go_simp
       have bh:=F.u;(have af:∀t,t∉[46,47,48,49,50,51,52,12]->((C.setIfInBounds 52 (.slice P (bQ r.p z.1).length L)).setIfInBounds 12 (.slice P (bQ r.p z.1).length L)).getD t undef=_:=fun t ht=>by have hB:t≠52:=fun e=>ht (by rw[e];decide);have hC:t≠12:=fun e=>ht (by rw[e];decide);exact((gB (a:=Act.put ⟨C,E⟩ (some 52) (.slice P (bQ r.p z.1).length L)) hC).trans (gB (a:=⟨C,E⟩) hB)).trans (F.still t ht));((have ae:((C.setIfInBounds 52 (.slice P (bQ r.p z.1).length L)).setIfInBounds 12 (.slice P (bQ r.p z.1).length L)).size=129:=by simp[a5]);have hD:((C.setIfInBounds 52 (.slice P (bQ r.p z.1).length L)).setIfInBounds 12 (.slice P (bQ r.p z.1).length L)).getD 12 undef=(.slice P (bQ r.p z.1).length L):=iF (a:=Act.put ⟨C,E⟩ (some 52) (.slice P (bQ r.p z.1).length L)) (by show 12<(C.setIfInBounds 52 _).size;simp[a5]);obtain rfl:E=[]:=F.defers;clear F e1 e5 e6 a5;show Exit.then _ _ Exit.normal ⟨(C.setIfInBounds 52 (.slice P (bQ r.p z.1).length L)).setIfInBounds 12 (.slice P (bQ r.p z.1).length L),[]⟩ I;generalize (C.setIfInBounds 52 (.slice P (bQ r.p z.1).length L)).setIfInBounds 12 (.slice P (bQ r.p z.1).length L)=tm at *;obtain⟨fQ,hQ,a3⟩:=pQ [46,47,48,49,50,51,52,12] tm _ (ae.trans rF) af;clear ae af;simp only[List.foldl_cons,List.foldl_nil,(hQ 12).trans hD]at a3;clear hD hQ;simp only[List.setIfInBounds_toArray,List.set_cons_zero,List.set_cons_succ]at a3;subst a3;have a7:O (Below N.heap.size N I):=Y.o.trans ((bh.trans (am.mono bh.size)).mono Y.o.size);(have ax:(bQ r.p z.1).length=m+1:=by unfold bQ;rw[aP];exact cd.o);have cf:O (dM I (.slice P m L) (aK (bQ r.p z.1))):=by obtain⟨x1,x2,bs,bg⟩:=oU b8;injection bs with e1 _ e3;subst e1 e3;have h9:=PZ L bg;rw[ax,BC]at h9;exact h9);obtain⟨gz,cz,d0,fg,d5⟩:=LF b8 ax;rw[ax]at d0;injection d0 with e1 _ e3;subst e1 e3;have dv:O (∀n,n∈bQ r.p z.1->cP n=true):=ba.o z du.o;rw[ax];have ar:O (∀n,Calls Tryz.prog 25 #[.slice (some ⟨ga,0,none⟩) m A, .slice (some ⟨gz,0,none⟩) m L] (I.drewN n) fun e w'=>e=.returned (.bool (decide (aK d=aK (bQ r.p z.1))))/\∃n',w'=(I.drewN n).drewN n'):=fun n=>FA _ _ _ _ _ (aM (aM bW.o a7.o) (eO _ _)) (aM cf.o (eO _ _)) (by rw[xC];have :=ai.o;omega);have d6:=d5 m (Nat.lt_succ_self m);(have c7:O (oO (bQ r.p z.1)=bM (bQ r.p z.1) m):=by show _=_;rw[YB,ax];rfl);clear b8 am bh d5 bX d7 d8;generalize bQ r.p z.1=fb at *;have u2:=aB a7.o s2;by_cases b7:aK d=aK fb
       ·have aI:decide (aK d=aK fb)=true:=aQ b7;rw[aI]at ar;clear aI;go_upto_region 14 with fail;go_quiet(first|(go_at_call 25;exact uO (ar.o _)));(have ac:O (fY ((q.take (k+1)).map (fun y=>eU r y.1)) (aK d)=fY ((q.take k).map (fun y=>eU r y.1)) (aK d)++[bM fb m]):=by show _=_;rw[ce.o,<-c7.o];exact aAK b7.symm);(have fl:(fY ((q.take k).map (fun y=>eU r y.1)) (aK d)).length<=k:=by have h9:=aD7 ((q.take k).map (fun y=>eU r y.1)) (aK d);rw[aP,cW]at h9;omega);have br: -2000000000<=(fY ((q.take k).map (fun y=>eU r y.1)) (aK d)).sum/\(fY ((q.take k).map (fun y=>eU r y.1)) (aK d)).sum<=2000000000:=by
         have h9:=QM (l:=fY ((q.take k).map (fun y=>eU r y.1)) (aK d)) (aAJ (fun g hg=>by
          obtain⟨y2,eq,rfl⟩:=cR.mp hg;refine⟨?_,ba.o y2 (jG eq)⟩;show 0<(bQ r.p y2.1).length;unfold bQ;rw[aP];have :=cd.o
          omega))
         omega
        (have d1:cP (bM fb m)=true:=by rw[<-c7.o];exact TG oM dv.o);have a8:O (Below N.heap.size N (I.drewN nq)):=a7.o.trans ((eO _ _).mono a7.o.size);replace d6:=aB (eO I nq) d6;replace u2:=aB (eO I nq) u2;generalize fY ((q.take k).map (fun y=>eU r y.1)) (aK d)=K at *;generalize bM fb m=x at *;generalize I.drewN nq=w7 at *;clear ar cf;(have fq: -1000000<=x/\x<=1000000:=by unfold cP dG at d1;simp at d1;omega);rcases(show r.x=1\/r.x=2\/r.x=3\/r.x=4 by omega)with J|J|J|J
        ·rw[J]at u2;(have W:O (fE r.x (fY ((q.take (k+1)).map (fun y=>eU r y.1)) (aK d))=(K.length:Int)+1):=by show _=_;rw[ac.o,J,aAD,bA];rfl);(have a2:O (((fY ((q.take (k+1)).map (fun y=>eU r y.1)) (aK d)).length:Int)=(K.length:Int)+1):=by show _=_;rw[ac.o,bA];rfl);generalize fE r.x K=n0 at *;generalize K.length=gl at *;clear J;go_wp2_with fail;go_roundw;(case rel=>exact⟨k+1,a4,gN,by rw[W.o],by rw[a2.o],a8.o⟩);case measure=>exact mI
        ·(have cF:fE r.x K=K.sum:=by rw[J];rfl);rw[<-cF]at br;rw[J]at u2;(have W:O (fE r.x (fY ((q.take (k+1)).map (fun y=>eU r y.1)) (aK d))=fE r.x K+x):=by show _=_;rw[ac.o,J];exact aAE _ _);(have a2:O (((fY ((q.take (k+1)).map (fun y=>eU r y.1)) (aK d)).length:Int)=(K.length:Int)+1):=by show _=_;rw[ac.o,bA];rfl);clear cF J;generalize fE r.x K=n0 at *;generalize K.length=gl at *;go_wp2_with fail;go_roundw;(case rel=>exact⟨k+1,a4,gN,by rw[W.o],by rw[a2.o],a8.o⟩);case measure=>exact mI
        ·rw[J]at u2;(have a0:O (fE r.x (fY ((q.take (k+1)).map (fun y=>eU r y.1)) (aK d))=if K.length=0\/x<fE r.x K then x else fE r.x K):=by show _=_;rw[ac.o,J];exact Fp _ _);(have a2:O (((fY ((q.take (k+1)).map (fun y=>eU r y.1)) (aK d)).length:Int)=(K.length:Int)+1):=by show _=_;rw[ac.o,bA];rfl);clear J br;generalize fE r.x K=n0 at *;generalize K.length=gl at *;by_cases ag:gl=0
         ·subst ag;(have W:O (fE r.x (fY ((q.take (k+1)).map (fun y=>eU r y.1)) (aK d))=x):=by show _=_;rw[a0.o,if_pos (Or.inl rfl)]);clear a0;go_wp2_with fail;go_roundw;(case rel=>exact⟨k+1,a4,gN,by rw[W.o],by rw[a2.o];rfl,a8.o⟩);case measure=>exact mI
         have eh:(((gl:Int)+1)==1)=false:=fR.mpr oM;have ei:decide ((gl:Int)+1=1)=false:=aJ oM;have ej:decide (gl=0)=false:=aJ ag;by_cases a6:x<n0
         ·have bt:decide (x<n0)=true:=aQ a6;(have W:O (fE r.x (fY ((q.take (k+1)).map (fun y=>eU r y.1)) (aK d))=x):=by show _=_;rw[a0.o,if_pos (Or.inr a6)]);clear a0;go_wp2_with fail;go_roundw;(case rel=>exact⟨k+1,a4,gN,by rw[W.o],by rw[a2.o],a8.o⟩);case measure=>exact mI
         have bt:decide (x<n0)=false:=aJ a6;(have W:O (fE r.x (fY ((q.take (k+1)).map (fun y=>eU r y.1)) (aK d))=n0):=by show _=_;rw[a0.o,if_neg (fun e=>e.elim ag a6)]);clear a0;go_wp2_with fail;go_roundw;(case rel=>exact⟨k+1,a4,gN,by rw[W.o],by rw[a2.o],a8.o⟩);case measure=>exact mI
        rw[J]at u2;(have a0:O (fE r.x (fY ((q.take (k+1)).map (fun y=>eU r y.1)) (aK d))=if K.length=0\/fE r.x K<x then x else fE r.x K):=by show _=_;rw[ac.o,J];exact Mp _ _);(have a2:O (((fY ((q.take (k+1)).map (fun y=>eU r y.1)) (aK d)).length:Int)=(K.length:Int)+1):=by show _=_;rw[ac.o,bA];rfl);clear J br;generalize fE r.x K=n0 at *;generalize K.length=gl at *;by_cases ag:gl=0
        ·subst ag;(have W:O (fE r.x (fY ((q.take (k+1)).map (fun y=>eU r y.1)) (aK d))=x):=by show _=_;rw[a0.o,if_pos (Or.inl rfl)]);clear a0;go_wp2_with fail;go_roundw;(case rel=>exact⟨k+1,a4,gN,by rw[W.o],by rw[a2.o];rfl,a8.o⟩);case measure=>exact mI
        have eh:(((gl:Int)+1)==1)=false:=fR.mpr oM;have ei:decide ((gl:Int)+1=1)=false:=aJ oM;have ej:decide (gl=0)=false:=aJ ag;by_cases a6:n0<x
        ·have bt:decide (n0<x)=true:=aQ a6;(have W:O (fE r.x (fY ((q.take (k+1)).map (fun y=>eU r y.1)) (aK d))=x):=by show _=_;rw[a0.o,if_pos (Or.inr a6)]);clear a0;go_wp2_with fail;go_roundw;(case rel=>exact⟨k+1,a4,gN,by rw[W.o],by rw[a2.o],a8.o⟩);case measure=>exact mI
        have bt:decide (n0<x)=false:=aJ a6;(have W:O (fE r.x (fY ((q.take (k+1)).map (fun y=>eU r y.1)) (aK d))=n0):=by show _=_;rw[a0.o,if_neg (fun e=>e.elim ag a6)]);clear a0;go_wp2_with fail;go_roundw;(case rel=>exact⟨k+1,a4,gN,by rw[W.o],by rw[a2.o],a8.o⟩);case measure=>exact mI
       have aI:decide (aK d=aK fb)=false:=aJ b7;rw[aI]at ar;clear aI;(have c6:O (fY ((q.take (k+1)).map (fun y=>eU r y.1)) (aK d)=fY ((q.take k).map (fun y=>eU r y.1)) (aK d)):=by show _=_;rw[ce.o];exact aD8 (fun e=>b7 e.symm));go_upto_region 14 with fail;go_quiet(first|(go_at_call 25;exact uO (ar.o _)));go_wp2_with fail;go_roundw;(case rel=>exact⟨k+1,a4,gN,by rw[c6.o],by rw[c6.o],a7.o.trans ((eO _ _).mono a7.o.size)⟩);case measure=>exact mI
     have fi:decide (k<q.length)=false:=aJ a4;(have de:O (fY ((q.take k).map (fun y=>eU r y.1)) (aK d)=fY (q.map (fun y=>eU r y.1)) (aK d)):=by show _=_;rw[dU oM]);rw[de.o];generalize cK:fE r.x (fY (q.map (fun y=>eU r y.1)) (aK d))=G at *;have c8:O (fE r.x (fY (q.map (fun y=>eU r y.1)) (aK d))=G):=cK;clear cK;have dl:O _:=AN G wk;generalize (fY (q.map (fun y=>eU r y.1)) (aK d)).length=gl;go_wp2_with fail;refine Calls.mono dl.o ?_;rintro _ I ⟨rfl,rfl⟩;cases cG:cP G
     ·(have bb:O (i.map (·.1)=(((q.take (j+1)).map (fun y=>eU r y.1)).map (sX r (q.map (fun y=>eU r y.1)))).flatten):=by show _=_;rw[bd.o,aS.o];unfold uU;rw[c8.o,cG,if_neg dE,jM];exact aV.o);go_wp2_with fail;go_roundw;(case rel=>exact⟨j+1,i,aF,gN,bI aj.o Y.o,bb.o,fun p M=>bI (b1.o p M) Y.o,oM,X.o.trans (Y.o.mono X.o.size)⟩);case measure=>exact mI
     (have db:O (sX r (q.map (fun y=>eU r y.1)) (eU r y.1)=[(⟨r.z,aK d++[G]⟩:aN)]):=by show _=_;rw[aS.o];unfold uU;rw[c8.o,cG,if_pos rfl]);go_upto_region 23 with fail;have di:O (I.ownsRow D.heap.size 55 2 (.slice ao i.length co) i.length (i.map dW).flatten):=bI aj.o Y.o;have dp:O (∀p,p∈i->I.ownsRow D.heap.size 3 1 p.2 p.1.args.length (p.1.args.map (Value.int .i64))):=fun p M=>bI (b1.o p M) Y.o;have b9:O (Below D.heap.size D I):=X.o.trans (Y.o.mono X.o.size);have d9:O (dM I (.slice (some ⟨ga,0,none⟩) m A) (aK d)):=aM bW.o Y.o;have er:=aB Y.o s0;(have aT:O ((aK d).length=m):=by show _=_;rw[xC,ai.o];rfl);obtain⟨T,ak⟩:∃T,O (T=I.heap.size):=⟨_,rfl⟩;refine ZC (Jh (.slice ao i.length co) (.slice (some ⟨ga,0,none⟩) (m+1) A) (.slice (some ⟨ga,0,none⟩) m A) RB m r.z G T (aK d)) (aK7 G T (aK d)) 13 10 aP0 dE dE kR kR kR kR (aI7 (.slice ao i.length co) (.slice (some ⟨ga,0,none⟩) (m+1) A) (.slice (some ⟨ga,0,none⟩) m A) RB m r.z G T (aK d)) (aI8 G T (aK d)) (fun t v w w' he _ h=>aFP (.slice ao i.length co) (.slice (some ⟨ga,0,none⟩) (m+1) A) (.slice (some ⟨ga,0,none⟩) m A) RB m r.z G T (aK d) t v w w' he h) ?hopD ?htailD;case hopD=>refine xK.cons (fun a s h hO=>by rw[if_neg dE];intro _;have e5:a.eval (.tmp 5)=(.slice ao i.length co:Value):=hO 5 dE;exact jC (.slice ao i.length co)) ?_;refine xK.cons (fun a s h hO=>by rw[if_neg dE];intro _;have e2:a.eval (.tmp 2)=(.pointer (some ⟨RB,0,none⟩):Value):=h.old 2;exact jC (.pointer (some ⟨RB,0,none⟩))) ?_;refine xK.cons (fun a s h hO=>by rw[if_neg dE];intro _;have ex:a.eval (.tmp 114)=(.pointer (some ⟨RB,0,none⟩):Value):=h.of 114;have c0:=aB h.u er;exact jC (.int .i64 r.z)) ?_;refine xK.cons (fun a s h hO=>by rw[if_neg dE];intro _;refine fC (v:=.slice (some ⟨s.heap.size,0,none⟩) 0 0) (w':=s.alloc (.cells #[] 3)) (bF rfl) ?_ (fun t ht=>by cases ht;exact⟨trivial,⟨_,rfl,lY s #[] 0 (by rw[ak.o];exact h.u.size) (bG _) rfl⟩⟩) ((aH _ _).alloc (aE _) _);have ec:=qM a;generalize a.eval=ev at *;clear h hO;go_simp) ?_;refine xK.cons (fun a s h hO=>by rw[if_neg dE];intro _;have e8:a.eval (.tmp 8)=(.slice (some ⟨ga,0,none⟩) (m+1) A:Value):=h.old 8;exact jC (.slice (some ⟨ga,0,none⟩) (m+1) A)) ?_;refine xK.cons (fun a s h hO=>by rw[if_neg dE];intro _;have e6:a.eval (.tmp 6)=(.int .i64 (m:Nat):Value):=h.old 6;exact jC (.int .i64 (m:Nat))) ?_;refine xK.cons (fun a s h hO=>by rw[if_neg dE];intro _;have ez:a.eval (.tmp 117)=(.slice (some ⟨ga,0,none⟩) (m+1) A:Value):=h.of 117;have eR:a.eval (.tmp 118)=(.int .i64 (m:Nat):Value):=h.of 118;have g0:(0:Int)<=(m:Int):=oM;have g8:(m:Int)<=(A:Int):=oM;exact jC (.slice (some ⟨ga,0,none⟩) m A)) ?_;refine xK.cons (fun a s h hO=>by rw[if_neg dE];intro J;obtain⟨bq,ci,cN⟩:∃b',a.eval (.tmp 116)=.slice (some ⟨b',0,none⟩) 0 0/\s.ownsRow T 3 1 (a.eval (.tmp 116)) 0 []:=(J kR).of 116 kR;have dy:a.eval (.tmp 119)=(.slice (some ⟨ga,0,none⟩) m A:Value):=h.of 119;rw[ci]at cN;refine aNJ (bF rfl) (.tmp 116) (.tmp 119) 22 rfl T 3 j3 _ 1 8 Tryz.underlying22 cu cw cx cE rfl dE bq ci cN ⟨ga,0,none⟩ m A _ dy (by rw[aP];have :=aT.o;omega) (aNG (aM d9.o h.u)) oM dE (by rw[ak.o];exact h.u.size) ?_;intro v9 w9 bm fe t ht;cases ht;refine⟨trivial,?_⟩;show w9.ownsRow T 3 1 v9 (aK d).length ((aK d).map (Value.int .i64));rw[aT.o];exact bm) ?_;refine xK.cons (fun a s h hO=>by rw[if_neg dE];intro _;have e9:a.eval (.tmp 9)=(.int .i64 G:Value):=h.old 9;exact jC (.int .i64 G)) ?_;refine xK.cons (fun a s h hO=>by rw[if_neg dE];intro _;have f0:a.eval (.tmp 121)=(.int .i64 G:Value):=h.of 121;refine fC (v:=.slice (some ⟨s.heap.size,0,none⟩) 1 1) (w':=s.alloc (.cells #[.int .i64 G] 3)) (bF rfl) ?_ (fun t ht=>by cases ht;exact⟨trivial,⟨_,rfl,aR s _⟩⟩) ((aH _ _).alloc (aE _) _);have ec:=qM a;generalize a.eval=ev at *;clear h hO;go_simp) ?_;refine xK.cons (fun a s h hO=>by rw[if_pos dE];intro J;refine⟨bF rfl,?_⟩;have cS:s.ownsRow T 3 1 (a.eval (.tmp 120)) (aK d).length ((aK d).map (Value.int .i64)):=J.of 120 kR;obtain⟨b',e4,b2⟩:∃b',a.eval (.tmp 122)=.slice (some ⟨b',0,none⟩) 1 1/\s.heap[b']?=some (.cells #[.int .i64 G] 3):=J.of 122 kR;(have cq:T<=s.heap.size:=by rw[ak.o];exact h.u.size);refine wU s (.tmp 120) (.tmp 122) 22 rfl T 3 j3 _ 1 8 Tryz.underlying22 cu cw cx cE rfl dE _ _ _ rfl cS ⟨b',0,none⟩ 1 1 (#[Value.int .i64 G]:Array Value).toList e4 rfl (zV b2) (fun u hu=>by simp only[List.mem_cons,List.not_mem_nil,or_false]at hu;subst hu;rfl) (by have :=aT.o;unfold maxLen;omega) (by have :=aT.o;omega) cq ?_;intro v9 w9 bm ap _;refine⟨v9,rfl,fun t ht=>?_,ap.size,ap.os,ap.tape,ap.output,ap.size,fun k S=>ap.block k (by rw[ak.o]at cq;omega) (fun e=>by have :=(cS.lt k e.symm).1;rw[ak.o]at this;omega)⟩;cases ht;show w9.ownsRow T 3 1 v9 ((aK d)++[G]).length (((aK d)++[G]).map (Value.int .i64));rw[bA,cB];exact bm) ?_;refine xK.cons (fun a s h hO=>by rw[if_neg dE];intro _;have ho:s.ownsRow T 3 1 (a.eval (.tmp 123)) ((aK d)++[G]).length (((aK d)++[G]).map (Value.int .i64)):=h.of 123;have ey:a.eval (.tmp 115)=(.int .i64 r.z:Value):=h.of 115;obtain⟨a9,c9,dz⟩:=bJ ho;rw[dz]at ho;refine fC (v:=.agg #[.int .i64 r.z, .slice a9 ((aK d)++[G]).length c9]) (w':=s) (bF rfl) ?_ (fun t ht=>by cases ht;exact⟨⟨_,rfl,ho⟩,trivial⟩) (aH _ _);have ec:=qM a;generalize a.eval=ev at *;clear h hO;go_simp) ?_;refine xK.cons (fun a s h hO=>by rw[if_neg dE];intro _;obtain⟨u,f1,ho⟩:∃u,a.eval (.tmp 124)=.agg #[.int .i64 r.z,u]/\s.ownsRow T 3 1 u ((aK d)++[G]).length (((aK d)++[G]).map (Value.int .i64)):=h.of 124;obtain⟨a9,c9,rfl⟩:=bJ ho;refine fC (v:=.slice (some ⟨s.heap.size,0,none⟩) 1 1) (w':=s.alloc (.cells #[.int .i64 r.z, .slice a9 ((aK d)++[G]).length c9] 55)) (bF rfl) ?_ (fun t ht=>by cases ht;exact⟨⟨_,_,rfl,aR s _,ho.alloc _⟩,trivial⟩) ((aH _ _).alloc (aE _) _);have ec:=qM a;generalize a.eval=ev at *;clear h hO;go_simp) ?_;exact xK.nil
     case htailD=>
      rintro⟨V,E⟩ s F _;have ch:Act.eval ⟨V,E⟩ (.tmp 113)=(.slice ao i.length co):=F.all 0 _ 113 dE rfl rfl;obtain⟨b',u9,cj,b2,bn⟩:∃b' u,Act.eval ⟨V,E⟩ (.tmp 125)=.slice (some ⟨b',0,none⟩) 1 1/\s.heap[b']?=some (.cells #[.int .i64 r.z,u] 55)/\s.ownsRow T 3 1 u (aK d++[G]).length ((aK d++[G]).map (Value.int .i64)):=F.all 12 _ 125 dE rfl rfl;have b6:=bI di.o F.u;have b5:Below D.heap.size D s:=b9.o.trans (F.u.mono b9.o.size);(have eg:D.heap.size<=T:=by rw[ak.o];exact b9.o.size);have cV:D.heap.size<=s.heap.size:=b5.size;have a5:V.size=129:=F.size;obtain⟨a9,c9,ck⟩:=bJ bn;show wpOps Tryz.prog _ _ [13,14] _ _;rw[iO];refine CA rfl (bF rfl) (wU s (.tmp 113) (.tmp 125) 27 rfl D.heap.size 55 i0 _ 2 32 Tryz.underlying27 hi d2 d3 d4 rfl dE (.slice ao i.length co) i.length _ ch b6 ⟨b',0,none⟩ 1 1 (#[Value.int .i64 r.z,u9]:Array Value).toList cj rfl (zV b2) ?h1D ?h63D ?hbyD cV ?_)
      case h1D=>
       intro u hu;simp only[List.mem_cons,List.not_mem_nil,or_false]at hu;rcases hu with rfl|rfl
       ·rfl
       rw[ck];rfl
      (case h63D=>unfold maxLen;omega);(case hbyD=>omega);intro fs ah bl bj _;obtain⟨Q,R,rfl⟩:=bJ bl;have cT:∀kQ,((.slice ao i.length co):Value).ownBlock=some kQ->D.heap.size<=kQ:=fun kQ S=>(b6.lt kQ S).1;have h3:∀(B':Nat)(l:List Int)(u:Value),s.ownsRow B' 3 1 u l.length (l.map (Value.int .i64))->ah.ownsRow B' 3 1 u l.length (l.map (Value.int .i64)):=fun B' l u hu=>gR hu (fun k c S=>(bj.block k (bP S) (fun e=>by have :=xJ b6 e.symm S;cases this)).trans S);have da:O (Below D.heap.size D ah):=b5.grown bj b5.size (fun kQ S=>cT kQ S);have dk:O (ah.ownsRow D.heap.size 3 1 u9 (aK d++[G]).length ((aK d++[G]).map (Value.int .i64))):=gL (h3 _ _ _ bn) eg;have dm:O (∀p,p∈i++[((⟨r.z,aK d++[G]⟩:aN),u9)]->ah.ownsRow D.heap.size 3 1 p.2 p.1.args.length (p.1.args.map (Value.int .i64))):=fun p M=>by
       rcases dP.mp M with M|M
       ·exact h3 _ _ _ (bI (dp.o p M) F.u)
       rcases cQ.mp M with rfl;exact dk.o
      (have dg:O (ah.ownsRow D.heap.size 55 2 (.slice Q (i.length+1) R) (i++[((⟨r.z,aK d++[G]⟩:aN),u9)]).length ((i++[((⟨r.z,aK d++[G]⟩:aN),u9)]).map dW).flatten):=by show World.ownsRow _ _ _ _ _ _ _;rw[bA,cB,fZ];exact bl);(have dj:O ((i++[((⟨r.z,aK d++[G]⟩:aN),u9)]).map (·.1)=(((q.take (j+1)).map (fun y=>eU r y.1)).map (sX r (q.map (fun y=>eU r y.1)))).flatten):=by show _=_;rw[bd.o,db.o,<-aV.o,cB];rfl);have e0:Act.eval (Act.put ⟨V,E⟩ (some 126) (.slice Q (i.length+1) R)) (.tmp 126)=(.slice Q (i.length+1) R):=iF (by show 126<V.size;omega);rw[iO];refine uM (v:=(.slice Q (i.length+1) R)) (w':=ah) rfl (bF rfl) ?_ ?_
      ·show Sem.run Tryz.prog (execOp (Act.eval (Act.put ⟨V,E⟩ (some 126) (.slice Q (i.length+1) R))) _) ah=_;generalize Act.eval (Act.put ⟨V,E⟩ (some 126) (.slice Q (i.length+1) R))=ev at *;clear F;go_simp
      (have af:∀t,t∉[113,114,115,116,117,118,119,120,121,122,123,124,125,126,5]->((V.setIfInBounds 126 (.slice Q (i.length+1) R)).setIfInBounds 5 (.slice Q (i.length+1) R)).getD t undef=_:=fun t ht=>by have hB:t≠126:=fun e=>ht (by rw[e];decide);have hC:t≠5:=fun e=>ht (by rw[e];decide);exact((gB (a:=Act.put ⟨V,E⟩ (some 126) (.slice Q (i.length+1) R)) hC).trans (gB (a:=⟨V,E⟩) hB)).trans (F.still t ht));(have ae:((V.setIfInBounds 126 (.slice Q (i.length+1) R)).setIfInBounds 5 (.slice Q (i.length+1) R)).size=129:=by simp[a5]);have h5:((V.setIfInBounds 126 (.slice Q (i.length+1) R)).setIfInBounds 5 (.slice Q (i.length+1) R)).getD 5 undef=(.slice Q (i.length+1) R):=iF (a:=Act.put ⟨V,E⟩ (some 126) (.slice Q (i.length+1) R)) (by rw[uJ];show 5<V.size;omega);obtain rfl:E=[]:=F.defers;clear F ch cj b2 bn b6 b5 cV a5 ck bl bj cT h3 e0;show Exit.inBlock 1 (Exit.then _ _) Exit.normal ⟨(V.setIfInBounds 126 (.slice Q (i.length+1) R)).setIfInBounds 5 (.slice Q (i.length+1) R),[]⟩ _;generalize (V.setIfInBounds 126 (.slice Q (i.length+1) R)).setIfInBounds 5 (.slice Q (i.length+1) R)=tm at *;obtain⟨fQ,hQ,a3⟩:=pQ [113,114,115,116,117,118,119,120,121,122,123,124,125,126,5] tm _ (ae.trans rF) af;clear ae af;simp only[List.foldl_cons,List.foldl_nil,(hQ 5).trans h5]at a3;clear h5 hQ;simp only[List.setIfInBounds_toArray,List.set_cons_zero,List.set_cons_succ]at a3;subst a3;go_wp2_with fail;go_roundw;(case rel=>exact⟨j+1,_,aF,gN,dg.o,dj.o,dm.o,by rw[bA];exact zX cU,da.o⟩);case measure=>exact mI
  have fh:decide (j<q.length)=false:=aJ aF;(have dc:O (i.map (·.1)=mQ r (q.map (·.1))):=by show _=_;(have h9:q.map (fun y=>eU r y.1)=(q.map (·.1)).map (eU r):=by rw[SU];rfl);rw[aV.o,dU oM,h9,aAH]);have cm:tG D.heap.size wo (.slice ao i.length co) (i.map (·.1)):=⟨i,rfl,HO.o,au.o⟩;have HS:O _:=YD (fun x=>wo.ownsRow D.heap.size 3 1 x.2 x.1.args.length (x.1.args.map (Value.int .i64))) (i.map (·.1)) _ wo wo (fun b fr cg k hv S u hc=>aSF HO.o au.o hv (by rw[aP]at S;exact S) hc) (aH _ _) cm.toV (by rw[aP];omega) (fun f ek=>by
   obtain⟨x,hx,rfl⟩:=cR.mp ek;have h9:=au.o x hx;show _<=_;rcases h9.2 with⟨_,h0⟩|⟨_,cg,_,_,_,_,J,h2,_⟩
   ·omega
   exact bH J (bH h2 (by unfold maxLen;decide)))
  (have dq:O (dR (i.map (·.1))=mP r (q.map (·.1))):=by show _=_;rw[dc.o];rfl);clear cm;go_wp2_with fail;refine Calls.mono HS.o ?_;rintro _ I ⟨v',rfl,⟨q6,be,bf,cl⟩,am⟩;rw[dq.o]at be;have eb:Below w.heap.size w I:=aq.o.trans ((a1.o.trans (am.mono a1.o.size)).mono aq.o.size);have ed:tG w.heap.size I v' (mP r (q.map (·.1))):=⟨q6,be,gL bf (bH aq.o.size a1.o.size),fun p M=>bI (gL (cl p M).2 aq.o.size) am⟩;obtain⟨a9,c9,rfl⟩:=bJ bf;clear be bf cl am;go_wp2_with fail;go_ret;exact⟨_,rfl,ed,eb⟩
theorem TF{p:bC}{i:Int}{l:List aN}(h:tI p i l):(gP (dR l) (gV p i)).Perm (qF (dR l) (gV p i)):=
 aAV (gC h.c h.set) (gF h.set) (wK l)
theorem aAL(r:bB)(W:List (List Int)):(mP r W).length<=W.length:=by
 unfold mP;have b:=nW (l₂:=mQ r W) (wK (mQ r W)) fun f d=>iK.mp d;refine bH b ?_;unfold mQ;split
 ·rw[aP];exact aE _
 refine bH (yN _ _) ?_;rw[aP];exact aE _
theorem Vb(p:bC)(i:Int)(facts:List aN)(k g j:Value)(w:World)(b:tI p i facts)(y:fT w k (gV p i).p)(r:pI w g (gV p i).body)(s:dA w j facts):
 Calls Tryz.prog 17 #[lP (gV p i) k g,j] w fun e n=>∃v q,e=.returned (.tuple #[v, .bool (uA facts (gV p i))])/\vC w.heap.size n v q/\q.map (·.1)=pC facts (gV p i)/\Below w.heap.size w n:=by
 have d:=b.c;have m:=gC d b.set
 exact aIE facts (gV p i) k g j w y r s b.len (fun f z=>by have :=xV b.ok (b.fs f z);unfold fW;omega) (gV p i).vars.toNat (by have :=d.v0;omega) (by have :=d.v8;omega) d.b4 (gF b.set)
  (fun l A=>RZ b.ok d b.set A) (yX m (wK facts)) (fun x B=>((GI m x).mp B).1)
theorem aJ6{p:bC}{i:Int}{facts:List aN}(d:tI p i facts){x:List Int}(b:x∈pC facts (gV p i)):mV (dR facts) (gV p i) x:=by
 unfold pC at b;split at b
 ·exact(GI (gC d.c d.set) x).mp (xT.mp b)
 cases b
theorem Xj{p:bC}{i:Int}{facts:List aN}(b:tI p i facts):(pC facts (gV p i)).length<=2000:=by
 unfold pC;split
 ·rename_i h;rw[(AS (yX (gC b.c b.set) (wK facts))).length_eq];exact eL h
 exact bG _
theorem Ef(p:bC)(i:Int)(facts:List aN)(q:List Nv)(k j l:Value)(B:Nat)(w:World)(d:tI p i facts)(x:fT w k (gV p i).p)(s:pI w j (gV p i).body)(v:vC B w l q)(g:q.map (·.1)=pC facts (gV p i)):
 Calls Tryz.prog 18 #[lP (gV p i) k j,l] w fun e r=>∃n,e=.returned n/\tG w.heap.size r n (mP (gV p i) (pC facts (gV p i)))/\Below w.heap.size w r:=by
 have b:=d.c;have m:∀y,y∈q->mV (dR facts) (gV p i) y.1:=fun y f=>aJ6 d (by rw[<-g];exact sP f);(have z:q.length<=2000:=by have :=Xj d;rw[<-g,aP]at this;exact this);rw[<-g];exact aDK (gV p i) q k j l B w x s v z (JV d.ok b) (fun y f=>by rw[(m y f).1];exact JW b) (fun y f=>(JR b d.set (m y f)).nm) ⟨b.f0,b.f4⟩ (fun h=>(b.ff h).1)
theorem RN(p:bC)(va vn vr:Value)(l:Int)(args:List Int)(v:Value)(w:World)(A:dM w va p.g)(X:p.g.length<=9223372036854775807)(Q:dM w v args)(Z:args.length<=9223372036854775807):
 Calls Tryz.prog 43 #[eN va vn vr,aK4 l v] w fun e V=>e=.returned (.int .i64 (iL p l args))/\Below w.heap.size w V:=by
 obtain⟨M,s,rfl,A⟩:=A;obtain⟨n,q,rfl,H⟩:=Q;have f:O (iL p l args=if lG p.g l then iD (if(args.length:Int)≠bM p.g l.toNat then 1 else 0) (if args.all cP then 0 else 3)else 5):=rfl;have d:=RB.start w (.cells #[.slice M p.g.length s,vn,vr] 26) (.cells #[.int .i64 l, .slice n args.length q] 55)
 go_enter Tryz.func43,Tryz.ntmps43
 go_wp2_with fail;refine(AE _ _ _ _).mono ?_;rintro e w2 ⟨m,U⟩;subst U;cases x:lG p.g l
 ·have B:dG l 0 ((p.g.length:Int)-1)=false:=x;rw[B]at m;subst m;(have HV:O (iL p l args=5):=by show _=_;rw[f.o,x];rfl);clear f A B;go_wp2_with fail;go_ret;exact⟨rV,d.j⟩
 have B:dG l 0 ((p.g.length:Int)-1)=true:=x;rw[B]at m;subst m;clear B;obtain⟨k,rfl,S⟩:=TV x;obtain⟨b,r,rfl,C⟩:=qY A k S;have T:=aB d.j C;rw[x,if_pos rfl,fJ]at f;clear C A;go_upto_region 3 with fail;generalize (w.alloc (.cells #[.slice (some ⟨b,r,none⟩) p.g.length s,vn,vr] 26)).alloc (.cells #[.int .i64 k, .slice n args.length q] 55)=F at *;(have N:F.cell? ⟨w.heap.size,0,none⟩=some (.slice (some ⟨b,r,none⟩) p.g.length s):=cH d.b1);(have P:F.cell? ⟨w.heap.size+1,0,none⟩=some (.int .i64 k):=cH d.b2);(have I:F.cell? ⟨w.heap.size+1,1,none⟩=some (.slice n args.length q):=cH d.b2);cases J:((args.length:Int) != bM p.g k);rotate_left
 ·(have z:¬(args.length:Int)=bM p.g k:=by simpa using J);(have HV:O (iL p k args=1):=by show _=_;rw[f.o,if_pos z];rfl);clear f z;go_region_held3 (fun y=>y.cell? ⟨w.heap.size,0,none⟩=some (.slice (some ⟨b,r,none⟩) p.g.length s)/\y.cell? ⟨w.heap.size+1,0,none⟩=some (.int .i64 k)/\y.cell? ⟨w.heap.size+1,1,none⟩=some (.slice n args.length q)/\y.cell? ⟨b,r+k,none⟩=some (.int .i64 (bM p.g k))) (go_keep) (fail);have R:=d.j.drew;go_wp2_with fail;go_ret;exact⟨rV,R⟩
 (have z:(args.length:Int)=bM p.g k:=by simpa using J);rw[if_neg (by simp[z]),eY]at f;clear z;go_region_held3 (fun y=>y.cell? ⟨w.heap.size,0,none⟩=some (.slice (some ⟨b,r,none⟩) p.g.length s)/\y.cell? ⟨w.heap.size+1,0,none⟩=some (.int .i64 k)/\y.cell? ⟨w.heap.size+1,1,none⟩=some (.slice n args.length q)/\y.cell? ⟨b,r+k,none⟩=some (.int .i64 (bM p.g k))) (go_keep) (fail);have d:=d.drew;clear N P I T;generalize F.drew=wd at *;go_wp2_with fail;go_loopw [5] (fun i wr=>∃j:Nat,j<=args.length/\i=.int .i64 j/\RB w (.cells #[.slice (some ⟨b,r,none⟩) p.g.length s,vn,vr] 26) (.cells #[.int .i64 k, .slice n args.length q] 55) wr/\args.all cP=(args.drop j).all cP) (fun i _=>args.length-(intOf i).toNat);case atStart=>exact⟨0,bG _,rfl,d,rfl⟩
 case round=>
  clear d;obtain⟨j,Y,rfl,d,K⟩:=hrel;have G:O _:=K;clear K;(have I:wr.cell? ⟨w.heap.size+1,1,none⟩=some (.slice n args.length q):=cH d.b2);by_cases L:j<args.length
  ·obtain⟨W,a0,rfl,C⟩:=qY H j L;have q0:=aB d.j C;have D:O (args.all cP=(cP (bM args j)&&(args.drop (j+1)).all cP)):=G.o.trans (EA _ _ _ j L);clear C H G;generalize bM args j=a at *;go_wp2_with fail;refine(AN a _).mono ?_;rintro e w3 ⟨m,rfl⟩;cases E:cP a
   ·rw[E]at m;subst m;(have HV:O (iL p k args=3):=by show _=_;rw[f.o,D.o,E];rfl);clear f D;go_wp2_with fail;go_ret;exact⟨rV,d.j⟩
   rw[E]at m;subst m;(have HV:O (args.all cP=(args.drop (j+1)).all cP):=by show _=_;rw[D.o,E];rfl);clear D;go_wp2_with fail;go_roundw;(case rel=>exact⟨j+1,oM,gN,d,HV.o⟩);case measure=>exact mI
  (have HV:O (iL p k args=0):=by show _=_;rw[f.o,G.o,bD oM];rfl);clear f H;go_wp2_with fail;go_ret;exact⟨rV,d.j⟩
end Go.Proofs.YthenjegmigeieaaGreat
