/- Own texts, one behind the other (part 6). -/
import Derived.Test.YthenjegmigeieaaGreatBundleE
import Derived.Test.YthenjegmigeieaaGreatRows
import Derived.Laws.AppendOwnNone
import Derived.Lib.AppendZeros
import Derived.Shelf.SlSortCmp.NoneTotal
set_option maxRecDepth 100000
set_option maxHeartbeats 8000000
namespace Go.Proofs.YthenjegmigeieaaGreat
open Go.RowKit
theorem aPO{w:World}{ao:Option Addr}{l:List aN}(h:lJ w ao l)(H:∀f,f∈l->fW f):
 ∃q:List Fv,q.map (·.1)=l/\(∀p,p∈q->DN w p)/\(l=[]\/∃b g,ao=some ⟨b,g,none⟩/\∀j u,((q.map dW).flatten)[j]?=some u->w.cell? ⟨b,g+j,none⟩=some u):=by
 rcases h with rfl|⟨b,g,rfl,A⟩
 ·exact⟨[],rfl,fun _ r=>absurd r sI, .inl rfl⟩
 have D:∀i,i<l.length->∃v,w.cell? ⟨b,g+i*2+1,none⟩=some v/\dM w v (aZ l i).args:=fun i d=>(A i d).2;(have G:∃V:Nat->Value,∀i,i<l.length->w.cell? ⟨b,g+i*2+1,none⟩=some (V i)/\dM w (V i) (aZ l i).args:=by refine⟨fun i=>(w.cell? ⟨b,g+i*2+1,none⟩).getD (.slice none 0 0),fun i d=>?_⟩;obtain⟨v,E,k⟩:=D i d;simp only[E,Option.getD_some];exact⟨trivial,k⟩);obtain⟨V,y⟩:=G;refine⟨(List.range l.length).map fun i=>(aZ l i,V i),?_,?_, .inr ⟨b,g,rfl,fun j u e=>?_⟩⟩
 ·apply jU;intro i;rw[cY,cY];by_cases d:i<l.length
  ·rw[nX d,CX l i d];rfl
  rw[cZ (by simpa using d),cZ (by simpa using d)];rfl
 ·intro p r;obtain⟨i,d,rfl⟩:=cR.mp r;have d:i<l.length:=jV.mp d;exact⟨(y i d).2,H _ (mT l i d)⟩
 have B:j<((List.range l.length).map fun i=>(aZ l i,V i)).length*2:=by
  rcases jW j (((List.range l.length).map fun i=>(aZ l i,V i)).length*2)with k|k
  ·exact k
  rw[cZ (by rw[pE];exact k)]at e;cases e
 obtain⟨x,C,I⟩:=JE _ j B;rw[I]at e;(have n:j/2<l.length:=by(have F:((List.range l.length).map fun i=>(aZ l i,V i)).length=l.length:=by simp);rw[F]at B;omega);rw[cY,nX n]at C;(have J:(aZ l (j/2),V (j/2))=x:=by simpa using C);subst J;rcases SW j with m|m
 ·rw[m]at e;(have s:Value.int .i64 (aZ l (j/2)).z=u:=by simpa[dW]using e);rw[<-s,<-(A (j/2) n).1]
  congr 2
  omega
 rw[m]at e;(have s:V (j/2)=u:=by simpa[dW]using e);rw[<-s,<-(y (j/2) n).1]
 congr 2
 omega
theorem SN{w w':World}{ao:Option Addr}{l:List aN}(h:lJ w ao l)(d:Below w.heap.size w w'):lJ w' ao l:=by
 rcases h with h|⟨b,f,rfl,h⟩
 ·exact .inl h
 exact .inr ⟨b,f,rfl,fun i e=>MU (h i e) d⟩
def aLL(W:World)(q:List Fv)(l:List aN)(v':Value)(w':World)(b:List Fv):Prop:=
 b.map (·.1)=l/\(∀p,p∈b->DN W p)/\w'.ownsRow W.heap.size 55 2 v' (q++b).length ((q++b).map dW).flatten/\Below W.heap.size W w'
theorem wY{W w:World}{A:Array Oper}{rest:List Oper}{o:Oper}{a:Act}{Q:Exit->Act->World->Prop}(L:o.guard=none)(s x:Operand)
 (P:o.op=.call {callee:=.builtin .append,args:=#[s,x],argTypes:=#[27,27]}) (i:Below W.heap.size W w) (v:Value) (n:Nat) (q:List Fv) (R:a.eval s=v) (N:n=q.length)
 (y:w.ownsRow W.heap.size 55 2 v n (q.map dW).flatten) (ao:Option Addr) (D:Nat) (l:List aN) (S:a.eval x=.slice ao l.length D) (V:ao=none->D=0) (K:lJ W ao l) (Y:∀f,f∈l->fW f)
 (hb:n+l.length<=4194304)
 (h:∀B C d,aLL W q l B C d->wpList Tryz.prog A Q rest (a.put o.dst B) C):wpList Tryz.prog A Q (o::rest) a w:=by
 obtain⟨T,M,a2,a3,a4⟩:=iT vK;obtain⟨d,E,F,U⟩:=aPO K Y;(have r:d.length=l.length:=by rw[<-E,aP]);(have a5:l=[]->ao=none->wpList Tryz.prog A Q (o::rest) a w:=by intro g m;have J:d=[]:=eB (by rw[r,g];rfl);subst N;refine BB L s x 27 P W.heap.size 55 T 2 Tryz.underlying27 M v q.length _ R y (by rw[S,g,m,V m];rfl) ?_;refine h v w d ⟨E,F,?_,i⟩;rw[J,jM];exact y);have a7:∀e,ao=some e->(∀j u,((d.map dW).flatten)[j]?=some u->w.cell? (e.add j)=some u)->wpList Tryz.prog A Q (o::rest) a w:=by
  intro e m X;refine fX w L s x 27 P W.heap.size 55 T _ 2 32 Tryz.underlying27 M a2 a3 a4 rfl dE v n _ R y e l.length D ((d.map dW).flatten) (by rw[S,m]) (by rw[pE,r]) X ?_ (by unfold maxLen;omega) oM i.size ?_
  ·intro u z;obtain⟨c,H,z⟩:=wT.mp z;obtain⟨p,hp,rfl⟩:=cR.mp H;obtain⟨a9,c9,a1⟩:=Iz (F p hp);simp[dW,a1]at z;rcases z with rfl|rfl<;>rfl
  intro B C a0 Z _;refine h B C d ⟨E,F,?_,i.grown Z i.size (fun k hk=>(y.lt k hk).1)⟩;rw[bA,cB,fZ,r,<-N];exact a0
 cases ao with
 |none=>
  rcases K with g|⟨b,a6,G,_⟩
  ·exact a5 g rfl
  cases G
 |some e=>
  refine a7 e rfl ?_;intro j u I;rcases U with g|⟨b,a6,G,H⟩
  ·have J:d=[]:=eB (by rw[r,g];rfl);rw[J]at I;simp at I
  rw[Option.some.inj G,Addr.add_lit];exact aB i (H j u I)
theorem aEW(l m:List aN)(v u:Value)(w:World)(hV:dA w v l)(hU:dA w u m)(hl:l.length<=1048576)(hm:m.length<=1048576)(d:∀f,f∈l->fW f)(hg:∀f,f∈m->fW f):
 Calls Tryz.prog 51 #[v,u] w fun e V=>∃U,e=.returned U/\dA V U (mO l m)/\Below w.heap.size w V:=by
 obtain⟨s,G,rfl,Q,M⟩:=hV;obtain⟨x,H,rfl,R,N⟩:=hU;have q:O (lJ w s l/\(s=none->G=0)):=⟨M,Q.2⟩;have r:O (lJ w x m/\(x=none->H=0)):=⟨N,R.2⟩;have n:O ((∀f,f∈l->fW f)/\∀f,f∈m->fW f):=⟨d,hg⟩;clear M N Q R d hg;have P:Below w.heap.size w (w.alloc (.cells #[] 55)):=(aH _ _).alloc (aE _) _
 go_enter Tryz.func51,Tryz.ntmps51
 go_wp2_with(at_builtin;refine wY rfl (.tmp 5) (.tmp 6) rfl P _ 0 [] rfl rfl (lY w #[] 0 (aE _) (bG _) sI) s G l rfl q.o.2 q.o.1 n.o.1 ?c1 ?_);(case c1=>omega);intro v1 W b g;obtain⟨I,o1,j,a0⟩:=id g;obtain⟨E,F,rfl⟩:=bJ j;(have Y:O (b.length=l.length):=by show _=_;rw[<-I,aP]);have j:W.ownsRow w.heap.size 55 2 (.slice E b.length F) b.length (b.map dW).flatten:=j;have g:O (aLL w [] l (.slice E b.length F) W b):=g;clear I o1;go_wp2_with(at_builtin;refine wY rfl (.tmp 7) (.tmp 8) rfl a0 _ b.length b rfl rfl j x H m rfl r.o.2 r.o.1 n.o.2 ?c1 ?_);(case c1=>have :=Y.o;omega);intro v2 X C D;obtain⟨J,T,B,z⟩:=id D;have i:O (dA X v2 (l++m)/\(l++m).length<=2097152/\∀f,f∈l++m->fW f):=by
  refine⟨?_,by rw[bA];omega,fun f d=>?_⟩
  ·have K:=AL B (fun p k=>by
    rcases dP.mp k with k|k
    ·exact g.o.2.1 p k
    exact T p k) z
   rw[cB,g.o.1,J]at K;exact K
  rcases dP.mp d with d|d
  ·exact n.o.1 f d
  exact n.o.2 f d
 obtain⟨a2,c2,rfl⟩:=bJ B;(have i:O (dA X (.slice a2 (b.length+C.length) c2) (l++m)/\(l++m).length<=2097152/\∀f,f∈l++m->fW f):=by have L:=i.o;rw[show(b++C).length=b.length+C.length from bA]at L;exact L);clear J T B j g D q r P;go_wp2_with fail;refine Calls.mono (YC (l++m) _ _ i.o.1 i.o.2.1 i.o.2.2) ?_;rintro e w3 ⟨v3,rfl,y,A⟩;obtain⟨q3,_,S,_⟩:=id y;obtain⟨a3,c3,rfl⟩:=bJ S;have Z:O (dA w3 (.slice a3 q3.length c3) (mO l m)):=y.toV A;have a4:=z.trans (A.mono z.size);clear S y A i;go_wp2_with fail;go_ret;exact⟨_,rfl,Z.o,a4⟩
theorem aPX(w:World)(n:Nat)(z:n<=4194304):
 Calls Tryz.prog 180 #[.slice none 0 0, .int .i64 n] w fun e g=>∃f,e=.returned f/\g.ownsRow w.heap.size 55 2 f 0 []/\Below w.heap.size w g:=by
 obtain⟨x,p,r,s,v⟩:=iT vK;by_cases k:n=0
 ·subst k
  go_enter Tryz.func180,Tryz.ntmps180
  go_wp2_with fail;go_ret;exact⟨_,rfl,eD _ _ _ _,aH _ _⟩
 have q:0<n:=oM;have j:O _:=Lib.run_append_nil_zeros w 27 3 27 55 x _ .i64 .i64 Tryz.underlying27 Tryz.underlying3 p r n q (by rw[s];decide) oM (by rw[v];omega)
 go_enter Tryz.func180,Tryz.ntmps180
 go_wp2_with(at_builtin;refine Lib.wpList_append_run _ rfl _ _ 27 3 rfl _ _ rfl rfl _ _ j.o ?_);(have i:O (∀b:Array Value,b.size=grownCap w n 0 55*2->(w.alloc (.cells b 55)).drew.ownsRow w.heap.size 55 2 (.slice (some ⟨w.heap.size,0,none⟩) 0 (grownCap w n 0 55)) 0 []/\Below w.heap.size w (w.alloc (.cells b 55)).drew):=by intro b m;have l:=lY (base:=w.heap.size) (e:=55) (size:=2) w b (grownCap w n 0 55) (aE _) (grownCap_le_maxLen _ _ _ _ (by unfold maxLen;omega)) m;have d:Below w.heap.size w (w.alloc (.cells b 55)):=(aH _ _).alloc (aE _) _;exact⟨l,d.os,d.tape,d.output,d.size,d.block⟩);have y:=grownCap_ge w n 0 55;go_ret;refine⟨_,rfl,i.o _ ?_⟩;simp[Builtin.zeroCells];omega
theorem aIW(l m:List aN)(b:Nat)(ao q:Option Addr)(x y:Nat)(w:World)(R:lJ w ao l/\(ao=none->x=0))(S:lJ w q m/\(q=none->y=0))(B:w.cell? ⟨b,0,none⟩=some (.slice ao l.length x))(C:w.cell? ⟨b,1,none⟩=some (.slice q m.length y))(hl:l.length<=1048576)(hm:m.length<=1048576)(U:∀f,f∈l->fW f)(hg:∀f,f∈m->fW f):
 Calls Tryz.prog 138 #[.slice (some ⟨b,0,none⟩) 2 2] w fun e Y=>∃X,e=.returned X/\dA Y X (l++m)/\Below w.heap.size w Y:=by
 have I:O (lJ w ao l/\(ao=none->x=0)):=R;have J:O (lJ w q m/\(q=none->y=0)):=S;have L:O ((∀f,f∈l->fW f)/\∀f,f∈m->fW f):=⟨U,hg⟩;clear R S U hg
 go_enter Tryz.func138,Tryz.ntmps138
 go_wp2_with fail;go_loopw [3,11] (fun G i wr=>w=wr/\((i=.int .i64 (0:Nat)/\G=.int .i64 0)\/(i=.int .i64 (1:Nat)/\G=.int .i64 (l.length:Nat))\/(i=.int .i64 (2:Nat)/\G=.int .i64 ((l.length+m.length:Nat):Int)))) (fun _ i _=>2-(intOf i).toNat);case atStart=>exact⟨rfl, .inl ⟨rfl,rfl⟩⟩
 case round=>
  obtain⟨rfl,⟨rfl,rfl⟩|⟨rfl,rfl⟩|⟨rfl,rfl⟩⟩:=hrel
  ·go_wp2_with fail;go_roundw;(case rel=>exact⟨by trivial, .inr (.inl ⟨by first|rfl|go_num,by first|rfl|go_num|simp⟩)⟩);case measure=>simp[intOf]
  ·go_wp2_with fail;go_roundw;(case rel=>exact⟨by trivial, .inr (.inr ⟨by first|rfl|go_num,by first|rfl|go_num|simp⟩)⟩);case measure=>simp[intOf]
  go_wp2_with fail;refine Calls.mono (aPX _ (l.length+m.length) oM) ?_;rintro e w1 ⟨v1,rfl,V,D⟩;obtain⟨a1,c1,rfl⟩:=bJ V;have z:=aB D B;have A:=aB D C;go_wp2_with fail;clear z A;go_loopw [6,27] (fun F i wr=>(i=.int .i64 (0:Nat)/\wr.ownsRow w.heap.size 55 2 F 0 []/\Below w.heap.size w wr)\/(i=.int .i64 (1:Nat)/\∃d,aLL w [] l F wr d)\/(i=.int .i64 (2:Nat)/\∃d j,d.map (·.1)=l/\(∀p,p∈d->DN w p)/\aLL w d m F wr j)) (fun _ i _=>2-(intOf i).toNat);case atStart=>exact .inl ⟨rfl,V,D⟩
  case round=>
   rcases hrel with⟨rfl,n,k⟩|⟨rfl,d,Z⟩|⟨rfl,d,j,r,v,g⟩
   ·have z:=aB k B;have A:=aB k C;obtain⟨M,N,rfl⟩:=bJ n;go_wp2_with(at_builtin;refine wY rfl (.tmp 31) (.tmp 32) rfl k _ 0 [] rfl rfl n ao x l rfl I.o.2 I.o.1 L.o.1 ?c1 ?_);(case c1=>omega);intro v2 H j g;obtain⟨a3,c3,rfl⟩:=bJ g.2.2.1;have g:O (aLL w [] l _ H j):=g;go_wp2_with fail;go_roundw;(case rel=>exact .inr (.inl ⟨by first|rfl|go_num,j,g.o⟩));case measure=>simp[intOf]
   ·obtain⟨r,v,n,k⟩:=Z;have n:wr.ownsRow w.heap.size 55 2 _ d.length (d.map dW).flatten:=n;have z:=aB k B;have A:=aB k C;obtain⟨M,N,rfl⟩:=bJ n;(have a4:O (d.length=l.length):=by show _=_;rw[<-r,aP]);have K:O (d.map (·.1)=l/\(∀p,p∈d->DN w p)):=⟨r,v⟩;clear r v;go_wp2_with(at_builtin;refine wY rfl (.tmp 31) (.tmp 32) rfl k _ d.length d rfl rfl n q y m rfl J.o.2 J.o.1 L.o.2 ?c1 ?_);(case c1=>have :=a4.o;omega);intro v2 H j g;obtain⟨a3,c3,rfl⟩:=bJ g.2.2.1;have g:O (aLL w d m _ H j):=g;go_wp2_with fail;go_roundw;(case rel=>exact .inr (.inr ⟨by first|rfl|go_num,d,j,K.o.1,K.o.2,g.o⟩));case measure=>simp[intOf]
   obtain⟨P,W,E,T⟩:=g;have a0:O (dA wr u6 (l++m)):=by
    have Q:=AL E (fun p s=>by
     rcases dP.mp s with s|s
     ·exact v p s
     exact W p s) T
    rw[cB,r,P]at Q;exact Q
   obtain⟨M,N,rfl⟩:=bJ E;clear r P v W E;go_wp2_with fail;go_ret;exact⟨_,rfl,a0.o,T⟩
theorem aE8(w:World)(C:Array Value)(t:TypeId)(j:Nat):(w.alloc (.cells C t)).cell? ⟨w.heap.size,j,none⟩=C[j]?:=World.cell?_alloc_mark w C t _ j
theorem aMD(l m:List aN)(v u:Value)(w:World)(M:dA w v l)(L:dA w u m)(P:l.length<=1048576)(Q:m.length<=1048576)(z:∀f,f∈l->f.args.length<=1048576)(hg:∀f,f∈m->f.args.length<=1048576):
 Calls Tryz.prog 95 #[v,u] w fun e G=>∃F,e=.returned F/\dA G F (mO l m)/\Below w.heap.size w G:=by
 obtain⟨d,r,rfl,j,A⟩:=M;obtain⟨g,s,rfl,D,B⟩:=L;have k:O (lJ w d l/\(d=none->r=0)):=⟨A,j.2⟩;have n:O (lJ w g m/\(g=none->s=0)):=⟨B,D.2⟩;have p:O ((∀f,f∈l->fW f)/\∀f,f∈m->fW f):=⟨fun f h=>bH (z f h) dE,fun f h=>bH (hg f h) dE⟩;have q:O ((l++m).length<=2097152/\∀f,f∈l++m->f.args.length<=1048576):=by
  refine⟨by rw[bA];omega,fun f h=>?_⟩;rcases dP.mp h with h|h
  ·exact z f h
  exact hg f h
 clear A B j D z hg
 go_enter Tryz.func95,Tryz.ntmps95
 go_wp2_with fail;have b:Below w.heap.size w (w.alloc (Obj.cells #[Value.slice d l.length r,Value.slice g m.length s] 27)):=(aH _ _).alloc (aE _) _;refine Calls.mono (aIW l m w.heap.size d g r s _ ⟨SN k.o.1 b,k.o.2⟩ ⟨SN n.o.1 b,n.o.2⟩ (aE8 w _ 27 0) (aE8 w _ 27 1) P Q p.o.1 p.o.2) ?_;rintro e S ⟨X,rfl,y,i⟩;have i:=b.trans (i.mono (by have :=b.size;omega));clear b k n;obtain⟨I,J,rfl,j,K⟩:=id y;have HV:O (dA S (.slice I (l++m).length J) (l++m)):=y;rw[bA]at HV;clear y j K p;go_wp2_with fail;refine Calls.mono (ME (l++m) _ _ HV.o q.o.1 q.o.2) ?_;rintro e T ⟨R,rfl,x,C⟩;have H:O (dA T R (mO l m)):=x.toV;obtain⟨W,_,E,_⟩:=id x;obtain⟨U,V,rfl⟩:=bJ E;have N:=i.trans (C.mono i.size);clear E x C q HV;go_wp2_with fail;go_ret;exact⟨_,rfl,H.o,N⟩
theorem TS(q:List Lv):(kZ q).length=q.length*4:=by unfold kZ;rw[JF 4 _ (fun c b=>by obtain⟨t,_,rfl⟩:=cR.mp b;rfl),aP]
theorem TR(q r:List Lv):kZ (q++r)=kZ q++kZ r:=by unfold kZ;rw[cB,fZ]
def QAt(w:World)(a:Addr)(q:List Lv):Prop:=∀j u,(kZ q)[j]?=some u->w.cell? (a.add j)=some u
theorem PT{w w':World}(b:Below w.heap.size w w'){a:Addr}{v:Value}(h:w.cell? a=some v):w'.cell? a=some v:=(lQ (b.block _ (jE w _ h))).trans h
theorem Jy{q:List Lv}(h:∀p,p∈q->∃d n c,p.2=.slice d n c):∀u,u∈kZ q->u.oneCell'=true:=by
 intro u b;unfold kZ at b;obtain⟨c,f,b⟩:=wT.mp b;obtain⟨p,g,rfl⟩:=cR.mp f;obtain⟨d,n,i,e⟩:=h p g;unfold sF at b;simp only[List.mem_cons,List.not_mem_nil,or_false]at b;rcases b with rfl|rfl|rfl|rfl
 ·rfl
 ·rfl
 ·rfl
 rw[e];rfl
theorem aM6(w:World)(n:Nat)(z:n<=1048576):
 Calls Tryz.prog 183 #[.slice none 0 0, .int .i64 n] w fun e g=>∃f,e=.returned f/\g.ownsRow w.heap.size 49 4 f 0 []/\Below w.heap.size w g:=by
 obtain⟨x,p,r,s,v⟩:=iT YI;by_cases k:n=0
 ·subst k
  go_enter Tryz.func183,Tryz.ntmps183
  go_wp2_with fail;go_ret;exact⟨_,rfl,eD _ _ _ _,aH _ _⟩
 have q:0<n:=oM;have j:O _:=Lib.run_append_nil_zeros w 38 3 38 49 x _ .i64 .i64 Tryz.underlying38 Tryz.underlying3 p r n q (by rw[s];decide) oM (by rw[v];omega)
 go_enter Tryz.func183,Tryz.ntmps183
 go_wp2_with(at_builtin;refine Lib.wpList_append_run _ rfl _ _ 38 3 rfl _ _ rfl rfl _ _ j.o ?_);(have i:O (∀b:Array Value,b.size=grownCap w n 0 49*4->(w.alloc (.cells b 49)).drew.ownsRow w.heap.size 49 4 (.slice (some ⟨w.heap.size,0,none⟩) 0 (grownCap w n 0 49)) 0 []/\Below w.heap.size w (w.alloc (.cells b 49)).drew):=by intro b m;have l:=lY (base:=w.heap.size) (e:=49) (size:=4) w b (grownCap w n 0 49) (aE _) (grownCap_le_maxLen _ _ _ _ (by unfold maxLen;omega)) m;have d:Below w.heap.size w (w.alloc (.cells b 49)):=(aH _ _).alloc (aE _) _;exact⟨l,d.os,d.tape,d.output,d.size,d.block⟩);have y:=grownCap_ge w n 0 49;go_ret;refine⟨_,rfl,i.o _ ?_⟩;simp[Builtin.zeroCells];omega
theorem aFH(d l:List Lv)(b:Nat)(z A:Addr)(c1 c2:Nat)(w:World)(Q:QAt w z d)(R:QAt w A l)(h1:∀p,p∈d->∃B n c,p.2=.slice B n c)(P:∀p,p∈l->∃B n c,p.2=.slice B n c)
 (C:w.cell? ⟨b,0,none⟩=some (.slice (some z) d.length c1)) (D:w.cell? ⟨b,1,none⟩=some (.slice (some A) l.length c2)) (hl:d.length<=1000) (hm:l.length<=1000):
 Calls Tryz.prog 144 #[.slice (some ⟨b,0,none⟩) 2 2] w fun e Z=>∃Y,e=.returned Y/\Z.ownsRow w.heap.size 49 4 Y (d.length+l.length) (kZ (d++l))/\Below w.heap.size w Z:=by
 obtain⟨X,S,U,V,W⟩:=iT YI;have HA:O _:=Q;have HB:O _:=R;have H1:O _:=Jy h1;have H2:O _:=Jy P;clear Q R h1 P
 go_enter Tryz.func144,Tryz.ntmps144
 go_wp2_with fail;go_loopw [3,11] (fun J i wr=>w=wr/\((i=.int .i64 (0:Nat)/\J=.int .i64 0)\/(i=.int .i64 (1:Nat)/\J=.int .i64 (d.length:Nat))\/(i=.int .i64 (2:Nat)/\J=.int .i64 ((d.length+l.length:Nat):Int)))) (fun _ i _=>2-(intOf i).toNat);case atStart=>exact⟨rfl, .inl ⟨rfl,rfl⟩⟩
 case round=>
  obtain⟨rfl,⟨rfl,rfl⟩|⟨rfl,rfl⟩|⟨rfl,rfl⟩⟩:=hrel
  ·go_wp2_with fail;go_roundw;(case rel=>exact⟨by trivial, .inr (.inl ⟨by first|rfl|go_num,by first|rfl|go_num|simp⟩)⟩);case measure=>simp[intOf]
  ·go_wp2_with fail;go_roundw;(case rel=>exact⟨by trivial, .inr (.inr ⟨by first|rfl|go_num,by first|rfl|go_num|simp⟩)⟩);case measure=>simp[intOf]
  go_wp2_with fail;refine Calls.mono (aM6 _ (d.length+l.length) oM) ?_;rintro e w1 ⟨v1,rfl,T,F⟩;obtain⟨a3,c3,rfl⟩:=bJ T;have r:=aB F C;have s:=aB F D;go_wp2_with fail;clear r s;go_loopw [6,27] (fun I i wr=>(i=.int .i64 (0:Nat)/\wr.ownsRow w.heap.size 49 4 I 0 []/\Below w.heap.size w wr)\/(i=.int .i64 (1:Nat)/\wr.ownsRow w.heap.size 49 4 I d.length (kZ d)/\Below w.heap.size w wr)\/(i=.int .i64 (2:Nat)/\wr.ownsRow w.heap.size 49 4 I (d.length+l.length) (kZ d++kZ l)/\Below w.heap.size w wr)) (fun _ i _=>2-(intOf i).toNat);case atStart=>exact .inl ⟨rfl,T,F⟩
  case round=>
   rcases hrel with⟨rfl,g,f⟩|⟨rfl,g,f⟩|⟨rfl,g,f⟩
   ·have r:=aB f C;have s:=aB f D;obtain⟨K,M,rfl⟩:=bJ g;go_wp2_with(at_builtin;refine fX _ rfl _ _ 38 rfl w.heap.size 49 X _ 4 48 Tryz.underlying38 S U V W rfl dE _ _ _ rfl g z d.length c1 (kZ d) rfl (TS d) ?c1 H1.o ?c3 ?c4 ?c5 ?_);(case c1=>exact fun j u G=>(PT f (HA.o j u G)));(case c3=>unfold maxLen;omega);(case c4=>omega);(case c5=>exact f.size);intro v2 y m v _;obtain⟨L,N,rfl⟩:=bJ m;have E:Below w.heap.size w y:=f.grown v f.size (fun k H=>(World.ownsRow.lt g k H).1);(have x:y.ownsRow w.heap.size 49 4 (.slice L (0+d.length) N) d.length (kZ d):=by simpa using m);have q:O _:=x;rw[dV]at x;have a0:O _:=x;clear x m v g r s;go_wp2_with fail;go_roundw;(case rel=>exact .inr (.inl ⟨by first|rfl|go_num,by first|exact q.o|exact a0.o,E⟩));case measure=>simp[intOf]
   ·have r:=aB f C;have s:=aB f D;obtain⟨K,M,rfl⟩:=bJ g;go_wp2_with(at_builtin;refine fX _ rfl _ _ 38 rfl w.heap.size 49 X _ 4 48 Tryz.underlying38 S U V W rfl dE _ _ _ rfl g A l.length c2 (kZ l) rfl (TS l) ?c1 H2.o ?c3 ?c4 ?c5 ?_);(case c1=>exact fun j u G=>(PT f (HB.o j u G)));(case c3=>unfold maxLen;omega);(case c4=>omega);(case c5=>exact f.size);intro v2 y m v _;obtain⟨L,N,rfl⟩:=bJ m;have E:Below w.heap.size w y:=f.grown v f.size (fun k H=>(World.ownsRow.lt g k H).1);have q:O _:=m;clear m v g r s;go_wp2_with fail;go_roundw;(case rel=>exact .inr (.inr ⟨by first|rfl|go_num,q.o,E⟩));case measure=>simp[intOf]
   obtain⟨K,M,rfl⟩:=bJ g;have q:O _:=g;clear g;go_wp2_with fail;go_ret;exact⟨_,rfl,by rw[TR];exact q.o,f⟩
def VK(s:Nat)(_:bK):Nat×Bool:=(s+1,true)
def Gb(s:Nat)(_:bK):Prop:=s<=1000000
theorem ZT:∀(L:List bK)(s:Nat),s+L.length<=1000001->ET VK Gb s L
 |[],_,_=>trivial
 |x::L,s,h=>⟨by unfold Gb;simp only[List.length_cons]at h;omega,fun _=>ZT L (s+1) (by simp only[List.length_cons]at h;omega)⟩
theorem VG:∀(L:List bK)(s:Nat),gG VK s L=(s+L.length,true)
 |[],_=>rfl
 |x::L,s=>by
  rw[rW];show(if true=true then gG VK (s+1) L else _)=_;rw[if_pos rfl,VG L (s+1),zW]
  congr 1
  omega
theorem UY(facts:List aN)(l:cI)(y:bK):(kF facts l y).length<=facts.length+1:=by
 unfold kF;split
 ·have :=yN (fun f=>if f.z=l.z then fU y l.p f.args else none) facts;omega
 split
 ·split<;>simp
 split
 ·split<;>simp
 split
 ·simp
 split<;>simp
theorem Cc(facts:List aN)(y:bK)(body:List cI)(k:Nat)(h:k<body.length)(a:Nat×Int):rE facts y (body.drop k) k a=rE facts y (body.drop (k+1)) (k+1) (qP facts y (cJ body k) k a):=by(have e:cJ body k=body[k]:=by unfold cJ;rw[aC,aD h];rfl);rw[dB h,e];rfl
theorem aNH(NB n:Nat)(x:bK)(w:World)(b:w.heap[NB]?=some (.cells #[.int .i64 n] 3))(m:n<=1000000):
 Calls Tryz.prog 182 #[eW x, .pointer (some ⟨NB,0,none⟩)] w fun e i=>e=.returned (.bool true)/\i.heap[NB]?=some (.cells #[.int .i64 ((n+1:Nat):Int)] 3)/\Kp NB NB w i:=by
 have f:=(aH w.heap.size w).alloc (aE _) (.cells (eA x) 138);have d:=(f.block _ (bP b)).trans b;(have c0:(w.alloc (.cells (eA x) 138)).cell? ⟨NB,0,none⟩=some (.int .i64 n):=cH d);have l:=cM d 0;have HN:O _:=d;have HK:O (Kp NB NB w (w.alloc (.cells (eA x) 138))):=Kp.of_below f (wR (bP b));clear d b f
 go_enter Tryz.func182,Tryz.ntmps182
 go_upto_region 1 with fail;generalize w.alloc (.cells (eA x) 138)=p at *;go_wp2_with fail;go_ret;refine⟨rfl,by rw[bV HN.o];rfl,HK.o.trans ⟨rfl,rfl,rfl,by simp,fun k g=>cL oM,fun k c t g j _=>?_⟩⟩;rw[cL j];exact g
theorem aVS(NB:Nat):WC NB NB 182 #[.pointer (some ⟨NB,0,none⟩)] VK Gb (fun n w=>w.heap[NB]?=some (.cells #[.int .i64 (n:Int)] 3)):=
 ⟨fun s w x b e _=>aNH NB s x w b e,fun _ _ _ b d=>(d.block _ (bP b)).trans b,fun _ _ b=>⟨wR (bP b),bP b⟩⟩
structure KP (w0:World) (NB:Nat) (w:World) (v:Value) (q:List Lv):Prop where
 sl:∃a cap,v=.slice a q.length cap/\q.length<=cap/\(q≠[]->∃b off,a=some ⟨b,off,none⟩/\QAt w ⟨b,off,none⟩ q/\(b<w0.heap.size\/(b≠NB/\∃c,w.heap[b]?=some (.cells c 49))))
 tm:∀p,p∈q->fT w0 p.2 p.1.p
theorem QAt.lit{w:World}{b off:Nat}{q:List Lv}(h:QAt w ⟨b,off,none⟩ q){k:Nat}(g:k<q.length):w.cell? ⟨b,off+k*4,none⟩=some (.int .i64 q[k].1.kind)/\w.cell? ⟨b,off+k*4+1,none⟩=some (.int .i64 q[k].1.op)/\w.cell? ⟨b,off+k*4+2,none⟩=some (.int .i64 q[k].1.z)/\w.cell? ⟨b,off+k*4+3,none⟩=some q[k].2:=by(have l:(q.map sF)[k]?=some (sF q[k]):=by rw[cY,aD g];rfl);(have j:∀c,c∈q.map sF->c.length=4:=fun c f=>by obtain⟨t,_,rfl⟩:=cR.mp f;rfl);(have d:∀(i:Nat)(u:Value),(sF q[k])[i]?=some u->w.cell? ⟨b,off+(k*4+i),none⟩=some u:=fun i u m=>by have e:=h (k*4+i) u (GX 4 _ j k _ i u l m);rw[Addr.add_lit]at e;exact e);exact⟨d 0 _ rfl,d 1 _ rfl,d 2 _ rfl,d 3 _ rfl⟩
theorem aFZ{q:List Lv}{k:Nat}(h:k<q.length):cJ (q.map (·.1)) k=q[k].1:=by unfold cJ;rw[aC,cY,aD h];rfl
theorem aP9(facts:List aN)(q:List Lv)(y:bK)(vf vb:Value)(z w:World)(NB:Nat)(af:Below z.heap.size z w)(hF:dA z vf facts)(aF:facts.length<=1000)(ag:∀f,f∈facts->fW f)(hQ:KP z NB w vb q)(b0:q.length<=1000)(W:jI 8 y)
 (hL:∀p,p∈q->Fk 8 facts p.1/\p.1.p.length<=1000) (hH:∀p,p∈q->gH y p.1=true->Yh facts p.1 y):
 Calls Tryz.prog 143 #[vf,vb,eW y] w fun e w'=>e=.returned (.int .i64 (qE facts (q.map (·.1)) y))/\Below w.heap.size w w':=by
 obtain⟨⟨ab,cb,rfl,aI,am⟩,ao⟩:=hQ;have bW:=(aH w.heap.size w).alloc (aE _) (.cells (eA y) 138);have K:O (kG (w.alloc (.cells (eA y) 138)) w.heap.size y):=aR w _;have a8:O _:=bW;have a7:O _:=af;have HF:O _:=hF;have ap:O _:=ag;have aw:O _:=am;have ax:O _:=ao;have av:O _:=hL;have aq:O _:=hH;have he:∀ad w,(callFunc 182 ad).run Tryz.prog w=.ok (.enter 182 ad) w:=jQ Tryz.func182 kR rfl;have aT:∀(fn:Fn)(first ae:Array Value)(w:World),(Instr.makeFunc fn first ae).run Tryz.prog w=.ok (.func fn first ae) w:=fun _ _ _ _=>rfl;clear af hF ag am ao hL hH bW
 go_enter Tryz.func143,Tryz.ntmps143
 go_wp2_with fail;generalize w.alloc (.cells (eA y) 138)=w1 at *;go_loopw [7,8,14] (fun ay az i wr=>∃(k:Nat)(a:Nat×Int),k<=q.length/\i=.int .i64 k/\ay=.int .i64 (a.1:Nat)/\az=.int .i64 a.2/\a.1<=q.length/\ -1<=a.2/\a.2<=2000/\O (qE facts (q.map (·.1)) y=(rE facts y ((q.map (·.1)).drop k) k a).1)/\O (Below w.heap.size w wr)/\O (kG wr w.heap.size y)) (fun _ _ i _=>q.length-(intOf i).toNat);case atStart=>exact⟨0,(0, -1),bG _,rfl,rfl,rfl,bG _,dE,dE,rfl,a8.o,K.o⟩
 case round=>
  clear a8 K;obtain⟨k,⟨s,d⟩,hk,rfl,rfl,rfl,ai,aj,ak,I,v,K⟩:=hrel;dsimp only at *;by_cases r:k<q.length
  ·obtain⟨b,b1,rfl,an,_⟩:=aw.o (fun e=>by rw[e]at r;exact absurd r (nZ _));obtain⟨p0,p1,p2,p3⟩:=QAt.lit an r;have H:O _:=Cc facts y (q.map (·.1)) k (by rw[aP];exact r) (s,d);have V:q[k]∈q:=dY r;have a2:O _:=ax.o _ V;have a0:O _:=av.o _ V;have au:O _:=aq.o _ V;rw[aFZ r]at H;have q0:=aB v.o p0;have q1:=aB v.o p1;have q2:=aB v.o p2;have q3:=aB v.o p3;clear p0 p1 p2 p3 V an;generalize q[k]=p at *;obtain⟨⟨j,l,m,g⟩,vt⟩:=p;dsimp only at *;obtain⟨at_,C,rfl,_⟩:=id a2.o;go_upto_region 5 with fail;have bT:=(aH wr.heap.size wr).alloc (aE _) (.cells #[.int .i64 j, .int .i64 l, .int .i64 m, .slice at_ g.length C] 49);have A:O _:=aR wr (.cells #[.int .i64 j, .int .i64 l, .int .i64 m, .slice at_ g.length C] 49);have S:O _:=v.o.trans (bT.mono v.o.size);have a5:O (kG (wr.alloc (.cells #[.int .i64 j, .int .i64 l, .int .i64 m, .slice at_ g.length C] 49)) w.heap.size y):=kG.u K.o bT;clear q0 q1 q2 q3 bT v K;generalize wr.alloc (.cells #[.int .i64 j, .int .i64 l, .int .i64 m, .slice at_ g.length C] 49)=F at *;generalize wr.heap.size=x at *;(have l0:F.cell? ⟨x,0,none⟩=some (.int .i64 j):=cH A.o);(have l1:F.cell? ⟨x,1,none⟩=some (.int .i64 l):=cH A.o);(have l2:F.cell? ⟨x,2,none⟩=some (.int .i64 m):=cH A.o);(have l3:F.cell? ⟨x,3,none⟩=some (.slice at_ g.length C):=cH A.o);have Q:O (Below z.heap.size z F):=a7.o.trans (S.o.mono a7.o.size);go_wp2_with(refine nE (bF rfl) _ rfl _ rfl y a5.o W ?_);refine Calls.mono (aNR ⟨j,l,m,g⟩ _ y F (dS a2.o Q.o) W a0.o.1.t a0.o.1.k4 (by have :=a0.o.2;dsimp only at this ⊢;omega)) ?_;rintro _ n ⟨rfl,M⟩;have R:O _:=S.o.trans (M.mono S.o.size);have T:O (kG n w.heap.size y):=kG.u a5.o M;have a1:O _:=(M.block _ (bP A.o)).trans A.o;have Y:O (Below z.heap.size z n):=Q.o.trans (M.mono Q.o.size);clear M l0 l1 l2 l3 S a5 A Q;cases P:gH y ⟨j,l,m,g⟩
   ·(have HN:O (qP facts y ⟨j,l,m,g⟩ k (s,d)=(s,d)):=by show _=_;unfold qP;rw[P];rfl);clear P;go_wp2_with fail;go_roundw;(case rel=>exact⟨k+1,(s,d),r,gN,rfl,rfl,ai,aj,ak,by show _=_;rw[I.o,H.o,HN.o],R.o,T.o⟩);case measure=>exact mI
   have ar:O _:=au.o P;have aa:O _:=P;clear P;go_upto_region 7 with fail;have L:=(aH n.heap.size n).alloc (aE _) (.cells #[.int .i64 0] 3);have ah:=aR n (.cells #[.int .i64 0] 3);have Z:O _:=aFS (NB:=n.heap.size) (hh:=182) (cb:=#[.pointer (some ⟨n.heap.size,0,none⟩)]) facts ⟨j,l,m,g⟩ y vf (.slice at_ g.length C) n (n.alloc (.cells #[.int .i64 0] 3)) 0 L (bR HF.o Y.o) oM ap.o (dS a2.o Y.o) ar.o W (aVS n.heap.size) he ah (ZT _ 0 (by have :=UY facts ⟨j,l,m,g⟩ y;omega));have a3:O (kG (n.alloc (.cells #[.int .i64 0] 3)) w.heap.size y):=kG.u T.o L;have J:O _:=(L.block _ (bP a1.o)).trans a1.o;have E:O _:=R.o.trans (L.mono R.o.size);have ac:O (w.heap.size<n.heap.size):=bP T.o;have aV:=UY facts ⟨j,l,m,g⟩ y;rw[VG]at Z;generalize al:(kF facts ⟨j,l,m,g⟩ y).length=B at *;have a9:O _:=al;clear L ah al;generalize n.alloc (.cells #[.int .i64 0] 3)=X at *;(have l0:X.cell? ⟨x,0,none⟩=some (.int .i64 j):=cH J.o);(have l1:X.cell? ⟨x,1,none⟩=some (.int .i64 l):=cH J.o);(have l2:X.cell? ⟨x,2,none⟩=some (.int .i64 m):=cH J.o);(have l3:X.cell? ⟨x,3,none⟩=some (.slice at_ g.length C):=cH J.o);go_wp2_with(refine nE (bF rfl) _ rfl _ rfl y a3.o W ?_);refine Calls.mono Z.o ?_;rintro _ w4 ⟨rfl,a6,D⟩;rw[dV]at a6;have G:O (Below w.heap.size w w4):=⟨D.os.trans E.o.os,D.tape.trans E.o.tape,D.output.trans E.o.output,bH E.o.size D.size,fun k hk=>(D.low k (by have :=ac.o;omega)).trans (E.o.block k hk)⟩;have a4:O (kG w4 w.heap.size y):=(D.low _ ac.o).trans a3.o;(have n0:w4.cell? ⟨n.heap.size,0,none⟩=some (.int .i64 B):=cH a6);clear l0 l1 l2 l3 a6 D Z J E a3 R T a1 Y;generalize n.heap.size=NX at *;by_cases N:d<0\/(B:Int)<d
   ·(have HN:O (qP facts y ⟨j,l,m,g⟩ k (s,d)=(k,(B:Int))):=by show _=_;unfold qP;rw[aa.o,if_pos rfl,a9.o,if_pos N]);by_cases U:d<0
    ·have g1:decide (d<0)=true:=aQ U;clear N U;go_wp2_with fail;go_quiet(fail);go_wp2_with fail;go_roundw;(case rel=>exact⟨k+1,(k,(B:Int)),r,gN,rfl,rfl,by dsimp only;omega,by dsimp only;omega,by dsimp only;omega,by show _=_;rw[I.o,H.o,HN.o],G.o.trans ((eO _ _).mono G.o.size),kG.u a4.o (eO _ _)⟩);case measure=>exact mI
    have g1:decide (d<0)=false:=aJ U;have g2:decide ((B:Int)<d)=true:=aQ oM;clear N U;go_wp2_with fail;go_quiet(fail);go_wp2_with fail;go_roundw;(case rel=>exact⟨k+1,(k,(B:Int)),r,gN,rfl,rfl,by dsimp only;omega,by dsimp only;omega,by dsimp only;omega,by show _=_;rw[I.o,H.o,HN.o],G.o.trans ((eO _ _).mono G.o.size),kG.u a4.o (eO _ _)⟩);case measure=>exact mI
   (have HN:O (qP facts y ⟨j,l,m,g⟩ k (s,d)=(s,d)):=by show _=_;unfold qP;rw[aa.o,if_pos rfl,a9.o,if_neg N]);have g1:decide (d<0)=false:=aJ oM;have g2:decide ((B:Int)<d)=false:=aJ oM;clear N;go_wp2_with fail;go_roundw;(case rel=>exact⟨k+1,(s,d),r,gN,rfl,rfl,ai,aj,ak,by show _=_;rw[I.o,H.o,HN.o],G.o,a4.o⟩);case measure=>exact mI
  have aS:decide (k<q.length)=false:=aJ r;(have HE:O (qE facts (q.map (·.1)) y=s):=by show _=_;rw[I.o,bD (by rw[aP];omega)];rfl);go_wp2_with fail;go_ret;exact⟨by rw[HE.o];rfl,v.o⟩
theorem Um{σ:Type}{step:σ->bK->σ×Bool}{b:σ->bK->Prop}{P:bK->Prop}:∀(L:List bK)(s:σ),ET step b s L->(∀x,x∈L->P x)->ET step (fun s x=>b s x/\P x) s L
 |[],_,_,_=>trivial
 |x::L,_,h,hp=>⟨⟨h.1,hp x dC⟩,fun d=>Um L _ (h.2 d) (fun z e=>hp z (bO _ e))⟩
theorem GJ{σ:Type}(step:σ->bK->σ×Bool)(s:σ)(x:bK):gG step s [x]=step s x:=by
 rw[rW];show(if(step s x).2=true then((step s x).1,true)else((step s x).1,false))=_
 cases h:step s x with
 |mk a b=>cases b<;>rfl
def FO(l:cI):Prop:=∀t,t∈l.p->t.var<0->cP t.n=true
theorem UV{m:Nat}{y:bK}{t:dL}(hg:lK m y)(d:t.var<0->cP t.n=true)(b:cC y.w t=true):cP (eJ y.y t)=true:=by
 unfold eJ;by_cases h:t.var<0
 ·rw[if_pos h];exact d h
 rw[if_neg h];refine hg.nm _ ?_;unfold cC at b;rw[uZ]at b;rcases b with b|b
 ·exact absurd (by simpa using b) h
 exact b
theorem Wd{facts:List aN}{l:cI}{y:bK}{m:Nat}(hg:lK m y)(i:m<=8)(b:Fk m facts l)(ht:l.p.length<=1000)(e:FO l)(d:gH y l=true):Yh facts l y:=by
 (have f:l.kind=4->(cC y.w (cA l.p 0)&&cC y.w (cA l.p 1))=true:=fun h=>by unfold gH at d;rw[if_neg oM,if_pos h]at d;exact d);refine⟨b.mono i,ht,fun h=>?_,fun h=>?_⟩
 ·have g:=b.k4 h;exact UV hg (e _ (mW oM)) (by have :=f h;rw[eF]at this;exact this.1)
 have g:=b.k4 h;exact UV hg (e _ (mW oM)) (by have :=f h;rw[eF]at this;exact this.2)
theorem QAt.block{w w':World}{b off:Nat}{q:List Lv}(h:QAt w ⟨b,off,none⟩ q)(e:w'.heap[b]?=w.heap[b]?):QAt w' ⟨b,off,none⟩ q:=by intro j u f;have d:=h j u f;rw[Addr.add_lit]at d ⊢;exact(lQ e).trans d
theorem QAt.take{w:World}{b off:Nat}{q:List Lv}(h:QAt w ⟨b,off,none⟩ q)(i:Nat):QAt w ⟨b,off,none⟩ (q.take i):=by intro j u d;refine h j u ?_;(have e:kZ q=kZ (q.take i)++kZ (q.drop i):=by rw[<-TR,nL]);rw[e,mL (eP.mp d).1];exact d
theorem QAt.drop{w:World}{b off:Nat}{q:List Lv}(h:QAt w ⟨b,off,none⟩ q)(i:Nat)(f:i<=q.length):QAt w ⟨b,off+i*4,none⟩ (q.drop i):=by intro j u g;(have e:kZ q=kZ (q.take i)++kZ (q.drop i):=by rw[<-TR,nL]);(have k:(kZ (q.take i)).length=i*4:=by rw[TS,cW,vA f]);have d:=h (i*4+j) u (by rw[e,jP oM,k,uS];exact g);rw[Addr.add_lit]at d ⊢;rw[II];exact d
theorem KP.kp{f:World}{NB:Nat}{w w':World}{v:Value}{q:List Lv}(h:KP f NB w v q)(i:Kp f.heap.size NB w w'):KP f NB w' v q:=by
 obtain⟨⟨a,n,e,p,s⟩,ht⟩:=h;refine⟨⟨a,n,e,p,fun r=>?_⟩,ht⟩;obtain⟨b,m,g,j,d⟩:=s r;rcases d with d|⟨d,c,k⟩
 ·exact⟨b,m,g,j.block (i.low b d), .inl d⟩
 have l:=i.keep b c 49 k d dE;exact⟨b,m,g,j.block (l.trans k.symm), .inr ⟨d,c,l⟩⟩
theorem aMS{l w:World}{NB X co:Nat}{ao:Option Addr}{r:List Lv}(h:w.ownsRow X 49 4 (.slice ao r.length co) r.length (kZ r))(s:NB<X)(ht:∀p,p∈r->fT l p.2 p.1.p):KP l NB w (.slice ao r.length co) r:=by
 refine⟨⟨ao,co,rfl,?_,fun q=>?_⟩,ht⟩
 ·rcases h.2 with⟨b,d⟩|⟨g,m,e,b,d,j,k,_⟩
  ·rw[d];exact bG _
  injection b with f n i;rw[i];exact k
 rcases id h.2 with⟨b,d⟩|⟨g,m,e,b,d,j,k,_⟩
 ·exact absurd (mB.mp d) q
 injection b with f n i;subst f;exact⟨g,0,rfl,h.cells rfl, .inr ⟨oM,e,j⟩⟩
structure Eb {σ:Type} (I:σ->World->Prop) (w0:World) (NB X OB:Nat) (vf vo:Value) (hh:Nat) (cb:Array Value) (r:List Lv) (s:σ) (w:World):Prop where
 i:I s w
 f:w.heap[X]?=some (.cells #[vf] 27)
 o:w.heap[OB]?=some (.cells #[vo] 38)
 t:w.heap[X+2]?=some (.cells #[.func (.func hh) #[] cb] 139)
 b:KP w0 NB w vo r
 l:Below w0.heap.size w0 w
theorem Eb.kp{σ:Type}{I:σ->World->Prop}{e:World}{NB X OB:Nat}{i j:Value}{hh:Nat}{cb:Array Value}{r:List Lv}{s g:σ}{w w':World}(h:Eb I e NB X OB i j hh cb r s w)(m:NB<X)(hO:NB<OB)(k:I g w')(d:Kp e.heap.size NB w w'):Eb I e NB X OB i j hh cb r g w':=
 ⟨k,d.keep _ _ _ h.f oM dE,d.keep _ _ _ h.o oM dE,d.keep _ _ _ h.t oM dE,h.b.kp d,d.u h.l⟩
theorem aMX{σ:Type}{step:σ->bK->σ×Bool}{q:σ->bK->Prop}{I:σ->World->Prop}{NB hh X OB:Nat}{cb:Array Value}{facts:List aN}{ru:bB}{r:List Lv}{n cf co:Nat}{af ao:Option Addr}{d:World}
 (m:WC d.heap.size NB hh cb step q I)
 (z:∀(y:bK)(w:World)(s:σ),Below d.heap.size d w->KP d NB w (.slice ao r.length co) r->lK ru.vars.toNat y->sV ru y.w (r.map (·.1))->I s w->ET step q s (jB facts n (r.map (·.1)) y)->Calls Tryz.prog 98 #[.slice af facts.length cf, .slice ao r.length co,eW y, .func (.func hh) #[] cb] w fun e j=>e=.returned (.bool (gG step s (jB facts n (r.map (·.1)) y)).2)/\I (gG step s (jB facts n (r.map (·.1)) y)).1 j/\Kp d.heap.size NB w j)
 (C:NB<X) (hO:NB<OB) (s:σ) (w:World) (x:bK) (k:Eb I d NB X OB (.slice af facts.length cf) (.slice ao r.length co) hh cb r s w) (E:ET step q s (jB facts n (r.map (·.1)) x)) (hg:lK ru.vars.toNat x) (D:sV ru x.w (r.map (·.1))):
 Calls Tryz.prog 146 (#[eW x]++#[.pointer (some ⟨X,0,none⟩), .pointer (some ⟨OB,0,none⟩), .pointer (some ⟨X+2,0,none⟩)]) w fun e j=>e=.returned (.bool (gG step s (jB facts n (r.map (·.1)) x)).2)/\Eb I d NB X OB (.slice af facts.length cf) (.slice ao r.length co) hh cb r (gG step s (jB facts n (r.map (·.1)) x)).1 j/\Kp d.heap.size NB w j:=by
 show Calls Tryz.prog 146 #[eW x, .pointer (some ⟨X,0,none⟩), .pointer (some ⟨OB,0,none⟩), .pointer (some ⟨X+2,0,none⟩)] w _;have p:=(aH w.heap.size w).alloc (aE _) (.cells (eA x) 138);have HK:O (Kp d.heap.size NB w (w.alloc (.cells (eA x) 138))):=Kp.of_below p (m.room _ _ k.i).1;have g:O (Eb I d NB X OB (.slice af facts.length cf) (.slice ao r.length co) hh cb r s (w.alloc (.cells (eA x) 138))):=Eb.kp k C hO (m.grow _ _ _ k.i p) HK.o;have G:O (kG (w.alloc (.cells (eA x) 138)) w.heap.size x):=aR w _;have v:O _:=z x _ s g.o.l g.o.b hg D g.o.i E;have L:=hg.wf;(have c0:(w.alloc (.cells (eA x) 138)).cell? ⟨X,0,none⟩=some (.slice af facts.length cf):=cH g.o.f);(have H:(w.alloc (.cells (eA x) 138)).cell? ⟨OB,0,none⟩=some (.slice ao r.length co):=cH g.o.o);(have J:(w.alloc (.cells (eA x) 138)).cell? ⟨X+2,0,none⟩=some (.func (.func hh) #[] cb):=cH g.o.t);clear p m z k E hg D;generalize gG step s (jB facts n (r.map (·.1)) x)=R at *
 go_enter Tryz.func146,Tryz.ntmps146
 go_upto_region 1 with fail;generalize w.alloc (.cells (eA x) 138)=M at *;go_wp2_with(refine nE (bF rfl) _ rfl _ rfl x G.o L ?_);refine Calls.mono v.o ?_;rintro e N ⟨K,A,B⟩;subst K;have F:O _:=A;clear A c0 H J v;go_wp2_with fail;go_ret;exact⟨rfl,Eb.kp g.o C hO F.o B,HK.o.trans B⟩
theorem aPL{σ:Type}{step:σ->bK->σ×Bool}{j:σ->bK->Prop}{I:σ->World->Prop}{NB hh X OB:Nat}{cb:Array Value}{facts:List aN}{ru:bB}{r:List Lv}{n cf co:Nat}{af ao:Option Addr}{d:World}
 (f:WC d.heap.size NB hh cb step j I)
 (p:∀(y:bK)(w:World)(s:σ),Below d.heap.size d w->KP d NB w (.slice ao r.length co) r->lK ru.vars.toNat y->sV ru y.w (r.map (·.1))->I s w->ET step j s (jB facts n (r.map (·.1)) y)->Calls Tryz.prog 98 #[.slice af facts.length cf, .slice ao r.length co,eW y, .func (.func hh) #[] cb] w fun e m=>e=.returned (.bool (gG step s (jB facts n (r.map (·.1)) y)).2)/\I (gG step s (jB facts n (r.map (·.1)) y)).1 m/\Kp d.heap.size NB w m)
 (k:NB<X) (hO:NB<OB):WC d.heap.size NB 146 #[.pointer (some ⟨X,0,none⟩), .pointer (some ⟨OB,0,none⟩), .pointer (some ⟨X+2,0,none⟩)] (fun s x=>gG step s (jB facts n (r.map (·.1)) x)) (fun s x=>ET step j s (jB facts n (r.map (·.1)) x)/\lK ru.vars.toNat x/\sV ru x.w (r.map (·.1))) (Eb I d NB X OB (.slice af facts.length cf) (.slice ao r.length co) hh cb r):=
 ⟨fun s w x b g _=>aMX f p k hO s w x b g.1 g.2.1 g.2.2,fun _ _ _ b l=>Eb.kp b k hO (f.grow _ _ _ b.i l) (Kp.of_below l (f.room _ _ b.i).1),fun _ _ b=>f.room _ _ b.i⟩
theorem QAt.u{w w':World}{a:Addr}{q:List Lv}(h:QAt w a q)(b:Below w.heap.size w w'):QAt w' a q:=fun j u d=>PT b (h j u d)
theorem Bm(w:World)(a b c:Obj):Below w.heap.size w (((w.alloc a).alloc b).alloc c):=(((aH _ _).alloc (aE _) _).alloc sI _).alloc sO _
theorem SP{α β:Type}(f:α->β):∀(l:List α)(i:Nat),(l.eraseIdx i).map f=(l.map f).eraseIdx i
 |[],_=>by simp
 |_::_,0=>rfl
 |x::l,i+1=>by show f x::(l.eraseIdx i).map f=f x::(l.map f).eraseIdx i;rw[SP f l i]
def DK(off b i:Nat):Nat:=if b=i+1 then off else off+(i+1)*4
def aTU(b off n e i:Nat)(f:Nat)(d:Value):Prop:=
 match f with
 |21=>d=(.slice (some ⟨b,off,none⟩) n e:Value)
 |22=>d=(.int .i64 i:Value)
 |23=>d=(.slice (some ⟨b,off,none⟩) i e:Value)
 |24=>d=(.slice (some ⟨b,off,none⟩) n e:Value)
 |25=>d=(.int .i64 i:Value)
 |26=>d=(.int .i64 ((i+1:Nat):Int):Value)
 |27=>d=(.slice (some ⟨b,DK off e i,none⟩) (n-(i+1)) (e-(i+1)):Value)
 |_=>True
def aBR(b off n e i B:Nat)(r:List Lv)(f:Nat)(g:Value)(j:World):Prop:=
 if f=28 then∃d,g=.slice (some ⟨d,0,none⟩) 2 2/\j.heap[d]?=some (.cells #[.slice (some ⟨b,off,none⟩) i e, .slice (some ⟨b,DK off e i,none⟩) (n-(i+1)) (e-(i+1))] 38)
 else if f=29 then j.ownsRow B 49 4 g r.length (kZ r)
 else if f=10 then∃d,g=.pointer (some ⟨d,0,none⟩)/\B<=d/\j.heap[d]?=some (.cells #[.slice none 0 0] 38)else aTU b off n e i f g
theorem aFI(b off n k i B:Nat)(r:List Lv)(f:Nat)(p:Value)(W W':World)(j:Below W.heap.size W W')(h:aBR b off n k i B r f p W):aBR b off n k i B r f p W':=by
 unfold aBR at h ⊢;by_cases ht:f=28
 ·rw[if_pos ht]at h ⊢;obtain⟨d,g,e⟩:=h;exact⟨d,g,(j.block d (aG.mp e).1).trans e⟩
 rw[if_neg ht]at h ⊢;by_cases l:f=29
 ·rw[if_pos l]at h ⊢;exact bI h j
 rw[if_neg l]at h ⊢;by_cases m:f=10
 ·rw[if_pos m]at h ⊢;obtain⟨d,g,q,e⟩:=h;exact⟨d,g,q,(j.block d (aG.mp e).1).trans e⟩
 rw[if_neg m]at h ⊢;exact h
def aRT(e:Value)(b off n d i X OB:Nat)(x:cI)(f:Value)(y:bK):Nat->Value
 |30=>e
 |31=>.slice (some ⟨b,off,none⟩) n d
 |32=>.int .i64 i
 |33=>.pointer (some ⟨b,off+i*4,none⟩)
 |34=>.agg #[.int .i64 x.kind, .int .i64 x.op, .int .i64 x.z,f]
 |35=>eW y
 |36=>.func (.func 146) #[] #[.pointer (some ⟨X,0,none⟩), .pointer (some ⟨OB,0,none⟩), .pointer (some ⟨X+2,0,none⟩)]
 |_=>.bool false
theorem aMW{σ:Type}{step:σ->bK->σ×Bool}{q:σ->bK->Prop}{I:σ->World->Prop}{NB hh:Nat}{cb:Array Value}{facts:List aN}{d:World}{af:Option Addr}{cf:Nat}(b:WC d.heap.size NB hh cb step q I)(H:∀j w,(callFunc hh j).run Tryz.prog w=.ok (.enter hh j) w)(y:bK)(r:Value)(w:World)(s:σ)(D:KP d NB w r [])(p:jI 8 y)(f:I s w)(n:q s y):
 Calls Tryz.prog 98 #[.slice af facts.length cf,r,eW y, .func (.func hh) #[] cb] w fun e v=>e=.returned (.bool (step s y).2)/\I (step s y).1 v/\Kp d.heap.size NB w v:=by
 obtain⟨⟨F,G,rfl,_,_⟩,_⟩:=D;obtain⟨B,k,l⟩:=BA w (.cells #[.slice af facts.length cf] 27) (.cells (eA y) 138) (.cells #[.func (.func hh) #[] cb] 139);have g:=Bm w (.cells #[.slice af facts.length cf] 27) (.cells (eA y) 138) (.cells #[.func (.func hh) #[] cb] 139);have z:O (kG (((w.alloc (.cells #[.slice af facts.length cf] 27)).alloc (.cells (eA y) 138)).alloc (.cells #[.func (.func hh) #[] cb] 139)) (w.heap.size+1) y):=k;have HK:O (Kp d.heap.size NB w (((w.alloc (.cells #[.slice af facts.length cf] 27)).alloc (.cells (eA y) 138)).alloc (.cells #[.func (.func hh) #[] cb] 139))):=Kp.of_below g (b.room _ _ f).1;have i:O _:=b.call s _ y (b.grow _ _ _ f g) n p;(have A:(((w.alloc (.cells #[.slice af facts.length cf] 27)).alloc (.cells (eA y) 138)).alloc (.cells #[.func (.func hh) #[] cb] 139)).cell? ⟨w.heap.size+2,0,none⟩=some (.func (.func hh) #[] cb):=cH l);clear B k l g b f n
 go_enter Tryz.func98,Tryz.ntmps98
 go_upto_region 1 with fail;generalize (((w.alloc (.cells #[.slice af facts.length cf] 27)).alloc (.cells (eA y) 138)).alloc (.cells #[.func (.func hh) #[] cb] 139))=J at *;go_wp2_with(refine nE (bF rfl) _ rfl _ rfl y z.o p ?_);refine Calls.mono i.o ?_;rintro e K ⟨E,m,C⟩;subst E;have x:O _:=m;clear m A i;go_wp2_with fail;go_ret;exact⟨rfl,x.o,HK.o.trans C⟩
theorem aMY{σ:Type}{step:σ->bK->σ×Bool}{a5:σ->bK->Prop}{I:σ->World->Prop}{NB hh:Nat}{cb:Array Value}{facts:List aN}{ru:bB}{D:World}{af:Option Addr}{cf:Nat}(hF:dA D (.slice af facts.length cf) facts)(cg:facts.length<=1000)(b1:∀f,f∈facts->fW f)(R:Uk facts ru)(hN:∀f,f∈facts->∀n,n∈f.args->cP n=true)(al:∀l,l∈ru.body->l.p.length<=1000)(hC:∀l,l∈ru.body->FO l)(TL:WC D.heap.size NB hh cb step a5 I)(n:Nat)(IH:∀(q:List Lv)(y:bK)(vb:Value)(w:World)(s:σ),q.length=n->n<=1000->Below D.heap.size D w->KP D NB w vb q->lK ru.vars.toNat y->sV ru y.w (q.map (·.1))->I s w->ET step a5 s (jB facts n (q.map (·.1)) y)->Calls Tryz.prog 98 #[.slice af facts.length cf,vb,eW y, .func (.func hh) #[] cb] w fun e K=>e=.returned (.bool (gG step s (jB facts n (q.map (·.1)) y)).2)/\I (gG step s (jB facts n (q.map (·.1)) y)).1 K/\Kp D.heap.size NB w K):
 ∀(q:List Lv)(y:bK)(vb:Value)(w:World)(s:σ),q.length=(n+1)->(n+1)<=1000->Below D.heap.size D w->KP D NB w vb q->lK ru.vars.toNat y->sV ru y.w (q.map (·.1))->I s w->ET step a5 s (jB facts (n+1) (q.map (·.1)) y)->Calls Tryz.prog 98 #[.slice af facts.length cf,vb,eW y, .func (.func hh) #[] cb] w fun e K=>e=.returned (.bool (gG step s (jB facts (n+1) (q.map (·.1)) y)).2)/\I (gG step s (jB facts (n+1) (q.map (·.1)) y)).1 K/\Kp D.heap.size NB w K:=by
 intro q y vb w s an cm ah hQ S hL B bs;obtain⟨⟨ab,g,rfl,cl,bN⟩,a4⟩:=hQ;obtain⟨b,A,rfl,ap,bT⟩:=bN (fun e=>by rw[e]at an;cases an);(have bx:(q.map (·.1)).length=n+1:=by rw[aP];exact an);obtain⟨hi,hr,aj⟩:=EX R bx S.wf hL;obtain⟨h0,h1,h2⟩:=BA w (.cells #[.slice af facts.length cf] 27) (.cells (eA y) 138) (.cells #[.func (.func hh) #[] cb] 139);have am:=Bm w (.cells #[.slice af facts.length cf] 27) (.cells (eA y) 138) (.cells #[.func (.func hh) #[] cb] 139);have aq:=TL.room _ _ B;have a2:∀p,p∈q->p.1∈ru.body:=fun p L=>hL.sub _ (sP L);have HC:O _:=aP9 facts q y (.slice af facts.length cf) (.slice (some ⟨b,A,none⟩) q.length g) D (((w.alloc (.cells #[.slice af facts.length cf] 27)).alloc (.cells (eA y) 138)).alloc (.cells #[.func (.func hh) #[] cb] 139)) NB (ah.trans (am.mono ah.size)) hF cg b1 (KP.kp ⟨⟨_,g,rfl,cl,fun _=>⟨b,A,rfl,ap,bT⟩⟩,a4⟩ (Kp.of_below am aq.1)) oM S.wf (fun p L=>⟨(R.lit _ (a2 p L)).mono R.v8,al _ (a2 p L)⟩) (fun p L cn=>Wd S R.v8 (R.lit _ (a2 p L)) (al _ (a2 p L)) (hC _ (a2 p L)) cn);have ak:gG step s (jB facts (n+1) (q.map (·.1)) y)=gG (fun s z=>gG step s (jB facts n ((q.map (·.1)).eraseIdx (qE facts (q.map (·.1)) y)) z)) s (kF facts (cJ (q.map (·.1)) (qE facts (q.map (·.1)) y)) y):=Ab step _ _ s;have bt:ET step a5 s ((kF facts (cJ (q.map (fun p:Lv=>p.1)) (qE facts (q.map (fun p:Lv=>p.1)) y)) y).flatMap (jB facts n ((q.map (fun p:Lv=>p.1)).eraseIdx (qE facts (q.map (fun p:Lv=>p.1)) y)))):=bs;have ai:=Um (P:=fun z=>lK ru.vars.toNat z/\sV ru z.w ((q.map (·.1)).eraseIdx (qE facts (q.map (·.1)) y))) _ s (Gc step a5 _ _ s bt) (fun z hz=>⟨Gf R.v8 S aj hN hz,vZ hL hi hr hz aj⟩);have b3:=yW hi;generalize gG step s (jB facts (n+1) (q.map (·.1)) y)=F at *;generalize qE facts (q.map (·.1)) y=i at *;(have a9:i<q.length:=by rw[aP]at hi;exact hi);have ay:O (Yh facts (cJ (q.map (·.1)) i) y):=Wd S R.v8 aj (al _ (hL.sub _ b3)) (hC _ (hL.sub _ b3)) hr;rw[<-SP]at ak ai;rw[aFZ a9]at ak ai ay;obtain⟨bW,bX,bY,bZ⟩:=QAt.lit ap a9;have b4:=a4 _ (dY a9);generalize q[i]=p at *;obtain⟨x,vx⟩:=p;dsimp only at *;obtain⟨at_,V,rfl,_⟩:=id b4;have HP:O _:=mK bW (mK bX (mK bY bZ));have bn:O (fT D (.slice at_ x.p.length V) x.p):=b4;have bh:O _:=ak;have bf:O _:=ai;have bm:O (∀p,p∈q.eraseIdx i->fT D p.2 p.1.p):=fun p L=>a4 p (XS L);(have bz:(q.eraseIdx i).length=n:=by rw[List.length_eraseIdx,if_pos a9];omega);have bd:O (∀(z:bK)(vo:Value)(K:World)(T:σ),Below D.heap.size D K->KP D NB K vo (q.eraseIdx i)->lK ru.vars.toNat z->sV ru z.w ((q.eraseIdx i).map (·.1))->I T K->ET step a5 T (jB facts n ((q.eraseIdx i).map (·.1)) z)->Calls Tryz.prog 98 #[.slice af facts.length cf,vo,eW z, .func (.func hh) #[] cb] K fun e H=>e=.returned (.bool (gG step T (jB facts n ((q.eraseIdx i).map (·.1)) z)).2)/\I (gG step T (jB facts n ((q.eraseIdx i).map (·.1)) z)).1 H/\Kp D.heap.size NB K H):=fun z vo K T=>IH (q.eraseIdx i) z vo K T bz oM;have bg:O (QAt w ⟨b,A,none⟩ q):=ap;have bj:O ((∀p,p∈q.take i->∃G n c,p.2=.slice G n c)/\(∀p,p∈q.drop (i+1)->∃G n c,p.2=.slice G n c)):=⟨fun p L=>by obtain⟨a1,c1,e1,_⟩:=a4 p (jG L);exact⟨_,_,_,e1⟩,fun p L=>by obtain⟨a1,c1,e1,_⟩:=a4 p (qA L);exact⟨_,_,_,e1⟩⟩;have ae:O ((q.take i).length=i/\(q.drop (i+1)).length=q.length-(i+1)):=⟨by rw[cW];omega,tT⟩;have b8:O (q.take i++q.drop (i+1)=q.eraseIdx i/\(q.eraseIdx i).length=(q.take i).length+(q.drop (i+1)).length):=⟨(List.eraseIdx_eq_take_drop_succ ..).symm,by rw[List.eraseIdx_eq_take_drop_succ,bA]⟩;have aV:O (kG (((w.alloc (.cells #[.slice af facts.length cf] 27)).alloc (.cells (eA y) 138)).alloc (.cells #[.func (.func hh) #[] cb] 139)) (w.heap.size+1) y):=h1;have av:O _:=h0;have aF:O _:=h2;have au:O _:=am;have aS:O _:=TL;have ar:O _:=ah;have bb:O _:=hF;have ba:O _:=b1;have be:O _:=B;have c8:O _:=S;have b5:=S.wf;have b2:=aq.2;have ck:=aq.1;have cK:q.length<=1000:=oM;(have c0:(((w.alloc (.cells #[.slice af facts.length cf] 27)).alloc (.cells (eA y) 138)).alloc (.cells #[.func (.func hh) #[] cb] 139)).cell? ⟨w.heap.size,0,none⟩=some (.slice af facts.length cf):=cH h0);have gl:decide (q.length=0)=false:=aJ oM;have cG:((q.length:Int)==0)=false:=fR.mpr oM;clear hF b1 R hN al hC TL IH bN ap bT a4 bx hi hr aj h0 h1 h2 am aq a2 ak ai b3 bW bX bY bZ b4 bz B bs bt ah hL S an cm
 go_enter Tryz.func98,Tryz.ntmps98
 go_upto_region 1 with fail;generalize (((w.alloc (.cells #[.slice af facts.length cf] 27)).alloc (.cells (eA y) 138)).alloc (.cells #[.func (.func hh) #[] cb] 139))=w1 at *;go_wp2_with(refine nE (bF rfl) _ rfl _ rfl y aV.o b5 ?_);refine Calls.mono HC.o ?_;rintro _ H ⟨rfl,Y⟩;have ad:O (Below w.heap.size w H):=au.o.trans (Y.mono au.o.size);have az:O (w.heap.size<=H.heap.size):=ad.o.size;have ax:O (H.heap[w.heap.size]?=some (.cells #[.slice af facts.length cf] 27)):=(Y.block _ (bP av.o)).trans av.o;have bp:O (kG H (w.heap.size+1) y):=kG.u aV.o Y;have aI:O (H.heap[w.heap.size+2]?=some (.cells #[.func (.func hh) #[] cb] 139)):=(Y.block _ (bP aF.o)).trans aF.o;have c5:O (∀d,Below H.heap.size H d->QAt d ⟨b,A,none⟩ (q.take i)):=fun d W=>((QAt.take bg.o i).u ad.o).u W;have c6:O (∀d,Below H.heap.size H d->QAt d ⟨b,DK A g i,none⟩ (q.drop (i+1))):=fun d W=>by
  unfold DK;by_cases a0:g=i+1
  ·rw[bD oM];intro j u hj;simp[kZ]at hj
  rw[if_neg a0];exact((QAt.drop bg.o (i+1) a9).u ad.o).u W
 clear Y c0 HC aV av aF au;go_upto_region 4 with fail;refine kU (aBR b A q.length g i w.heap.size (q.eraseIdx i)) 10 dE kR kR kR (aFI b A q.length g i w.heap.size (q.eraseIdx i)) ?hopA ?htailA
 case hopA=>
  refine oC (fun a d h=>by have e1:a.eval (.tmp 1)=(.slice (some ⟨b,A,none⟩) q.length g:Value):=h.old 1;exact jC (.slice (some ⟨b,A,none⟩) q.length g)) ?_;refine oC (fun a d h=>by have e9:a.eval (.tmp 9)=(.int .i64 i:Value):=h.old 9;exact jC (.int .i64 i)) ?_;refine oC (fun a d h=>by have cq:a.eval (.tmp 21)=(.slice (some ⟨b,A,none⟩) q.length g:Value):=h.of 21;have cr:a.eval (.tmp 22)=(.int .i64 i:Value):=h.of 22;refine XM (v:=.slice (some ⟨b,A,none⟩) i g) ?_;have ec:=qM a;generalize a.eval=ev at *;clear h;go_simp;exact fun hx=>absurd hx oM) ?_;refine oC (fun a d h=>by have e1:a.eval (.tmp 1)=(.slice (some ⟨b,A,none⟩) q.length g:Value):=h.old 1;exact jC (.slice (some ⟨b,A,none⟩) q.length g)) ?_;refine oC (fun a d h=>by have e9:a.eval (.tmp 9)=(.int .i64 i:Value):=h.old 9;exact jC (.int .i64 i)) ?_;refine oC (fun a d h=>by have cv:a.eval (.tmp 25)=(.int .i64 i:Value):=h.of 25;refine XM (v:=.int .i64 ((i+1:Nat):Int)) ?_;have ec:=qM a;generalize a.eval=ev at *;clear h;go_simp;simp[IntKind.wrap,IntKind.bits,IntKind.signed];omega) ?_;refine oC (fun a d h=>?_) ?_
  ·have cu:a.eval (.tmp 24)=(.slice (some ⟨b,A,none⟩) q.length g:Value):=h.of 24;have cw:a.eval (.tmp 26)=(.int .i64 ((i+1:Nat):Int):Value):=h.of 26;refine XM (v:=.slice (some ⟨b,DK A g i,none⟩) (q.length-(i+1)) (g-(i+1))) ?_;have ec:=qM a;generalize a.eval=ev at *;clear h;go_simp;rw[if_pos ⟨oM,oM⟩];unfold DK;by_cases a0:g=i+1
   ·rw[if_pos a0,if_pos a0]
   rw[if_neg a0,if_neg a0]
  refine oC (fun a d h=>by have cs:a.eval (.tmp 23)=(.slice (some ⟨b,A,none⟩) i g:Value):=h.of 23;have cx:a.eval (.tmp 27)=(.slice (some ⟨b,DK A g i,none⟩) (q.length-(i+1)) (g-(i+1)):Value):=h.of 27;refine fC (v:=.slice (some ⟨d.heap.size,0,none⟩) 2 2) (w':=d.alloc (.cells #[.slice (some ⟨b,A,none⟩) i g, .slice (some ⟨b,DK A g i,none⟩) (q.length-(i+1)) (g-(i+1))] 38)) (bF rfl) ?_ (fun t ht=>by cases ht;exact⟨_,rfl,aR d _⟩) ((aH _ _).alloc (aE _) _);have ec:=qM a;generalize a.eval=ev at *;clear h;go_simp) ?_;refine oC (fun a d h=>?_) ?_
  ·obtain⟨N,cy,bv⟩:∃N,a.eval (.tmp 28)=.slice (some ⟨N,0,none⟩) 2 2/\d.heap[N]?=some (.cells #[.slice (some ⟨b,A,none⟩) i g, .slice (some ⟨b,DK A g i,none⟩) (q.length-(i+1)) (g-(i+1))] 38):=h.of 28;refine iC (f:=144) (args:=#[(.slice (some ⟨N,0,none⟩) 2 2)]) (bF rfl) ?_ ?_
   ·have ec:=qM a;have ef:=IM a;generalize a.eval=ev at *;clear h;go_simp
   refine Calls.mono (aFH (q.take i) (q.drop (i+1)) N ⟨b,A,none⟩ ⟨b,DK A g i,none⟩ g (g-(i+1)) d (c5.o d h.u) (c6.o d h.u) bj.o.1 bj.o.2 (by rw[ae.o.1,cD bv];rfl) (by rw[ae.o.2,cD bv];rfl) (by rw[ae.o.1];omega) (by rw[ae.o.2];omega)) ?_;rintro _ y2 ⟨v',rfl,a3,Y⟩;refine⟨_,rfl,fun t ht=>?_,Y⟩;cases ht;show y2.ownsRow _ _ _ _ (q.eraseIdx i).length (kZ (q.eraseIdx i));rw[b8.o.2,<-b8.o.1];exact gL a3 (bH az.o h.u.size)
  refine oC (fun a d h=>by refine fC (v:=.pointer (some ⟨d.heap.size,0,none⟩)) (w':=d.alloc (.cells #[.slice none 0 0] 38)) (bF rfl) ?_ (fun t ht=>by cases ht;exact⟨_,rfl,bH az.o h.u.size,aR d _⟩) ((aH _ _).alloc (aE _) _);have ec:=qM a;generalize a.eval=ev at *;clear h;go_simp) ?_;exact JL.nil
 case htailA=>
  rintro⟨m,E⟩ d B;obtain⟨C,b0,bu,a8⟩:∃N,Act.eval ⟨m,E⟩ (.tmp 10)=.pointer (some ⟨N,0,none⟩)/\w.heap.size<=N/\d.heap[N]?=some (.cells #[.slice none 0 0] 38):=B.all 9 _ 10 dE rfl rfl;have a3:d.ownsRow w.heap.size 49 4 (Act.eval ⟨m,E⟩ (.tmp 29)) (q.eraseIdx i).length (kZ (q.eraseIdx i)):=B.all 8 _ 29 dE rfl rfl;obtain⟨G,M,eo⟩:=bJ a3;have bq:Act.eval ⟨m,E⟩ (.tmp 29)=.slice G (q.eraseIdx i).length M:=eo;rw[bq]at a3;(have c0:d.cell? ⟨C,0,none⟩=some (.slice none 0 0):=cH a8);have f0:=cM a8 0;show wpOps Tryz.prog _ _ [10] _ _;rw[iO];refine zK rfl (bF rfl) rfl (w':=d.setCell ⟨C,0,none⟩ (.slice G (q.eraseIdx i).length M)) ?_ ?_
  ·show Sem.run Tryz.prog (execOp (Act.eval ⟨m,E⟩) _) d=_;generalize Act.eval ⟨m,E⟩=ev at *;clear B;go_simp
  have a7:Below H.heap.size H d:=B.u;have cj:H.heap.size<=C\/C<H.heap.size:=oM;(have b6:O ((d.setCell ⟨C,0,none⟩ (.slice G (q.eraseIdx i).length M)).heap[C]?=some (.cells #[.slice G (q.eraseIdx i).length M] 38)):=by show _=_;rw[bV a8];rfl);have ag:O (∀(k:Nat)(c:Array Value)(t:TypeId),d.heap[k]?=some (.cells c t)->t≠38->(d.setCell ⟨C,0,none⟩ (.slice G (q.eraseIdx i).length M)).heap[k]?=some (.cells c t)):=fun k c t Z ht=>by
   rw[cL (fun e=>?_)]
   ·exact Z
   subst e;rw[a8]at Z;injection Z with Z;injection Z with _ Z;exact ht Z.symm
  have bi:O ((d.setCell ⟨C,0,none⟩ (.slice G (q.eraseIdx i).length M)).ownsRow w.heap.size 49 4 (.slice G (q.eraseIdx i).length M) (q.eraseIdx i).length (kZ (q.eraseIdx i))):=gR a3 (fun k a ha=>ag.o k a 49 ha dE);have U:O (Below w.heap.size w (d.setCell ⟨C,0,none⟩ (.slice G (q.eraseIdx i).length M))):=(ad.o.trans (a7.mono az.o)).setCell (p:=⟨C,0,none⟩) bu _;have ac:=B.still;have aa:m.size=38:=B.size;obtain rfl:E=[]:=B.defers;have br:m.getD 10 undef=.pointer (some ⟨C,0,none⟩):=b0;have b9:O (d.heap[w.heap.size]?=some (.cells #[(.slice af facts.length cf)] 27)):=(a7.block _ (bP ax.o)).trans ax.o;have bo:O (kG d (w.heap.size+1) y):=kG.u bp.o a7;have bk:O (d.heap[w.heap.size+2]?=some (.cells #[.func (.func hh) #[] cb] 139)):=(a7.block _ (bP aI.o)).trans aI.o;have aw:O _:=ag.o _ _ _ b9.o dE;have c7:O (kG _ (w.heap.size+1) y):=ag.o _ (eA y) 138 bo.o dE;have bl:O _:=ag.o _ _ _ bk.o dE;have bc:O (I s (d.setCell ⟨C,0,none⟩ (.slice G (q.eraseIdx i).length M))):=aS.o.grow _ _ _ be.o U.o;clear B a3 eo bq c0 f0 b0 a7 cj b9 bo bk ax bp aI a8;generalize d.setCell ⟨C,0,none⟩ (.slice G (q.eraseIdx i).length M)=w5 at *;show Exit.then _ _ Exit.normal ⟨m,[]⟩ w5;obtain⟨fQ,hQ,J⟩:=pQ [21,22,23,24,25,26,27,28,29,10] m _ (aa.trans rF) ac;clear ac aa;simp only[List.foldl_cons,List.foldl_nil,(hQ 10).trans br]at J;clear br hQ;simp only[List.setIfInBounds_toArray,List.set_cons_zero,List.set_cons_succ]at J;subst J;have a6:O (Below D.heap.size D w5):=ar.o.trans (U.o.mono ar.o.size);have aT:O _:=aPL (ru:=ru) (r:=q.eraseIdx i) (n:=n) (facts:=facts) (af:=af) (cf:=cf) (ao:=G) (co:=M) (X:=w.heap.size) (OB:=C) aS.o (fun z K T=>bd.o z _ K T) b2 (dQ b2 bu);have b7:O (Eb I D NB w.heap.size C (.slice af facts.length cf) (.slice G (q.eraseIdx i).length M) hh cb (q.eraseIdx i) s w5):=⟨bc.o,aw.o,b6.o,bl.o,aMS bi.o b2 bm.o,a6.o⟩;(have c4:O (∀d,Below w5.heap.size w5 d->Calls Tryz.prog 145 #[.slice af facts.length cf, .agg #[.int .i64 x.kind, .int .i64 x.op, .int .i64 x.z, .slice at_ x.p.length V],eW y, .func (.func 146) #[] #[.pointer (some ⟨w.heap.size,0,none⟩), .pointer (some ⟨C,0,none⟩), .pointer (some ⟨w.heap.size+2,0,none⟩)]] d fun e w6=>e=.returned (.bool F.2)/\I F.1 w6/\Kp D.heap.size NB w w6):=fun d W=>by refine Calls.mono (aFS (NB:=NB) (hh:=146) (cb:=#[.pointer (some ⟨w.heap.size,0,none⟩), .pointer (some ⟨C,0,none⟩), .pointer (some ⟨w.heap.size+2,0,none⟩)]) facts x y (.slice af facts.length cf) (.slice at_ x.p.length V) D d s (a6.o.trans (W.mono a6.o.size)) bb.o oM ba.o bn.o ay.o b5 aT.o (jQ Tryz.func146 kR rfl) (aT.o.grow _ _ _ b7.o W) bf.o) ?_;rintro e w6 ⟨h1,h2,h3⟩;rw[<-bh.o]at h1 h2;exact⟨h1,h2.i,((Kp.of_below U.o ck).trans (Kp.of_below W a6.o.size)).trans h3⟩);(have ce:w5.cell? ⟨w.heap.size,0,none⟩=some (.slice af facts.length cf):=cH aw.o);have p0:=aB U.o HP.o.1;have p1:=aB U.o HP.o.2.1;have p2:=aB U.o HP.o.2.2.1;have p3:=aB U.o HP.o.2.2.2;clear a6 aT b7 bd bh bf bn ay HP bm bi b6 aw bl bc aS ar bb ba be c8;go_upto_region 5 with fail;refine kU (fun tQ vQ _=>vQ=aRT (.slice af facts.length cf) b A q.length g i w.heap.size C x (.slice at_ x.p.length V) y tQ) 7 dE kR kR kR (fun _ _ _ _ _ h=>h) ?hopB ?htailB;case hopB=>refine oC (fun a d h=>by have e4:a.eval (.tmp 4)=(.pointer (some ⟨w.heap.size,0,none⟩):Value):=h.old 4;have c0:=aB h.u ce;exact jC (.slice af facts.length cf)) ?_;refine oC (fun a d h=>by have e1:a.eval (.tmp 1)=(.slice (some ⟨b,A,none⟩) q.length g:Value):=h.old 1;exact jC (.slice (some ⟨b,A,none⟩) q.length g)) ?_;refine oC (fun a d h=>by have e9:a.eval (.tmp 9)=(.int .i64 i:Value):=h.old 9;exact jC (.int .i64 i)) ?_;refine oC (fun a d h=>by have cz:a.eval (.tmp 31)=(.slice (some ⟨b,A,none⟩) q.length g:Value):=h.of 31;have cE:a.eval (.tmp 32)=(.int .i64 i:Value):=h.of 32;exact jC (.pointer (some ⟨b,A+i*4,none⟩))) ?_;refine oC (fun a d h=>by have cF:a.eval (.tmp 33)=(.pointer (some ⟨b,A+i*4,none⟩):Value):=h.of 33;have c0:=aB h.u p0;have c1:=aB h.u p1;have c2:=aB h.u p2;have c3:=aB h.u p3;exact jC (.agg #[.int .i64 x.kind, .int .i64 x.op, .int .i64 x.z, .slice at_ x.p.length V])) ?_;refine oC (fun a d h=>by have e6:a.eval (.tmp 6)=(.pointer (some ⟨w.heap.size+1,0,none⟩):Value):=h.old 6;refine XM (v:=eW y) ?_;exact sN rfl e6 (kG.u c7.o h.u) b5) ?_;refine oC (fun a d h=>by have e4:a.eval (.tmp 4)=(.pointer (some ⟨w.heap.size,0,none⟩):Value):=h.old 4;have b0:a.eval (.tmp 10)=(.pointer (some ⟨C,0,none⟩):Value):=h.old 10;have e7:a.eval (.tmp 7)=(.pointer (some ⟨w.heap.size+2,0,none⟩):Value):=h.old 7;exact jC (.func (.func 146) #[] #[.pointer (some ⟨w.heap.size,0,none⟩), .pointer (some ⟨C,0,none⟩), .pointer (some ⟨w.heap.size+2,0,none⟩)])) ?_;exact JL.nil
  case htailB=>
   rintro⟨m,E⟩ d B;have c9:Act.eval ⟨m,E⟩ (.tmp 30)=(.slice af facts.length cf):=B.all 0 _ 30 dE rfl rfl;have ca:Act.eval ⟨m,E⟩ (.tmp 34)=(.agg #[.int .i64 x.kind, .int .i64 x.op, .int .i64 x.z, .slice at_ x.p.length V]:Value):=B.all 4 _ 34 dE rfl rfl;have cc:Act.eval ⟨m,E⟩ (.tmp 35)=eW y:=B.all 5 _ 35 dE rfl rfl;have cd:Act.eval ⟨m,E⟩ (.tmp 36)=.func (.func 146) #[] #[.pointer (some ⟨w.heap.size,0,none⟩), .pointer (some ⟨C,0,none⟩), .pointer (some ⟨w.heap.size+2,0,none⟩)]:=B.all 6 _ 36 dE rfl rfl;have ef:=IM ⟨m,E⟩;have aa:m.size=38:=B.size;show wpOps Tryz.prog _ _ [7,8] _ _;rw[iO];refine ZA (f:=145) (args:=#[(.slice af facts.length cf), .agg #[.int .i64 x.kind, .int .i64 x.op, .int .i64 x.z, .slice at_ x.p.length V],eW y, .func (.func 146) #[] #[.pointer (some ⟨w.heap.size,0,none⟩), .pointer (some ⟨C,0,none⟩), .pointer (some ⟨w.heap.size+2,0,none⟩)]]) rfl (bF rfl) ?_ ?_
   ·show Sem.run Tryz.prog (execOp (Act.eval ⟨m,E⟩) _) d=_;generalize Act.eval ⟨m,E⟩=ev at *;clear B;go_simp
   refine Calls.mono (c4.o d B.u) ?_;rintro eR w6 ⟨bw,ch,ci⟩;refine⟨_,bw,?_⟩;rw[iO];refine uM (v:=.bool F.2) (w':=w6) rfl (bF rfl) ?_ ?_
   ·have q2:Act.eval (Act.put ⟨m,E⟩ (some 37) (.bool F.2)) (.tmp 37)=.bool F.2:=iF (by show 37<m.size;omega);show Sem.run Tryz.prog (execOp (Act.eval (Act.put ⟨m,E⟩ (some 37) (.bool F.2))) _) w6=_;generalize Act.eval (Act.put ⟨m,E⟩ (some 37) (.bool F.2))=ev at *;clear B;go_simp
   (have ac:∀t,t∉[30,31,32,33,34,35,36,37,8]->((m.setIfInBounds 37 (.bool F.2)).setIfInBounds 8 (.bool F.2)).getD t undef=_:=fun t ht=>by have hA:t≠37:=fun e=>ht (by rw[e];decide);have hB:t≠8:=fun e=>ht (by rw[e];decide);exact((gB (a:=Act.put ⟨m,E⟩ (some 37) (.bool F.2)) hB).trans (gB (a:=⟨m,E⟩) hA)).trans (B.still t ht));have h8:((m.setIfInBounds 37 (.bool F.2)).setIfInBounds 8 (.bool F.2)).getD 8 undef=.bool F.2:=iF (a:=Act.put ⟨m,E⟩ (some 37) (.bool F.2)) (by rw[uJ];show 8<m.size;omega);obtain rfl:E=[]:=B.defers;(have bU:((m.setIfInBounds 37 (.bool F.2)).setIfInBounds 8 (.bool F.2)).size=38:=by simp[aa]);clear B c9 ca cc cd ef aa bw;show Exit.then _ _ Exit.normal ⟨(m.setIfInBounds 37 (.bool F.2)).setIfInBounds 8 (.bool F.2),[]⟩ w6;generalize (m.setIfInBounds 37 (.bool F.2)).setIfInBounds 8 (.bool F.2)=Q at *;have J:=LH [30,31,32,33,34,35,36,37,8] Q _ (bU.trans rF) ac;clear bU ac;simp only[List.foldl_cons,List.foldl_nil,h8]at J;clear h8;generalize Q.getD 30 undef=cN at J;generalize Q.getD 31 undef=cS at J;generalize Q.getD 32 undef=cT at J;generalize Q.getD 33 undef=cU at J;generalize Q.getD 34 undef=cV at J;generalize Q.getD 35 undef=cX at J;generalize Q.getD 36 undef=d0 at J;generalize Q.getD 37 undef=d1 at J;simp only[List.setIfInBounds_toArray,List.set_cons_zero,List.set_cons_succ]at J;subst J;go_wp2_with fail;go_ret;exact⟨rfl,ch,ci⟩
theorem aPM{σ:Type}{step:σ->bK->σ×Bool}{r:σ->bK->Prop}{I:σ->World->Prop}{NB hh:Nat}{cb:Array Value}{facts:List aN}{ru:bB}{b:World}(v:Value)(k:dA b v facts)(D:facts.length<=1000)(C:∀f,f∈facts->fW f)(J:Uk facts ru)(G:∀f,f∈facts->∀n,n∈f.args->cP n=true)(K:∀l,l∈ru.body->l.p.length<=1000)(B:∀l,l∈ru.body->FO l)(i:WC b.heap.size NB hh cb step r I)(L:∀j w,(callFunc hh j).run Tryz.prog w=.ok (.enter hh j) w):∀n,∀(q:List Lv)(y:bK)(d:Value)(w:World)(s:σ),q.length=n->n<=1000->Below b.heap.size b w->KP b NB w d q->lK ru.vars.toNat y->sV ru y.w (q.map (·.1))->I s w->ET step r s (jB facts n (q.map (·.1)) y)->Calls Tryz.prog 98 #[v,d,eW y, .func (.func hh) #[] cb] w fun e g=>e=.returned (.bool (gG step s (jB facts n (q.map (·.1)) y)).2)/\I (gG step s (jB facts n (q.map (·.1)) y)).1 g/\Kp b.heap.size NB w g:=by
 obtain⟨Q,R,rfl,S⟩:=id k;intro n
 induction n with
 |zero=>
  intro q y d w s M _ _ H N _ E F;have :q=[]:=mB.mp M;subst this;refine Calls.mono (aMW i L y d w s H N.wf E F.1) ?_;rintro e g ⟨x,z,A⟩;have m:=GJ step s y;exact⟨x.trans (by show _=Ending.returned (.bool (gG step s [y]).2);rw[m]),by show I (gG step s [y]).1 g;rw[m];exact z,A⟩
 |succ n P=>exact aMY k D C J G K B i n P
theorem Xq:(Tryz.prog.info? 22).map (fun i=>(i.zero,i.size,i.bytes))=some (some (.slice none 0 0),1,24):=kR
def GK(m:Nat)(s:List (List Int))(x:bK):List (List Int)×Bool:=(s++[x.y.take m],decide (s.length+1<=2000))
def aD9(s:List (List Int))(_:bK):Prop:=s.length<=2000
theorem ZU(m:Nat):∀(L:List bK)(s:List (List Int)),s.length<=2000->ET (GK m) aD9 s L
 |[],_,_=>trivial
 |_::L,s,h=>⟨h,fun d=>ZU m L _ (by have b:decide (s.length+1<=2000)=true:=d;have :=eL b;show(s++[_]).length<=2000;rw[bA];exact this)⟩
theorem VH(m:Nat):∀(L:List bK)(s:List (List Int)),s.length<=2000->(gG (GK m) s L).1=s++(L.take (2001-s.length)).map (fun x=>x.y.take m)
 |[],s,_=>by rw[List.take_nil];show s=s++[];rw[jM]
 |x::L,s,h=>by
  rw[rW];by_cases b:s.length+1<=2000
  ·have e:(GK m s x).2=true:=aQ b;rw[if_pos e,VH m L _ (by show(s++[_]).length<=2000;rw[bA];exact b)];show(s++[x.y.take m])++(L.take (2001-(s++[x.y.take m]).length)).map _=_;rw[bA,iP,show 2001-s.length=(2001-(s.length+[x.y.take m].length))+1 from by simp;omega,RM];rfl
  have e:¬(GK m s x).2=true:=fun d=>b (eL d);rw[if_neg e,show 2001-s.length=0+1 from by omega,RM];rfl
theorem kG.takeV{w:World}{b m:Nat}{y:bK}(h:kG w b y)(f:jI 8 y)(g:m<=8):dM w (.slice (some ⟨b,0,none⟩) m 8) (y.y.take m):=by(have e:(y.y.take m).length=m:=by rw[cW,f.n];omega);refine⟨some ⟨b,0,none⟩,8,by rw[e], .inr ⟨b,0,rfl,fun i d=>?_⟩⟩;rw[e]at d;rw[dV,show bM (y.y.take m) i=bM y.y i from by unfold bM;rw[aC,List.getElem?_take_of_lt d,aC]];exact h.num f oM
def Yg(NB RB:Nat)(b:Array Value)(s:List (List Int))(w:World):Prop:=
 ∃(q:List (List Int×Value))(v:Value),q.map (·.1)=s/\w.heap[NB]?=some (.cells #[v] 28)/\w.ownsRow (NB+1) 22 1 v q.length (q.map (·.2))/\(∀p,p∈q->w.ownsRow (NB+1) 3 1 p.2 p.1.length (p.1.map (Value.int .i64)))/\w.heap[RB]?=some (.cells b 40)
def aRV(d:Value)(X RB m:Nat)(e:Nat)(b:Value):Prop:=
 match e with
 |5=>b=(d:Value)
 |6=>b=(.pointer (some ⟨X,0,none⟩):Value)
 |7=>b=(.pointer (some ⟨RB,4,none⟩):Value)
 |8=>b=(.int .i64 (m:Nat):Value)
 |9=>b=(.slice (some ⟨X,0,none⟩) m 8:Value)
 |_=>True
def Dq(i:Value)(X RB m B:Nat)(l:List Int)(d:Nat)(e:Value)(b:World):Prop:=
 if d=10 then b.ownsRow B 3 1 e l.length (l.map (Value.int .i64))
 else if d=11 then∃f g,e=.slice (some ⟨f,0,none⟩) 1 1/\b.heap[f]?=some (.cells #[g] 22)/\b.ownsRow B 3 1 g l.length (l.map (Value.int .i64))else aRV i X RB m d e
theorem aBU(e:Value)(X RB m B:Nat)(l:List Int)(b:Nat)(j:Value)(W W':World)(d:Below W.heap.size W W')(h:Dq e X RB m B l b j W):Dq e X RB m B l b j W':=by
 unfold Dq at h ⊢;by_cases ht:b=10
 ·rw[if_pos ht]at h ⊢;exact bI h d
 rw[if_neg ht]at h ⊢;by_cases i:b=11
 ·rw[if_pos i]at h ⊢;obtain⟨f,p,k,g,n⟩:=h;exact⟨f,p,k,(d.block f (aG.mp g).1).trans g,bI n d⟩
 rw[if_neg i]at h ⊢;exact h
theorem aI4(I:World)(NB RB m:Nat)(rc:Array Value)(a9:rc[4]?=some (.int .i64 (m:Nat)))(aw:m<=8)(ag:I.heap.size<=NB)(aq:RB≠NB)(s:List (List Int))(w:World)(x:bK)(n:Yg NB RB rc s w)(hs:s.length<=2000)(hy:jI 8 x):
 Calls Tryz.prog 99 #[eW x, .pointer (some ⟨NB,0,none⟩), .pointer (some ⟨RB,0,none⟩)] w fun e w'=>e=.returned (.bool (decide (s.length+1<=2000)))/\Yg NB RB rc (s++[x.y.take m]) w'/\Kp I.heap.size NB w w':=by
 obtain⟨i0,hi,ay,az,aF⟩:=iT Xq;obtain⟨q,v,a1,K,G,aa,X⟩:=n;obtain⟨B,C,rfl⟩:=bJ G;have H:=(aH w.heap.size w).alloc (aE _) (.cells (eA x) 138);(have aI:q.length<=2000:=by rw[<-a1,aP]at hs;exact hs);have HS:O _:=a1;have HN:O _:=(H.block _ (bP K)).trans K;have T:O _:=(H.block _ (bP X)).trans X;have HO:O _:=bI G H;have al:O (∀p,p∈q->(w.alloc (.cells (eA x) 138)).ownsRow (NB+1) 3 1 p.2 p.1.length (p.1.map (Value.int .i64))):=fun p D=>bI (aa p D) H;have HK:O (Kp I.heap.size NB w (w.alloc (.cells (eA x) 138))):=Kp.of_below H (bH ag (wR (bP K)));have HW:O (kG (w.alloc (.cells (eA x) 138)) w.heap.size x):=aR w _;have an:O (NB+1<=(w.alloc (.cells (eA x) 138)).heap.size):=bP HN.o;(have n0:(w.alloc (.cells (eA x) 138)).cell? ⟨NB,0,none⟩=some (.slice B q.length C):=cH HN.o);(have r4:(w.alloc (.cells (eA x) 138)).cell? ⟨RB,4,none⟩=some (.int .i64 (m:Nat)):=by rw[cD T.o];exact a9);clear a1 K X G aa H hs a9
 go_enter Tryz.func99,Tryz.ntmps99
 go_upto_region 1 with fail;generalize w.alloc (.cells (eA x) 138)=w1 at *;refine kU (Dq (.slice B q.length C) w.heap.size RB m (NB+1) (x.y.take m)) 7 dE kR kR kR (aBU (.slice B q.length C) w.heap.size RB m (NB+1) (x.y.take m)) ?hopA ?htailA
 case hopA=>
  refine oC (fun a b h=>by have U:a.eval (.tmp 1)=(.pointer (some ⟨NB,0,none⟩):Value):=h.old 1;have c0:=aB h.u n0;exact jC (.slice B q.length C)) ?_;refine oC (fun a b h=>by have e3:a.eval (.tmp 3)=(.pointer (some ⟨w.heap.size,0,none⟩):Value):=h.old 3;exact jC (.pointer (some ⟨w.heap.size,0,none⟩))) ?_;refine oC (fun a b h=>by have e2:a.eval (.tmp 2)=(.pointer (some ⟨RB,0,none⟩):Value):=h.old 2;exact jC (.pointer (some ⟨RB,4,none⟩))) ?_;refine oC (fun a b h=>by have e7:a.eval (.tmp 7)=(.pointer (some ⟨RB,4,none⟩):Value):=h.of 7;have c0:=aB h.u r4;exact jC (.int .i64 (m:Nat))) ?_;refine oC (fun a b h=>by have e6:a.eval (.tmp 6)=(.pointer (some ⟨w.heap.size,0,none⟩):Value):=h.of 6;have e8:a.eval (.tmp 8)=(.int .i64 (m:Nat):Value):=h.of 8;have g0:(0:Int)<=(m:Int):=oM;have g8:(m:Int)<=8:=oM;exact jC (.slice (some ⟨w.heap.size,0,none⟩) m 8)) ?_;refine oC (fun a b h=>?_) ?_
  ·have e9:a.eval (.tmp 9)=(.slice (some ⟨w.heap.size,0,none⟩) m 8:Value):=h.of 9;refine iC (f:=77) (args:=#[.slice (some ⟨w.heap.size,0,none⟩) m 8]) (bF rfl) ?_ ?_
   ·have ec:=qM a;have ef:=IM a;generalize a.eval=ev at *;clear h;go_simp
   refine Calls.mono (GU (x.y.take m) _ b (by have :=kG.takeV (kG.u HW.o h.u) hy aw;exact this) (by rw[cW];omega)) ?_;rintro _ y2 ⟨E,rfl,ax,ar⟩;refine⟨_,rfl,fun t ht=>?_,ar⟩;cases ht;exact gL ax (bH an.o h.u.size)
  refine oC (fun a b h=>by have G:b.ownsRow (NB+1) 3 1 (a.eval (.tmp 10)) (x.y.take m).length ((x.y.take m).map (Value.int .i64)):=h.of 10;obtain⟨ao,co,ap⟩:=bJ G;rw[ap]at G;refine fC (v:=.slice (some ⟨b.heap.size,0,none⟩) 1 1) (w':=b.alloc (.cells #[.slice ao (x.y.take m).length co] 22)) (bF rfl) ?_ (fun t ht=>by cases ht;exact⟨_,_,rfl,aR b _,G.alloc _⟩) ((aH _ _).alloc (aE _) _);have ec:=qM a;generalize a.eval=ev at *;clear h;go_simp) ?_;exact JL.nil
 case htailA=>
  rintro⟨r,A⟩ b n;have e5:Act.eval ⟨r,A⟩ (.tmp 5)=(.slice B q.length C):=n.all 0 _ 5 dE rfl rfl;obtain⟨J,E,a3,a7,a0⟩:∃J E,Act.eval ⟨r,A⟩ (.tmp 11)=.slice (some ⟨J,0,none⟩) 1 1/\b.heap[J]?=some (.cells #[E] 22)/\b.ownsRow (NB+1) 3 1 E (x.y.take m).length ((x.y.take m).map (Value.int .i64)):=n.all 6 _ 11 dE rfl rfl;have U:Act.eval ⟨r,A⟩ (.tmp 1)=.pointer (some ⟨NB,0,none⟩):=n.still 1 dE;have Q:=bI HO.o n.u;have M:=(n.u.block _ (bP HN.o)).trans HN.o;have a6:=(n.u.block _ (bP T.o)).trans T.o;have ab:∀p,p∈q->b.ownsRow (NB+1) 3 1 p.2 p.1.length (p.1.map (Value.int .i64)):=fun p D=>bI (al.o p D) n.u;have a5:Kp I.heap.size NB w b:=HK.o.trans (Kp.of_below n.u (bH ag (wR (bP HN.o))));have af:NB+1<=b.heap.size:=bP M;obtain⟨ai,ci,a4⟩:=bJ a0;show wpOps Tryz.prog _ _ [7,8] _ _;rw[iO];refine CA rfl (bF rfl) (wU b (.tmp 5) (.tmp 11) 28 rfl (NB+1) 22 i0 _ 1 24 Tryz.underlying28 hi ay az aF rfl dE (.slice B q.length C) q.length (q.map (·.2)) e5 Q ⟨J,0,none⟩ 1 1 (#[E]:Array Value).toList a3 rfl (zV a7) ?h1A ?h63A ?hbyA af ?_);(case h1A=>intro u R;simp only[List.mem_cons,List.not_mem_nil,or_false]at R;subst R;rw[a4];rfl);(case h63A=>unfold maxLen;omega);(case hbyA=>omega);intro v9 z N F _;obtain⟨d,i,rfl⟩:=bJ N;have a8:∀S,((.slice B q.length C):Value).ownBlock=some S->NB+1<=S:=fun S j=>(Q.lt S j).1;have Z:∀(k:Nat)(c:Array Value)(t:TypeId),b.heap[k]?=some (.cells c t)->t≠22->z.heap[k]?=some (.cells c t):=fun k c t j ht=>(F.block k (bP j) (fun e=>ht (xJ Q e.symm j))).trans j;have L:z.heap[NB]?=some (.cells #[.slice B q.length C] 28):=Z _ _ _ M dE;(have c9:z.cell? ⟨NB,0,none⟩=some (.slice B q.length C):=cH L);have f9:=cM L 0;have ad:r.size=16:=n.size;rw[iO];refine zK rfl (bF rfl) rfl (w':=z.setCell ⟨NB,0,none⟩ (.slice d (q.length+1) i)) ?_ ?_
  ·have q1:Act.eval (Act.put ⟨r,A⟩ (some 12) (.slice d (q.length+1) i)) (.tmp 1)=.pointer (some ⟨NB,0,none⟩):=(gB (a:=⟨r,A⟩) (t:=12) (u:=1) dE).trans U;have q2:Act.eval (Act.put ⟨r,A⟩ (some 12) (.slice d (q.length+1) i)) (.tmp 12)=(.slice d (q.length+1) i):=iF (by show 12<r.size;omega);show Sem.run Tryz.prog (execOp (Act.eval (Act.put ⟨r,A⟩ (some 12) (.slice d (q.length+1) i))) _) z=_;generalize Act.eval (Act.put ⟨r,A⟩ (some 12) (.slice d (q.length+1) i))=ev at *;clear n;go_simp
  have P:∀(k:Nat)(c:Array Value)(t:TypeId),b.heap[k]?=some (.cells c t)->k≠NB->t≠22->(z.setCell ⟨NB,0,none⟩ (.slice d (q.length+1) i)).heap[k]?=some (.cells c t):=fun k c t j Y ht=>(cL Y).trans (Z k c t j ht);(have a2:O ((z.setCell ⟨NB,0,none⟩ (.slice d (q.length+1) i)).heap[NB]?=some (.cells #[(.slice d (q.length+1) i)] 28)):=by show _=_;rw[bV L];rfl);(have aj:O ((z.setCell ⟨NB,0,none⟩ (.slice d (q.length+1) i)).ownsRow (NB+1) 22 1 (.slice d (q.length+1) i) (q.length+1) (q.map (·.2)++[E])):=by refine kH N (fun g hg=>cL (fun e=>?_));have :=(N.lt g hg).1;omega);have V:∀(l:List Int)(u:Value),b.ownsRow (NB+1) 3 1 u l.length (l.map (Value.int .i64))->(z.setCell ⟨NB,0,none⟩ (.slice d (q.length+1) i)).ownsRow (NB+1) 3 1 u l.length (l.map (Value.int .i64)):=fun l u R=>gR R (fun k c j=>P k c 3 j (fun e=>by rw[e,M]at j;injection j with j;injection j with _ j;cases j) dE);have ak:O _:=P _ _ _ a6 aq dE;have am:O (∀p,p∈q++[((x.y.take m),E)]->(z.setCell ⟨NB,0,none⟩ (.slice d (q.length+1) i)).ownsRow (NB+1) 3 1 p.2 p.1.length (p.1.map (Value.int .i64))):=fun p D=>by
   rcases dP.mp D with D|D
   ·exact V _ _ (ab p D)
   rcases cQ.mp D with rfl;exact V _ _ a0
  have ah:O (Kp I.heap.size NB w (z.setCell ⟨NB,0,none⟩ (.slice d (q.length+1) i))):=a5.trans ⟨F.os,F.tape,F.output,by simpa using F.size,fun k j=>(cL oM).trans (F.block k oM (fun e=>by have :=a8 k e.symm;omega)),fun k c t j Y ht=>P k c t j Y ht⟩;(have ae:∀t,t∉[5,6,7,8,9,10,11,12]->(r.setIfInBounds 12 (.slice d (q.length+1) i)).getD t undef=_:=fun t ht=>by have hA:t≠12:=fun e=>ht (by rw[e];decide);exact(gB (a:=⟨r,A⟩) hA).trans (n.still t ht));obtain rfl:A=[]:=n.defers;(have ac:(r.setIfInBounds 12 (.slice d (q.length+1) i)).size=16:=by simp[ad]);clear n e5 a3 a7 a0 U Q M a6 ab a5 af a4 N F a8 Z L c9 f9 ad P V;show Exit.then _ _ Exit.normal ⟨r.setIfInBounds 12 (.slice d (q.length+1) i),[]⟩ _;generalize z.setCell ⟨NB,0,none⟩ (.slice d (q.length+1) i)=w5 at *;generalize r.setIfInBounds 12 (.slice d (q.length+1) i)=tm at *;obtain⟨fQ,hQ,W⟩:=pQ [5,6,7,8,9,10,11,12] tm _ (ac.trans rF) ae;clear ac ae;simp only[List.foldl_cons,List.foldl_nil]at W;clear hQ;simp only[List.setIfInBounds_toArray,List.set_cons_zero,List.set_cons_succ]at W;subst W;(have c5:w5.cell? ⟨NB,0,none⟩=some (.slice d (q.length+1) i):=cH a2.o);have HD:O (decide ((q.length:Int)+1<=2000)=decide (q.length+1<=2000)):=decide_eq_decide.mpr oM;go_wp2_with fail;go_ret;refine⟨?_,⟨q++[((x.y.take m),E)],_,by rw[cB,<-HS.o];rfl,a2.o,by rw[bA,cB];exact aj.o,am.o,ak.o⟩,ah.o⟩;rw[<-HS.o,aP];show Ending.returned (.bool (decide ((q.length:Int)+1<=2000)))=_;rw[HD.o]
theorem aVR(g:World)(NB RB m:Nat)(f:Array Value)(A:f[4]?=some (.int .i64 (m:Nat)))(y:m<=8)(B:g.heap.size<=NB)(n:RB≠NB):WC g.heap.size NB 99 #[.pointer (some ⟨NB,0,none⟩), .pointer (some ⟨RB,0,none⟩)] (GK m) aD9 (Yg NB RB f):=
 ⟨fun s w x b r C=>aI4 g NB RB m f A y B n s w x b r C,fun _ _ _ b e=>by
  obtain⟨q,v,i,d,k,l,j⟩:=b
  exact⟨q,v,i,(e.block _ (bP d)).trans d,bI k e,fun p z=>bI (l p z) e,(e.block _ (bP j)).trans j⟩,fun _ _ b=>by
  obtain⟨q,v,i,d,_⟩:=b;have :=bP d
  exact⟨oM,this⟩⟩
def wW(v:Value):Prop:=∀d n b,v=.slice d n b->n<=b
theorem aJ1{w:World}{v:Value}{l:List cI}(h:pI w v l)(K:wW v)(NB:Nat):∃q:List Lv,q.map (·.1)=l/\KP w NB w v q:=by
 obtain⟨D,A,rfl,H⟩:=h;have J:=K _ _ _ rfl;rcases H with rfl|⟨b,d,rfl,x⟩
 ·exact⟨[],rfl,⟨D,A,rfl,bG _,fun z=>absurd rfl z⟩,fun p g=>absurd g sI⟩
 obtain⟨f,B⟩:=Deep.choose_lt (n:=l.length) (p:=fun i u=>w.cell? ⟨b,d+i*4+3,none⟩=some u/\fT w u (cJ l i).p) (fun i m=>by
  obtain⟨_,_,_,u,s,G⟩:=x i m
  exact⟨u,s,G⟩)
 (have C:((List.range l.length).map fun i=>(cJ l i,f i)).length=l.length:=by rw[aP,KN]);have I:QAt w ⟨b,d,none⟩ ((List.range l.length).map fun i=>(cJ l i,f i)):=by
  intro j u L;obtain⟨p,g,k⟩:=YJ sF 4 dE (fun _=>rfl) _ j u L;(have y:j/4<l.length:=by have :=(eP.mp g).1;simpa using this);rw[cY,nX y]at g;(obtain rfl:(cJ l (j/4),f (j/4))=p:=by simpa using g);obtain⟨r,E,F,_⟩:=x (j/4) y;have s:=(B (j/4) y).1;rw[Addr.add_lit];have e:j% 4=0\/j% 4=1\/j% 4=2\/j% 4=3:=oM;rcases e with e|e|e|e
  ·rw[e]at k;rw[show d+j=d+j/4*4 by omega,r];exact k
  ·rw[e]at k;rw[show d+j=d+j/4*4+1 by omega,E];exact k
  ·rw[e]at k;rw[show d+j=d+j/4*4+2 by omega,F];exact k
  rw[e]at k;rw[show d+j=d+j/4*4+3 by omega,s];exact k
 refine⟨(List.range l.length).map fun i=>(cJ l i,f i),?_,⟨_,A,by rw[C],by rw[C];exact J,fun z=>⟨b,d,rfl,I, .inl ?_⟩⟩,?_⟩
 ·apply jU;intro i;rw[SU,cY];by_cases m:i<l.length
  ·rw[nX m];simp[cJ,m]
  rw[cZ sO,cZ oM];rfl
 ·have g:0<l.length:=by
   rcases UC l.length with r|r
   ·exact absurd (by rw[r];rfl) z
   exact r
  exact jE w _ (x 0 g).1
 intro p g;obtain⟨i,m,rfl⟩:=cR.mp g;exact(B i (jV.mp m)).2
def vC(B:Nat)(w:World)(v:Value)(q:List (List Int×Value)):Prop:=w.ownsRow B 22 1 v q.length (q.map (·.2))/\∀p,p∈q->w.ownsRow B 3 1 p.2 p.1.length (p.1.map (Value.int .i64))
theorem aM5(facts:List aN)(r:bB)(Z D E:Value)(w:World)(s:dA w E facts)(a1:facts.length<=1000)(M:∀f,f∈facts->fW f)(A:Uk facts r)(N:∀f,f∈facts->∀n,n∈f.args->cP n=true)(S:∀l,l∈r.body->l.p.length<=1000)(L:∀l,l∈r.body->FO l)
 (Q:fT w Z r.p) (y:pI w D r.body) (T:wW D) (a3:r.body.length<=1000) (a4:0<=r.vars):
 Calls Tryz.prog 53 #[lP r Z D,E] w fun e w'=>∃v q,e=.returned v/\vC w.heap.size w' v q/\q.map (·.1)=(gP facts r).take 2001/\Below w.heap.size w w':=by
 obtain⟨k,j,K⟩:=aJ1 y T (w.heap.size+1);obtain⟨at_,g,rfl,_⟩:=id Q;obtain⟨b,d,rfl,_⟩:=id y;obtain⟨af,cf,a5,_⟩:=id s;obtain⟨m,J,i⟩:=KK w (.cells #[.int .i64 r.z, .slice at_ r.p.length g, .int .i64 r.x, .slice b r.body.length d, .int .i64 r.vars] 40) (.cells #[.slice none 0 0] 28);have W:r.vars=((r.vars.toNat:Nat):Int):=(Int.toNat_of_nonneg a4).symm;have G:=aVR w (w.heap.size+1) w.heap.size r.vars.toNat #[.int .i64 r.z, .slice at_ r.p.length g, .int .i64 r.x, .slice b r.body.length d, .int .i64 r.vars] (by show some (Value.int .i64 r.vars)=_;rw[<-W]) A.v8 (lX _) oM;have U:Yg (w.heap.size+1) w.heap.size #[.int .i64 r.z, .slice at_ r.p.length g, .int .i64 r.x, .slice b r.body.length d, .int .i64 r.vars] [] ((w.alloc (.cells #[.int .i64 r.z, .slice at_ r.p.length g, .int .i64 r.x, .slice b r.body.length d, .int .i64 r.vars] 40)).alloc (.cells #[.slice none 0 0] 28)):=⟨[],_,rfl,J,eD _ _ _ _,fun p C=>absurd C sI,m⟩;(have V:k.length=r.body.length:=by rw[<-j,aP]);have F:O _:=aPM E s a1 M A N S L G (jQ Tryz.func99 kR rfl) r.body.length k uV (.slice b r.body.length d) _ [] V a3 i (K.kp (Kp.of_below i (aE _))) (sZ _) (by rw[j];exact tA r) U (ZU _ _ _ (bG _));(have HE:O ((gG (GK r.vars.toNat) [] (jB facts r.body.length (k.map (·.1)) uV)).1=(gP facts r).take 2001):=by show _=_;rw[VH _ _ _ (bG _),j];show []++((sW facts r.body uV).take 2001).map _=_;rw[qB,IG];rfl);have HK:O (Kp w.heap.size (w.heap.size+1) w ((w.alloc (.cells #[.int .i64 r.z, .slice at_ r.p.length g, .int .i64 r.x, .slice b r.body.length d, .int .i64 r.vars] 40)).alloc (.cells #[.slice none 0 0] 28))):=Kp.of_below i (aE _);(have c3:((w.alloc (.cells #[.int .i64 r.z, .slice at_ r.p.length g, .int .i64 r.x, .slice b r.body.length d, .int .i64 r.vars] 40)).alloc (.cells #[.slice none 0 0] 28)).cell? ⟨w.heap.size,3,none⟩=some (.slice b r.body.length d):=cH m);clear m J i G U s M A N S L Q y K T j V W a5;generalize gG (GK r.vars.toNat) [] (jB facts r.body.length (k.map (·.1)) uV)=R at *;generalize (gP facts r).take 2001=WS at *
 go_enter Tryz.func53,Tryz.ntmps53
 go_upto_region 2 with fail;generalize (w.alloc (.cells #[.int .i64 r.z, .slice at_ r.p.length g, .int .i64 r.x, .slice b r.body.length d, .int .i64 r.vars] 40)).alloc (.cells #[.slice none 0 0] 28)=w1 at *;have a6:∀(I:Fn)(first H:Array Value)(w:World),(Instr.makeFunc I first H).run Tryz.prog w=.ok (.func I first H) w:=fun _ _ _ _=>rfl;go_wp2_with fail;refine Calls.mono F.o ?_;rintro _ w4 ⟨rfl,⟨q,v,X,P,B,Y,_⟩,a2⟩;obtain⟨ao,co,rfl⟩:=bJ B;have HO:O _:=B;have a0:O (∀p,p∈q->w4.ownsRow (w.heap.size+1+1) 3 1 p.2 p.1.length (p.1.map (Value.int .i64))):=Y;have HQ:O _:=X;(have c4:w4.cell? ⟨w.heap.size+1,0,none⟩=some (.slice ao q.length co):=cH P);clear B Y X P c3 F;go_wp2_with fail;go_ret;exact⟨_,q,rfl,⟨gL HO.o oM,fun p C=>gL (a0.o p C) oM⟩,HQ.o.trans HE.o,(HK.o.trans a2).u (aH _ _)⟩
theorem aM0:CG 132:=jQ Tryz.func132 kR rfl
theorem aMZ:CG 127:=jQ Tryz.func127 kR rfl
theorem aJR(n:Int)(w:World):Calls Tryz.prog 132 #[.int .i64 n] w fun e b=>e=.returned (.bool (!cP n))/\b=w:=by
 go_enter Tryz.func132,Tryz.ntmps132
 go_wp2_with fail;refine(XA n _).mono ?_;rintro e d ⟨rfl,rfl⟩;go_wp2_with fail;go_ret;exact⟨rfl,rfl⟩
theorem aFU(w:World)(ao:Option Addr)(b:Nat):Calls Tryz.prog 177 #[.slice ao 0 b, .func (.func 132) #[] #[]] w fun e d=>e=.returned (.int .i64 (-1))/\Below w.heap.size w d:=by
 go_enter Tryz.func177,Tryz.ntmps177
 go_wp2_with fail;refine mG 1 ?_;rw[rounds_succ];go_wp2_with fail;go_ret;exact⟨rfl,aH _ _⟩
theorem aFV(l:List Int)(n b off y:Nat)(w:World)(v:l.length=n)(D:n<=9223372036854775807)(p:∀i,i<n->w.cell? ⟨b,off+i,none⟩=some (.int .i64 (bM l i))):
 Calls Tryz.prog 177 #[.slice (some ⟨b,off,none⟩) n y, .func (.func 132) #[] #[]] w fun e A=>∃r:Int,e=.returned (.int .i64 r)/\decide (0<=r)= !(l.all cP)/\Below w.heap.size w A:=by
 have HN:O (l.length=n):=v;have z:=aM0;unfold CG at z;clear v
 go_enter Tryz.func177,Tryz.ntmps177
 go_wp2_with fail;go_loopw [8] (fun i wr=>∃k:Nat,k<=n/\i=.int .i64 k/\l.all cP=(l.drop k).all cP/\Below w.heap.size w wr) (fun i _=>n-(intOf i).toNat);case atStart=>exact⟨0,bG _,rfl,rfl,aH _ _⟩
 case round=>
  obtain⟨k,C,rfl,q,f⟩:=hrel;have m:O (l.all cP=(l.drop k).all cP):=q;clear q;by_cases s:k<n
  ·have B:=aB f (p k s);have d:O (l.all cP=(cP (bM l k)&&(l.drop (k+1)).all cP)):=m.o.trans (EA _ _ _ k (by rw[HN.o];exact s));clear p m;generalize bM l k=x at *;go_wp2_with fail;refine(aJR x _).mono ?_;rintro e E ⟨g,rfl⟩;cases j:cP x
   ·rw[j]at g;subst g;(have HV:O (l.all cP=false):=by show _=_;rw[d.o,j];rfl);clear d;go_wp2_with fail;go_ret;exact⟨k,rfl,by rw[HV.o];simp,f⟩
   rw[j]at g;subst g;(have HV:O (l.all cP=(l.drop (k+1)).all cP):=by show _=_;rw[d.o,j];rfl);clear d;go_wp2_with fail;go_roundw;(case rel=>exact⟨k+1,oM,gN,HV.o,f⟩);case measure=>exact mI
  (have HV:O (l.all cP=true):=by show _=_;rw[m.o,bD (by rw[HN.o];omega)];rfl);clear p;go_wp2_with fail;go_ret;exact⟨-1,rfl,rV,f⟩
theorem Cy(l:List Int)(v:Value)(w:World)(m:dM w v l)(p:l.length<=9223372036854775807):
 Calls Tryz.prog 131 #[v, .func (.func 132) #[] #[]] w fun e d=>e=.returned (.bool (!(l.all cP)))/\Below w.heap.size w d:=by
 obtain⟨g,f,rfl,h⟩:=m;have i:O (Calls Tryz.prog 177 #[.slice g l.length f, .func (.func 132) #[] #[]] w fun e d=>∃r:Int,e=.returned (.int .i64 r)/\decide (0<=r)= !(l.all cP)/\Below w.heap.size w d):=by
  rcases h with rfl|⟨b,q,rfl,h⟩
  ·exact(aFU w g f).mono fun e d ⟨j,k⟩=>⟨-1,j,rfl,k⟩
  exact aFV l l.length b q f w rfl p h
 go_enter Tryz.func131,Tryz.ntmps131
 go_wp2_with fail;refine Calls.mono i.o ?_;rintro e x ⟨r,rfl,s,n⟩;go_wp2_with fail;go_ret;exact⟨rfl,n⟩
abbrev aK4(b:Int)(v:Value):Value:=.agg #[.int .i64 b,v]
theorem aM4(p:bC)(va vn vr:Value)(X Y:Nat)(m:Int)(args:List Int)(v:Value)(w:World)(s:w.heap[X]?=some (.cells #[va,vn,vr] 26))(Q:w.heap[Y]?=some (.cells #[.int .i64 m,v] 55))(P:iU w va vn vr p)(hF:jK p)(hV:dM w v args)(a6:args.length<=9223372036854775807):
 Calls Tryz.prog 127 #[.pointer (some ⟨X,0,none⟩), .pointer (some ⟨Y,0,none⟩)] w fun e w'=>e=WT (nP p m args)/\Below w.heap.size w w':=by
 have V:O (iU w va vn vr p):=P;have a1:O (dM w v args):=hV;obtain⟨J,l,rfl,hA⟩:=P.ar;obtain⟨q,r,rfl,_⟩:=hV;(have c0:w.cell? ⟨X,0,none⟩=some (.slice J p.g.length l):=cH s);(have L:w.cell? ⟨X,1,none⟩=some vn:=cH s);(have M:w.cell? ⟨X,2,none⟩=some vr:=cH s);have j:O (nP p m args=iD (dJ p) (iL p m args)):=rfl;clear P
 go_enter Tryz.func127,Tryz.ntmps127
 go_wp2_with fail;refine Calls.mono (Bk p _ _ _ _ V.o hF) ?_;rintro e F ⟨f,z⟩;by_cases h:dJ p=0;rotate_left
 ·rw[AF h]at f;subst f;(have HV:O (nP p m args=dJ p):=by show _=_;rw[j.o,pD _ h]);go_wp2_with fail;exact⟨rfl,by rw[HV.o,AF h],z⟩
 rw[h,FR]at f;subst f;rw[h,eY]at j;have x:=(z.block _ (bP s)).trans s;have C:=(z.block _ (bP Q)).trans Q;clear c0 L M;(have c0:F.cell? ⟨X,0,none⟩=some (.slice J p.g.length l):=cH x);(have L:F.cell? ⟨X,1,none⟩=some vn:=cH x);(have M:F.cell? ⟨X,2,none⟩=some vr:=cH x);(have N:F.cell? ⟨Y,0,none⟩=some (.int .i64 m):=cH C);(have G:F.cell? ⟨Y,1,none⟩=some (.slice q args.length r):=cH C);clear s Q h hF V;unfold iL at j;go_wp2_with fail;refine Calls.mono (CY p.g J l vn vr m _) ?_;rintro e T ⟨f,I⟩;have n:=z.trans (I.mono z.size);have a0:=(I.block _ (bP x)).trans x;have H:=(I.block _ (bP C)).trans C;cases A:lG p.g m
 ·rw[A]at f;subst f;(have HV:O (nP p m args=5):=by show _=_;rw[j.o,A];rfl);go_wp2_with fail;refine(gO 5 _).mono ?_;rintro e U ⟨rfl,D⟩;go_wp2_with fail;exact⟨rfl,rV,n.trans (D.mono n.size)⟩
 rw[A]at f;subst f;obtain⟨k,rfl,hk⟩:=TV A;obtain⟨b,E,rfl,hc⟩:=qY hA k hk;have hq:=aB n hc;rw[A,if_pos rfl,fJ]at j;clear c0 L M N G;(have c0:T.cell? ⟨X,0,none⟩=some (.slice (some ⟨b,E,none⟩) p.g.length l):=cH a0);(have N:T.cell? ⟨Y,0,none⟩=some (.int .i64 k):=cH H);(have G:T.cell? ⟨Y,1,none⟩=some (.slice q args.length r):=cH H);clear hc hA x C z I;go_wp2_with fail;refine(iW 5 _).mono ?_;rintro e U ⟨rfl,rfl⟩;go_upto_region 3 with fail;cases Z:((args.length:Int) != bM p.g k)
 ·(have B:(args.length:Int)=bM p.g k:=by simpa using Z);rw[if_neg (by simp[B]),eY]at j;clear B;go_region_held3 (fun y=>y.cell? ⟨X,0,none⟩=some (.slice (some ⟨b,E,none⟩) p.g.length l)/\y.cell? ⟨Y,0,none⟩=some (.int .i64 k)/\y.cell? ⟨Y,1,none⟩=some (.slice q args.length r)/\y.cell? ⟨b,E+k,none⟩=some (.int .i64 (bM p.g k))) (go_keep) ((go_at_call 129;refine Calls.mono (iW 1 _) ?_;rintro e y ⟨rfl,rfl⟩));have a2:U.drew.heap[Y]?=some (.cells #[.int .i64 k, .slice q args.length r] 55):=H;have D:=n.drew;clear hq c0 N G a0 H n;generalize U.drew=w4 at *;(have G:w4.cell? ⟨Y,1,none⟩=some (.slice q args.length r):=cH a2);have a8:∀(W:Fn)(first l:Array Value)(w:World),(Instr.makeFunc W first l).run Tryz.prog w=.ok (.func W first l) w:=fun _ _ _ _=>rfl;go_wp2_with fail;refine Calls.mono (Cy args _ _ (aM a1.o D) a6) ?_;rintro e w5 ⟨f,a4⟩;have R:=D.trans (a4.mono D.size);cases g3:args.all cP
  ·rw[g3]at f j;subst f;(have HV:O (nP p k args=3):=by show _=_;rw[j.o];rfl);go_wp2_with fail;refine(gO 3 _).mono ?_;rintro e w6 ⟨rfl,a5⟩;go_wp2_with fail;exact⟨rfl,rV,R.trans (a5.mono R.size)⟩
  rw[g3]at f j;subst f;(have HV:O (nP p k args=0):=by show _=_;rw[j.o];rfl);go_wp2_with fail;refine(iW 3 _).mono ?_;rintro e w6 ⟨rfl,rfl⟩;go_wp2_with fail;exact⟨rfl, .tuple #[],by simp[results,Tryz.results127],rV,R⟩
 (have B:¬(args.length:Int)=bM p.g k:=by simpa using Z);(have HV:O (nP p k args=1):=by show _=_;rw[j.o,if_pos B];rfl);clear j B;refine wp_region_held_drew (S:=(fun y=>y.cell? ⟨X,0,none⟩=some (.slice (some ⟨b,E,none⟩) p.g.length l)/\y.cell? ⟨Y,0,none⟩=some (.int .i64 k)/\y.cell? ⟨Y,1,none⟩=some (.slice q args.length r)/\y.cell? ⟨b,E+k,none⟩=some (.int .i64 (bM p.g k)))) kR (by go_keep) (fun a7=>?_);refine jH (i:=0) (v:=?v0x0) rfl kR kR kR (fun _ _ _ h=>h) (Or.inl ⟨by rfl,?hy0x0⟩) (by assumption) ?_;(case hy0x0=>intro w d;(try dsimp only at d);go_simp;try with_reducible rfl);(try simp only[Act.put,List.setIfInBounds_toArray]);refine jH (i:=1) (v:=?v1x1) rfl kR kR kR (fun _ _ _ h=>h) (Or.inl ⟨by rfl,?hy1x1⟩) (by assumption) ?_;(case hy1x1=>intro w d;(try dsimp only at d);go_simp;try with_reducible rfl);(try simp only[Act.put]);refine jH (i:=2) (v:=?v2x2) rfl kR kR kR (fun _ _ _ h=>h) (Or.inl ⟨by rfl,?hy2x2⟩) (by assumption) ?_;(case hy2x2=>intro w d;(try dsimp only at d);go_simp;try with_reducible rfl);(try simp only[Act.put]);refine jH (i:=3) (v:=?v3x3) rfl kR kR kR (fun _ _ _ h=>h) (Or.inl ⟨by rfl,?hy3x3⟩) (by assumption) ?_;(case hy3x3=>intro w d;(try dsimp only at d);go_simp;try with_reducible rfl);(try simp only[Act.put]);refine jH (i:=4) (v:=?v4x4) rfl kR kR kR (fun _ _ _ h=>h) (Or.inl ⟨by rfl,?hy4x4⟩) (by assumption) ?_;(case hy4x4=>intro w d;(try dsimp only at d);go_simp;try with_reducible rfl);(try simp only[Act.put]);refine jH (i:=5) (v:=?v5x5) rfl kR kR kR (fun _ _ _ h=>h) (Or.inl ⟨by rfl,?hy5x5⟩) (by assumption) ?_;(case hy5x5=>intro w d;(try dsimp only at d);go_simp;try with_reducible rfl);(try simp only[Act.put]);refine jH (i:=6) (v:=?v6x6) rfl kR kR kR (fun _ _ _ h=>h) (Or.inl ⟨by rfl,?hy6x6⟩) (by assumption) ?_;(case hy6x6=>intro w d;(try dsimp only at d);go_simp;try with_reducible rfl);(try simp only[Act.put]);refine jH (i:=7) (v:=?v7x7) rfl kR kR kR (fun _ _ _ h=>h) (Or.inl ⟨by rfl,?hy7x7⟩) (by assumption) ?_;(case hy7x7=>intro w d;(try dsimp only at d);go_simp;try with_reducible rfl);(try simp only[Act.put]);refine jH (i:=8) (v:=?v8x8) rfl kR kR kR (fun _ _ _ h=>h) (Or.inl ⟨by rfl,?hy8x8⟩) (by assumption) ?_;(case hy8x8=>intro w d;(try dsimp only at d);go_simp;try with_reducible rfl);(try simp only[Act.put]);refine jH (i:=9) (v:=?v9x9) rfl kR kR kR (fun _ _ _ h=>h) (Or.inl ⟨by rfl,?hy9x9⟩) (by assumption) ?_;(case hy9x9=>intro w d;(try dsimp only at d);go_simp;try with_reducible rfl);(try simp only[Act.put]);refine wpAnyH_ready (rs:=[10]) kR sI ?_;refine AllReadyH.cons rfl (fun K hK=>?_) AllReadyH.nil;go_simp;go_at_call 129;refine Calls.mono (gO 1 _) ?_;rintro e y2 ⟨rfl,a3⟩;exact⟨rfl,rV,n.drew.trans (a3.mono n.size)⟩
theorem TJ(p:bC)(va vn vr:Value)(b:Int)(args:List Int)(v:Value)(w:World)(d:iU w va vn vr p)(B:jK p)(r:dM w v args)(G:args.length<=9223372036854775807):
 Calls Tryz.prog 87 #[eN va vn vr,aK4 b v] w fun e H=>e=.returned (.int .i64 (nP p b args))/\Below w.heap.size w H:=by
 obtain⟨i,s,rfl,_⟩:=id d.ar;obtain⟨k,x,rfl,_⟩:=id d.nm;obtain⟨l,y,rfl,_⟩:=id d.rl;obtain⟨m,z,rfl,_⟩:=id r;have J:∀(q:Fn)(first n:Array Value)(w:World),(Instr.makeFunc q first n).run Tryz.prog w=.ok (.func q first n) w:=fun _ _ _ _=>rfl;have D:∀(u:World)(o:Obj),Below u.heap.size u (u.alloc o):=fun u o=>(aH _ _).alloc (aE _) o;have g:=RB.start w (pB i s k x l y p) (.cells #[.int .i64 b, .slice m args.length z] 55)
 go_enter Tryz.func87,Tryz.ntmps87
 go_wp2_with fail;generalize (w.alloc (pB i s k x l y p)).alloc (.cells #[.int .i64 b, .slice m args.length z] 55)=A at *;refine Calls.mono (Ij 127 _ none 0 (nP p b args) (fun _=>True) A aMZ (fun _ e=>by cases e) (fun _ _ _ _ _=>trivial) ?_) ?_
 ·have f:=g.u (D A (.cells #[.int .i64 0, .int .i64 0] 168));refine Calls.mono (aM4 p _ _ _ w.heap.size (w.heap.size+1) b args _ _ f.b1 f.b2 (d.u f.j) B (aM r f.j) G) ?_;rintro e I ⟨rfl,C⟩;exact⟨rfl,lI C _,trivial⟩
 rintro e I ⟨rfl,F,_⟩;have E:=g.j.trans ((PS F).mono g.j.size);go_wp2_with fail;simp only[aVG];go_wp2_with fail;go_ret;exact⟨rfl,E⟩
def kK(p:bC)(l:List aN):Int:=aU (fun f:aN=>nP p f.z f.args) l
def jS(p:bC)(i:Int)(l:List aN):Int:=
 if dJ p≠0 then dJ p else if i<0\/(p.m.length:Int)<=i then 5 else if 60<l.length then 2 else kK p l
theorem KV(p:bC)(l:List aN)(k:Nat)(h:k<l.length):kK p (l.drop k)=if nP p (aZ l k).z (aZ l k).args≠0 then nP p (aZ l k).z (aZ l k).args else kK p (l.drop (k+1)):=by
 rw[GV l k h];unfold kK;rw[aU];by_cases b:nP p (aZ l k).z (aZ l k).args=0
 ·simp[b]
 simp[b]
theorem aGU(p:bC)(i:Int)(facts:List aN)(va vn vr vf:Value)(w:World)(L:iU w va vn vr p)(Z:jK p)(hV:dA w vf facts)(ae:facts.length<=9223372036854775807)(a7:∀f,f∈facts->fW f):
 Calls Tryz.prog 52 #[eN va vn vr, .int .i64 i,vf] w fun e w'=>e=.returned (.int .i64 (jS p i facts))/\Below w.heap.size w w':=by
 obtain⟨r,v,rfl,_⟩:=id L.ar;obtain⟨s,x,rfl,_⟩:=id L.nm;obtain⟨l,n,rfl,_⟩:=id L.rl;obtain⟨af,cf,rfl,_,a6⟩:=id hV;have C:=(aH w.heap.size w).alloc (aE _) (pB r v s x l n p);have j:O _:=aR w (pB r v s x l n p);have d:O _:=C;have HP:O (iU w (.slice r p.g.length v) (.slice s p.q.length x) (.slice l p.m.length n) p):=L;have HF:O _:=Z;have aa:O _:=a6;have ab:O _:=a7;have ai:=Z.rl;clear L Z hV a6 a7 C
 go_enter Tryz.func52,Tryz.ntmps52
 go_upto_region 1 with fail;generalize w.alloc (pB r v s x l n p)=V at *;(have c0:V.cell? ⟨w.heap.size,0,none⟩=some (.slice r p.g.length v):=cH j.o);(have Y:V.cell? ⟨w.heap.size,1,none⟩=some (.slice s p.q.length x):=cH j.o);(have K:V.cell? ⟨w.heap.size,2,none⟩=some (.slice l p.m.length n):=cH j.o);go_wp2_with fail;refine Calls.mono (PE p _ _ _ V (iU.u HP.o d.o) HF.o) ?_;rintro _ w2 ⟨rfl,a3⟩;have y:O (Below w.heap.size w w2):=d.o.trans (a3.mono d.o.size);have W:O _:=(a3.block _ (bP j.o)).trans j.o;clear c0 Y K a3 d j;(have K:w2.cell? ⟨w.heap.size,2,none⟩=some (.slice l p.m.length n):=cH W.o);by_cases D:dJ p=0
 ·(have g1:(dJ p != 0)=false:=by simpa using D);(have H:O (jS p i facts=if i<0\/(p.m.length:Int)<=i then 5 else if 60<facts.length then 2 else kK p facts):=by show _=_;unfold jS;rw[if_neg (by simpa using D)]);clear D;by_cases M:i<0\/(p.m.length:Int)<=i
  ·(have B:O (jS p i facts=5):=by show _=_;rw[H.o,if_pos M]);by_cases T:i<0
   ·have g2:decide (i<0)=true:=aQ T;clear M T;go_wp2_with fail;go_ret;exact⟨by rw[B.o];rfl,y.o⟩
   have g2:decide (i<0)=false:=aJ T;have g3:decide ((p.m.length:Int)<=i)=true:=aQ oM;have g4:decide (i<(p.m.length:Int))=false:=aJ oM;clear M T;go_wp2_with fail;go_ret;exact⟨by rw[B.o];rfl,y.o⟩
  (have B:O (jS p i facts=if 60<facts.length then 2 else kK p facts):=by show _=_;rw[H.o,if_neg M]);have g2:decide (i<0)=false:=aJ oM;have g3:decide ((p.m.length:Int)<=i)=false:=aJ oM;have g4:decide (i<(p.m.length:Int))=true:=aQ oM;clear M H;by_cases U:60<facts.length
  ·(have Q:O (jS p i facts=2):=by show _=_;rw[B.o,if_pos U]);have g6:decide (60<facts.length)=true:=aQ U;go_wp2_with fail;go_ret;exact⟨by rw[Q.o];rfl,y.o⟩
  (have Q:O (jS p i facts=kK p facts):=by show _=_;rw[B.o,if_neg U]);have g6:decide (60<facts.length)=false:=aJ U;clear B;go_wp2_with fail;go_loopw [30] (fun iv wr=>∃k:Nat,k<=facts.length/\iv=.int .i64 k/\O (kK p facts=kK p (facts.drop k))/\O (Below w.heap.size w wr)/\O (wr.heap[w.heap.size]?=some (pB r v s x l n p))) (fun iv _=>facts.length-(intOf iv).toNat);case atStart=>exact⟨0,bG _,rfl,rfl,y.o,W.o⟩
  case round=>
   clear y W K;obtain⟨k,hk,rfl,I,d,j⟩:=hrel;by_cases N:k<facts.length
   ·obtain⟨b,aj,rfl,p0,fv,p1,a8⟩:=qJ aa.o k N;have q0:=aB d.o p0;have q1:=aB d.o p1;have ad:O (dM w fv (aZ facts k).args):=a8;obtain⟨R,S,rfl,_⟩:=a8;have ac:O (fW (aZ facts k)):=ab.o _ (mT facts k N);have P:O _:=KV p facts k N;clear p0 p1;generalize aZ facts k=f at *;go_upto_region 11 with fail;have C:=(aH wr.heap.size wr).alloc (aE _) (.cells #[.int .i64 f.z, .slice R f.args.length S] 55);have X:O _:=aR wr (.cells #[.int .i64 f.z, .slice R f.args.length S] 55);have G:O _:=d.o.trans (C.mono d.o.size);have A:O _:=(C.block _ (bP j.o)).trans j.o;clear q0 q1 C d j;generalize wr.alloc (.cells #[.int .i64 f.z, .slice R f.args.length S] 55)=F at *;generalize wr.heap.size=TB at *;(have c0:F.cell? ⟨w.heap.size,0,none⟩=some (.slice r p.g.length v):=cH A.o);(have Y:F.cell? ⟨w.heap.size,1,none⟩=some (.slice s p.q.length x):=cH A.o);(have K:F.cell? ⟨w.heap.size,2,none⟩=some (.slice l p.m.length n):=cH A.o);(have f0:F.cell? ⟨TB,0,none⟩=some (.int .i64 f.z):=cH X.o);(have f1:F.cell? ⟨TB,1,none⟩=some (.slice R f.args.length S):=cH X.o);go_wp2_with fail;refine Calls.mono (TJ p _ _ _ f.z f.args _ F (iU.u HP.o G.o) HF.o (aM ad.o G.o) ac.o) ?_;rintro _ w3 ⟨rfl,a4⟩;have a5:O _:=G.o.trans (a4.mono G.o.size);have a9:O _:=(a4.block _ (bP A.o)).trans A.o;clear c0 Y K f0 f1 a4 G A X;by_cases E:nP p f.z f.args=0
    ·(have ge:(nP p f.z f.args != 0)=false:=by simpa using E);(have J:O (kK p facts=kK p (facts.drop (k+1))):=by show _=_;rw[I.o,P.o,if_neg (by simpa using E)]);clear E I P;go_wp2_with fail;go_roundw;(case rel=>exact⟨k+1,N,gN,J.o,a5.o,a9.o⟩);case measure=>exact mI
    (have ge:(nP p f.z f.args != 0)=true:=by simpa using E);(have J:O (jS p i facts=nP p f.z f.args):=by show _=_;rw[Q.o,I.o,P.o,if_pos (by simpa using E)]);clear E I P;go_wp2_with fail;go_ret;exact⟨by rw[J.o];rfl,a5.o⟩
   have ah:decide (k<facts.length)=false:=aJ N;(have J:O (jS p i facts=0):=by show _=_;rw[Q.o,I.o,bD oM];rfl);go_wp2_with fail;go_ret;exact⟨by rw[J.o];rfl,d.o⟩
 (have g1:(dJ p != 0)=true:=by simpa using D);(have H:O (jS p i facts=dJ p):=by show _=_;unfold jS;rw[if_pos (by simpa using D)]);clear D;go_wp2_with fail;go_ret;exact⟨by rw[H.o];rfl,y.o⟩
end Go.Proofs.YthenjegmigeieaaGreat
namespace Go.Proofs.YthenjegmigeieaaGreat
open Go.Shelf Go.RowKit Go.Lib Go.Sort
abbrev Nv:=List Int×Value
def aRD(w:World)(g:Nat)(x:Nv):Prop:=(∀w':World,(∀k,k<w.heap.size->¬k=g->w'.heap[k]?=w.heap[k]?)->dM w' x.2 x.1)/\x.1.length<=9223372036854775807
abbrev NvS(w:World)(g:Nat):={x:Nv//aRD w g x}
theorem aQC(w:World)(g:Nat):aRD w g ([], .slice none 0 0):=⟨fun _ _=>⟨none,0,rfl, .inl rfl⟩,by show([]:List Int).length<=_;decide⟩
theorem aR7{w:World}{g:Nat}:∀{q:List Nv},(∀p,p∈q->aRD w g p)->∃Q:List (NvS w g),Q.map (·.1)=q:=by
 intro q
 induction q with
 |nil=>intro _;exact⟨[],rfl⟩
 |cons a r ih=>
  intro h;obtain⟨Q,hQ⟩:=ih (fun p hp=>h p (by simp[hp]));exact⟨⟨a,h a sI⟩::Q,by simp[hQ]⟩
abbrev aQB(w:World)(g:Nat):Inhabited (NvS w g):=⟨⟨_,aQC w g⟩⟩
def Wz{w:World}{g:Nat}(x:NvS w g):Value:=x.1.2
def Kf{w:World}{g:Nat}(x y:NvS w g):Int:=eS x.1.1 y.1.1
theorem aQE(a b:List Int):eV ⟨0,a⟩ ⟨0,b⟩=eS a b:=by unfold eV;rw[if_pos (mU.mpr rfl)]
theorem aUB(w:World)(g:Nat):SWO (ltOf (Kf (w:=w) (g:=g)))where
 irrefl x:=by unfold ltOf Kf;rw[<-aQE,vO];decide
 trans x y z h1 h2:=by unfold ltOf Kf at *;simp only[decide_eq_true_eq,<-aQE]at *;exact sT h1 h2
 ntrans x y z h1 h2:=by
  unfold ltOf Kf at *;simp only[decide_eq_false_iff_not,<-aQE]at *;intro h3;rcases GD ⟨0,x.1.1⟩ ⟨0,y.1.1⟩with h4|h4|h4
  ·exact h1 h4
  ·rw[h4]at h3;exact h2 h3
  exact h2 (sT h4 h3)
theorem aUA{w:World}{g:Nat}:OneCell (Wz (w:=w) (g:=g)):=by intro x;obtain⟨⟨a,u⟩,h⟩:=x;obtain⟨ao,cap,hu,_⟩:=h.1 w (fun _ _ _=>rfl);have hu:u=.slice ao a.length cap:=hu;subst hu;rfl
theorem NM{α:Type}[Inhabited α](enc:α->Value)(w:World)(g m:Nat)(d:Array α)(os:Array Obj)(i:Nat)(hi:i<w.heap.size)(hne:¬i=g):(sortWorld enc w g 0 m d os).heap[i]?=w.heap[i]?:=by unfold sortWorld putRow mapBlock Sort.ahead grow;show((w.heap.modify g _)++os)[i]?=_;rw[sL (by simpa using hi),tO,if_neg (fun e=>hne e.symm)]
theorem Lg{α:Type}[Inhabited α](enc:α->Value)(w:World)(g m:Nat)(d:Array α)(os:Array Obj):w.heap.size<=(sortWorld enc w g 0 m d os).heap.size:=by unfold sortWorld putRow mapBlock Sort.ahead grow;show _<=((w.heap.modify g _)++os).size;simp
theorem aR6(w:World)(g size:Nat):@CmpLays1 (NvS w g) (aQB w g) Tryz.prog 56 #[] Wz Kf g 0 size w:=by
 letI:Inhabited (NvS w g):=aQB w g
 intro m os dk _ x y;have hl:∀k,k<w.heap.size->¬k=g->(sortWorld (Wz (w:=w) (g:=g)) w g 0 m dk os).heap[k]?=w.heap[k]?:=fun k hk hne=>NM _ _ _ _ _ _ k hk hne;refine Calls.mono (Am x.1.1 y.1.1 x.1.2 y.1.2 _ (x.2.1 _ hl) (y.2.1 _ hl) x.2.2) ?_;rintro e w' ⟨rfl,rfl⟩;exact⟨rfl,0,#[],by simp[grow,World.drewN]⟩
theorem aN2(w:World)(B g cap:Nat)(q:List Nv)(hown:w.ownsRow B 22 1 (.slice (some ⟨g,0,none⟩) q.length cap) q.length (q.map (·.2)))(hq:∀p,p∈q->aRD w g p)(hn:q.length<4611686018427387904):
 Calls Tryz.prog 55 #[.slice (some ⟨g,0,none⟩) q.length cap, .func (.func 56) #[] #[]] w fun e w'=>e=.returned (.tuple #[])/\∃q':List Nv,q'.Perm q/\(q'.map (·.1)).Pairwise (fun a b=>¬eS b a<0)/\w'.ownsRow B 22 1 (.slice (some ⟨g,0,none⟩) q'.length cap) q'.length (q'.map (·.2))/\w.grownBy w' (some g):=by
 obtain⟨Q,rfl⟩:=aR7 hq
 letI:Inhabited (NvS w g):=aQB w g
 have eg:∀args w,(callFunc 56 args).run Tryz.prog w=.ok (.enter 56 args) w:=jQ Tryz.func56 kR rfl;(have hsz:Q.toArray.size=Q.length:=by simp);have hlt:g<w.heap.size:=(hown.lt g rfl).2;rw[aP]at hown;(have hH:Holds (Wz (w:=w) (g:=g)) w g 0 Q.toArray:=by intro j hj;(have hj2:j<Q.length:=by simpa using hj);refine⟨?_,by rw[dV];exact World.ownsRow.frozenAt hown j⟩;rw[dV,World.ownsRow.cellAt hown j oM,cY,cY,aD hj2];(have h2:(Q.toArray)[j]! =Q[j]:=by simp[hj2]);rw[h2];rfl);have hcon:=Any.slices_SortFunc Tryz.sortI Wz aUA Kf (aUB w g) 56 #[] g 0 cap Q.toArray w eg (aR6 w g _) hH hlt (by rw[hsz];simpa using hn);rw[hsz]at hcon;change Calls Tryz.prog 55 _ _ _ at hcon;rw[aP];refine hcon.mono ?_;rintro e w' ⟨rfl,d',n,os,hp,hs,rfl⟩;obtain⟨p1,p2,p3⟩:=hp;(have hds:d'.size=Q.length:=by rw[p1];simp);(have e1:d'.extract 0 Q.length=d':=by rw[<-hds];simp);(have e2:Q.toArray.extract 0 Q.length=Q.toArray:=by simp);rw[e1,e2]at p3;refine⟨rfl,d'.toList.map (·.1),p3.map _,?_,?_,rfl,rfl,rfl,Lg _ _ _ _ _ _,fun k hk hne=>NM _ _ _ _ _ _ k hk (fun e=>hne (by rw[e]))⟩
 ·rw[yL,yL,xL];intro i j hi hj hij;(have hi2:i<d'.size:=by simpa using hi);(have hj2:j<d'.size:=by simpa using hj);have :=hs i j (bG _) hij oM;rw[getElem!_pos d' j hj2,getElem!_pos d' i hi2]at this;unfold ltOf Kf at this;simp only[decide_eq_false_iff_not]at this;simpa using this
 (have hl:(d'.toList.map (·.1)).length=Q.length:=by rw[aP,zO,hds]);obtain⟨h1,h2⟩:=hown;rcases h2 with⟨h2,_⟩|⟨g',cap',cur,hv,hb,hh,hc1,hc2,hc3,hc4⟩
 ·cases h2
 injection hv with e1 _ e3;injection e1 with e1;injection e1 with e1;subst e1 e3;refine⟨by rw[aP,QP], .inr ⟨g,cap,putCells Wz 0 d' cur,rfl,hb,?_,by rw[hl];exact hc1,hc2,by simpa[putCells]using hc3,?_⟩⟩
 ·unfold sortWorld putRow mapBlock Sort.ahead grow;show((w.heap.modify g _)++os)[g]?=_;rw[sL (by simpa using hlt),tO,if_pos rfl,hh];rfl
 apply jU;intro t;rw[gS,fH,hl,QP];by_cases ht:t<Q.length
 ·rw[if_pos ht];(have hcs:t<cur.size:=by rw[hc3];omega);have h4:t<d'.size:=oM;unfold putCells;rw[LK,iG hcs,lE,if_pos oM,Nat.sub_zero,getElem!_pos d' _ h4,cY,cY,fH,iG h4];rfl
 rw[if_neg ht,cZ];rw[aP,hl];omega
theorem aKI(p:Option Addr)(cap:Nat)(fv:Value)(w:World):Calls Tryz.prog 55 #[.slice p 0 cap,fv] w fun e w'=>e=.returned (.tuple #[])/\w'=w:=
 AnyF.slices_SortFunc_none (P:=Tryz.prog) (ρ:=Tryz.sortI_ren) {Tryz.sortI with } p cap fv w
end Go.Proofs.YthenjegmigeieaaGreat
namespace Go.Proofs.YthenjegmigeieaaGreat
open Go.RowKit
theorem CZ(l:List aN):(dR l).length<=l.length:=by
 have d:∀(f:aN)(s:List aN),(EK f s).length<=s.length+1:=by
  intro f s
  induction s with
  |nil=>simp[EK]
  |cons a s b=>
   unfold EK;split
   ·simp
   split
   ·simp
   simp only[List.length_cons];omega
 induction l with
 |nil=>exact aE _
 |cons a l b=>
  have e:=d a (dR l);show(EK a (dR l)).length<=l.length+1;omega
def gV(p:bC)(i:Int):bB:=aW p.m i.toNat
def gM(p:bC)(i:Int)(l:List aN):Int:=if jS p i l≠0 then jS p i l else if 2000<(gP (dR l) (gV p i)).length then 2 else 0
def jD(p:bC)(i:Int)(l:List aN):List (List Int):=if gM p i l≠0 then [] else rX (gP (dR l) (gV p i))
structure tI (p:bC) (i:Int) (l:List aN):Prop where
 ok:sC p
 lo:0<=i
 hi:i<(p.m.length:Int)
 len:l.length<=60
 fs:∀f,f∈l->iQ p.g f
theorem IT{p:bC}{i:Int}{l:List aN}(h:jS p i l=0):tI p i l:=by
 unfold jS at h;by_cases b:dJ p=0
 ·rw[if_neg (by simpa using b)]at h;by_cases d:i<0\/(p.m.length:Int)<=i
  ·rw[if_pos d]at h;cases h
  rw[if_neg d]at h;by_cases e:60<l.length
  ·rw[if_pos e]at h;cases h
  rw[if_neg e]at h;exact⟨LZ b,oM,oM,oM,fun f g=>UZ.mp (xM (AR h f g)).2⟩
 rw[if_pos b]at h;exact absurd h b
theorem aWN{l:List bB}{k:Nat}(h:k<l.length):aW l k∈l:=by unfold aW;rw[aC,aD h];exact dY h
theorem tI.c{p:bC}{i:Int}{l:List aN}(h:tI p i l):kX p.g (gV p i):=h.ok.c _ (aWN (by have :=h.lo;have :=h.hi;omega))
theorem tI.set{p:bC}{i:Int}{l:List aN}(h:tI p i l):∀f,f∈dR l->iQ p.g f:=fun f b=>h.fs f (iK.mp b)
theorem xV{p:bC}(h:sC p){f:aN}(b:iQ p.g f):f.args.length<=3:=by have d:=b.al;have e:=h.ar f.z.toNat (by have :=b.p0;have :=b.p1;omega);omega
theorem LX{p:bC}(h:sC p){r:bB}(i:kX p.g r){l:cI}(e:l∈r.body):l.p.length<=3:=by
 have d:=OQ i (facts:=[]) (fun f q=>absurd q sI) e;rcases d.k with b|b|b|b
 ·obtain⟨j,m,n⟩:=LV i e (.inl b);have :=h.ar l.z.toNat oM;omega
 ·obtain⟨j,m,n⟩:=LV i e (.inr b);have :=h.ar l.z.toNat oM;omega
 ·have :=d.k3 b;omega
 have :=d.k4 b;omega
theorem Fz{b:List Int}{r:bB}(e:kX b r){l:cI}(d:l∈r.body):FO l:=fun t ht _=>((e.lit l d).2 t ht).num
theorem wK(l:List aN):(dR l).Nodup:=(kV l).1.imp fun {a b} h e=>by subst e;exact zM.irrefl _ h
theorem SE{L M:List (List Int)}(d:L.Perm M)(g:M.Nodup)(j:L.Pairwise fun a b=>¬eS b a<0):L=rX M:=by
 refine Uv ?_ (fun x=>d.mem_iff);have i:L.Nodup:=d.nodup_iff.mpr g;refine(j.and i).imp ?_;rintro a b ⟨e,f⟩;rcases GD ⟨0,a⟩ ⟨0,b⟩with h|h|h
 ·unfold zM at h;rw[aQE]at h;exact h
 ·injection h with _ h;exact absurd h f
 unfold zM at h;rw[aQE]at h;exact absurd h e
def iR(w:World)(vr:Value):Prop:=∀b d n e,vr=.slice (some ⟨b,d,none⟩) n e->∀k,k<n->∀v,w.cell? ⟨b,d+k*5+3,none⟩=some v->wW v
theorem aQO{w y:World}{ao:Option Addr}{co:Nat}{q:List (List Int×Value)}{i:List (List Int)}(F:vC w.heap.size y (.slice ao q.length co) q)(T:q.length<=2000)(v:q.map (·.1)=i)(K:i.Nodup)(r:Below w.heap.size w y)(Q:∀x,x∈i->x.length<=8):
 Calls Tryz.prog 55 #[.slice ao q.length co, .func (.func 56) #[] #[]] y fun e j=>e=.returned (.tuple #[])/\∃l:List (List Int×Value),vC w.heap.size j (.slice ao q.length co) l/\l.map (·.1)=rX i/\Below w.heap.size w j:=by
 obtain⟨s,z⟩:=F;rcases id s.2 with⟨A,E⟩|⟨g,R,S,A,H,I,_⟩
 ·injection A with m D n;subst m n;have N:q=[]:=eB E;subst N;refine Calls.mono (aKI none 0 _ y) ?_;rintro e j ⟨rfl,rfl⟩;have G:i=[]:=v.symm;subst G;exact⟨rfl,[],⟨s,z⟩,rfl,r⟩
 injection A with m D n;subst m n;(have C:∀(k:Nat)(a:Array Value),y.heap[k]?=some (.cells a 3)->¬k=g:=fun k a b e=>by rw[e,I]at b;injection b with b;injection b with _ b;cases b);refine Calls.mono (aN2 y w.heap.size g co q s (fun p f=>⟨fun j b=>oU (gR (z p f) (fun k a d=>(b k (bP d) (C k a d)).trans d)),?_⟩) oM) ?_
 ·have :=Q p.1 (by rw[<-v];exact sP f);omega
 rintro e j ⟨rfl,l,f,P,L,B⟩;have J:=f.length_eq;refine⟨rfl,l,⟨by rw[<-J];exact L,fun p M=>gR (z p (f.mem_iff.mp M)) (fun k a d=>(B.block k (bP d) (fun e=>C k a d (Option.some.inj e))).trans d)⟩,SE (by rw[<-v];exact f.map _) K P,r.grown B r.size (fun k b=>(Option.some.inj b)▸H)⟩
def aUF(e f g:Value)(X b off k:Nat)(i:Nat)(d:Value):Prop:=
 match i with
 |17=>d=(.pointer (some ⟨X,2,none⟩):Value)
 |18=>d=(e:Value)
 |19=>d=(.int .i64 (k:Nat):Value)
 |20=>d=(.pointer (some ⟨b,off+k*5,none⟩):Value)
 |21=>d=(f:Value)
 |22=>d=(g:Value)
 |_=>True
def aCT(g i j:Value)(X b off k:Nat)(L:List aN)(l:List (List Int))(d:Nat)(e:Value)(f:World):Prop:=
 if d=23 then dA f e L
 else if d=24 then∃q,vC X f e q/\q.map (·.1)=l else aUF g i j X b off k d e
theorem vC.u{B:Nat}{w w':World}{v:Value}{q:List (List Int×Value)}(h:vC B w v q)(b:Below w.heap.size w w'):vC B w' v q:=⟨bI h.1 b,fun p d=>bI (h.2 p d) b⟩
theorem aHA(e f g:Value)(X b off k:Nat)(L:List aN)(i:List (List Int))(d:Nat)(m:Value)(W W':World)(j:Below W.heap.size W W')(h:aCT e f g X b off k L i d m W):aCT e f g X b off k L i d m W':=by
 unfold aCT at h ⊢;by_cases ht:d=23
 ·rw[if_pos ht]at h ⊢;exact bR h j
 rw[if_neg ht]at h ⊢;by_cases l:d=24
 ·rw[if_pos l]at h ⊢;obtain⟨q,n,p⟩:=h;exact⟨q,n.u j,p⟩
 rw[if_neg l]at h ⊢;exact h
theorem Hv(p:bC)(i:Int)(facts:List aN)(va vn vr vf:Value)(w:World)(V:iU w va vn vr p)(hF:jK p)(an:iR w vr)(hV:dA w vf facts)(b5:facts.length<=9223372036854775807)(a7:∀f,f∈facts->fW f):
 Calls Tryz.prog 14 #[eN va vn vr, .int .i64 i,vf] w fun e A=>∃v q,e=.returned (.tuple #[v, .int .i64 (gM p i facts)])/\vC w.heap.size A v q/\q.map (·.1)=jD p i facts/\Below w.heap.size w A:=by
 obtain⟨Z,n0,rfl,_⟩:=id V.ar;obtain⟨a1,n1,rfl,_⟩:=id V.nm;obtain⟨S,B,rfl,al⟩:=id V.rl;obtain⟨E,F,rfl,_,b3⟩:=id hV;have bT:=(aH w.heap.size w).alloc (aE _) (pB Z n0 a1 n1 S B p);have M:O _:=aR w (pB Z n0 a1 n1 S B p);have HB:O _:=bT;have HC:O _:=aGU p i facts _ _ _ _ _ (V.u bT) hF (bR hV bT) b5 a7;have ad:O (dA w (.slice E facts.length F) facts):=hV;have ay:O _:=a7;have ag:O _:=al;have aa:O (iR w (.slice S p.m.length B)):=an;clear V hF hV b3 a7 bT an al
 go_enter Tryz.func14,Tryz.ntmps14
 go_upto_region 1 with fail;generalize w.alloc (pB Z n0 a1 n1 S B p)=w1 at *;(have c0:w1.cell? ⟨w.heap.size,0,none⟩=some (.slice Z p.g.length n0):=cH M.o);(have c1:w1.cell? ⟨w.heap.size,1,none⟩=some (.slice a1 p.q.length n1):=cH M.o);(have T:w1.cell? ⟨w.heap.size,2,none⟩=some (.slice S p.m.length B):=cH M.o);go_wp2_with fail;refine Calls.mono HC.o ?_;rintro _ L ⟨rfl,J⟩;have j:O (Below w.heap.size w L):=HB.o.trans (J.mono HB.o.size);have a8:O _:=(J.block _ (bP M.o)).trans M.o;have ai:O (w.heap.size<=L.heap.size):=j.o.size;clear c0 c1 T J HB M HC;by_cases G:jS p i facts=0
 ·(have g0:(jS p i facts != 0)=false:=by simpa using G);have n:=IT G;obtain⟨k,rfl⟩:∃k:Nat,i=k:=⟨i.toNat,by have :=n.lo;omega⟩;(have hk:k<p.m.length:=by have :=n.hi;omega);have ac:O _:=G;(have Y:O (gV p (k:Int)=aW p.m k):=by show _=_;unfold gV;rw[fJ]);(have R:kX p.g (aW p.m k):=by have :=n.c;rw[Y.o]at this;exact this);have X:=gC R n.set;have a4:=gF n.set;have aI:O ((gP (dR facts) (aW p.m k)).Nodup):=rP X a4 (wK facts);(have b1:O (∀x,x∈gP (dR facts) (aW p.m k)->x.length<=8):=fun x hx=>by have :=((lV X a4 x).mp hx).1;have :=X.v8;omega);(obtain⟨b,C,rfl,q0,⟨vt,q1,hT⟩,q2,⟨vb,q3,hL⟩,q4⟩:=rH ag.o k hk;have ap:=aa.o _ _ _ _ rfl k hk _ q3;obtain⟨at_,Q,rfl,_⟩:=id hT;obtain⟨N,P,rfl,_⟩:=id hL;have b0:O (∀d,Below L.heap.size L d->Calls Tryz.prog 54 #[.slice E facts.length F] d fun e A=>∃K,e=.returned K/\tG d.heap.size A K (dR facts)/\Below d.heap.size d A):=fun d hb=>ME facts _ d (bR ad.o (j.o.trans (hb.mono j.o.size))) (by have :=n.len;omega) (fun f hf=>by have :=xV n.ok (n.fs f hf);omega);have az:O (∀d v,Below L.heap.size L d->dA d v (dR facts)->Calls Tryz.prog 53 #[lP (aW p.m k) (.slice at_ (aW p.m k).p.length Q) (.slice N (aW p.m k).body.length P),v] d fun e A=>∃K q,e=.returned K/\vC d.heap.size A K q/\q.map (·.1)=(gP (dR facts) (aW p.m k)).take 2001/\Below d.heap.size d A):=fun d v hb hv=>by have am:Below w.heap.size w d:=j.o.trans (hb.mono j.o.size);exact aM5 (dR facts) (aW p.m k) _ _ v d hv (by have :=CZ facts;have :=n.len;omega) (fun f hf=>by unfold fW;have :=xV n.ok (n.set f hf);omega) X a4 (fun l hl=>by have :=LX n.ok R hl;omega) (fun l hl=>Fz R hl) (dS hT am) (nU hL am) ap (by have :=R.b4;omega) R.v0);have p0:=aB j.o q0;have p1:=aB j.o q1;have p2:=aB j.o q2;have p3:=aB j.o q3;have p4:=aB j.o q4;(have T:L.cell? ⟨w.heap.size,2,none⟩=some (.slice (some ⟨b,C,none⟩) p.m.length B):=cH a8.o);clear q0 q1 q2 q3 q4 hT hL ap n R X a4 G a8 ad ay ag aa;generalize aW p.m k=r at *;go_upto_region 4 with fail;refine kU (aCT (.slice (some ⟨b,C,none⟩) p.m.length B) (lP r (.slice at_ r.p.length Q) (.slice N r.body.length P)) (.slice E facts.length F) w.heap.size b C k (dR facts) ((gP (dR facts) r).take 2001)) 8 dE kR kR kR (aHA (.slice (some ⟨b,C,none⟩) p.m.length B) (lP r (.slice at_ r.p.length Q) (.slice N r.body.length P)) (.slice E facts.length F) w.heap.size b C k (dR facts) ((gP (dR facts) r).take 2001)) ?hopA ?htailA
  case hopA=>
   refine oC (fun a d h=>by have e3:a.eval (.tmp 3)=(.pointer (some ⟨w.heap.size,0,none⟩):Value):=h.old 3;exact jC (.pointer (some ⟨w.heap.size,2,none⟩))) ?_;refine oC (fun a d h=>by have ba:a.eval (.tmp 17)=(.pointer (some ⟨w.heap.size,2,none⟩):Value):=h.of 17;have c0:=aB h.u T;exact jC (.slice (some ⟨b,C,none⟩) p.m.length B)) ?_;refine oC (fun a d h=>by have e1:a.eval (.tmp 1)=(.int .i64 (k:Nat):Value):=h.old 1;exact jC (.int .i64 (k:Nat))) ?_;refine oC (fun a d h=>by have bb:a.eval (.tmp 18)=(.slice (some ⟨b,C,none⟩) p.m.length B:Value):=h.of 18;have bc:a.eval (.tmp 19)=(.int .i64 (k:Nat):Value):=h.of 19;exact jC (.pointer (some ⟨b,C+k*5,none⟩))) ?_;refine oC (fun a d h=>by have bd:a.eval (.tmp 20)=(.pointer (some ⟨b,C+k*5,none⟩):Value):=h.of 20;have c0:=aB h.u p0;have c1:=aB h.u p1;have T:=aB h.u p2;have c3:=aB h.u p3;have c4:=aB h.u p4;exact jC (lP r (.slice at_ r.p.length Q) (.slice N r.body.length P))) ?_;refine oC (fun a d h=>by have e2:a.eval (.tmp 2)=(.slice E facts.length F:Value):=h.old 2;exact jC (.slice E facts.length F)) ?_;refine oC (fun a d h=>?_) ?_
   ·have bf:a.eval (.tmp 22)=(.slice E facts.length F:Value):=h.of 22;refine iC (f:=54) (args:=#[.slice E facts.length F]) (bF rfl) ?_ ?_
    ·have ec:=qM a;have ef:=IM a;generalize a.eval=ev at *;clear h;go_simp
    refine Calls.mono (b0.o d h.u) ?_;rintro _ y2 ⟨K,rfl,b7,J⟩;refine⟨_,rfl,fun t ht=>?_,J⟩;cases ht;exact b7.toV
   refine oC (fun a d h=>?_) ?_
   ·have be:a.eval (.tmp 21)=(lP r (.slice at_ r.p.length Q) (.slice N r.body.length P):Value):=h.of 21;have b8:dA d (a.eval (.tmp 23)) (dR facts):=h.of 23;refine iC (f:=53) (args:=#[lP r (.slice at_ r.p.length Q) (.slice N r.body.length P),a.eval (.tmp 23)]) (bF rfl) ?_ ?_
    ·have ec:=qM a;have ef:=IM a;generalize a.eval=ev at *;clear h;go_simp
    refine Calls.mono (az.o d _ h.u b8) ?_;rintro _ y2 ⟨K,q,rfl,au,a5,J⟩;refine⟨_,rfl,fun t ht=>?_,J⟩;cases ht;exact⟨q,⟨gL au.1 (bH ai.o h.u.size),fun p W=>gL (au.2 p W) (bH ai.o h.u.size)⟩,a5⟩
   exact JL.nil
  case htailA=>
   rintro⟨s,H⟩ d I;obtain⟨q,a3,a5⟩:∃q,vC w.heap.size d (Act.eval ⟨s,H⟩ (.tmp 24)) q/\q.map (·.1)=(gP (dR facts) r).take 2001:=I.all 7 _ 24 dE rfl rfl;obtain⟨y,z,eo⟩:=bJ a3.1;have aj:Act.eval ⟨s,H⟩ (.tmp 24)=.slice y q.length z:=eo;rw[aj]at a3;have aw:s.size=31:=I.size;have a9:O (Below w.heap.size w d):=j.o.trans (I.u.mono j.o.size);show wpOps Tryz.prog _ _ [8] _ _;rw[iO];refine uM (v:=.slice y q.length z) (w':=d) rfl (bF rfl) ?_ ?_
   ·show Sem.run Tryz.prog (execOp (Act.eval ⟨s,H⟩) _) d=_;generalize Act.eval ⟨s,H⟩=ev at *;clear I;go_simp
   (have ax:∀t,t∉[17,18,19,20,21,22,23,24,9]->(s.setIfInBounds 9 (.slice y q.length z)).getD t undef=_:=fun t ht=>by have hA:t≠9:=fun e=>ht (by rw[e];decide);exact(gB (a:=⟨s,H⟩) hA).trans (I.still t ht));have U:(s.setIfInBounds 9 (.slice y q.length z)).getD 9 undef=.slice y q.length z:=iF (a:=⟨s,H⟩) (by show 9<s.size;omega);obtain rfl:H=[]:=I.defers;(have av:(s.setIfInBounds 9 (.slice y q.length z)).size=31:=by simp[aw]);have aT:O (vC w.heap.size d (.slice y q.length z) q):=a3;have ae:O _:=a5;clear I a3 a5 aj eo aw;show Exit.then _ _ Exit.normal ⟨s.setIfInBounds 9 (.slice y q.length z),[]⟩ d;generalize s.setIfInBounds 9 (.slice y q.length z)=tm at *;obtain⟨fQ,hQ,a6⟩:=pQ [17,18,19,20,21,22,23,24,9] tm _ (av.trans rF) ax;clear av ax;simp only[List.foldl_cons,List.foldl_nil,(hQ 9).trans U]at a6;clear U hQ;simp only[List.setIfInBounds_toArray,List.set_cons_zero,List.set_cons_succ]at a6;subst a6;clear p0 p1 p2 p3 p4 T;(have aq:q.length=min 2001 (gP (dR facts) r).length:=by have U:=congrArg List.length ae.o;rw[aP,cW]at U;exact U);by_cases hm:2000<q.length
   ·have g1:decide (2000<q.length)=true:=aQ hm;have b2:decide ((2000:Int)<(q.length:Int))=true:=aQ oM;(have D:O (gM p k facts=2):=by show _=_;unfold gM;rw[if_neg (by rw[ac.o];simp),Y.o,if_pos oM]);clear hm aq;go_wp2_with fail;refine dF (fM rfl _ _ _) rfl ?_;exact⟨_,[],by rw[D.o];rfl,⟨eD _ _ _ _,fun p W=>absurd W sI⟩,by unfold jD;rw[if_pos (by rw[D.o];decide)];rfl,a9.o⟩
   have g1:decide (2000<q.length)=false:=aJ hm;have b2:decide ((2000:Int)<(q.length:Int))=false:=aJ oM;(have D:O (gM p k facts=0):=by show _=_;unfold gM;rw[if_neg (by rw[ac.o];simp),Y.o,if_neg oM]);(have aV:O (q.map (·.1)=gP (dR facts) r):=by show _=_;rw[ae.o,dU oM]);have ah:O (Calls Tryz.prog 55 #[.slice y q.length z, .func (.func 56) #[] #[]] d fun e A=>e=.returned (.tuple #[])/\∃q',vC w.heap.size A (.slice y q.length z) q'/\q'.map (·.1)=rX (gP (dR facts) r)/\Below w.heap.size w A):=aQO aT.o oM aV.o aI.o a9.o b1.o;clear hm aq;go_wp2_with fail;refine Calls.mono ah.o ?_;rintro _ w5 ⟨rfl,q',ak,b9,b6⟩;have aF:O _:=ak;clear ak ah;go_wp2_with fail;refine dF (fM rfl _ _ _) rfl ?_;exact⟨_,q',by rw[D.o];rfl,aF.o,by unfold jD;rw[if_neg (by rw[D.o];simp),Y.o];exact b9,b6⟩
 (have g0:(jS p i facts != 0)=true:=by simpa using G);(have D:O (gM p i facts=jS p i facts):=by show _=_;unfold gM;rw[if_pos (by simpa using G)]);have aS:O _:=G;clear G;go_wp2_with fail;refine dF (fM rfl _ _ _) rfl ?_;exact⟨_,[],by rw[D.o];rfl,⟨eD _ _ _ _,fun p W=>absurd W sI⟩,by unfold jD;rw[if_pos (by rw[D.o];exact aS.o)];rfl,j.o⟩
theorem uB{r:List Int}{j:Nat}(h:j<r.length):r.take (j+1)=r.take j++[bM r j]:=by rw[eI,aD h];unfold bM;rw[aC,aD h];rfl
theorem aAS{l:List Int}{k:Nat}(h0:0<k)(h:k<l.length):pZ (l.take (k+1))=min (pZ (l.take k)) (bM l k):=by
 rw[show min (pZ (l.take k)) (bM l k)=if bM l k<pZ (l.take k)then bM l k else pZ (l.take k)from by split<;>omega,uB h]
 cases l with
 |nil=>simp at h
 |cons a r=>
  obtain⟨j,rfl⟩:∃j,k=j+1:=⟨k-1,oM⟩;rw[RM];show(r.take j++[_]).foldl _ a=_;rw[qV];rfl
theorem aAP{l:List Int}{k:Nat}(h0:0<k)(h:k<l.length):pY (l.take (k+1))=max (pY (l.take k)) (bM l k):=by
 rw[show max (pY (l.take k)) (bM l k)=if pY (l.take k)<bM l k then bM l k else pY (l.take k)from by split<;>omega,uB h]
 cases l with
 |nil=>simp at h
 |cons a r=>
  obtain⟨j,rfl⟩:∃j,k=j+1:=⟨k-1,oM⟩;rw[RM];show(r.take j++[_]).foldl _ a=_;rw[qV];rfl
theorem aEB{l:List Int}(h:0<l.length):pZ (l.take 1)=bM l 0:=by
 cases l with
 |nil=>simp at h
 |cons a r=>rfl
theorem aEA{l:List Int}(h:0<l.length):pY (l.take 1)=bM l 0:=by
 cases l with
 |nil=>simp at h
 |cons a r=>rfl
theorem pF{w:World}{ao:Option Addr}{l:List Int}(h:pH w ao l){k:Nat}(e:k<l.length):∃b d,ao=some ⟨b,d,none⟩/\w.cell? ⟨b,d+k,none⟩=some (.int .i64 (bM l k)):=by
 rcases h with h|⟨b,d,f,g⟩
 ·rw[h]at e;exact absurd e sI
 exact⟨b,d,f,g k e⟩
theorem aRC(l:List Int)(v:Value)(w:World)(s:dM w v l)(h0:0<l.length)(K:l.length<=1000000):Calls Tryz.prog 161 #[v] w fun e B=>e=.returned (.int .i64 (pZ l))/\B=w:=by
 obtain⟨C,E,rfl,f⟩:=s;obtain⟨b,L,rfl,y⟩:=pF f h0;have i:O _:=f;have n:O _:=aEB h0;have F:decide ((l.length:Int)<1)=false:=aJ oM;have G:decide (l.length<1)=false:=aJ oM;clear f;rw[BE]at y
 go_enter Tryz.func161,Tryz.ntmps161
 go_wp2_with fail;go_loopw [3,4] (fun A iv wr=>w=wr/\∃k:Nat,0<k/\k<=l.length/\iv=.int .i64 k/\A=.int .i64 (pZ (l.take k))) (fun _ iv _=>l.length-(intOf iv).toNat);case atStart=>exact⟨rfl,1,oM,oM,rfl,by rw[n.o]⟩
 case round=>
  obtain⟨rfl,k,z,J,rfl,rfl⟩:=hrel;by_cases d:k<l.length
  ·obtain⟨D,M,g,H⟩:=pF i.o d;injection g with g;injection g with q r;subst q r;have p:O _:=aAS z d;generalize pZ (l.take k)=m at *;generalize bM l k=x at *;go_wp2_with fail;go_roundw;(case rel=>exact⟨trivial,k+1,oM,d,gN,by rw[p.o]⟩);case measure=>exact mI
  have I:decide (k<l.length)=false:=aJ d;(have j:O (pZ (l.take k)=pZ l):=by show _=_;rw[dU oM]);go_wp2_with fail;go_ret;exact⟨by rw[<-j.o];rfl,rfl⟩
theorem aRA(l:List Int)(v:Value)(w:World)(s:dM w v l)(h0:0<l.length)(K:l.length<=1000000):Calls Tryz.prog 162 #[v] w fun e B=>e=.returned (.int .i64 (pY l))/\B=w:=by
 obtain⟨C,E,rfl,f⟩:=s;obtain⟨b,L,rfl,y⟩:=pF f h0;have i:O _:=f;have n:O _:=aEA h0;have F:decide ((l.length:Int)<1)=false:=aJ oM;have G:decide (l.length<1)=false:=aJ oM;clear f;rw[BE]at y
 go_enter Tryz.func162,Tryz.ntmps162
 go_wp2_with fail;go_loopw [3,4] (fun A iv wr=>w=wr/\∃k:Nat,0<k/\k<=l.length/\iv=.int .i64 k/\A=.int .i64 (pY (l.take k))) (fun _ iv _=>l.length-(intOf iv).toNat);case atStart=>exact⟨rfl,1,oM,oM,rfl,by rw[n.o]⟩
 case round=>
  obtain⟨rfl,k,z,J,rfl,rfl⟩:=hrel;by_cases d:k<l.length
  ·obtain⟨D,M,g,H⟩:=pF i.o d;injection g with g;injection g with q r;subst q r;have p:O _:=aAP z d;generalize pY (l.take k)=m at *;generalize bM l k=x at *;go_wp2_with fail;go_roundw;(case rel=>exact⟨trivial,k+1,oM,d,gN,by rw[p.o]⟩);case measure=>exact mI
  have I:decide (k<l.length)=false:=aJ d;(have j:O (pY (l.take k)=pY l):=by show _=_;rw[dU oM]);go_wp2_with fail;go_ret;exact⟨by rw[<-j.o];rfl,rfl⟩
theorem aQQ{l:List Int}{k:Nat}(h:k<l.length):(l.take (k+1)).sum=(l.take k).sum+bM l k:=by rw[uB h,List.sum_append];simp
theorem QM:∀{l:List Int},(∀n,n∈l->cP n=true)->l.sum<=1000000*(l.length:Int)/\ -(1000000*(l.length:Int))<=l.sum
 |[],_=>by simp
 |a::r,h=>by have e:=QM (l:=r) (fun n d=>h n (bO _ d));have b:=h a dC;unfold cP at b;have f:=kA.mp b;rw[List.sum_cons,zW];omega
theorem LD(f:Int)(l:List Int)(v:Value)(w:World)(j:dM w v l)(h0:0<l.length)(s:l.length<=1000000)(r:∀n,n∈l->cP n=true):Calls Tryz.prog 108 #[.int .i64 f,v] w fun e E=>e=.returned (.int .i64 (fE f l))/\E=w:=by
 have HV:O _:=j;obtain⟨G,I,rfl,q⟩:=id j;by_cases d:f=1
 ·subst d
  go_enter Tryz.func108,Tryz.ntmps108
  go_wp2_with fail;go_ret;exact⟨rfl,rfl⟩
 by_cases g:f=3
 ·subst g
  go_enter Tryz.func108,Tryz.ntmps108
  go_wp2_with fail;refine Calls.mono (aRC l _ w HV.o h0 s) ?_;rintro _ F ⟨rfl,rfl⟩;go_wp2_with fail;go_ret;exact⟨rfl,rfl⟩
 by_cases i:f=4
 ·subst i
  go_enter Tryz.func108,Tryz.ntmps108
  go_wp2_with fail;refine Calls.mono (aRA l _ w HV.o h0 s) ?_;rintro _ F ⟨rfl,rfl⟩;go_wp2_with fail;go_ret;exact⟨rfl,rfl⟩
 (have A:O (fE f l=l.sum):=by show _=_;unfold fE;rw[if_neg d,if_neg g,if_neg i]);(have J:(f==1)=false:=by simpa using d);(have K:(f==3)=false:=by simpa using g);(have L:(f==4)=false:=by simpa using i);have z:O _:=q;have HN:O _:=r;clear d g i q j r
 go_enter Tryz.func108,Tryz.ntmps108
 go_wp2_with fail;go_loopw [5,23] (fun D iv wr=>w=wr/\∃k:Nat,k<=l.length/\iv=.int .i64 k/\D=.int .i64 (l.take k).sum) (fun _ iv _=>l.length-(intOf iv).toNat);case atStart=>exact⟨rfl,0,oM,rfl,rfl⟩
 case round=>
  obtain⟨rfl,k,P,rfl,rfl⟩:=hrel;by_cases b:k<l.length
  ·obtain⟨H,R,rfl,M⟩:=pF z.o b;have p:O _:=aQQ b;have y:=QM (l:=l.take (k+1)) (fun n C=>HN.o n (jG C));rw[p.o,cW,vA b]at y;(have Q:IntKind.i64.wrap ((l.take k).sum+bM l k)=(l.take k).sum+bM l k:=by simp[IntKind.wrap,IntKind.bits,IntKind.signed];omega);clear y;generalize (l.take k).sum=m at *;generalize bM l k=x at *;go_wp2_with fail;go_roundw;(case rel=>exact⟨trivial,k+1,b,gN,by rw[p.o]⟩);case measure=>exact mI
  have N:decide (k<l.length)=false:=aJ b;(have B:O ((l.take k).sum=l.sum):=by show _=_;rw[dU oM]);go_wp2_with fail;go_ret;exact⟨by rw[A.o,<-B.o];rfl,rfl⟩
theorem TE{x y:List Int}(f:x.length=y.length){k:Nat}(b:k<x.length):(x.drop k=y.drop k)↔(bM x k=bM y k/\x.drop (k+1)=y.drop (k+1)):=by(have d:x.drop k=bM x k::x.drop (k+1):=by rw[dB b];unfold bM;rw[aC,aD b];rfl);(have e:y.drop k=bM y k::y.drop (k+1):=by rw[dB oM];unfold bM;rw[aC,aD oM];rfl);rw[d,e,List.cons.injEq]
theorem Ec(x y:List Int)(v u:Value)(w:World)(E:dM w v x)(D:dM w u y)(Q:x.length<=1000000):Calls Tryz.prog 107 #[v,u] w fun e G=>e=.returned (.bool (decide (x=y)))/\Below w.heap.size w G:=by
 obtain⟨H,L,rfl,n⟩:=E;obtain⟨K,M,rfl,p⟩:=D;have s:O _:=n;have z:O _:=p;clear n p;by_cases g:x.length=y.length
 ·have j:O _:=g;(have B:((x.length:Int) != (y.length:Int))=false:=by rw[g];simp);clear g
  go_enter Tryz.func107,Tryz.ntmps107
  go_wp2_with fail;go_loopw [13] (fun iv wr=>∃k:Nat,k<=x.length/\iv=.int .i64 k/\O (x=y↔x.drop k=y.drop k)/\O (Below w.heap.size w wr)) (fun iv _=>x.length-(intOf iv).toNat);case atStart=>exact⟨0,oM,rfl,Iff.rfl,aH _ _⟩
  case round=>
   obtain⟨k,P,rfl,l,b⟩:=hrel;by_cases i:k<x.length
   ·(have F:k<y.length:=by have :=j.o;omega);obtain⟨I,R,rfl,q⟩:=pF s.o i;obtain⟨J,S,rfl,r⟩:=pF z.o F;have T:=aB b.o q;have U:=aB b.o r;have m:O _:=TE j.o i;clear q r;generalize bM x k=a at *;generalize bM y k=c at *;by_cases d:a=c
    ·(have C:(a != c)=false:=by simpa using d);have A:O (x=y↔x.drop (k+1)=y.drop (k+1)):=l.o.trans (m.o.trans ⟨fun h=>h.2,fun h=>⟨d,h⟩⟩);clear d;go_upto_region 6 with fail;go_quiet(fail);go_wp2_with fail;go_roundw;(case rel=>exact⟨k+1,i,gN,A.o,b.o.trans ((eO _ _).mono b.o.size)⟩);case measure=>exact mI
    (have C:(a != c)=true:=by simpa using d);have f:O (decide (x=y)=false):=aJ (fun h=>d (m.o.mp (l.o.mp h)).1);clear d;go_upto_region 6 with fail;go_quiet(fail);go_wp2_with fail;go_ret;exact⟨by rw[f.o];rfl,b.o.trans ((eO _ _).mono b.o.size)⟩
   have N:decide (k<x.length)=false:=aJ i;have f:O (decide (x=y)=true):=aQ (l.o.mpr (by have :=j.o;rw[bD oM,bD oM]));go_wp2_with fail;go_ret;exact⟨by rw[f.o];rfl,b.o⟩
 have f:O (decide (x=y)=false):=aJ (fun h=>g (by rw[h]));(have B:((x.length:Int) != (y.length:Int))=true:=by simp;omega);clear g
 go_enter Tryz.func107,Tryz.ntmps107
 go_wp2_with fail;go_ret;exact⟨by rw[f.o];rfl,aH _ _⟩
theorem MS{w w':World}{v:Value}{l:List Bool}(h:vT w v l)(e:Below w.heap.size w w'):vT w' v l:=by obtain⟨b,d,rfl,f,h⟩:=h;exact⟨b,d,rfl,f,zU h e⟩
theorem dD(y:World)(o:Obj):Below y.heap.size y (y.alloc o):=(aH _ _).alloc (aE _) o
theorem TN(y:World)(f:aN)(u:Value)(h:dM y u f.args):dA (y.alloc (.cells #[.int .i64 f.z,u] 55)) (.slice (some ⟨y.heap.size,0,none⟩) 1 1) [f]:=by refine⟨_,_,rfl,⟨aE _,fun h=>by cases h⟩, .inr ⟨_,_,rfl,fun i d=>?_⟩⟩;(have b:i=0:=by simp at d;omega);subst b;exact⟨cH (kT y _),u,cH (kT y _),aM h (dD _ _)⟩
theorem aIY(y:World)(f g:aN)(u v:Value)(h:dM y u f.args)(k:dM y v g.args):dA (y.alloc (.cells #[.int .i64 f.z,u, .int .i64 g.z,v] 55)) (.slice (some ⟨y.heap.size,0,none⟩) 2 2) [f,g]:=by
 refine⟨_,_,rfl,⟨aE _,fun h=>by cases h⟩, .inr ⟨_,_,rfl,fun i d=>?_⟩⟩;(have b:i=0\/i=1:=by simp at d;omega);rcases b with rfl|rfl
 ·exact⟨cH (kT y _),u,cH (kT y _),aM h (dD _ _)⟩
 exact⟨cH (kT y _),v,cH (kT y _),aM k (dD _ _)⟩
theorem GZ{w:World}{ao:Option Addr}{l:List Int}{d:Nat}(h:dM w (.slice ao l.length d) l)(m c:Nat)(p:m<=l.length):dM w (.slice ao m c) (l.take m):=by
 obtain⟨r,s,e,j⟩:=h;injection e with f v x;subst f;refine⟨ao,c,by rw[cW,vA p],?_⟩;rcases j with g|⟨b,q,rfl,k⟩
 ·exact .inl (by rw[g,List.take_nil])
 refine .inr ⟨b,q,rfl,fun i n=>?_⟩;rw[cW]at n;have :=k i oM;rw[this]
 congr 2
 unfold bM;rw[aC,aC,gS,if_pos oM]
theorem aSS:∀b w,(callFunc 205 b).run Tryz.prog w=.ok (.enter 205 b) w:=jQ Tryz.func205 kR rfl
theorem aFO(w:World)(n:Nat)(a:List Int)(j:Option Addr)(k:Nat)(C:w.cell? ⟨n,0,none⟩=some (.slice j a.length k))(B:dM w (.slice j a.length k) a)(f:aN)(ao:Option Addr)(g:Nat)(D:dM w (.slice ao f.args.length g) f.args)(N:a.length<=f.args.length)(S:f.args.length<=g)(V:a.length<=1000000):
 Calls Tryz.prog 205 #[.agg #[.int .i64 f.z, .slice ao f.args.length g], .pointer (some ⟨n,0,none⟩)] w fun e i=>e=.returned (.bool (lT a f))/\Below w.heap.size w i:=by
 have m:=dD w (.cells #[.int .i64 f.z, .slice ao f.args.length g] 55);have r:=aR w (.cells #[.int .i64 f.z, .slice ao f.args.length g] 55);have y:=aB m C;(have x:O (∀z,Below (w.alloc (.cells #[.int .i64 f.z, .slice ao f.args.length g] 55)).heap.size (w.alloc (.cells #[.int .i64 f.z, .slice ao f.args.length g] 55)) z->Calls Tryz.prog 107 #[.slice ao a.length g, .slice j a.length k] z fun e i=>e=.returned (.bool (lT a f))/\Below z.heap.size z i):=fun z l=>by refine(Ec (f.args.take a.length) a _ _ z (aM (aM (GZ D a.length g N) m) l) (aM (aM B m) l) (by rw[cW];omega)).mono ?_;rintro e i ⟨rfl,h⟩;exact⟨rfl,h⟩);have v:O _:=m;clear C B D m
 go_enter Tryz.func205,Tryz.ntmps205
 go_upto_region 1 with fail;generalize w.alloc (.cells #[.int .i64 f.z, .slice ao f.args.length g] 55)=d at *;(have J:d.cell? ⟨w.heap.size,0,none⟩=some (.int .i64 f.z):=cH r);(have A:d.cell? ⟨w.heap.size,1,none⟩=some (.slice ao f.args.length g):=cH r);have M:Below d.heap.size d d:=aH _ _;have T:decide ((a.length:Int)<=(g:Int))=true:=aQ oM;have U:decide (a.length<=g)=true:=aQ oM;clear r;(have p:O (∀z,Below d.heap.size d z->Calls Tryz.prog 107 #[.slice ao a.length g, .slice j a.length k] z fun e i=>e=.returned (.bool (lT a f))/\Below d.heap.size d i/\i.cell? ⟨w.heap.size,1,none⟩=some (.slice ao f.args.length g)/\i.cell? ⟨n,0,none⟩=some (.slice j a.length k)):=by intro z l;refine(x.o z l).mono ?_;rintro e i ⟨K,L⟩;have q:=l.trans (L.mono l.size);exact⟨K,q,aB q A,aB q y⟩);have G:∀b o,Below d.heap.size d b->Below d.heap.size d (b.alloc o):=fun _ o h=>h.alloc h.size o;have H:∀b,Below d.heap.size d b->Below d.heap.size d b.drew:=fun _ h=>⟨h.os,h.tape,h.output,h.size,h.block⟩;clear x J;obtain⟨t,ht⟩:∃t,lT a f=t:=⟨_,rfl⟩;rw[ht]at p;have I:O _:=ht;clear ht;have W:a.length<=g:=oM;have X:(a.length:Int)<=(g:Int):=oM;have hs0:(0:Int)<=(a.length:Int):=oM
 go_region_held3 (fun s=>s.cell? ⟨w.heap.size,1,none⟩=some (.slice ao f.args.length g)/\s.cell? ⟨n,0,none⟩=some (.slice j a.length k)/\Below d.heap.size d s) (go_keep) (
  (go_at_call 107;refine Calls.mono (p.o _ ?_) ?_;(simp[*]);rintro e R ⟨rfl,E,P,Q⟩))
 have F:O (Below w.heap.size w R):=v.o.trans (E.mono v.o.size);clear G H p E P Q y A M;go_wp2_with fail;go_ret;exact⟨by rw[I.o];rfl,F.o⟩
def AK(m:Nat)(w:World)(v:Value)(l:List aN):Prop:=∃f j,v=.slice f l.length j/\(l=[]\/∃b d,f=some ⟨b,d,none⟩/\∀i,i<l.length->w.cell? ⟨b,d+i*2,none⟩=some (.int .i64 (aZ l i).z)/\
 ∃g e,w.cell? ⟨b,d+i*2+1,none⟩=some (.slice g (aZ l i).args.length e)/\dM w (.slice g (aZ l i).args.length e) (aZ l i).args/\(aZ l i).args.length<=e/\m<=(aZ l i).args.length)
def Vc(l:List aN)(P:aN->Bool)(r:Int):Prop:=(r= -1/\l.find? P=none)\/∃i:Nat,r=i/\i<l.length/\l.find? P=some (aZ l i)
theorem Jm(l:List aN)(v:Value)(w:World)(n:Nat)(a:List Int)(g:Option Addr)(j:Nat)(z:w.cell? ⟨n,0,none⟩=some (.slice g a.length j))(y:dM w (.slice g a.length j) a)(L:AK a.length w v l)(hl:l.length<=9223372036854775807)(M:a.length<=1000000):
 Calls Tryz.prog 179 #[v, .func (.func 205) #[] #[.pointer (some ⟨n,0,none⟩)]] w fun e Q=>∃r,e=.returned (.int .i64 r)/\Vc l (lT a) r/\Below w.heap.size w Q:=by
 obtain⟨W,X,rfl,A⟩:=L;have K:O _:=A;have x:O (w.cell? ⟨n,0,none⟩=some (.slice g a.length j)/\dM w (.slice g a.length j) a):=⟨z,y⟩;have Y:=aSS;clear A z y
 go_enter Tryz.func179,Tryz.ntmps179
 go_wp2_with fail;go_loopw [8] (fun i wr=>∃k:Nat,k<=l.length/\i=.int .i64 k/\O (l.find? (lT a)=(l.drop k).find? (lT a))/\Below w.heap.size w wr) (fun i _=>l.length-(intOf i).toNat);case atStart=>exact⟨0,bG _,rfl,rfl,aH _ _⟩
 case round=>
  obtain⟨k,Z,rfl,q,d⟩:=hrel;by_cases m:k<l.length
  ·obtain⟨b,a2,rfl,D⟩:=K.o.resolve_left (fun h=>by rw[h]at m;cases m);obtain⟨H,R,S,I,B,F,G⟩:=D k m;(have p:O (l.find? (lT a)=if lT a (aZ l k)=true then some (aZ l k)else(l.drop (k+1)).find? (lT a)):=by show _=_;rw[q.o,GV l k m,List.find?_cons];cases lT a (aZ l k)<;>rfl);have U:=aB d H;have V:=aB d I;have J:O _:=aFO wr n a g j (aB d x.o.1) (aM x.o.2 d) (aZ l k) R S (aM B d) G F M;have T:O (∃f,f=aZ l k):=⟨_,rfl⟩;clear H I q B F G D;have s:O (lT a (aZ l k)=true->Vc l (lT a) (k:Int)):=fun h=>.inr ⟨k,rfl,m,by rw[p.o,if_pos h]⟩;generalize aZ l k=f at *;go_wp2_with fail;refine Calls.mono J.o ?_;rintro e w1 ⟨P,N⟩;subst P;have C:=d.trans (N.mono d.size);cases E:lT a f
   ·(have HV:O (l.find? (lT a)=(l.drop (k+1)).find? (lT a)):=by show _=_;rw[p.o,E,if_neg dE]);clear p s;go_wp2_with fail;go_roundw;(case rel=>exact⟨k+1,oM,gN,HV.o,C⟩);case measure=>exact mI
   have HV:O _:=s.o E;clear p s;go_wp2_with fail;go_ret;exact⟨k,rfl,HV.o,C⟩
  have HV:O (Vc l (lT a) (-1)):=.inl ⟨rfl,by rw[q.o,bD oM];rfl⟩;go_wp2_with fail;go_ret;exact⟨-1,rfl,HV.o,d⟩
end Go.Proofs.YthenjegmigeieaaGreat
namespace Go.Proofs.YthenjegmigeieaaGreat
open Go.Shelf Go.RowKit Go.Lib Go.Sort
def aQ8(w:World)(g:Nat)(x:Fv):Prop:=(∀b:World,(∀k,k<w.heap.size->¬k=g->b.heap[k]?=w.heap[k]?)->dM b x.2 x.1.args)/\fW x.1
abbrev FwS(w:World)(g:Nat):={x:Fv//aQ8 w g x}
theorem aPW(w:World)(g:Nat):aQ8 w g (⟨0,[]⟩, .slice none 0 0):=⟨fun _ _=>⟨none,0,rfl, .inl rfl⟩,by show([]:List Int).length<=_;decide⟩
theorem aRZ{w:World}{g:Nat}:∀{q:List Fv},(∀p,p∈q->aQ8 w g p)->∃Q:List (FwS w g),Q.map (·.1)=q:=by
 intro q
 induction q with
 |nil=>intro _;exact⟨[],rfl⟩
 |cons a r e=>
  intro h;obtain⟨Q,b⟩:=e (fun p d=>h p (by simp[d]));exact⟨⟨a,h a sI⟩::Q,by simp[b]⟩
abbrev Jc(w:World)(g:Nat):Inhabited (FwS w g):=⟨⟨_,aPW w g⟩⟩
def PX{w:World}{g:Nat}(x:FwS w g):List Value:=dW x.1
def Jb{w:World}{g:Nat}(x y:FwS w g):Int:=eV x.1.1 y.1.1
theorem aT2(w:World)(g:Nat):SWO (ltOf (Jb (w:=w) (g:=g)))where
 irrefl x:=by unfold ltOf Jb;rw[vO];decide
 trans x y z h1 h2:=by unfold ltOf Jb at *;simp only[decide_eq_true_eq]at *;exact sT h1 h2
 ntrans x y z h1 h2:=by
  unfold ltOf Jb at *;simp only[decide_eq_false_iff_not]at *;intro d;rcases GD x.1.1 y.1.1 with b|b|b
  ·exact h1 b
  ·rw[b]at d;exact h2 d
  exact h2 (sT b d)
theorem aT1{w:World}{g:Nat}(x:FwS w g):∀v∈PX x,v.oneCell'=true:=by intro v d;obtain⟨⟨⟨p,a⟩,u⟩,h⟩:=x;obtain⟨e,f,b,_⟩:=h.1 w (fun _ _ _=>rfl);have b:u=.slice e a.length f:=b;subst b;simp[PX,dW]at d;rcases d with rfl|rfl<;>rfl
theorem aRY(w:World)(g size:Nat):@CmpLays (FwS w g) (Jc w g) Tryz.prog 71 #[] PX 2 Jb g 0 size w:=by
 letI:Inhabited (FwS w g):=Jc w g
 intro m i d _ x y;have b:∀k,k<w.heap.size->¬k=g->(sortWorldK (PX (w:=w) (g:=g)) 2 w g 0 m d i).heap[k]?=w.heap[k]?:=fun k e f=>zI _ _ _ _ _ _ _ k e f;exact CL x.1.1 y.1.1 x.1.2 y.1.2 _ (x.2.1 _ b) (y.2.1 _ b) x.2.2 y.2.2
theorem aJA{b w:World}{B g j:Nat}{Q:List (FwS b g)}(h:vL w B g j (Q.map (·.1))):@HoldsK (FwS b g) (Jc b g) PX 2 w g 0 Q.toArray:=by
 letI:Inhabited (FwS b g):=Jc b g
 intro t ht;(have d:t<Q.length*2:=by simpa using ht);refine⟨?_,by rw[dV];exact h.frozen t⟩;rw[dV];have l:=World.ownsRow.cellAt h t (by rw[aP];exact d);obtain⟨x,i,m⟩:=JE (Q.map (·.1)) t (by rw[aP];exact d);rw[l,m];have e:t/2<Q.length:=oM;rw[cY,aD e]at i;(have n:Q[t/2].1=x:=by simpa using i);show(dW x)[t% 2]?=some ((flatK PX 2 Q.toArray)[t]!);rw[get_flatK PX 2 Q.toArray t (by simpa using d)];(have k:(Q.toArray)[t/2]! =Q[t/2]:=by simp[e]);rw[k];show _=some ((dW Q[t/2].1)[t% 2]!);rw[n];(have f:t% 2<(dW x).length:=by show t% 2<2;omega);rw[aD f,getElem!_pos (dW x) (t% 2) f]
theorem aGT{b w:World}{B g f n:Nat}{Q:List (FwS b g)}{d:Array (FwS b g)}{v:Array Obj}(h:vL w B g f (Q.map (·.1)))(k:d.size=Q.length):
 vL (@sortWorldK (FwS b g) (Jc b g) PX 2 w g 0 n d v) B g f (d.toList.map (·.1)):=by
 letI:Inhabited (FwS b g):=Jc b g
 have D:=h.lt;obtain⟨K,j⟩:=h;rcases j with⟨j,_⟩|⟨J,I,l,F,z,E,q,A,r,L⟩
 ·cases j
 injection F with e _ y;injection e with e;injection e with e;subst e y;(have i:(d.toList.map (·.1)).length=Q.length:=by rw[aP,zO,k]);refine⟨pE _, .inr ⟨g,f,putCells id 0 (flatK PX 2 d) l,rfl,z,?_,by rw[i];simpa using q,A,by simpa[putCells]using r,?_⟩⟩
 ·unfold sortWorldK putRowK putRow mapBlock Sort.ahead grow;show((w.heap.modify g _)++v)[g]?=_;rw[sL (by simpa using D.2),tO,if_pos rfl,E];rfl
 apply jU;intro t;rw[gS,fH,i];by_cases ht:t<Q.length*2
 ·rw[if_pos ht];have M:(Q.map (·.1)).length=Q.length:=aP _;(have C:t<l.size:=by rw[r];(have :Q.length<=f:=by simpa using q);omega);obtain⟨x,s,G⟩:=JE (d.toList.map (·.1)) t (by rw[i];exact ht);rw[G];unfold putCells;rw[LK,iG C,lE,if_pos (by rw[size_flatK,k];omega)];have p:t/2<d.size:=oM;rw[cY,fH,iG p]at s;(have H:d[t/2].1=x:=by simpa using s);rw[Nat.sub_zero,get_flatK PX 2 d t (by rw[k];exact ht),getElem!_pos d _ p];show some ((dW d[t/2].1)[t% 2]!)=_;rw[H];(have m:t% 2<(dW x).length:=by show t% 2<2;omega);rw[aD m,getElem!_pos (dW x) (t% 2) m]
 rw[if_neg ht,cZ];rw[pE,i];omega
theorem aN1(w:World)(B g f:Nat)(q:List Fv)(m:vL w B g f q)(N:∀p,p∈q->aQ8 w g p)(K:q.length<4611686018427387904):
 Calls Tryz.prog 106 #[.slice (some ⟨g,0,none⟩) q.length f, .func (.func 71) #[] #[]] w fun e s=>e=.returned (.tuple #[])/\∃r,r.Perm q/\(r.map (·.1)).Pairwise (fun a b=>¬zM b a)/\vL s B g f r/\w.grownBy s (some g):=by
 obtain⟨Q,rfl⟩:=aRZ N
 letI:Inhabited (FwS w g):=Jc w g
 have D:∀v w,(callFunc 71 v).run Tryz.prog w=.ok (.enter 71 v) w:=jQ Tryz.func71 kR rfl;(have y:Q.toArray.size=Q.length:=by simp);have l:=AnyQ.slices_SortFunc Tryz.sortF 2 Tryz.isAgg55 Tryz.sizeOf55 PX (fun _=>rfl) aT1 Jb (aT2 w g) 71 #[] g 0 f Q.toArray w D (aRY w g _) (aJA m) m.lt.2 (by rw[y];simpa using K);rw[y]at l;change Calls Tryz.prog 106 _ _ _ at l;rw[aP];refine l.mono ?_;rintro e s ⟨rfl,d,n,S,M,P,rfl⟩;obtain⟨R,T,z⟩:=M;(have x:d.size=Q.length:=by rw[R];simp);(have A:d.extract 0 Q.length=d:=by rw[<-x];simp);(have C:Q.toArray.extract 0 Q.length=Q.toArray:=by simp);rw[A,C]at z;refine⟨rfl,d.toList.map (·.1),?_,?_,aGT m x,rfl,rfl,rfl,NL _ _ _ _ _ _ _,fun k J L=>zI _ _ _ _ _ _ _ k J (fun e=>L (by rw[e]))⟩
 ·exact z.map _
 rw[xL];intro i j E H G;(have F:i<d.size:=by simpa using E);(have I:j<d.size:=by simpa using H);have :=P i j (bG _) G oM;rw[getElem!_pos d j I,getElem!_pos d i F]at this;unfold ltOf Jb at this;simp only[decide_eq_false_iff_not]at this;simpa[zM]using this
end Go.Proofs.YthenjegmigeieaaGreat
