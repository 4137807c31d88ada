/- Own texts, one behind the other (part 9). -/
import Derived.Test.YthenjegmigeieaaGreatBundleH
import Derived.Test.YthenjegmigeieaaGreatRows
import Derived.Shelf.SlicesQ.Reverse
import Derived.Ground.SlgnProg
import Derived.Test.YthenjegmigeieaaGreatProg
set_option maxRecDepth 100000
set_option maxHeartbeats 8000000
namespace Go.Proofs.YthenjegmigeieaaGreat
open Go.RowKit Go.Shelf
attribute [local go_sem] Oper.semAt_some
abbrev aKV(q:List Sv)(i:Nat):Array Value:=#[.int .i64 i,Xy (tW q i)]
def bkL(n:Nat):List Nat:=(List.range n).reverse
theorem MR(n:Nat):(bkL n).length=n:=by unfold bkL;rw[List.length_reverse,KN]
theorem aPD{n j k:Nat}(h:n=k+1+j):(bkL n).take (j+1)=(bkL n).take j++[k]:=by
 (have d:j<(bkL n).length:=by rw[MR];omega);have b:(bkL n)[j]?=some k:=by
  unfold bkL;rw[List.getElem?_reverse (by rw[KN];omega),KN,nX oM]
  congr 1
  omega
 rw[eI,b];rfl
theorem aKU(n:Nat)(hn:1<=n)(l i:Nat)(g W:World)(q:List Sv)(C:Option Addr)(H:Nat)(hQ:AA g C q)(hq:∀x,x∈q->nY g x)(hl:q.length<=1000000)
 (J T:List Nat->World->Prop) (a3:Below g.heap.size g W)
 (hY:∀p x G,J p G->x<q.length->p.length<q.length->YieldAt Fence.wide (n-1) Tryz.prog l (aKV q x) G fun e m=>(e=.returned (.bool true)/\J (p++[x]) m/\HK g.heap.size i G m)\/(e=.returned (.bool false)/\T (p++[x]) m))
 (I:W.heap[i]?=some (.cells #[.slice C q.length H] 71)) (h0:J [] W):
 CallsIn Fence.wide n Tryz.prog 178 #[.func (.yield l) #[] #[], .pointer (some ⟨i,0,none⟩)] W fun e m=>(∃v,e=.returned v)/\
  ((∃ys,ys=bkL q.length/\J ys m)\/(∃p,True/\T p m)):=by
 refine NW Tryz.func178 rfl trivial ?_ rfl;simp only[Tryz.ntmps178,List.size_toArray,List.length_cons,List.length_nil,Nat.reduceAdd,Nat.reduceSub,Array.replicate_succ,Array.replicate_zero,List.push_toArray,List.append_toArray,List.nil_append,List.cons_append];(have c0:W.cell? ⟨i,0,none⟩=some (.slice C q.length H):=cH I);have HY:O _:=hY;have HB:O _:=I;have Q:O (AA g C q/\∀x,x∈q->nY g x):=⟨hQ,hq⟩;have HW:O _:=a3;obtain⟨B,a7⟩:∃B:Int,B=(q.length:Int)-1:=⟨_,rfl⟩;(have ae:IntKind.i64.wrap ((q.length:Int)-1)=B:=by simp[IntKind.wrap,IntKind.bits,IntKind.signed];omega);have S:O (B=(q.length:Int)-1):=a7;clear hY I hQ hq a3 a7;gi_wp2;clear ae c0;gi_loopw [3] (fun v wr=>∃(j:Nat)(z:Int),j<=q.length/\v=.int .i64 z/\O (z=(q.length:Int)-1-j)/\O (J ((bkL q.length).take j) wr)/\O (HK g.heap.size i W wr)) (fun v _=>(intOf v+1).toNat);case atStart=>exact⟨0,B,bG _,rfl,by show _=_;rw[S.o];simp,h0,HK.refl _ _ _⟩
 case round=>
  clear h0 S;obtain⟨j,z,hj,rfl,R,D,E⟩:=hrel;by_cases ad:j<q.length
  ·obtain⟨k,hk⟩:∃k:Nat,q.length=k+1+j:=⟨q.length-1-j,oM⟩;(have M:z=(k:Int):=by rw[R.o];omega);subst M;have K:k<q.length:=oM;have a9:O _:=aPD hk;(have aa:O (((bkL q.length).take j).length<q.length):=by show _<_;rw[cW,MR];omega);have y:Below g.heap.size g wr:=HW.o.trans E.o.1;obtain⟨b,ag,rfl,p0,p1,p2,p3⟩:=EG Q.o.1 k K;have F:O (nY g (tW q k)):=Q.o.2 _ (uY q k K);have a0:=E.o.2 _ rfl HB.o;(have c0:wr.cell? ⟨i,0,none⟩=some (.slice (some ⟨b,ag,none⟩) q.length H):=cH a0);have q0:=aB y p0;have N:=aB y p1;have q2:=aB y p2;have P:=aB y p3;obtain⟨fn,al,ah,ai,A,ac⟩:=HY.o _ k _ D.o K aa.o;have g1:decide ((0:Int)<=(k:Int))=true:=aQ oM;obtain⟨r,L⟩:∃r:Int,r=(k:Int)-1:=⟨_,rfl⟩;(have ak:IntKind.i64.wrap ((k:Int)-1)=r:=by simp[IntKind.wrap,IntKind.bits,IntKind.signed];omega);(have ab:O (r=(q.length:Int)-1-((j+1:Nat):Int)):=by show _=_;rw[L];omega);(have aj:(r+1).toNat<(k:Int).toNat+1:=by rw[L];omega);dsimp only[aKV,Xy]at A;obtain⟨⟨_,⟨V,Y,a4,_⟩⟩,_⟩:(True/\∃V Y,(tW q k).f=.slice V (tW q k).s.d.args.length Y/\True)/\True:=⟨⟨trivial,by obtain⟨a,c,h,_⟩:=F.o.1.1;exact⟨a,c,h,trivial⟩⟩,trivial⟩;(obtain⟨X,Z,a6⟩:∃X Z,(tW q k).v=.slice X (tW q k).s.vars.length Z:=by obtain⟨a,c,h,_⟩:=F.o.2.1;exact⟨a,c,h⟩);rw[a4]at A N;rw[a6]at A P;clear p0 p1 p2 p3 y a0 a4 a6 hk L F;generalize (tW q k).s.d.z=pd at *;generalize (tW q k).s.d.args.length=na at *;generalize (tW q k).s.c=rl at *;generalize (tW q k).s.vars.length=nv at *;gi_wp2;refine ac.mono ?_;rintro e U (⟨rfl,a1,a5⟩|⟨rfl,a2⟩)
   ·(have w:O (J ((bkL q.length).take (j+1)) U):=by rw[a9.o];exact a1);have a8:O (HK g.heap.size i W U):=E.o.trans a5;clear a1 a5 A q0 N q2 P c0;gi_wp2;go_roundw;(case rel=>exact⟨j+1,r,ad,rfl,ab.o,w.o,a8.o⟩);case measure=>exact mI
   have w:O _:=a2;clear a2 A q0 N q2 P c0;gi_wp2;refine dF (sA rfl _ _ _) rfl ?_;exact⟨⟨_,rfl⟩, .inr ⟨_,trivial,w.o⟩⟩
  obtain rfl:j=q.length:=oM;(have M:z= -1:=by rw[R.o];omega);subst M;(have w:O (J (bkL q.length) wr):=by have :=D.o;rw[dU (by rw[MR];omega)]at this;exact this);clear D;gi_wp2;go_end0;exact⟨⟨_,rfl⟩, .inl ⟨_,rfl,w.o⟩⟩
end Go.Proofs.YthenjegmigeieaaGreat
namespace Go.Proofs
open Go.Shelf
def Tryz.reverseS_ren:Go.Shelf.Ren:=⟨fun |35=>137|n=>n,fun |22=>71|23=>80|3=>3|4=>4|0=>0|n=>n,fun |n=>n⟩
theorem Tryz.reverseS:Go.Proofs.SlLaysE0.n35 Tryz.prog Tryz.reverseS_ren:={
 mixed:=by kernel_rfl
 f35:=⟨Tryz.f137.name,by decide,Tryz.func137.trans (congrArg some (by kernel_rfl))⟩
 t0:=Tryz.underlying0
 a0:=Tryz.isAgg0
 z0:=Tryz.sizeOf0
 v0:=Tryz.zeroValue0
 t3:=Tryz.underlying3
 a3:=Tryz.isAgg3
 z3:=Tryz.sizeOf3
 v3:=Tryz.zeroValue3
 t4:=Tryz.underlying4
 a4:=Tryz.isAgg4
 z4:=Tryz.sizeOf4
 v4:=Tryz.zeroValue4
 t22:=Tryz.underlying71
 a22:=Tryz.isAgg71
 z22:=Tryz.sizeOf71
 v22:=Tryz.zeroValue71}
end Go.Proofs
namespace Go.Proofs.YthenjegmigeieaaGreat
open Go.Shelf Go.RowKit Go.Lib Go.Sort
abbrev C4:={c:List Value//c.length=4/\∀v,v∈c->v.oneCell'=true}
abbrev WN:Inhabited C4:=⟨⟨[.int .i64 0, .int .i64 0, .int .i64 0, .int .i64 0],rfl,fun v b=>by simp at b;rw[b];rfl⟩⟩
theorem aKZ:∀(b:List (List Value)),(∀c,c∈b->c.length=4/\∀v,v∈c->v.oneCell'=true)->∃Q:List C4,Q.map (·.1)=b
 |[],_=>⟨[],rfl⟩
 |c::b,h=>by obtain⟨Q,e⟩:=aKZ b (fun d f=>h d (bO _ f));exact⟨⟨c,h c dC⟩::Q,by rw[lF,e]⟩
theorem aPH(Q:List C4):∀c,c∈Q.map (·.1)->c.length=4:=fun c b=>by obtain⟨x,_,rfl⟩:=cR.mp b;exact x.2.1
theorem aVC(Q:List C4)(t:Nat)(ht:t<Q.length*4):∃x,Q[t/4]?=some x/\((Q.map (·.1)).flatten)[t]?=x.1[t% 4]?:=by
 have b:t/4<Q.length:=oM;refine⟨Q[t/4],aD b,?_⟩;(have d:t% 4<Q[t/4].1.length:=by rw[Q[t/4].2.1];omega);have :=GX 4 (Q.map (·.1)) (aPH Q) (t/4) Q[t/4].1 (t% 4) _ (by rw[cY,aD b];rfl) (aD d);rw[aD d,<-this]
 congr 1
 omega
theorem aKY(d:Array C4)(t:Nat)(ht:t<d.size*4):@flatK C4 WN (·.1) 4 d=@flatK C4 WN (·.1) 4 d/\some ((@flatK C4 WN (·.1) 4 d)[t]!)=((d.toList.map (·.1)).flatten)[t]?:=by
 letI:Inhabited C4:=WN
 refine⟨rfl,?_⟩;obtain⟨x,f,g⟩:=aVC d.toList t (by simpa using ht);rw[g,get_flatK (fun x:C4=>x.1) 4 d t ht];have e:t/4<d.size:=oM;rw[fH,iG e]at f;(have i:d[t/4]=x:=by simpa using f);(have b:t% 4<x.1.length:=by rw[x.2.1];omega);rw[getElem!_pos d _ e,i,aD b,getElem!_pos x.1 (t% 4) b]
theorem aPG{w:World}{B g d:Nat}{Q:List C4}(h:w.ownsRow B 80 4 (.slice (some ⟨g,0,none⟩) Q.length d) Q.length ((Q.map (·.1)).flatten)):@HoldsK C4 WN (·.1) 4 w g 0 Q.toArray:=by
 letI:Inhabited C4:=WN
 intro t ht;(have b:t<Q.length*4:=by simpa using ht);refine⟨?_,by rw[dV];exact World.ownsRow.frozenAt h t⟩;have e:=World.ownsRow.cellAt h t b;rw[dV,e];exact(aKY Q.toArray t (by simpa using b)).2.symm
theorem aTT{w:World}{B g e n:Nat}{Q:List C4}{d:Array C4}(h:w.ownsRow B 80 4 (.slice (some ⟨g,0,none⟩) Q.length e) Q.length ((Q.map (·.1)).flatten))(k:d.size=Q.length):
 (@putRowK C4 WN (·.1) 4 (Sort.ahead w n) g 0 d).ownsRow B 80 4 (.slice (some ⟨g,0,none⟩) Q.length e) Q.length ((d.toList.map (·.1)).flatten):=by
 letI:Inhabited C4:=WN
 obtain⟨D,f⟩:=h;rcases f with⟨f,_⟩|⟨C,A,i,z,m,v,p,q,j,E⟩
 ·cases f
 injection z with b _ l;injection b with b;injection b with b;subst b l;(have y:d.toList.length=Q.length:=by rw[zO,k]);(have s:((d.toList.map (·.1)).flatten).length=Q.length*4:=by rw[JF 4 _ (aPH d.toList),aP,y]);refine⟨s, .inr ⟨g,e,putCells id 0 (flatK (fun x:C4=>x.1) 4 d) i,rfl,m,?_,p,q,by simpa[putCells]using j,?_⟩⟩
 ·unfold putRowK putRow mapBlock Sort.ahead;show(w.heap.modify g _)[g]?=_;rw[tO,if_pos rfl,v];rfl
 apply jU;intro t;rw[gS,fH];by_cases ht:t<Q.length*4
 ·rw[if_pos ht];(have r:t<i.size:=by rw[j];omega);unfold putCells;rw[LK,iG r,lE,if_pos (by rw[size_flatK,k];omega),Nat.sub_zero];exact(aKY d t oM).2
 rw[if_neg ht,cZ];omega
theorem aCH(q:List Sv)(B:Nat)(v:Value)(w:World)(h:w.ownsRow B 80 4 v q.length (q.map jO).flatten)(h1:∀u,u∈(q.map jO).flatten->u.oneCell'=true)(F:q.length<=9223372036854775807):
 Calls Tryz.prog 137 #[v] w fun e j=>e=.returned (.tuple #[])/\j.ownsRow B 80 4 v q.reverse.length (q.reverse.map jO).flatten/\Below B w j/\∀(k:Nat)(o:Obj),w.heap[k]?=some o->(∀c,¬o=.cells c 80)->j.heap[k]?=some o:=by
 letI:Inhabited C4:=WN
 rcases jJ h with⟨b,D⟩|⟨g,s,b⟩
 ·have G:q=[]:=eB D;subst G b;refine(AnyQ.slices_Reverse_empty Tryz.reverseS none 0 w).mono ?_;rintro e j ⟨rfl,rfl⟩;exact⟨rfl,h,aH _ _,fun _ _ h _=>h⟩
 subst b;obtain⟨Q,y⟩:=aKZ (q.map jO) (fun c l=>by
  refine⟨?_,fun v b=>h1 v (wT.mpr ⟨c,l,b⟩)⟩;obtain⟨x,_,rfl⟩:=cR.mp l
  rfl)
 (have p:Q.length=q.length:=by have :=congrArg List.length y;simpa using this);(have r:w.ownsRow B 80 4 (.slice (some ⟨g,0,none⟩) Q.length s) Q.length ((Q.map (·.1)).flatten):=by rw[y,p];exact h);have l:=AnyQ.slices_Reverse Tryz.reverseS 4 Tryz.isAgg80 Tryz.sizeOf80 (fun x:C4=>x.1) (fun x=>x.2.1) (fun x=>x.2.2) g 0 s Q.toArray w (aPG r) (by simpa[p]using F);rw[<-p];refine Calls.mono (show Calls Tryz.prog 137 #[.slice (some ⟨g,0,none⟩) Q.length s] w _ from l) ?_;rintro e j ⟨rfl,n,rfl⟩;have K:=World.ownsRow.lt r g rfl;have A:=aTT (n:=n) (d:=Q.toArray.reverse) r sI;(have H:Q.toArray.reverse.toList.map (·.1)=q.reverse.map jO:=by rw[Array.toList_reverse,Dd,y,Dd]);rw[H]at A;(have z:∀k,¬k=g->(putRowK (fun x:C4=>x.1) 4 (Sort.ahead w n) g 0 Q.toArray.reverse).heap[k]?=w.heap[k]?:=fun k i=>by unfold putRowK putRow mapBlock Sort.ahead;show(w.heap.modify g _)[k]?=_;rw[tO,if_neg (fun e=>i e.symm)]);refine⟨rfl,by rw[List.length_reverse,<-p];exact A,⟨rfl,rfl,rfl,?_,fun k i=>z k oM⟩,fun k o i ht=>(z k fun e=>?_).trans i⟩
 ·unfold putRowK putRow mapBlock Sort.ahead;show _<=(w.heap.modify g _).size;simp
 subst e;rcases r.2 with⟨E,_⟩|⟨J,I,C,b,_,m,_⟩
 ·cases E
 injection b with f _ _;injection f with f;injection f with f;subst f;rw[i]at m;injection m with m;exact ht C m
end Go.Proofs.YthenjegmigeieaaGreat
namespace Go.Proofs.YthenjegmigeieaaGreat
open Go.RowKit
theorem aUH:∀b w,(callFunc 83 b).run Tryz.prog w=.ok (.enter 83 b) w:=jQ Tryz.func83 kR rfl
theorem aSQ:∀b w,(callFunc 136 b).run Tryz.prog w=.ok (.enter 136 b) w:=jQ Tryz.func136 kR rfl
theorem aJH(w:World)(SB:Nat)(l:Int)(g:List Int)(m:Int)(k:List Int)(s:Option Addr)(x:Nat)(v:Option Addr)(y:Nat)(E:w.heap[SB]?=some (.cells #[.int .i64 l, .slice s g.length x, .int .i64 m, .slice v k.length y] 80))(H:nY w ⟨⟨⟨l,g⟩,m,k⟩, .slice s g.length x, .slice v k.length y⟩)
 (z:World) (p:Int) (b:List Int) (d:Int) (vs:List Int) (af:Option Addr) (cf:Nat) (i:Option Addr) (j:Nat) (B:Below w.heap.size w z) (G:nY z ⟨⟨⟨p,b⟩,d,vs⟩, .slice af b.length cf, .slice i vs.length j⟩) (S:vs.length<=1000000):
 Calls Tryz.prog 83 #[.agg #[.int .i64 p, .slice af b.length cf, .int .i64 d, .slice i vs.length j], .pointer (some ⟨SB,0,none⟩)] z fun e U=>e=.returned (.bool (tS ⟨⟨p,b⟩,d,vs⟩ ⟨⟨l,g⟩,m,k⟩))/\Below z.heap.size z U:=by
 have A:=(B.block SB (bP E)).trans E;have r:=dD z (.cells #[.int .i64 p, .slice af b.length cf, .int .i64 d, .slice i vs.length j] 80);have n:=(r.block SB (bP A)).trans A;have q:=aR z (.cells #[.int .i64 p, .slice af b.length cf, .int .i64 d, .slice i vs.length j] 80);have D:O _:=aNW p b d vs af cf i j l g m k s x v y _ (G.u r) ((H.u B).u r) S;have C:O _:=r;clear A B r G H;generalize T:z.alloc (.cells #[.int .i64 p, .slice af b.length cf, .int .i64 d, .slice i vs.length j] 80)=f at *;(have c0:f.cell? ⟨SB,0,none⟩=some (.int .i64 l):=cH n);(have K:f.cell? ⟨SB,1,none⟩=some (.slice s g.length x):=cH n);(have L:f.cell? ⟨SB,2,none⟩=some (.int .i64 m):=cH n);(have M:f.cell? ⟨SB,3,none⟩=some (.slice v k.length y):=cH n);(have N:f.cell? ⟨z.heap.size,0,none⟩=some (.int .i64 p):=cH q);(have P:f.cell? ⟨z.heap.size,1,none⟩=some (.slice af b.length cf):=cH q);(have Q:f.cell? ⟨z.heap.size,2,none⟩=some (.int .i64 d):=cH q);(have R:f.cell? ⟨z.heap.size,3,none⟩=some (.slice i vs.length j):=cH q);clear n q
 go_enter Tryz.func83,Tryz.ntmps83
 go_upto_region 1 with fail;clear T;go_wp2_with fail;refine Calls.mono D.o ?_;rintro e V ⟨rfl,F⟩;have I:O (Below z.heap.size z V):=C.o.trans (F.mono C.o.size);obtain⟨t,ht⟩:∃t,tS ⟨⟨p,b⟩,d,vs⟩ ⟨⟨l,g⟩,m,k⟩=t:=⟨_,rfl⟩;rw[ht];have J:O _:=ht;clear ht;clear D c0 K L M N P Q R F;go_wp2_with fail;go_ret;exact⟨by rw[J.o];rfl,I.o⟩
theorem aN8(w:World)(SB:Nat)(m:Int)(b:List Int)(n:Int)(d:List Int)(p:Option Addr)(r:Nat)(q:Option Addr)(s:Nat)(C:w.heap[SB]?=some (.cells #[.int .i64 m, .slice p b.length r, .int .i64 n, .slice q d.length s] 80))(G:nY w ⟨⟨⟨m,b⟩,n,d⟩, .slice p b.length r, .slice q d.length s⟩):
 EJ 136 #[.pointer (some ⟨SB,0,none⟩)] w (fun f=>rQ ⟨⟨m,b⟩,n,d⟩ f):=by
 intro z f i j y E D;show Calls Tryz.prog 136 #[.agg #[.int .i64 f.z, .slice i f.args.length j], .pointer (some ⟨SB,0,none⟩)] z _;have v:=(y.block SB (bP C)).trans C;have l:=dD z (.cells #[.int .i64 f.z, .slice i f.args.length j] 55);have k:=(l.block SB (bP v)).trans v;have x:=aR z (.cells #[.int .i64 f.z, .slice i f.args.length j] 55);have B:O _:=Jv _ f _ _ ((G.u y).u l) (aM E l) D;have A:O _:=l;clear v y l E D G;generalize P:z.alloc (.cells #[.int .i64 f.z, .slice i f.args.length j] 55)=g at *;(have c0:g.cell? ⟨SB,0,none⟩=some (.int .i64 m):=cH k);(have J:g.cell? ⟨SB,1,none⟩=some (.slice p b.length r):=cH k);(have K:g.cell? ⟨SB,2,none⟩=some (.int .i64 n):=cH k);(have L:g.cell? ⟨SB,3,none⟩=some (.slice q d.length s):=cH k);(have M:g.cell? ⟨z.heap.size,0,none⟩=some (.int .i64 f.z):=cH x);(have N:g.cell? ⟨z.heap.size,1,none⟩=some (.slice i f.args.length j):=cH x);clear k x
 go_enter Tryz.func136,Tryz.ntmps136
 go_upto_region 1 with fail;clear P;go_wp2_with fail;refine Calls.mono B.o ?_;rintro e Q ⟨rfl,F⟩;have H:O (Below z.heap.size z Q):=A.o.trans (F.mono A.o.size);dsimp only;obtain⟨t,ht⟩:∃t,rQ ⟨⟨m,b⟩,n,d⟩ f=t:=⟨_,rfl⟩;rw[ht];have I:O _:=ht;clear ht;clear B c0 J K L M N F;go_wp2_with fail;go_ret;exact⟨by rw[I.o];rfl,H.o⟩
end Go.Proofs.YthenjegmigeieaaGreat
namespace Go.Proofs.YthenjegmigeieaaGreat
open Go.RowKit Go.Shelf
attribute [local go_sem] Oper.semAt_some
def GQ(p:bC)(a:List eC×List aN)(s:eC):List eC×List aN:=if a.2.any (rQ s)then(a.1++[s],a.2++fV p s)else a
theorem Hw(p:bC):∀(R:List eC)(K:List eC)(W:List aN),(R.foldl (GQ p) (K,W)).1=K++rC p R W
 |[],K,W=>by rw[List.foldl_nil];unfold rC;rw[jM]
 |s::R,K,W=>by
  rw[List.foldl_cons];by_cases h:W.any (rQ s)=true
  ·rw[show GQ p (K,W) s=(K++[s],W++fV p s)from if_pos h,show rC p (s::R) W=s::rC p R (W++fV p s)from if_pos h,Hw p R,iP];rfl
  rw[show GQ p (K,W) s=(K,W)from if_neg h,show rC p (s::R) W=rC p R W from if_neg h];exact Hw p R K W
theorem aRS(q:List Sv):(bkL q.length).map (fun i=>(tW q i).s)=(q.map (·.s)).reverse:=by
 unfold bkL;rw[Dd]
 congr 1
 apply jU;intro i;rw[cY,cY];by_cases h:i<q.length
 ·rw[nX h,wN q i h];rfl
 rw[cZ (by rw[KN];omega),cZ oM];rfl
theorem aQH{B:Nat}{w:World}{v:Value}{q:List Fv}(e:w.ownsRow B 55 2 v q.length (q.map dW).flatten)(m:∀y,y∈q->dM w y.2 y.1.args):dA w v (q.map (·.1)):=by
 rcases jJ e with⟨b,l⟩|⟨g,j,b⟩
 ·have f:q=[]:=eB l;subst f;exact⟨none,0,b,⟨aE _,fun _=>rfl⟩, .inl rfl⟩
 subst b;have n:q.length<=j:=by
  rcases e.2 with⟨b,_⟩|⟨_,_,_,b,_,_,s,_⟩
  ·cases b
  injection b with _ _ r;omega
 refine⟨_,j,by rw[aP],⟨by rw[aP];exact n,fun h=>by cases h⟩, .inr ⟨g,0,rfl,fun i d=>?_⟩⟩;rw[aP]at d;have f:q[i]?=some q[i]:=aD d;(have p:aZ (q.map (·.1)) i=q[i].1:=by simp[aZ,d]);obtain⟨c0,k⟩:=vL.cell e f;rw[dV,p];exact⟨c0,q[i].2,k,m _ (dY d)⟩
theorem Vj{W f:World}{B:Nat}{v v':Value}{e:Obj}(i:(W.alloc e).grownBy f v.ownBlock)(j:Nat)(o:Obj)(b:W.heap[j]?=some o)(l:¬v.ownBlock=some j)(k:¬j=B):
 (f.setCell ⟨B,0,none⟩ v').heap[j]?=some o:=by
 have d:=dD W e;exact(gE _ _ _ _ k).trans ((i.block j (dQ (bP b) d.size) (fun g=>l g.symm)).trans ((d.block j (bP b)).trans b))
theorem aSA{W:World}{q:Nat}{e:TypeId}{size:Nat}{v:Value}{k:Nat}{r:List Value}(n:W.ownsRow q e size v k r){j:Nat}{o:Obj}(m:W.heap[j]?=some o)(l:∀c,¬o=.cells c e):¬v.ownBlock=some j:=fun b=>by
 rcases n.2 with⟨i,_⟩|⟨g,s,f,p,_,d,_⟩
 ·rw[i]at b;cases b
 rw[p]at b;(obtain rfl:g=j:=by simpa[Value.ownBlock]using b);rw[m]at d;injection d with d;exact l f d
theorem CW{W d:World}{m B:Nat}{e:TypeId}{size:Nat}{v v':Value}{k:Nat}{p:List Value}{n:Obj}(l:W.ownsRow m e size v k p)(f:(W.alloc n).grownBy d v.ownBlock)(j:Nat)(o:Obj)(b:W.heap[j]?=some o)(i:∀c,¬o=.cells c e)(g:¬j=B):
 (d.setCell ⟨B,0,none⟩ v').heap[j]?=some o:=Vj f j o b (aSA l b i) g
theorem Jg{b R:Nat}{W W':World}(d:b<=W.heap.size)(h:Below W.heap.size W W'):HK b R W W':=(HN.of_below d h (PB:=R) (SB:=R)).1
theorem aPZ{b R B:Nat}{W Z f:World}{l:Option Nat}(h:HK b R W Z)(n:b<=B)(q:b<=Z.heap.size)(hg:Z.grownBy f l)(j:∀r,l=some r->B<=r/\∃o:Obj,Z.heap[r]?=some o/\o.isCells=false):HK b R W f:=
 h.trans ⟨⟨hg.os,hg.tape,hg.output,hg.size,fun k p=>hg.block k oM (fun e=>by have :=(j k e.symm).1;omega)⟩,fun o m d=>(hg.block R (bP d) (fun e=>by obtain⟨_,s,g,i⟩:=j R e.symm;rw[d]at g;cases g;rw[m]at i;cases i)).trans d⟩
theorem FH{B:Nat}{W W':World}(h:Below W.heap.size W W'):KeepsFrom B W W':=KeepsFrom.of_grownBy (lI h none) (fun _ e=>by cases e)
structure NdS (w:World) (PB KB WB:Nat) (PV:Array Value) (ks:List Sv) (ws:List Fv) (W:World):Prop where
 u:Below w.heap.size w W
 pb:W.heap[PB]?=some (.cells PV 26)
 kb:∃kv,Boxed W KB 71 kv/\W.ownsRow w.heap.size 80 4 kv ks.length (ks.map jO).flatten
 wb:∃wv,Boxed W WB 27 wv/\W.ownsRow w.heap.size 55 2 wv ws.length (ws.map dW).flatten
 wo:∀y,y∈ws->fW y.1/\(dM w y.2 y.1.args\/W.ownsRow 0 3 1 y.2 y.1.args.length (y.1.args.map (Value.int .i64)))
section
variable {w W W':World} {PB KB WB:Nat} {PV:Array Value} {ks:List Sv} {ws:List Fv}
theorem NdS.ints(h:NdS w PB KB WB PV ks ws W){y:Fv}(d:y∈ws):dM W y.2 y.1.args:=(h.wo y d).2.elim (fun b=>aM b h.u) yI
theorem NdS.keep(h:NdS w PB KB WB PV ks ws W)(i:Below w.heap.size W W')(b:∀(j:Nat)(o:Obj),W.heap[j]?=some o->o.isCells=true->W'.heap[j]?=some o):NdS w PB KB WB PV ks ws W' where
 u:=h.u.trans i
 pb:=b _ _ h.pb rfl
 kb:=by obtain⟨v,f,d⟩:=h.kb;exact⟨v,b _ _ f rfl,gR d fun j a e=>b _ _ e rfl⟩
 wb:=by obtain⟨v,f,d⟩:=h.wb;exact⟨v,b _ _ f rfl,gR d fun j a e=>b _ _ e rfl⟩
 wo:=fun y g=>⟨(h.wo y g).1,(h.wo y g).2.imp (fun h=>h) fun d=>gR d fun j a e=>b _ _ e rfl⟩
theorem NdS.later(h:NdS w PB KB WB PV ks ws W)(b:Below W.heap.size W W'):NdS w PB KB WB PV ks ws W':=
 h.keep (b.mono h.u.size) fun j _ d _=>(b.block j (bP d)).trans d
theorem NdS.grown(h:NdS w PB KB WB PV ks ws W){i:Option Nat}{B:Nat}(m:w.heap.size<=B)(hg:W.grownBy W' i)(g:∀r,i=some r->B<=r/\∃o:Obj,W.heap[r]?=some o/\o.isCells=false):NdS w PB KB WB PV ks ws W':=
 h.keep ⟨hg.os,hg.tape,hg.output,hg.size,fun k n=>hg.block k (by have :=h.u.size;omega) (fun e=>by have :=(g k e.symm).1;omega)⟩ fun j o b l=>(hg.block j (bP b) (fun e=>by obtain⟨_,p,d,f⟩:=g j e.symm;rw[b]at d;cases d;rw[l]at f;cases f)).trans b
theorem NdS.kept{d:World}{f v':Value}{x:Sv}{E:Obj}(h:NdS w PB KB WB PV ks ws W)(A:w.heap.size<=KB)(m:Boxed W KB 71 f)(l:W.ownsRow w.heap.size 80 4 f ks.length (ks.map jO).flatten)
 (B:d.ownsRow w.heap.size 80 4 v' (ks.length+1) ((ks.map jO).flatten++jO x)) (k:(W.alloc E).grownBy d f.ownBlock):
 NdS w PB KB WB PV (ks++[x]) ws (d.setCell ⟨KB,0,none⟩ v')/\KeepsOthers W (d.setCell ⟨KB,0,none⟩ v')/\Boxed d KB 71 f:=by
 obtain⟨r,g,s,v,z⟩:=m.appended dE l h.u.size A B k;have kp:∀(j:Nat)(c:Array Value)(t:TypeId),¬t=80->¬t=71->W.heap[j]?=some (.cells c t)->(d.setCell ⟨KB,0,none⟩ v').heap[j]?=some (.cells c t):=fun j c t C D b=>CW l k j _ b (fun G e=>by injection e with _ e;exact C e) (fun e=>by rw[e]at b;rw[show W.heap[KB]?=_ from m]at b;injection b with b;injection b with _ e;exact D e.symm);refine⟨⟨h.u.trans z,kp _ _ _ dE dE h.pb,⟨v',g,?_⟩,?_,fun y n=>⟨(h.wo y n).1,(h.wo y n).2.imp (fun h=>h) fun g=>gR g fun j a i=>kp j a 3 dE dE i⟩⟩,v,r⟩
 ·rw[bA,cB,fZ];simpa using s
 obtain⟨F,p,q⟩:=h.wb;exact⟨F,kp _ _ _ dE dE p,gR q fun j a i=>kp j a 55 dE dE i⟩
theorem NdS.want{b:World}{g v':Value}{y:Fv}{I:Obj}(h:NdS w PB KB WB PV ks ws W)(C:w.heap.size<=WB)(n:Boxed W WB 27 g)(m:W.ownsRow w.heap.size 55 2 g ws.length (ws.map dW).flatten)
 (D:b.ownsRow w.heap.size 55 2 v' (ws.length+1) ((ws.map dW).flatten++dW y)) (l:(W.alloc I).grownBy b g.ownBlock) (p:fW y.1/\W.ownsRow 0 3 1 y.2 y.1.args.length (y.1.args.map (Value.int .i64))):
 NdS w PB KB WB PV ks (ws++[y]) (b.setCell ⟨WB,0,none⟩ v')/\KeepsOthers W (b.setCell ⟨WB,0,none⟩ v')/\Boxed b WB 27 g:=by
 obtain⟨s,v,x,A,B⟩:=n.appended dE m h.u.size C D l;have kp:∀(j:Nat)(c:Array Value)(t:TypeId),¬t=55->¬t=27->W.heap[j]?=some (.cells c t)->(b.setCell ⟨WB,0,none⟩ v').heap[j]?=some (.cells c t):=fun j c t E F d=>CW m l j _ d (fun J e=>by injection e with _ e;exact E e) (fun e=>by rw[e]at d;rw[show W.heap[WB]?=_ from n]at d;injection d with d;injection d with _ e;exact F e.symm);refine⟨⟨h.u.trans B,kp _ _ _ dE dE h.pb,?_,⟨v',v,?_⟩,fun z f=>?_⟩,A,s⟩
 ·obtain⟨H,q,r⟩:=h.kb;exact⟨H,kp _ _ _ dE dE q,gR r fun j a i=>kp j a 80 dE dE i⟩
 ·rw[bA,cB,fZ];simpa using x
 have k:∀{u:Fv},W.ownsRow 0 3 1 u.2 u.1.args.length (u.1.args.map (Value.int .i64))->(b.setCell ⟨WB,0,none⟩ v').ownsRow 0 3 1 u.2 u.1.args.length (u.1.args.map (Value.int .i64)):=fun G=>gR G fun j a i=>kp j a 3 dE dE i;rcases dP.mp f with f|f
 ·exact⟨(h.wo z f).1,(h.wo z f).2.imp (fun h=>h) k⟩
 rcases cQ.mp f with rfl;exact⟨p.1, .inr (k p.2)⟩
end
theorem aMN(n:Nat)(a:Option Addr)(m c:Nat)(w:World):
 CallsIn Fence.wide n Tryz.prog 134 #[.slice a m c] w fun e f=>e=.returned (.func (.func 178) #[] #[.pointer (some ⟨w.heap.size,0,none⟩)])/\f=w.alloc (.cells #[.slice a m c] 71):=by
 have g:∀(d:Fn)(first b:Array Value)(w:World),(Instr.makeFunc d first b).run Tryz.prog w=.ok (.func d first b) w:=fun _ _ _ _=>rfl;refine NW Tryz.func134 rfl trivial ?_ rfl;simp only[Tryz.ntmps134,List.size_toArray,List.length_cons,List.length_nil,Nat.reduceAdd,Nat.reduceSub,Array.replicate_succ,Array.replicate_zero,List.push_toArray,List.append_toArray,List.nil_append,List.cons_append];gi_wp2;go_ret;exact⟨rfl,rfl⟩
theorem aR9(w:World)(B:Nat)(b:B<=w.heap.size)(p:Int)(u:Value):(w.alloc (.cells #[.int .i64 p,u] 55)).ownsRow B 55 2 (.slice (some ⟨w.heap.size,0,none⟩) 1 1) 1 [.int .i64 p,u]:=
 ⟨rfl, .inr ⟨w.heap.size,1,#[.int .i64 p,u],rfl,b,aR w _,aE _,by unfold maxLen;omega,rfl,rfl⟩⟩
theorem Ig{n:Nat}{w A B:World}(h1:Below n w A)(b:Below n w B)(e:A.heap.size<=B.heap.size):Below n A B:=⟨b.os.trans h1.os.symm,b.tape.trans h1.tape.symm,b.output.trans h1.output.symm,e,fun k d=>(b.block k d).trans (h1.block k d).symm⟩
abbrev faV(y:Fa):Fv:=(y.1, .slice y.2.1 y.1.args.length y.2.2)
theorem aBI{p:bC}{s:eC}(h:tM p s):(fV p s).length<=60:=by
 unfold fV;split
 ·simp
 rename_i b;rw[<-WF];exact bH (WG _ _ _) (h.len fun e=>b (.inl e))
end Go.Proofs.YthenjegmigeieaaGreat
namespace Go.Proofs.YthenjegmigeieaaGreat
open Go.RowKit Go.Shelf
attribute [local go_sem] Oper.semAt_some
structure NdI (p:bC) (q:List Sv) (w:World) (PV:Array Value) (f0:aN) (pre:List Nat) (ks:List Sv) (ws:List Fv) (W:World):Prop where
 st:NdS w w.heap.size (w.heap.size+1) (w.heap.size+1+1+1) PV ks ws W
 x:(ks.map (·.s),ws.map (·.1))=(pre.map fun i=>(tW q i).s).foldl (GQ p) ([],[f0])
 sub:∀x,x∈ks->x∈q
 kl:ks.length<=pre.length
 wl:ws.length<=1+60*pre.length
theorem NdI.snoc{p:bC}{q:List Sv}{w:World}{j:Array Value}{k:aN}{m:List Nat}{d:List Sv}{b:List Fv}{W:World}(h:NdI p q w j k m d b W){i:Nat}(A:i<q.length){g:List Sv}{f:List Fv}{W':World}(r:NdS w w.heap.size (w.heap.size+1) (w.heap.size+1+1+1) j g f W')
 (z:(¬(b.map (·.1)).any (rQ (tW q i).s)=true/\g=d/\f=b)\/((b.map (·.1)).any (rQ (tW q i).s)=true/\g=d++[tW q i]/\f.map (·.1)=b.map (·.1)++fV p (tW q i).s/\f.length<=b.length+60)):NdI p q w j k (m++[i]) g f W':=by
 (have n:∀a,(m++[i]).map (fun i=>(tW q i).s)=a->a.foldl (GQ p) ([],[k])=GQ p (d.map (·.s),b.map (·.1)) (tW q i).s:=fun a y=>by rw[<-y,cB,qV,<-h.x];rfl);have C:=h.kl;have D:=h.wl;rcases z with⟨l,rfl,rfl⟩|⟨l,rfl,v,B⟩
 ·exact⟨r,by rw[n _ rfl];exact(if_neg l).symm,h.sub,by rw[bA];omega,by rw[bA];omega⟩
 refine⟨r,by rw[n _ rfl,show GQ p (d.map (·.s),b.map (·.1)) (tW q i).s=(d.map (·.s)++[(tW q i).s],b.map (·.1)++fV p (tW q i).s)from if_pos l,v,cB];rfl,fun x e=>?_,by simp;omega,by simp;omega⟩;rcases dP.mp e with e|e
 ·exact h.sub x e
 rcases cQ.mp e with rfl;exact uY q i A
theorem aJP(p:bC)(q:List Sv)(va vn vr vq:Value)(w:World)(hP:iU w va vn vr p)(hQ:lR w vq q)(hl:q.length<=1000)(h0:0<q.length)(hq:∀x,x∈q->nY w x)(c9:∀x,x∈q->tM p x.s):
 Calls Tryz.prog 92 #[eN va vn vr,vq] w fun e w'=>∃(v:Value)(q':List Sv),e=.returned v/\w'.ownsRow w.heap.size 80 4 v q'.length (q'.map jO).flatten/\(∀x,x∈q'->x∈q)/\q'.map (·.s)=CU p (q.map (·.s)) (tW q (q.length-1)).s.d/\Below w.heap.size w w':=by
 obtain⟨i0,de,dq,dr,ds⟩:=iT LG;obtain⟨j0,df,dm,dn,dp⟩:=iT vK;obtain⟨P,S,rfl,_⟩:=id hP.ar;obtain⟨Q,T,rfl,_⟩:=id hP.nm;obtain⟨M,N,rfl,bZ⟩:=id hP.rl;obtain⟨aq,cq,rfl,dz,bn⟩:=id hQ;refine(ER (n:=8)).1 ?_;refine callsIn_of_wp_marks Tryz.func92 rfl trivial ?_ rfl;simp only[Tryz.ntmps92,List.size_toArray,List.length_cons,List.length_nil,Nat.reduceAdd,Nat.reduceSub,Array.replicate_succ,Array.replicate_zero,List.push_toArray,List.append_toArray,List.nil_append,List.cons_append];obtain⟨k,hk⟩:∃k:Nat,q.length=k+1:=⟨q.length-1,oM⟩;have cd:k<q.length:=oM;(have cE:O (q.length-1=k):=by show _=_;omega);obtain⟨b,a3,rfl,p0,p1,p2,p3⟩:=EG bn k cd;have bf:O (nY w (tW q k)):=hq _ (uY q k cd);have bW:O (∀i,i<q.length->nY w (tW q i)/\tM p (tW q i).s):=fun i hi=>⟨hq _ (uY q i hi),c9 _ (uY q i hi)⟩;have bc:O (AA w (some ⟨b,a3,none⟩) q/\∀x,x∈q->nY w x):=⟨bn,hq⟩;have d0:O (BL w M p.m):=bZ;(have dk:IntKind.i64.wrap ((q.length:Int)-1)=(k:Int):=by simp[IntKind.wrap,IntKind.bits,IntKind.signed];omega);have dd:(0:Int)<=(k:Int):=oM;have ch:(k:Int)<(q.length:Int):=oM;have cs:O ((tW q k).s.d=(tW q k).s.d):=rfl;obtain⟨x0,bu⟩:∃x0,x0=tW q k:=⟨_,rfl⟩;have d6:O _:=bu;rw[<-bu]at p0 p1 p2 p3 bf;clear bu cs hQ bn hq c9 bZ hk hP;obtain⟨⟨⟨pd,a4⟩,rl,vs⟩,fv,vv⟩:=x0;dsimp only at p0 p1 p2 p3;obtain⟨⟨⟨af,cf,cc,_⟩,c8⟩,⟨av,cv,cl,_⟩,_⟩:=bf.o;dsimp only at cc cl c8;subst cc cl;have b2:Below w.heap.size w ((w.alloc (pB P S Q T M N p)).alloc (.cells #[.slice none 0 0] 71)):=((aH _ w).alloc (aE _) _).alloc sI _;have r0:=aB b2 p0;have r1:=aB b2 p1;obtain⟨L,ah⟩:∃L,L=(((w.alloc (pB P S Q T M N p)).alloc (.cells #[.slice none 0 0] 71)).alloc (.cells #[.int .i64 pd, .slice af a4.length cf] 55)).alloc (.cells #[.slice (some ⟨w.heap.size+1+1,0,none⟩) 1 1] 27):=⟨_,rfl⟩;(have be:O (L.heap.size=w.heap.size+4):=by show _=_;rw[ah];simp);(have b4:Below w.heap.size w L:=by rw[ah];exact(b2.alloc sO _).alloc sO _);have hL:=aR9 ((w.alloc (pB P S Q T M N p)).alloc (.cells #[.slice none 0 0] 71)) w.heap.size sO pd (.slice af a4.length cf);have b0:=bI hL (dD _ (.cells #[.slice (some ⟨w.heap.size+1+1,0,none⟩) 1 1] 27));rw[<-ah]at b0;rw[show((w.alloc (pB P S Q T M N p)).alloc (.cells #[.slice none 0 0] 71)).heap.size=w.heap.size+1+1 by simp]at b0;obtain⟨k0,k1,k2,k3⟩:=Wb w (pB P S Q T M N p) (.cells #[.slice none 0 0] 71) (.cells #[.int .i64 pd, .slice af a4.length cf] 55) (.cells #[.slice (some ⟨w.heap.size+1+1,0,none⟩) 1 1] 27);rw[<-ah]at k0 k1 k2 k3;(have au:O (NdI p q w #[.slice P p.g.length S, .slice Q p.q.length T, .slice M p.m.length N] ⟨pd,a4⟩ [] [] [(⟨pd,a4⟩, .slice af a4.length cf)] L):=by refine⟨⟨b4,k0,⟨.slice none 0 0,k1,eD _ _ _ _⟩,⟨_,k3,b0⟩,fun y hy=>?_⟩,rfl,fun _ h=>absurd h sI,aE _,by simp⟩;rcases cQ.mp hy with rfl;exact⟨c8, .inl bf.o.1.1⟩);(have dt:O _:=b4;clear p2 p3 b2 hL b0 k0 k1 k2 k3 b4;gi_wp2;rw[<-ah];refine⟨trivial,(aMN 7 _ _ _ L).mono ?_⟩;rintro e w' ⟨rfl,rfl⟩;obtain⟨W0,ay⟩:∃W0,W0=L.alloc (.cells #[.slice (some ⟨b,a3,none⟩) q.length cq] 71):=⟨_,rfl⟩;have ba:O (NdI p q w #[.slice P p.g.length S, .slice Q p.q.length T, .slice M p.m.length N] ⟨pd,a4⟩ [] [] [(⟨pd,a4⟩, .slice af a4.length cf)] W0):=by rw[ay];exact⟨au.o.st.later (dD L _),au.o.x,au.o.sub,au.o.kl,au.o.wl⟩);(have b8:O (W0.heap[L.heap.size]?=some (.cells #[.slice (some ⟨b,a3,none⟩) q.length cq] 71)):=by show _=_;rw[ay];exact aR L _);(have bd:O (W0.heap.size=w.heap.size+5):=by have :=be.o;show _=_;rw[ay];simp;omega);rw[<-ay]
 have d1:O (Ux Fence.wide 7 Tryz.prog 178 #[.pointer (some ⟨L.heap.size,0,none⟩)] (aKV q) (HK w.heap.size L.heap.size) (fun x _=>x<q.length) (fun ys=>ys=bkL q.length) (fun _=>True) q.length W0):=fun l J Jx W hW _ _ hY h0=>
  aKU 7 dE l L.heap.size w W q _ cq bc.o.1 bc.o.2 oM J Jx (ba.o.st.u.trans (hW.mono ba.o.st.u.size)) hY ((hW.block _ (bP b8.o)).trans b8.o) h0
 clear ah ay p0 p1 r0 r1 dk dd ch;gi_wp2
 refine aGD (n:=8) rfl oM (gf:=178) (lb:=#[.pointer (some ⟨L.heap.size,0,none⟩)]) ?hg trivial (jQ Tryz.func178 kR rfl) d1.o
  (fun h k=>HK.trans h k) (fun W j o o' hl h h1 h2=>HK.put (by have :=bd.o;omega) W j o o' hl h h1 h2) (aH _ _) (fun _=>rfl)
  (fun an W=>(∃G ws,NdI p q w #[.slice P p.g.length S, .slice Q p.q.length T, .slice M p.m.length N] ⟨pd,a4⟩ an G ws W)/\W.heap[L.heap.size]?=some (.cells #[.slice (some ⟨b,a3,none⟩) q.length cq] 71)) (fun _ _ _=>False)
  (fun _ X Y b7 hs hg hr=>by
   obtain⟨⟨G,ws,C⟩,hq⟩:=hs
   exact⟨⟨G,ws,C.st.grown (by have :=bd.o;omega) hg hr,C.x,C.sub,C.kl,C.wl⟩,(hg.block _ (bP hq) (fun e=>by obtain⟨_,o,h5,h6⟩:=hr _ e.symm;rw[hq]at h5;cases h5;cases h6)).trans hq⟩)
  (fun _ _ _ _ _ hs _ _=>hs)
  ⟨⟨[],_,ba.o⟩,b8.o⟩
  (fun i a' W=>i<q.length/\∃Sb,(∃kv,Boxed W (w.heap.size+1) 71 kv/\¬kv.ownBlock=some Sb)/\W.heap[Sb]?=some (.cells #[.int .i64 (tW q i).s.d.z,(tW q i).f, .int .i64 (tW q i).s.c,(tW q i).v] 80)/\a'={tmps:=#[eN (.slice P p.g.length S) (.slice Q p.q.length T) (.slice M p.m.length N), .slice (some ⟨b,a3,none⟩) q.length cq, .pointer (some ⟨w.heap.size,0,none⟩),undef, .slice none 0 0, .pointer (some ⟨w.heap.size+1,0,none⟩), .pointer (some ⟨w.heap.size+1+1+1,0,none⟩),undef, .pointer (some ⟨Sb,0,none⟩),undef, .slice (some ⟨b,a3,none⟩) q.length cq, .slice (some ⟨b,a3,none⟩) q.length cq, .int .i64 q.length, .int .i64 k, .pointer (some ⟨b,a3+k*4,none⟩), .pointer (some ⟨b,a3+k*4,none⟩), .agg #[.int .i64 pd, .slice af a4.length cf], .slice (some ⟨w.heap.size+1+1,0,none⟩) 1 1, .slice (some ⟨b,a3,none⟩) q.length cq, .func (.func 178) #[] #[.pointer (some ⟨L.heap.size,0,none⟩)], .int .i64 i,Xy (tW q i),undef,undef,undef,undef,undef,undef,undef,undef,undef,undef,undef,undef,undef,undef,undef,undef,undef,undef,undef],defers:=[]})
  (fun i a' _ X Y b7 hs hg hr=>by
   obtain⟨h1,Sb,⟨kv,h4,h7⟩,h2,h3⟩:=hs
   exact⟨h1,Sb,⟨kv,(hg.block _ (bP h4) (fun e=>by obtain⟨_,o,h5,h6⟩:=hr _ e.symm;rw[show X.heap[_]?=_ from h4]at h5;cases h5;cases h6)).trans h4,h7⟩,(hg.block _ (bP h2) (fun e=>by obtain⟨_,o,h5,h6⟩:=hr _ e.symm;rw[h2]at h5;cases h5;cases h6)).trans h2,h3⟩)
  ?assign ?body ?done ?stop
 (case hg=>rfl);(case stop=>exact fun _ _ _ _ _ _ h=>h.elim);case assign=>rintro l an i W K ⟨⟨G,ws,C⟩,ax⟩ hi hK;have HX:O _:=bW.o i hi;dsimp only[aKV,Xy]at hK ⊢;generalize tW q i=x at *;obtain⟨⟨⟨U,H⟩,V,I⟩,fv,vv⟩:=x;obtain⟨⟨⟨aF,cF,e1,_⟩,_⟩,⟨aV,cV,e2,_⟩,_⟩:=HX.o.1;dsimp only at e1 e2 hK;subst e1 e2;have dh:w.heap.size<=W.heap.size:=C.st.u.size;gi_wp2;obtain⟨kv,hb,hr⟩:=C.st.kb;exact hK _ _ ((KeepsOthers.alloc _ _).from _) (HK.alloc dh _) ⟨⟨G,ws,C.st.later (dD W _),C.x,C.sub,C.kl,C.wl⟩,((dD W _).block _ (bP ax)).trans ax⟩ ⟨hi,W.heap.size,⟨kv,hb.alloc _,fun e=>absurd (World.ownsRow.lt hr _ e).2 (Nat.lt_irrefl _)⟩,aR W _,rfl⟩
 case done=>
  rintro D xs W hD hS ⟨⟨G,ws,C⟩,_⟩ hK;obtain⟨kv,hb,hr⟩:=C.st.kb;obtain⟨bg,bj,rfl⟩:=bJ hr;have bT:O _:=aCH G w.heap.size _ W hr (aQS fun x hx=>bc.o.2 x (C.sub x hx)) (by have :=C.kl;rw[hS,MR]at this;omega);have HN:O _:=C;have cr:O (Boxed W (w.heap.size+1) 71 (.slice bg G.length bj)):=hb;have cz:O _:=hK;have d3:O _:=hS;have c1:=hb.cell;clear C hb hr hS hK;gi_wp2;refine⟨trivial,(ER.2 bT.o).mono ?_⟩;rintro e W2 ⟨rfl,cj,c4,ad⟩;have bY:Boxed W2 (w.heap.size+1) 71 (.slice bg G.length bj):=ad _ _ cr.o (fun c e=>by injection e with _ e;cases e);have bl:W2.heap[D]?=some (.deferred (some [])):=ad _ _ cz.o (fun c e=>by cases e);have cX:O (W2.ownsRow w.heap.size 80 4 (.slice bg G.length bj) G.reverse.length (G.reverse.map jO).flatten):=cj;have cp:O (Below w.heap.size w W2):=HN.o.st.u.trans c4;have c2:=bY.cell;(have cu:O (G.map (·.s)=rC p (q.map (·.s)).reverse [⟨pd,a4⟩]):=by have h1:=HN.o.x;rw[d3.o,aRS]at h1;have h2:=congrArg Prod.fst h1;rw[Hw,qB]at h2;exact h2);clear c1 cj c4 ad bY bT;gi_wp2;refine⟨by simp, .inl ⟨_,_,rfl,run_takeDeferred bl,?_⟩⟩;refine⟨_,results_tmp rfl _ _ _,_,G.reverse,rfl,?_,fun x hx=>HN.o.sub x (List.mem_reverse.mp hx),?_,?_⟩
  ·exact ownsRow_putObj cX.o (.deferred none) bl rfl
  ·rw[cE.o,<-d6.o,Dd,cu.o];rfl
  exact cp.o.trans (belowK_b (w:=w) (aE _) W2 D _ _ (by have :=bd.o;omega) bl rfl rfl)
 case body=>
  rintro l an i a' W ⟨lr,cg⟩ ⟨⟨G,ws,C⟩,ax⟩ ⟨hi,Sb,⟨cm,ce,ca⟩,hX,rfl⟩ ch;have HX:O _:=bW.o i hi;have bU:O (∀{ks' ws' W'},NdS w w.heap.size (w.heap.size+1) (w.heap.size+1+1+1) #[.slice P p.g.length S, .slice Q p.q.length T, .slice M p.m.length N] ks' ws' W'->_->NdI p q w #[.slice P p.g.length S, .slice Q p.q.length T, .slice M p.m.length N] ⟨pd,a4⟩ (an++[i]) ks' ws' W'):=fun hs hc=>C.snoc hi hs hc;have ac:O (NdS w w.heap.size (w.heap.size+1) (w.heap.size+1+1+1) #[.slice P p.g.length S, .slice Q p.q.length T, .slice M p.m.length N] G ws W):=C.st;have dx:=C.kl;have b5:=C.wl;clear C;dsimp only[Xy]at hX ⊢;generalize tW q i=x at *;obtain⟨⟨⟨U,H⟩,V,I⟩,fv,vv⟩:=x;obtain⟨⟨⟨aF,cF,e1,_⟩,_⟩,⟨aV,cV,e2,_⟩,_⟩:=HX.o.1;dsimp only at e1 e2 hX;subst e1 e2;have bz:O _:=cg;have ap:O _:=ax;have b9:O (Boxed W (w.heap.size+1) 71 cm/\¬cm.ownBlock=some Sb):=⟨ce,ca⟩;have bX:O (W.heap[Sb]?=some (.cells #[.int .i64 U, .slice aF H.length cF, .int .i64 V, .slice aV I.length cV] 80)):=hX;obtain⟨wv,ab,a7⟩:=ac.o.wb;obtain⟨ao,co,rfl⟩:=bJ a7;have bx:O _:=SL (ws.map (·.1)) _ W 136 _ _ (aQH a7 (fun y hy=>ac.o.ints hy)) (by rw[aP];omega) (fun f hf=>by obtain⟨y,hy,rfl⟩:=cR.mp hf;exact(ac.o.wo y hy).1) aSQ (aN8 W Sb U H V I aF cF aV cV hX (HX.o.1.u ac.o.u));have cw:=ab.cell;clear cg ax ce ca hX a7 ab;gi_wp2;refine⟨trivial,(CallsIn.inRound l (ER.2 bx.o)).mono ?_⟩;rintro _ W3 ⟨rfl,bq⟩;have a8:O _:=bq;have aS:O _:=ac.o.later bq;have e0:w.heap.size<=W3.heap.size:=aS.o.u.size;have dj:w.heap.size<=W.heap.size:=ac.o.u.size;obtain⟨bb,bs⟩:∃bb,bb=(ws.map (·.1)).any fun f=>rQ ⟨⟨U,H⟩,V,I⟩ f:=⟨_,rfl⟩;rw[<-bs];have bv:O _:=bs.symm;clear bq cw bs bx;cases bb
  ·gi_wp2;exact⟨FH a8.o,Jg dj a8.o,⟨G,ws,bU.o aS.o (.inl ⟨fun h=>Bool.noConfusion (bv.o.symm.trans h),rfl,rfl⟩)⟩,(a8.o.block _ (bP ap.o)).trans ap.o⟩
  obtain⟨kv,az,aI⟩:=aS.o.kb;obtain⟨ak,ck,rfl⟩:=bJ aI;(have cb:¬(Value.slice ak G.length ck).ownBlock=some Sb:=fun e=>by have e9:W3.heap[w.heap.size+1]?=_:=(a8.o.block _ (bP b9.o.1)).trans b9.o.1;rw[show W3.heap[w.heap.size+1]?=_ from az]at e9;injection e9 with e9;injection e9 with e9;injection e9 with e9;injection e9 with e9;rw[e9]at e;exact b9.o.2 e);(have ag:O (W3.heap[Sb]?=some (.cells #[.int .i64 U, .slice aF H.length cF, .int .i64 V, .slice aV I.length cV] 80)):=(a8.o.block _ (bP bX.o)).trans bX.o;have c3:¬Sb=w.heap.size+1:=fun e=>by have e9:=ag.o;rw[e,show W3.heap[w.heap.size+1]?=_ from az]at e9;injection e9 with e9;injection e9 with _ e9;cases e9);have cn:O _:=(a8.o.block _ (bP ap.o)).trans ap.o;have cN:O _:=(a8.o.block _ (bP bz.o)).trans bz.o;(have d9:¬L.heap.size=w.heap.size+1:=by have :=be.o;omega);(have x0:W3.cell? ⟨Sb,0,none⟩=some (.int .i64 U):=cH ag.o);(have x1:W3.cell? ⟨Sb,1,none⟩=some (.slice aF H.length cF):=cH ag.o);(have x2:W3.cell? ⟨Sb,2,none⟩=some (.int .i64 V):=cH ag.o);(have x3:W3.cell? ⟨Sb,3,none⟩=some (.slice aV I.length cV):=cH ag.o);have d7:=az.cell;gi_wp2_with (gi_at_builtin;refine wpListIn_append_own _ rfl _ _ 71 rfl w.heap.size 80 i0 _ 4 64 Tryz.underlying71 de dq dr ds rfl dE _ _ _ rfl (aI.alloc _) ⟨W3.heap.size,0,none⟩ 1 1 [.int .i64 U, .slice aF H.length cF, .int .i64 V, .slice aV I.length cV] rfl rfl (aJQ W3 _ _ _ _ 80) (by intro u hu;simp at hu;rcases hu with rfl|rfl|rfl|rfl<;>rfl) (by unfold maxLen;omega) oM sO ?_;intro v' w1 am aa _;obtain⟨g',aT,rfl⟩:=ownsRow_succ am;obtain⟨ae,b3,br⟩:=aS.o.kept (x:=⟨⟨⟨U,H⟩,V,I⟩, .slice aF H.length cF, .slice aV I.length cV⟩) oM az aI am aa;have c6:=br.cell;have c7:=br.frozen;have ai:=Vj (v':=.slice (some ⟨g',0,none⟩) (G.length+1) aT) aa Sb _ ag.o cb c3;have bk:=CW (v':=.slice (some ⟨g',0,none⟩) (G.length+1) aT) aI aa _ _ cn.o (fun c e=>by injection e with _ e;cases e) d9;have y0:=(cD ai 0).trans (show _=some (.int .i64 U)from rfl);have y1:=(cD ai 1).trans (show _=some (.slice aF H.length cF)from rfl);have y2:=(cD ai 2).trans (show _=some (.int .i64 V)from rfl);have y3:=(cD ai 3).trans (show _=some (.slice aV I.length cV)from rfl);have c0:=(cD ae.pb 0).trans (show _=some (.slice P p.g.length S)from rfl);have c1:=(cD ae.pb 1).trans (show _=some (.slice Q p.q.length T)from rfl);have c2:=(cD ae.pb 2).trans (show _=some (.slice M p.m.length N)from rfl));have cS:O _:=ae;have du:O _:=ai;have bw:O _:=bk;have bN:O _:=b3.same l _ cN.o rfl;have cG:O (KeepsFrom W0.heap.size W _):=(FH a8.o).trans (b3.from _);have di:=ae.u.size;have cx:O (HK w.heap.size L.heap.size W _):=⟨Ig ac.o.u ae.u (bH a8.o.size b3.size),fun o ho hR=>by rw[ap.o]at hR;injection hR with hR;subst hR;exact bk⟩;clear x0 x1 x2 x3 d7 y0 y1 y2 y3 c0 c1 c2 c6 c7 ai bk br b3 ae am aa az aI cb c3;generalize w1.setCell ⟨w.heap.size+1,0,none⟩ (.slice (some ⟨g',0,none⟩) (G.length+1) aT)=E at *;refine⟨trivial,(CallsIn.inRound l (aF4 5 P Q M p.g.length p.q.length p.m.length S T N U aF H.length cF V aV I.length cV E)).mono ?_⟩;rintro e w' ⟨rfl,rfl⟩;obtain⟨W6,b1⟩:∃W6,W6=(E.alloc (pB P S Q T M N p)).alloc (.cells #[.int .i64 U, .slice aF H.length cF, .int .i64 V, .slice aV I.length cV] 80):=⟨_,rfl⟩;(have s6:W6.heap.size=E.heap.size+2:=by rw[b1];simp);(have b6:Below E.heap.size E W6:=by rw[b1];exact((aH _ E).alloc (aE _) _).alloc sI _);obtain⟨bm,bo⟩:=aG8 E (pB P S Q T M N p) (.cells #[.int .i64 U, .slice aF H.length cF, .int .i64 V, .slice aV I.length cV] 80);rw[<-b1]at bm bo ⊢;clear b1
  have a9:O (NdS w w.heap.size (w.heap.size+1) (w.heap.size+1+1+1) #[.slice P p.g.length S, .slice Q p.q.length T, .slice M p.m.length N] (G++[⟨⟨⟨U,H⟩,V,I⟩, .slice aF H.length cF, .slice aV I.length cV⟩]) (ws++([]:List Fa).map faV) W6/\(KeepsFrom W0.heap.size W W6/\HK w.heap.size L.heap.size W W6)/\(W6.heap[L.heap.size]?=some (.cells #[.slice (some ⟨b,a3,none⟩) q.length cq] 71)/\W6.heap[E.heap.size]?=some (pB P S Q T M N p)/\W6.heap[E.heap.size+1]?=some (.cells #[.int .i64 U, .slice aF H.length cF, .int .i64 V, .slice aV I.length cV] 80))):=
   ⟨by rw[List.map_nil,jM];exact cS.o.later b6,⟨cG.o.trans (FH b6),cx.o.trans (Jg di b6)⟩,(b6.block _ (bP bw.o)).trans bw.o,bm,bo⟩
  have dg:W6.heap[l]?=some (.loop lr):=(b6.block _ (bP bN.o)).trans bN.o
  have d2:O (Ux Fence.wide 5 Tryz.prog 170 #[.pointer (some ⟨E.heap.size+1,0,none⟩), .pointer (some ⟨E.heap.size,0,none⟩)] Vw (HN w.heap.size E.heap.size (E.heap.size+1)) aHF (fun ys=>ys.map (·.1)=fV p ⟨⟨U,H⟩,V,I⟩) (fun an=>∃t,fV p ⟨⟨U,H⟩,V,I⟩=an.map (·.1)++t) 60 W6):=fun l J Jx Z hZ hJ _ hY h0=>
   Ww 5 dE l E.heap.size (E.heap.size+1) w Z p ⟨⟨U,H⟩,V,I⟩ _ _ _ M N aV cV d0.o HX.o.1.2.1 HX.o.2 J Jx (fun s A B hs hg=>hJ s A B none hs hg (fun _ e=>by cases e)) (a9.o.1.u.trans (hZ.mono a9.o.1.u.size)) hY ((hZ.block _ (bP a9.o.2.2.2.1)).trans a9.o.2.2.2.1) ((hZ.block _ (bP a9.o.2.2.2.2)).trans a9.o.2.2.2.2) h0
  have cT:O _:=aBI HX.o.2;have aw:O (W.heap.size<=W6.heap.size/\w.heap.size<=W6.heap.size):=⟨a9.o.2.1.1.size,a9.o.1.u.size⟩;clear bm bo b6;gi_wp2
  refine aNQ (n:=6) (F:=Fence.wide.inRound l) (l₀:=l) (r₀:=lr) rfl dg oM (gf:=170) (lb:=#[.pointer (some ⟨E.heap.size+1,0,none⟩), .pointer (some ⟨E.heap.size,0,none⟩)]) ?hg2 trivial (jQ Tryz.func170 kR rfl) (show Ux (Fence.wide.inRound l) 5 Tryz.prog 170 _ Vw (HN w.heap.size E.heap.size (E.heap.size+1)) aHF _ _ 60 W6 from d2.o)
   (fun h k=>HN.trans h k) (fun Z j o o' hl h h1 h2=>⟨HK.put aw.o.2 Z j o o' hl h h1 h2,HK.put aw.o.2 Z j o o' hl h h1 h2⟩) (aH _ _) (fun _=>rfl)
   (fun(ys:List Fa) Z=>NdS w w.heap.size (w.heap.size+1) (w.heap.size+1+1+1) #[.slice P p.g.length S, .slice Q p.q.length T, .slice M p.m.length N] (G++[⟨⟨⟨U,H⟩,V,I⟩, .slice aF H.length cF, .slice aV I.length cV⟩]) (ws++ys.map faV) Z/\(KeepsFrom W0.heap.size W Z/\HK w.heap.size L.heap.size W Z)/\(Z.heap[L.heap.size]?=some (.cells #[.slice (some ⟨b,a3,none⟩) q.length cq] 71)/\Z.heap[E.heap.size]?=some (pB P S Q T M N p)/\Z.heap[E.heap.size+1]?=some (.cells #[.int .i64 U, .slice aF H.length cF, .int .i64 V, .slice aV I.length cV] 80)))
   (fun _ _ _=>False)
   (fun ys X Y b7 hs hg hr=>by
    have bi:∀j (c:Array Value) t,X.heap[j]?=some (Obj.cells c t)->Y.heap[j]?=some (Obj.cells c t):=fun j c t hj=>(hg.block j (bP hj) (fun e=>by obtain⟨_,o,h5,h6⟩:=hr _ e.symm;rw[hj]at h5;cases h5;cases h6)).trans hj
    exact⟨hs.1.grown aw.o.2 hg hr,⟨ownFrom_keepsFrom (β:=Unit) aw.o.1 () X Y b7 hs.2.1.1 hg hr,aPZ hs.2.1.2 aw.o.2 hs.1.u.size hg hr⟩,bi _ _ _ hs.2.2.1,bi _ _ _ hs.2.2.2.1,bi _ _ _ hs.2.2.2.2⟩)
   (fun _ _ _ _ _ hs _ _=>hs) a9.o
   (fun(y:Fa) a' Z=>∃Bx,Z.heap[Bx]?=some (.cells #[.int .i64 y.1.z, .slice y.2.1 y.1.args.length y.2.2] 55)/\aHF y Z/\a'={tmps:=#[eN (.slice P p.g.length S) (.slice Q p.q.length T) (.slice M p.m.length N), .slice (some ⟨b,a3,none⟩) q.length cq, .pointer (some ⟨w.heap.size,0,none⟩),undef, .slice none 0 0, .pointer (some ⟨w.heap.size+1,0,none⟩), .pointer (some ⟨w.heap.size+1+1+1,0,none⟩),undef, .pointer (some ⟨Sb,0,none⟩), .pointer (some ⟨Bx,0,none⟩), .slice (some ⟨b,a3,none⟩) q.length cq, .slice (some ⟨b,a3,none⟩) q.length cq, .int .i64 q.length, .int .i64 k, .pointer (some ⟨b,a3+k*4,none⟩), .pointer (some ⟨b,a3+k*4,none⟩), .agg #[.int .i64 pd, .slice af a4.length cf], .slice (some ⟨w.heap.size+1+1,0,none⟩) 1 1, .slice (some ⟨b,a3,none⟩) q.length cq, .func (.func 178) #[] #[.pointer (some ⟨L.heap.size,0,none⟩)], .int .i64 i, .agg #[.int .i64 U, .slice aF H.length cF, .int .i64 V, .slice aV I.length cV], .slice ao ws.length co, .func (.func 136) #[] #[.pointer (some ⟨Sb,0,none⟩)], .bool true, .bool false, .slice ak G.length ck, .agg #[.int .i64 U, .slice aF H.length cF, .int .i64 V, .slice aV I.length cV], .slice (some ⟨W3.heap.size,0,none⟩) 1 1, .slice (some ⟨g',0,none⟩) (G.length+1) aT, .agg #[.slice P p.g.length S, .slice Q p.q.length T, .slice M p.m.length N], .agg #[.int .i64 U, .slice aF H.length cF, .int .i64 V, .slice aV I.length cV], .func (.func 170) #[] #[.pointer (some ⟨E.heap.size+1,0,none⟩), .pointer (some ⟨E.heap.size,0,none⟩)], .agg #[.int .i64 y.1.z, .slice y.2.1 y.1.args.length y.2.2],undef,undef,undef,undef,undef,undef,undef],defers:=[]})
   (fun y a' _ X Y b7 hs hg hr=>by
    obtain⟨Bx,h1,⟨h2,h3⟩,h4⟩:=hs
    exact⟨Bx,(hg.block _ (bP h1) (fun e=>by obtain⟨_,o,h5,h6⟩:=hr _ e.symm;rw[h1]at h5;cases h5;cases h6)).trans h1,⟨Xd hg (fun r e=>(hr r e).2) h2,h3⟩,h4⟩)
   ?assign2 ?body2 ?done2 ?stop2
  (case hg2=>rfl);(case stop2=>exact fun _ _ _ _ h=>h.elim);(case assign2=>rintro l2 ys ⟨⟨fp,fa⟩,ya,yc⟩ Z K ⟨C,⟨al,aj⟩,hq,a5,a6⟩ ⟨hO,hF⟩ hK;have nb:=dD Z (.cells #[.int .i64 fp, .slice ya fa.length yc] 55);have hz:=C.u.size;dsimp only[Vw]at hO hF hK ⊢;gi_wp2;exact hK _ _ ((KeepsOthers.alloc _ _).from _) (HN.of_below hz nb) ⟨C.later nb,⟨al.trans (FH nb),aj.trans (Jg hz nb)⟩,(nb.block _ (bP hq)).trans hq,(nb.block _ (bP a5)).trans a5,(nb.block _ (bP a6)).trans a6⟩ ⟨Z.heap.size,aR Z _,⟨bI hO nb,hF⟩,rfl⟩);(case body2=>rintro l2 ys ⟨⟨fp,fa⟩,ya,yc⟩ a' Z ⟨C,⟨al,aj⟩,hq,a5,a6⟩ ⟨Bx,bp,⟨hO,hF⟩,rfl⟩ dy;dsimp only at bp hO hF ⊢;obtain⟨wv,ab,a7⟩:=C.wb;obtain⟨dv,dw,rfl⟩:=bJ a7;have hz:=C.u.size;(have dl:(ws++ys.map faV).length<=60062:=by rw[bA,aP];omega);have x0:=(cD bp 0).trans (show _=some (.int .i64 fp)from rfl);have x1:=(cD bp 1).trans (show _=some (.slice ya fa.length yc)from rfl);have cw:=ab.cell;(have d5:O (ws++(ys++[((⟨fp,fa⟩:aN),ya,yc)]).map faV=(ws++ys.map faV)++[faV ((⟨fp,fa⟩:aN),ya,yc)]):=by show _=_;rw[cB,iP];rfl);(have da:¬L.heap.size=w.heap.size+1+1+1:=by have :=be.o;omega);(have d8:¬E.heap.size=w.heap.size+1+1+1:=fun e=>by rw[e,show Z.heap[w.heap.size+1+1+1]?=_ from ab]at a5;injection a5 with a5;injection a5 with _ a5;cases a5);(have db:¬E.heap.size+1=w.heap.size+1+1+1:=fun e=>by rw[e,show Z.heap[w.heap.size+1+1+1]?=_ from ab]at a6;injection a6 with a6;injection a6 with _ a6;cases a6);obtain⟨wl,b5⟩:∃wl,wl=ws++ys.map faV:=⟨_,rfl⟩;rw[<-b5]at C a7 dl ab cw;have d4:O _:=b5;clear b5;gi_wp2_with (gi_at_builtin;refine wpListIn_append_own _ rfl _ _ 27 rfl w.heap.size 55 j0 _ 2 32 Tryz.underlying27 df dm dn dp rfl dE _ _ _ rfl (a7.alloc _) ⟨Z.heap.size,0,none⟩ 1 1 [.int .i64 fp, .slice ya fa.length yc] rfl rfl (Wx Z _ _ 55) (by intro u hu;simp at hu;rcases hu with rfl|rfl<;>rfl) (by unfold maxLen;omega) oM sO ?_;intro v' w9 am aa _;obtain⟨g2,bh,rfl⟩:=ownsRow_succ am;obtain⟨ci,bt,c5⟩:=C.want (y:=(⟨fp,fa⟩, .slice ya fa.length yc)) oM ab a7 am aa ⟨hF,hO⟩;have c6:=c5.cell;have c7:=c5.frozen;have e1:=CW (v':=.slice (some ⟨g2,0,none⟩) (wl.length+1) bh) a7 aa _ _ hq (fun c e=>by injection e with _ e;cases e) da;have e2:=CW (v':=.slice (some ⟨g2,0,none⟩) (wl.length+1) bh) a7 aa _ _ a5 (fun c e=>by injection e with _ e;cases e) d8;have e3:=CW (v':=.slice (some ⟨g2,0,none⟩) (wl.length+1) bh) a7 aa _ _ a6 (fun c e=>by injection e with _ e;cases e) db);have dc:=Ig C.u ci.u bt.size;have ad:∀{R:Nat}{o1:Obj},Z.heap[R]?=some o1->_=some o1->HK w.heap.size R Z _:=fun h1 h2=>⟨dc,fun o _ hR=>by rw[h1]at hR;injection hR with hR;rw[<-hR];exact h2⟩;refine⟨bt.from _,⟨ad a5 e2,ad a6 e3⟩,?_,⟨al.trans (bt.from _),aj.trans (ad hq e1)⟩,e1,e2,e3⟩;rw[d5.o,<-d4.o];exact ci);case done2=>rintro ys Z hS ⟨C,⟨al,aj⟩,hq,_⟩;have ct:O _:=bU.o C (.inr ⟨bv.o,rfl,by rw[<-hS,cB,SU];rfl,by rw[bA,aP];have :=congrArg List.length hS;rw[aP]at this;have :=cT.o;omega⟩);have cU:O _:=hq;have cK:O _:=al;have cy:O _:=aj;clear C al aj hq hS;gi_wp2;exact⟨cK.o,cy.o,⟨_,_,ct.o⟩,cU.o⟩
end Go.Proofs.YthenjegmigeieaaGreat
namespace Go.Proofs.YthenjegmigeieaaGreat
theorem FQ{p:bC}{l M:List aN}(h:pX p l [] 0 M):rG p l M:=by have d:=vX h rfl;have b:=tY d.1;exact⟨vW b.1 b.2.1,(sQ b.1 b.2.2.1).2,d.2,(rN h).1⟩
theorem DZ{p:bC}{l M:List aN}(h:rG p l M){s:eC}(n:s∈kD p l M):tM p s:=by
 rcases h.fits.mp n with⟨b,_⟩|⟨j,b,k,_⟩
 ·exact⟨.inl b,fun e=>absurd b e,fun e=>absurd b e⟩
 have d:=h.fn.ok.c _ (aRP (l:=p.m) (i:=s.c.toNat) oM);refine⟨.inr ⟨j,b⟩,fun _=>bH d.b4 dE,fun _ x g _=>⟨bH (LX h.fn.ok d g) dE,fun t ht=>?_⟩⟩;have f:=(d.lit x g).2 t ht;have q:=f.lo;have r:=f.hi;have v:=d.v0;unfold qK;rw[k.1];unfold mF;omega
def AU(p:bC)(l:List aN)(d:List eC)(c:Int)(b:Bool):Prop:=∃c0 M,pX p l [] c0 M/\
 ((¬c0=0/\c=c0/\b=false)\/(c0=0/\200<d.length/\c=2/\b=false)\/(c0=0/\d.length<=200/\c=0/\(b=true↔gK p l M d/\0<d.length)))
theorem MN{p:bC}{l M:List aN}{b:List eC}{k:Nat}{s:eC}(e:b[k]?=some s)(h:¬(s∈kD p l M/\lS p (b.take k) s=true)):¬gK p l M b:=fun g=>by obtain⟨f,d⟩:=eP.mp e;have :=g k f;rw[d]at this;exact h this
theorem aS5{R:List eC}{s:eC}(h:∀r,tS r s=true↔r=s):R.any (fun r=>tS r s)=true↔s∈R:=by rw[kI];exact⟨fun⟨r,b,d⟩=>by rw[<-(h r).mp d];exact b,fun b=>⟨s,b,(h s).mpr rfl⟩⟩
theorem NC{w:World}{ao:Option Addr}{d:Nat}{q:List Sv}(h:lR w (.slice ao q.length d) q){m:Nat}(y:m<=q.length):lR w (.slice ao m d) (q.take m):=by
 obtain⟨s,v,p,j,e⟩:=h;injection p with f _ g;subst f g;(have n:(q.take m).length=m:=by rw[cW];omega);refine⟨ao,d,by rw[n],⟨oM,j.2⟩,?_⟩;rcases e with e|⟨b,r,rfl,k⟩
 ·exact .inl (by rw[e,List.take_nil])
 refine .inr ⟨b,r,rfl,fun i x=>?_⟩;(have l:tW (q.take m) i=tW q i:=by unfold tW;rw[aC,aC,gS,if_pos oM]);rw[l];exact k i oM
end Go.Proofs.YthenjegmigeieaaGreat
namespace Go.Proofs.YthenjegmigeieaaGreat
open Go.RowKit
theorem YQ{W:World}{B e s n:Nat}{v:Value}{j:List Value}(h:W.ownsRow B e s v n j):wW v:=by
 intro k m l d;rcases h.2 with⟨b,_⟩|⟨g,c,_,b,_,_,p,_⟩
 ·rw[d]at b;injection b with _ f i;omega
 rw[d]at b;injection b with _ f i;omega
def CS(p:bC)(l:List aN)(f:aN)(b:List eC)(ok:Bool)(c:Int):Prop:=∃c0 M,pX p l [] c0 M/\
 ((¬c0=0/\c=c0/\ok=false/\b=[])\/(c0=0/\¬iL p f.z f.args=0/\c=iL p f.z f.args/\ok=false/\b=[])\/
  (c0=0/\iL p f.z f.args=0/\c=0/\((ok=true/\f∈M/\zD p l M f b)\/(ok=false/\¬f∈M/\b=[]))))
theorem NE(p:bC)(l:List aN)(f:aN)(va vn vr vl u:Value)(w:World)(T:iU w va vn vr p)(hF:jK p)(bg:iR w vr)(hV:dA w vl l)(bx:l.length<=9223372036854775807)(be:∀f,f∈l->fW f)(hU:dM w u f.args)(bd:fW f):
 Calls Tryz.prog 42 #[eN va vn vr,vl,kS f.z u] w fun e I=>∃(v:Value)(xs:List Sv)(ok:Bool)(c:Int),e=.returned (.tuple #[v, .bool ok, .int .i64 c])/\CS p l f (xs.map (·.s)) ok c/\(lR I v xs/\∀x,x∈xs->nY I x/\wW x.f)/\Below w.heap.size w I:=by
 obtain⟨A,D,rfl,_⟩:=id T.ar;obtain⟨B,E,rfl,_⟩:=id T.nm;obtain⟨C,F,rfl,_⟩:=id T.rl;obtain⟨al,cl,rfl,_⟩:=id hV;obtain⟨K,L,rfl,_⟩:=id hU;have b1:=dD w (pB A D B E C F p);have b2:=dD (w.alloc (pB A D B E C F p)) (.cells #[.int .i64 f.z, .slice K f.args.length L] 55);have bT:Below w.heap.size w ((w.alloc (pB A D B E C F p)).alloc (.cells #[.int .i64 f.z, .slice K f.args.length L] 55)):=b1.trans (b2.mono b1.size);have R:=aR w (pB A D B E C F p);have aj:O (((w.alloc (pB A D B E C F p)).alloc (.cells #[.int .i64 f.z, .slice K f.args.length L] 55)).heap[w.heap.size]?=some (pB A D B E C F p)):=(b2.block _ (bP R)).trans R;have aI:=aR (w.alloc (pB A D B E C F p)) (.cells #[.int .i64 f.z, .slice K f.args.length L] 55);rw[show(w.alloc (pB A D B E C F p)).heap.size=w.heap.size+1 by simp]at aI;have an:O _:=aI;have HB:O (Below w.heap.size w _):=bT;have HP:O (iU w (.slice A p.g.length D) (.slice B p.q.length E) (.slice C p.m.length F) p/\jK p):=⟨T,hF⟩;have HU:O (dM w (.slice K f.args.length L) f.args/\fW f):=⟨hU,bd⟩;have HC:O _:=QI p l _ _ _ _ _ (T.u bT) hF (bg.u T.rl bT) (bR hV bT) bx be;clear T hF bg hV be bT b1 b2 R aI hU bd
 go_enter Tryz.func42,Tryz.ntmps42
 go_upto_region 1 with fail;generalize (w.alloc (pB A D B E C F p)).alloc (.cells #[.int .i64 f.z, .slice K f.args.length L] 55)=r at *;(have a8:O (∀y,Below r.heap.size r y->y.cell? ⟨w.heap.size,0,none⟩=some (.slice A p.g.length D)/\y.cell? ⟨w.heap.size,1,none⟩=some (.slice B p.q.length E)/\y.cell? ⟨w.heap.size,2,none⟩=some (.slice C p.m.length F)/\y.cell? ⟨w.heap.size+1,0,none⟩=some (.int .i64 f.z)/\y.cell? ⟨w.heap.size+1,1,none⟩=some (.slice K f.args.length L)/\y.heap[w.heap.size+1]?=some (.cells #[.int .i64 f.z, .slice K f.args.length L] 55)):=fun y hy=>by have h:=(hy.block _ (bP aj.o)).trans aj.o;have S:=(hy.block _ (bP an.o)).trans an.o;exact⟨cH h,cH h,cH h,cH S,cH S,S⟩);have J:O (∀y,Below r.heap.size r y->Below w.heap.size w y):=fun y hy=>HB.o.trans (hy.mono HB.o.size);obtain⟨c0,N,P,_,_,_⟩:=a8.o r (aH _ _);go_wp2_with fail;refine Calls.mono HC.o ?_;rintro _ U ⟨v2,c,q,M,rfl,hR,bo,bW,aw,bf⟩;obtain⟨aq,cq,c3⟩:=bJ aw.1;subst c3;have X:O (pX p l [] c M):=hR;have b8:O (BW r.heap.size U (.slice aq q.length cq) q):=aw;have ba:O (c=0->q.map (·.s)=kD p l M):=bo;have Q:O (Below r.heap.size r U):=bf;clear c0 N P hR aw bo bf HC aj HB an;by_cases hc:c=0
 ·subst hc;have W:O (rG p l M):=FQ X.o;have ap:O (q.map (·.s)=kD p l M):=ba.o rfl;have ak:O _:=TJ p _ _ _ f.z f.args _ U (HP.o.1.u (J.o U Q.o)) HP.o.2 (aM HU.o.1 (J.o U Q.o)) HU.o.2;(have a3:nP p f.z f.args=iL p f.z f.args:=by have G:=tY (vX X.o rfl).1;unfold nP;rw[G.1];exact eY _);rw[a3]at ak;clear ba a3;obtain⟨c0,N,P,d0,d1,_⟩:=a8.o U Q.o;go_wp2_with fail;refine Calls.mono ak.o ?_;rintro _ w3 ⟨rfl,ax⟩;have Y:O (Below r.heap.size r w3):=Q.o.trans (ax.mono Q.o.size);have a7:O (BW r.heap.size w3 (.slice aq q.length cq) q):=b8.o.u ax;obtain⟨fe,a3⟩:∃fe,fe=iL p f.z f.args:=⟨_,rfl⟩;rw[<-a3];have a9:O _:=a3.symm;clear c0 N P d0 d1 ax ak a3 b8 Q;by_cases aF:fe=0
  ·subst aF;obtain⟨c0,N,P,_,_,_⟩:=a8.o w3 Y.o;have b5:O _:=aJB p l M q _ _ _ _ w3 (HP.o.1.u (J.o w3 Y.o)) (FW a7.o.1) bW (fun x j=>(a7.o.2 x j).ok) W.o ap.o (fun x j=>DZ W.o (by rw[<-ap.o];exact cR.mpr ⟨x,j,rfl⟩));go_wp2_with fail;refine Calls.mono b5.o ?_;rintro _ V ⟨v4,k,rfl,aV,ah,ai,ay⟩;obtain⟨a4,c4,c5⟩:=bJ aV;subst c5;have ad:O (Below r.heap.size r V):=Y.o.trans (ay.mono Y.o.size);have aa:O (∀x,x∈k->nY V x/\tM p x.s):=fun x j=>⟨(a7.o.2 x (ah x j)).ok.u ay,DZ W.o (by rw[<-ap.o];exact cR.mpr ⟨x,ah x j,rfl⟩)⟩;have bq:O (∀x,x∈k->wW x.f):=fun x j=>YQ (a7.o.2 x (ah x j)).f;have ab:O (RA p l M (k.map (·.s))):=ai;have av:O (lR V (.slice a4 k.length c4) k):=FW aV;(have cg:k.length<=60:=by have H:=AW W.o ai.proof ai.once;rw[aP]at H;exact H);obtain⟨cd,ce,c8,bh,bc⟩:=av.o;injection c8 with e1 _ e3;subst e1 e3;have cf:=bh.1;obtain⟨iv,aS⟩:∃iv,iv=CT (fun s=>rQ s f) k:=⟨_,rfl⟩;have am:O _:=Jp k a4 c4 V 90 #[.pointer (some ⟨w.heap.size+1,0,none⟩)] (fun _=>True) (fun s=>rQ s f) bc oM (fun x j=>(aa.o x j).1) aUI (fun _ _=>trivial) (Kg 90 (.inr rfl) V (w.heap.size+1) f K L (a8.o V ad.o).2.2.2.2.2 (aM HU.o.1 (J.o V ad.o)) HU.o.2);rw[<-aS]at am;have b6:O _:=aS;have bN:∀(fn:Fn)(first bb:Array Value)(w:World),(Instr.makeFunc fn first bb).run Tryz.prog w=.ok (.func fn first bb) w:=fun _ _ _ _=>rfl;clear c0 N P aV ah ai ay bh bc aS b5 a7 Y;go_wp2_with fail;refine Calls.mono am.o ?_;rintro _ n ⟨rfl,ae⟩;have Z:O (Below r.heap.size r n):=ad.o.trans (ae.mono ad.o.size);have ac:O (lR n (.slice a4 k.length c4) k/\∀x,x∈k->nY n x/\tM p x.s):=⟨av.o.u ae,fun x j=>⟨(aa.o x j).1.u ae,(aa.o x j).2⟩⟩;clear ae am av aa bN
   cases a5:k.findIdx? (fun x=>rQ x.s f)with
   |none=>
    have G:=b6.o.trans (PP a5);(have bl:¬f∈M:=fun hm=>by obtain⟨s,R,S⟩:=rR.mp ((ab.o.iff W.o f).mpr hm);obtain⟨x,j,rfl⟩:=cR.mp R;have :=UE.mp a5 x j;rw[yB.mpr S]at this;cases this);have ao:O (CS p l f [] false 0):=⟨0,M,X.o, .inr (.inr ⟨rfl,a9.o,rfl, .inr ⟨rfl,bl,rfl⟩⟩)⟩;subst G;clear a5 bl;go_wp2_with fail;refine dF (results_tmp3 rfl _ _ _) rfl ?_;exact⟨_,[],false,0,rfl,ao.o,⟨⟨none,0,rfl,⟨aE _,fun _=>rfl⟩, .inl rfl⟩,fun _ j=>absurd j sI⟩,J.o n Z.o⟩
   |some i=>
    have G:=b6.o.trans (PQ a5);obtain⟨hi,bm,_⟩:=IL.mp a5;(have af:(tW k i).s.d=f:=by have H:=wN k i hi;rw[aD hi]at H;injection H with H;rw[<-H];exact yB.mp bm);((have ag:(k.take (i+1)).length=i+1:=by rw[cW];omega);(have bp:tW (k.take (i+1)) ((k.take (i+1)).length-1)=tW k i:=by rw[ag];unfold tW;rw[aC,aC,gS,if_pos oM];rfl);have b9:O (zD p l M f (CU p ((k.take (i+1)).map (·.s)) (tW (k.take (i+1)) ((k.take (i+1)).length-1)).s.d)):=by have H:=aBK (p:=p) (l:=l) (M:=M) (st:=k.map (·.s)) ⟨ab.o.proof,ab.o.once⟩ (i:=i) (s:=(tW k i).s) (by rw[cY,wN k i hi];rfl);rw[af,<-IG]at H;show zD _ _ _ _ _;rw[bp,af];exact H);have bs:O (f∈M):=(ab.o.iff W.o f).mp (rR.mpr ⟨_,cR.mpr ⟨_,uY k i hi,rfl⟩,af⟩);obtain⟨m,hm⟩:∃m:Nat,m=i+1:=⟨_,rfl⟩;have bj:m<=k.length:=oM;(have bi:0<(k.take m).length:=by rw[hm,ag];omega);(have bk:(k.take m).length<=1000:=by rw[hm,ag];omega);rw[<-hm]at b9;obtain⟨c0,N,P,_,_,_⟩:=a8.o n Z.o;(have b7:O (∀z,Below n.heap.size n z->Calls Tryz.prog 92 #[eN (.slice A p.g.length D) (.slice B p.q.length E) (.slice C p.m.length F), .slice a4 m c4] z fun e I=>∃(v:Value)(q':List Sv),e=.returned v/\(I.ownsRow n.heap.size 80 4 v q'.length (q'.map jO).flatten/\(∀x,x∈q'->x∈k)/\zD p l M f (q'.map (·.s)))/\Below n.heap.size n I/\I.cell? ⟨w.heap.size,0,none⟩=some (.slice A p.g.length D)/\I.cell? ⟨w.heap.size,1,none⟩=some (.slice B p.q.length E)/\I.cell? ⟨w.heap.size,2,none⟩=some (.slice C p.m.length F)):=by intro z G;have cc:=J.o z (Z.o.trans (G.mono Z.o.size));have aT:∀x,x∈k.take m->x∈k:=fun x j=>jG j;refine(aJP p (k.take m) _ _ _ _ z (HP.o.1.u cc) ((NC ac.o.1 bj).u G) bk bi (fun x j=>(ac.o.2 x (aT x j)).1.u G) (fun x j=>(ac.o.2 x (aT x j)).2)).mono ?_;rintro e I ⟨v,q',R,S,h3,h4,h5⟩;have h6:=G.trans (h5.mono G.size);exact⟨v,q',R,⟨gL S G.size,fun x j=>aT x (h3 x j),by rw[h4];exact b9.o⟩,h6,aB h6 c0,aB h6 N,aB h6 P⟩);have bt:∀b o,Below n.heap.size n b->Below n.heap.size n (b.alloc o):=fun _ o h=>h.alloc h.size o;have bu:∀b,Below n.heap.size n b->Below n.heap.size n b.drew:=fun _ h=>⟨h.os,h.tape,h.output,h.size,h.block⟩;have bv:Below n.heap.size n n:=aH _ _;have hs0:decide ((i:Int)<0)=false:=aJ oM;have bX:(0:Int)<=(m:Int):=oM;have bY:(m:Int)<=(c4:Int):=oM;(have bZ:IntKind.i64.wrap ((i:Int)+1)=(m:Int):=by simp[IntKind.wrap,IntKind.bits,IntKind.signed];omega);subst G;clear a5 bm af ag bp hm bi bk;go_upto_region 11 with fail
    go_region_held3 (fun yy=>yy.cell? ⟨w.heap.size,0,none⟩=some (.slice A p.g.length D)/\yy.cell? ⟨w.heap.size,1,none⟩=some (.slice B p.q.length E)/\yy.cell? ⟨w.heap.size,2,none⟩=some (.slice C p.m.length F)/\Below n.heap.size n yy) (go_keep) (
     (go_at_call 92;refine Calls.mono (b7.o _ ?_) ?_;(simp[*]);rintro e w6 ⟨v6,q6,rfl,bU,az,c9,ca,cb⟩))
    clear bt bu bv b7 c9 ca cb bX bY bZ c0 N P bj;obtain⟨b0,b3,bn⟩:=bU;obtain⟨a6,c6,c7⟩:=bJ b0;subst c7;have b4:O ((lR w6 (.slice a6 q6.length c6) q6/\∀x,x∈q6->nY w6 x/\wW x.f)/\Below w.heap.size w w6):=⟨⟨FW b0,fun x j=>⟨(ac.o.2 x (b3 x j)).1.u az,bq.o x (b3 x j)⟩⟩,J.o w6 (Z.o.trans (az.mono Z.o.size))⟩;have bw:O (CS p l f (q6.map (·.s)) true 0):=⟨0,M,X.o, .inr (.inr ⟨rfl,a9.o,rfl, .inl ⟨rfl,bs.o,bn⟩⟩)⟩;clear b0 b3 bn az;go_wp2_with fail;refine dF (results_tmp3 rfl _ _ _) rfl ?_;exact⟨_,q6,true,0,rfl,bw.o,b4.o.1,b4.o.2⟩
  have ao:O (CS p l f [] false fe):=⟨0,M,X.o, .inr (.inl ⟨rfl,by rw[a9.o];exact aF,a9.o.symm,rfl,rfl⟩)⟩;(have bz:((fe:Int) != 0)=true:=by simpa using aF);go_wp2_with fail;refine dF (results_tmp3 rfl _ _ _) rfl ?_;exact⟨_,[],false,_,rfl,ao.o,⟨⟨none,0,rfl,⟨aE _,fun _=>rfl⟩, .inl rfl⟩,fun _ j=>absurd j sI⟩,J.o w3 Y.o⟩
 (have bz:((c:Int) != 0)=true:=by simpa using hc);have br:O (CS p l f [] false c):=⟨c,M,X.o, .inl ⟨hc,rfl,rfl,rfl⟩⟩;go_wp2_with fail;refine dF (results_tmp3 rfl _ _ _) rfl ?_;exact⟨_,[],false,_,rfl,br.o,⟨⟨none,0,rfl,⟨aE _,fun _=>rfl⟩, .inl rfl⟩,fun _ j=>absurd j sI⟩,J.o U Q.o⟩
theorem XK(p:bC)(l:List aN)(x:List Sv)(va vn vr vl vx:Value)(w:World)(U:iU w va vn vr p)(hF:jK p)(ba:iR w vr)(hV:dA w vl l)(bw:l.length<=9223372036854775807)(b6:∀f,f∈l->fW f)(hX:lR w vx x)(c9:x.length<=9223372036854775807)(b8:∀y,y∈x->nY w y):
 Calls Tryz.prog 39 #[eN va vn vr,vl,vx] w fun e D=>∃b c,e=.returned (.tuple #[.bool b, .int .i64 c])/\AU p l (x.map (·.s)) c b/\Below w.heap.size w D:=by
 obtain⟨K,Q,rfl,_⟩:=id U.ar;obtain⟨L,R,rfl,_⟩:=id U.nm;obtain⟨N,S,rfl,_⟩:=id U.rl;obtain⟨al,cl,rfl,_⟩:=id hV;obtain⟨ax,cx,rfl,bf,b7⟩:=id hX;have cd:=bf.1;have Z:=dD w (pB K Q L R N S p);have ah:O _:=aR w (pB K Q L R N S p);have HB:O (Below w.heap.size w _):=Z;have HP:O (iU w (.slice K p.g.length Q) (.slice L p.q.length R) (.slice N p.m.length S) p):=U;have ad:O (lR w (.slice ax x.length cx) x/\AA w ax x/\∀y,y∈x->nY w y):=⟨hX,b7,b8⟩;have HC:O _:=QI p l _ _ _ _ _ (U.u Z) hF (ba.u U.rl Z) (bR hV Z) bw b6;have X:O ((x.map (·.s)).length=x.length):=aP _;clear U hF ba hV b6 Z hX b7 b8 bf
 go_enter Tryz.func39,Tryz.ntmps39
 go_upto_region 1 with fail;generalize w.alloc (pB K Q L R N S p)=i at *;(have b5:O (∀y,Below i.heap.size i y->y.cell? ⟨w.heap.size,0,none⟩=some (.slice K p.g.length Q)/\y.cell? ⟨w.heap.size,1,none⟩=some (.slice L p.q.length R)/\y.cell? ⟨w.heap.size,2,none⟩=some (.slice N p.m.length S)):=fun y C=>by have h:=(C.block _ (bP ah.o)).trans ah.o;exact⟨cH h,cH h,cH h⟩);have J:O (∀y,Below i.heap.size i y->Below w.heap.size w y):=fun y C=>HB.o.trans (C.mono HB.o.size);obtain⟨c0,c1,c2⟩:=b5.o i (aH _ _);go_wp2_with fail;refine Calls.mono HC.o ?_;rintro _ B ⟨v2,c,q,M,rfl,hR,bd,cb,ao,b9⟩;obtain⟨aq,cq,bW⟩:=bJ ao.1;subst bW;have W:O (pX p l [] c M):=hR;have bn:O (BW i.heap.size B (.slice aq q.length cq) q):=ao;have b1:O (c=0->q.map (·.s)=kD p l M):=bd;have ac:O (Below i.heap.size i B):=b9;clear c0 c1 c2 hR ao bd b9 HC ah HB;by_cases hc:c=0
 ·subst hc;have bm:O (rG p l M):=FQ W.o;have bo:O (q.map (·.s)=kD p l M):=b1.o rfl;clear b1;by_cases an:200<x.length
  ·have hd:decide ((200:Int)<(x.length:Int))=true:=aQ oM;have ai:O (AU p l (x.map (·.s)) 2 false):=⟨0,M,W.o, .inr (.inl ⟨rfl,by rw[X.o];exact an,rfl,rfl⟩)⟩;clear an;go_wp2_with fail;refine dF (fM rfl _ _ _) rfl ?_;exact⟨_,_,rfl,ai.o,J.o B ac.o⟩
  have hd:decide ((200:Int)<(x.length:Int))=false:=aJ oM;have az:x.length<=200:=oM;clear an;go_wp2_with fail;go_loopw [27] (fun iv wr=>∃k:Nat,k<=x.length/\iv=.int .i64 k/\O (gK p l M ((x.take k).map (·.s)))/\O (Below B.heap.size B wr)) (fun iv _=>x.length-(intOf iv).toNat);case atStart=>exact⟨0,bG _,rfl,MP p l M,aH _ _⟩
  case round=>
   obtain⟨k,hk,rfl,b0,a7⟩:=hrel;have Y:O (Below i.heap.size i wr):=ac.o.trans (a7.o.mono ac.o.size);by_cases a4:k<x.length
   ·obtain⟨b,bg,rfl,p0,p1,p2,p3⟩:=EG ad.o.2.1 k a4;have am:O (nY w (tW x k)):=ad.o.2.2 _ (uY x k a4);have aa:O ((x.map (·.s))[k]?=some (tW x k).s/\(x.take (k+1)).map (·.s)=(x.take k).map (·.s)++[(tW x k).s]/\(x.map (·.s)).take k=(x.take k).map (·.s)):=⟨by rw[cY,wN x k a4];rfl,by rw[eI,wN x k a4,cB];rfl,by rw[IG]⟩;have b4:O (lR w (.slice (some ⟨b,bg,none⟩) k cx) (x.take k)/\∀y,y∈x.take k->nY w y):=⟨NC ad.o.1 hk,fun y C=>ad.o.2.2 y (jG C)⟩;(have cc:(x.take k).length<=200:=by rw[cW];omega);have a3:=J.o wr Y.o;have q0:=aB a3 p0;have q1:=aB a3 p1;have q2:=aB a3 p2;have q3:=aB a3 p3;clear p0 p1 p2 p3 a3;generalize tW x k=y at *;obtain⟨⟨⟨n,j⟩,r,v⟩,fv,vv⟩:=y;dsimp only at q0 q1 q2 q3;obtain⟨⟨⟨F,H,bb,_⟩,bz⟩,⟨G,I,be,_⟩,_⟩:=am.o;dsimp only at bb be bz;subst bb be;go_upto_region 9 with fail;have au:=dD wr (.cells #[.int .i64 n, .slice F j.length H, .int .i64 r, .slice G v.length I] 80);have bc:=aR wr (.cells #[.int .i64 n, .slice F j.length H, .int .i64 r, .slice G v.length I] 80);have a6:O (Below B.heap.size B _):=a7.o.trans (au.mono a7.o.size);have a5:O (Below i.heap.size i _):=Y.o.trans (au.mono Y.o.size);clear q0 q1 q2 q3 au a7 Y;generalize bx:wr.heap.size=A at *;generalize wr.alloc (.cells #[.int .i64 n, .slice F j.length H, .int .i64 r, .slice G v.length I] 80)=wa at *;have a8:O _:=bc;clear bc bx;have ab:O (BW i.heap.size wa (.slice aq q.length cq) q):=bn.o.u a6.o
    have aS:O _:=SM q (.slice aq q.length cq) wa 83 #[.pointer (some ⟨A,0,none⟩)] (fun s=>s.vars.length<=1000000) (fun s=>tS s ⟨⟨n,j⟩,r,v⟩) (FW ab.o.1) oM (fun y C=>(ab.o.2 y C).ok) aUH (fun y C=>bH (ab.o.2 y C).vl dE)
     (fun z p' br c7 c8 bq bt bs bu hz hx hc=>aJH wa A n j r v F H G I a8.o (am.o.u (J.o wa a5.o)) z p' br c7 c8 bq bt bs bu hz hx hc)
    (have aT:O ((q.map (·.s)).any (fun s=>tS s ⟨⟨n,j⟩,r,v⟩)=true↔(⟨⟨n,j⟩,r,v⟩:eC)∈kD p l M):=by rw[bo.o];exact aS5 fun _=>aE1);go_wp2_with fail;refine Calls.mono aS.o ?_;rintro _ d ⟨rfl,ae⟩;have aF:O (Below B.heap.size B d):=a6.o.trans (ae.mono a6.o.size);have V:O (Below i.heap.size i d):=a5.o.trans (ae.mono a5.o.size);have a9:O _:=(ae.block _ (bP a8.o)).trans a8.o;obtain⟨bv,aw⟩:∃bv,bv=(q.map (·.s)).any (fun s=>tS s ⟨⟨n,j⟩,r,v⟩):=⟨_,rfl⟩;rw[<-aw];have aI:O _:=aw.symm;clear aw ae aS a6 a5 ab a8;(have r0:d.cell? ⟨A,0,none⟩=some (.int .i64 n):=cH a9.o);(have r1:d.cell? ⟨A,1,none⟩=some (.slice F j.length H):=cH a9.o);(have r2:d.cell? ⟨A,2,none⟩=some (.int .i64 r):=cH a9.o);(have r3:d.cell? ⟨A,3,none⟩=some (.slice G v.length I):=cH a9.o);obtain⟨c0,c1,c2⟩:=b5.o d V.o;cases bv
    ·have aj:O (AU p l (x.map (·.s)) 0 false):=⟨0,M,W.o, .inr (.inr ⟨rfl,by rw[X.o];exact az,rfl,⟨fun h=>(by cases h),fun h=>absurd h.1 (MN aa.o.1 fun E=>by have :=aT.o.mpr E.1;rw[aI.o]at this;cases this)⟩⟩)⟩;go_upto_region 10 with fail;go_quiet(fail);clear r0 r1 r2 r3 c0 c1 c2;go_wp2_with fail;refine dF (fM rfl _ _ _) rfl ?_;have E:=J.o d V.o;exact⟨_,_,rfl,aj.o,⟨E.os,E.tape,E.output,E.size,E.block⟩⟩
    have b3:O ((⟨⟨n,j⟩,r,v⟩:eC)∈kD p l M):=aT.o.mp aI.o;obtain⟨rv,ay⟩:∃rv,rv=lS p ((x.take k).map (·.s)) ⟨⟨n,j⟩,r,v⟩:=⟨_,rfl⟩;have b2:O _:=ay.symm;(have aV:O (∀z,Below d.heap.size d z->Calls Tryz.prog 85 #[eN (.slice K p.g.length Q) (.slice L p.q.length R) (.slice N p.m.length S), .slice (some ⟨b,bg,none⟩) k cx, .agg #[.int .i64 n, .slice F j.length H, .int .i64 r, .slice G v.length I]] z fun e D=>e=.returned (.bool rv)/\Below d.heap.size d D/\D.cell? ⟨w.heap.size,0,none⟩=some (.slice K p.g.length Q)/\D.cell? ⟨w.heap.size,1,none⟩=some (.slice L p.q.length R)/\D.cell? ⟨w.heap.size,2,none⟩=some (.slice N p.m.length S)/\D.cell? ⟨A,0,none⟩=some (.int .i64 n)/\D.cell? ⟨A,1,none⟩=some (.slice F j.length H)/\D.cell? ⟨A,2,none⟩=some (.int .i64 r)/\D.cell? ⟨A,3,none⟩=some (.slice G v.length I)):=by intro z hz;have ag:=J.o z (V.o.trans (hz.mono V.o.size));refine(Bq p (x.take k) n j r v F H G I _ _ _ _ z (HP.o.u ag) (b4.o.1.u ag) oM (fun y C=>(b4.o.2 y C).u ag) (am.o.u ag) (DZ bm.o b3.o)).mono ?_;rintro e D ⟨h1,h2⟩;have P:=hz.trans (h2.mono hz.size);exact⟨h1.trans (by rw[ay]),P,aB P c0,aB P c1,aB P c2,aB P r0,aB P r1,aB P r2,aB P r3⟩);clear ay;have bj:∀b o,Below d.heap.size d b->Below d.heap.size d (b.alloc o):=fun _ o h=>h.alloc h.size o;have bk:∀b,Below d.heap.size d b->Below d.heap.size d b.drew:=fun _ h=>⟨h.os,h.tape,h.output,h.size,h.block⟩;have bl:Below d.heap.size d d:=aH _ _;have bN:(0:Int)<=(k:Int):=oM;have bU:(k:Int)<=(cx:Int):=oM;go_upto_region 10 with fail
    go_region_held3 (fun T=>T.cell? ⟨w.heap.size,0,none⟩=some (.slice K p.g.length Q)/\T.cell? ⟨w.heap.size,1,none⟩=some (.slice L p.q.length R)/\T.cell? ⟨w.heap.size,2,none⟩=some (.slice N p.m.length S)/\T.cell? ⟨A,0,none⟩=some (.int .i64 n)/\T.cell? ⟨A,1,none⟩=some (.slice F j.length H)/\T.cell? ⟨A,2,none⟩=some (.int .i64 r)/\T.cell? ⟨A,3,none⟩=some (.slice G v.length I)/\Below d.heap.size d T) (go_keep) (
     (go_at_call 85;refine Calls.mono (aV.o _ ?_) ?_;(simp[*]);rintro e w5 ⟨rfl,ap,bX,bY,bZ,c3,c4,c5,c6⟩))
    clear bj bk bl aV bX bY bZ c3 c4 c5 c6 bN bU r0 r1 r2 r3 c0 c1 c2;have bi:O (Below B.heap.size B w5):=aF.o.trans (ap.mono aF.o.size);have bh:O (Below i.heap.size i w5):=V.o.trans (ap.mono V.o.size);clear ap;cases rv
    ·have aj:O (AU p l (x.map (·.s)) 0 false):=⟨0,M,W.o, .inr (.inr ⟨rfl,by rw[X.o];exact az,rfl,⟨fun h=>(by cases h),fun h=>absurd h.1 (MN aa.o.1 fun E=>by rw[aa.o.2.2,b2.o]at E;cases E.2)⟩⟩)⟩;go_wp2_with fail;refine dF (fM rfl _ _ _) rfl ?_;exact⟨_,_,rfl,aj.o,J.o w5 bh.o⟩
    (have ak:O (gK p l M ((x.take (k+1)).map (·.s))):=by show gK _ _ _ _;rw[aa.o.2.1];exact zT.mpr ⟨b0.o,b3.o,b2.o⟩);go_wp2_with fail;go_roundw;(case rel=>exact⟨k+1,a4,gN,ak.o,bi.o⟩);case measure=>exact mI
   obtain rfl:k=x.length:=oM;(have ak:O (gK p l M (x.map (·.s))):=by show gK _ _ _ _;have :=b0.o;rw[lA]at this;exact this);have bp:O (AU p l (x.map (·.s)) 0 (decide (0<x.length))):=⟨0,M,W.o, .inr (.inr ⟨rfl,by rw[X.o];exact az,rfl,⟨fun h=>⟨ak.o,by rw[X.o];exact eL h⟩,fun h=>aQ (by have :=h.2;rw[X.o]at this;exact this)⟩⟩)⟩;go_wp2_with fail;refine dF (fM rfl _ _ _) rfl ?_;exact⟨_,_,rfl,bp.o,J.o wr Y.o⟩
 (have ca:((c:Int) != 0)=true:=by simpa using hc);have ai:O (AU p l (x.map (·.s)) c false):=⟨c,M,W.o, .inl ⟨hc,rfl,rfl⟩⟩;go_wp2_with fail;refine dF (fM rfl _ _ _) rfl ?_;exact⟨_,_,rfl,ai.o,J.o B ac.o⟩
theorem aE2:(⟨1,[1,3]⟩:aN)∈oI:=by simp[oI]
theorem aBM:¬(⟨1,[3,1]⟩:aN)∈oI:=by simp[oI]
theorem WJ:iL gU 1 [1,3]=0/\iL gU 1 [3,1]=0:=⟨by kernel_rfl,by kernel_rfl⟩
def aV9(d g:Value)(f k e off:Nat)(i:Nat)(b:Value):Prop:=
 match i with
 |34=>b=(.int .i64 0:Value)
 |35=>b=(.bool true:Value)
 |36=>b=(.bool true:Value)
 |37=>b=(.int .i64 0:Value)
 |38=>b=(.bool true:Value)
 |39=>b=(.bool true:Value)
 |40=>b=(.bool true:Value)
 |41=>b=(.int .i64 0:Value)
 |42=>b=(.bool true:Value)
 |43=>b=(.bool true:Value)
 |44=>b=(.bool true:Value)
 |45=>b=(.bool true:Value)
 |46=>b=(.bool true:Value)
 |47=>b=(.bool true:Value)
 |48=>b=(.bool false:Value)
 |49=>b=(.bool true:Value)
 |50=>b=(.bool true:Value)
 |51=>b=(.bool true:Value)
 |52=>b=(.bool true:Value)
 |53=>b=(.bool true:Value)
 |54=>b=(.bool true:Value)
 |55=>b=(d:Value)
 |56=>b=(.int .i64 (f:Int):Value)
 |57=>b=(.bool true:Value)
 |58=>b=(.bool true:Value)
 |59=>b=(.bool true:Value)
 |60=>b=(d:Value)
 |61=>b=(d:Value)
 |62=>b=(.int .i64 (f:Int):Value)
 |63=>b=(.int .i64 (k:Int):Value)
 |64=>b=(.pointer (some ⟨e,off+k*4,none⟩):Value)
 |65=>b=(.pointer (some ⟨e,off+k*4,none⟩):Value)
 |66=>b=(.agg #[.int .i64 1,g]:Value)
 |71=>b=(.bool true:Value)
 |72=>b=(.bool true:Value)
 |0=>b=(.bool true:Value)
 |_=>True
def aQY(g f:Value)(j k i off:Nat)(b:Nat)(d:Value)(e:World):Prop:=
 if b=67 then dA e d [⟨1,[1,3]⟩]
 else if b=68 then∃a c,d=.slice a 2 c/\dM e (.slice a 2 c) [1,3]
 else if b=69 then∃a c,d=kS 1 (.slice a 2 c)/\dM e (.slice a 2 c) [1,3]
 else if b=70 then dA e d [⟨1,[1,3]⟩]
 else aV9 g f j k i off b d
theorem aOD(i g:Value)(l k j off:Nat)(b:Nat)(r:Value)(W W':World)(d:Below W.heap.size W W')(h:aQY i g l k j off b r W):aQY i g l k j off b r W':=by
 unfold aQY at h ⊢;by_cases m:b=67
 ·rw[if_pos m]at h ⊢;exact bR h d
 rw[if_neg m]at h ⊢;by_cases n:b=68
 ·rw[if_pos n]at h ⊢;obtain⟨a,c,e,f⟩:=h;exact⟨a,c,e,aM f d⟩
 rw[if_neg n]at h ⊢;by_cases p:b=69
 ·rw[if_pos p]at h ⊢;obtain⟨a,c,e,f⟩:=h;exact⟨a,c,e,aM f d⟩
 rw[if_neg p]at h ⊢;by_cases q:b=70
 ·rw[if_pos q]at h ⊢;exact bR h d
 rw[if_neg q]at h ⊢;exact h
theorem zJ(w:World):Calls Tryz.prog 40 #[] w fun e l=>e=.returned (.bool true)/\Below w.heap.size w l:=by
 have HS:O (∀w,Calls Tryz.prog 63 #[] w fun e l=>∃A B j,e=.returned (eN A B j)/\iU l A B j gU/\iR l j/\Below w.heap.size w l):=YU;have av:O (∀(p:Int)(a:Option Addr)(n c:Nat)(w:World),Calls Tryz.prog 65 #[.int .i64 p, .slice a n c] w fun e l=>e=.returned (kS p (.slice a n c))/\Below w.heap.size w l):=WP;have ae:O (∀w,Calls Tryz.prog 75 #[] w fun e l=>∃v,e=.returned v/\dA l v pK/\Below w.heap.size w l):=Xf;have bk:O (∀w A B j E u,iU w A B j gU->iR w j->dA w E pK->dM w u [1,3]->Calls Tryz.prog 42 #[eN A B j,E,kS 1 u] w fun e l=>∃ax cx g,e=.returned (.tuple #[.slice ax (List.length g) cx, .bool true, .int .i64 0])/\zD gU pK oI ⟨1,[1,3]⟩ (g.map (·.s))/\(lR l (.slice ax g.length cx) g/\∀x,x∈g->nY l x)/\Below w.heap.size w l):=by
  intro w A B j E u V X h3 h4;refine(NE gU pK ⟨1,[1,3]⟩ A B j E u w V sK X h3 dE AM h4 (by exact(by decide:(2:Nat)<=9223372036854775807))).mono ?_;rintro e l ⟨v,g,ok,c,rfl,⟨c0,M,hM,hR⟩,hS,U⟩;obtain⟨rfl,rfl⟩:=tX hM (sS rfl);have b0:=(WJ).1;rcases hR with⟨h,_⟩|⟨_,h,_⟩|⟨_,_,rfl,⟨rfl,_,hp⟩|⟨_,h,_⟩⟩
  ·exact absurd rfl h
  ·exact absurd b0 h
  ·obtain⟨ax,cx,rfl,_⟩:=id hS.1;exact⟨ax,cx,g,rfl,hp,⟨hS.1,fun x hx=>(hS.2 x hx).1⟩,U⟩
  exact absurd aE2 h
 have bj:O (∀w A B j E u,iU w A B j gU->iR w j->dA w E pK->dM w u [3,1]->Calls Tryz.prog 42 #[eN A B j,E,kS 1 u] w fun e l=>∃v,e=.returned (.tuple #[v, .bool false, .int .i64 0])/\Below w.heap.size w l):=by
  intro w A B j E u V X h3 h4;refine(NE gU pK ⟨1,[3,1]⟩ A B j E u w V sK X h3 dE AM h4 (by exact(by decide:(2:Nat)<=9223372036854775807))).mono ?_;rintro e l ⟨v,g,ok,c,rfl,⟨c0,M,hM,hR⟩,hS,U⟩;obtain⟨rfl,rfl⟩:=tX hM (sS rfl);have b0:=(WJ).2;rcases hR with⟨h,_⟩|⟨_,h,_⟩|⟨_,_,rfl,⟨rfl,h,_⟩|⟨rfl,_,_⟩⟩
  ·exact absurd rfl h
  ·exact absurd b0 h
  ·exact absurd h aBM
  exact⟨v,rfl,U⟩
 have b7:O (∀w A B j E vx g,iU w A B j gU->iR w j->dA w E pK->lR w vx g->(∀x,x∈g->nY w x)->zD gU pK oI ⟨1,[1,3]⟩ (g.map (·.s))->Calls Tryz.prog 39 #[eN A B j,E,vx] w fun e l=>e=.returned (.tuple #[.bool true, .int .i64 0])/\Below w.heap.size w l):=by
  intro w A B j E vx g V X h3 h4 h5 h6;(have bv:g.length<=60:=by have h9:=AW (FQ (sS rfl)) h6.proof h6.once;rw[aP]at h9;exact h9);(have c6:0<(g.map (·.s)).length:=by obtain⟨r,s,a2,_⟩:=h6.last;rw[a2,bA,qZ];exact yR _);have di:(g.map (·.s)).length=g.length:=aP _;refine(XK gU pK g A B j E vx w V sK X h3 dE AM h4 oM h5).mono ?_;rintro e l ⟨b,c,rfl,⟨c0,M,hM,hR⟩,U⟩;obtain⟨rfl,rfl⟩:=tX hM (sS rfl);rcases hR with⟨h,_⟩|⟨_,h,_⟩|⟨_,_,rfl,h⟩
  ·exact absurd rfl h
  ·omega
  rw[h.mpr ⟨h6.proof,c6⟩];exact⟨rfl,U⟩
 go_enter Tryz.func40,Tryz.ntmps40
 go_wp2_with fail;refine Calls.mono (HS.o _) ?_;rintro e c7 ⟨dm,dq,dt,rfl,S,Q,I⟩;have a5:O _:=mK S Q;have ag:O (Below w.heap.size w c7):=I;clear S Q I;go_wp2_with fail;refine Calls.mono (ae.o _) ?_;rintro e a3 ⟨dj,rfl,R,i⟩;have a6:O _:=mK (a5.o.1.u i) (a5.o.2.u a5.o.1.rl i);have ah:O (Below w.heap.size w a3):=ag.o.trans (i.mono ag.o.size);have b8:O _:=R;clear a5 ag i R;go_wp2_with fail;have F:=dD a3 (.cells #[.int .i64 1, .int .i64 3] 3);have bb:O _:=tV a3 1 3;have a7:O _:=mK (a6.o.1.u F) (a6.o.2.u a6.o.1.rl F);have ai:O _:=ah.o.trans (F.mono ah.o.size);have bf:O _:=bR b8.o F;clear F a6 ah b8;generalize a3.alloc (.cells #[.int .i64 1, .int .i64 3] 3)=dx at *;generalize a3.heap.size=cg at *;refine Calls.mono (av.o _ _ _ _ _) ?_;rintro e ca ⟨rfl,D⟩;have bc:O _:=aM bb.o D;have aw:O _:=mK (a7.o.1.u D) (a7.o.2.u a7.o.1.rl D);have aj:O (Below w.heap.size w ca):=ai.o.trans (D.mono ai.o.size);have bg:O _:=bR bf.o D;clear D bb a7 ai bf;go_wp2_with fail;refine Calls.mono (bk.o _ _ _ _ _ _ aw.o.1 aw.o.2 bg.o bc.o) ?_;rintro e b5 ⟨a1,C,g,rfl,bx,bU,J⟩;have a0:O (zD gU pK oI ⟨1,[1,3]⟩ (g.map (·.s))):=bx;have bl:O (lR b5 (.slice a1 g.length C) g/\∀x,x∈g->nY b5 x):=bU;have ak:O (Below w.heap.size w b5):=aj.o.trans (J.mono aj.o.size);have L:∀{W W':World},(lR W (.slice a1 g.length C) g/\∀x,x∈g->nY W x)->Below W.heap.size W W'->(lR W' (.slice a1 g.length C) g/\∀x,x∈g->nY W' x):=fun h U=>⟨h.1.u U,fun x hx=>(h.2 x hx).u U⟩;clear bx bU J aw aj bg bc bk;go_wp2_with fail;refine Calls.mono (HS.o _) ?_;rintro e cb ⟨dn,dr,du,rfl,S,Q,I⟩;have aa:O _:=mK S Q;have al:O (Below w.heap.size w cb):=ak.o.trans (I.mono ak.o.size);have bm:O _:=L bl.o I;clear S Q I;go_wp2_with fail;refine Calls.mono (ae.o _) ?_;rintro e a4 ⟨dk,rfl,R,i⟩;have ab:O _:=mK (aa.o.1.u i) (aa.o.2.u aa.o.1.rl i);have am:O (Below w.heap.size w a4):=al.o.trans (i.mono al.o.size);have b9:O _:=R;have bn:O _:=L bm.o i;clear aa al bm i R;go_wp2_with fail;have F:=dD a4 (.cells #[.int .i64 3, .int .i64 1] 3);have bd:O _:=tV a4 3 1;have ac:O _:=mK (ab.o.1.u F) (ab.o.2.u ab.o.1.rl F);have an:O _:=am.o.trans (F.mono am.o.size);have bh:O _:=bR b9.o F;have bo:O _:=L bn.o F;clear F ab am b9 bn;generalize a4.alloc (.cells #[.int .i64 3, .int .i64 1] 3)=dy at *;generalize a4.heap.size=ch at *;refine Calls.mono (av.o _ _ _ _ _) ?_;rintro e cc ⟨rfl,D⟩;have be:O _:=aM bd.o D;have ay:O _:=mK (ac.o.1.u D) (ac.o.2.u ac.o.1.rl D);have ap:O (Below w.heap.size w cc):=an.o.trans (D.mono an.o.size);have bi:O _:=bR bh.o D;have bp:O _:=L bo.o D;clear D bd ac an bh bo;go_wp2_with fail;refine Calls.mono (bj.o _ _ _ _ _ _ ay.o.1 ay.o.2 bi.o be.o) ?_;rintro e cd ⟨dw,rfl,J⟩;have bq:O _:=L bp.o J;have aq:O (Below w.heap.size w cd):=ap.o.trans (J.mono ap.o.size);clear J ay ap bi be bj bp bl ak;go_wp2_with fail;refine Calls.mono (HS.o _) ?_;rintro e ce ⟨dp,ds,dv,rfl,S,Q,I⟩;have ad:O _:=mK S Q;have ar:O (Below w.heap.size w ce):=aq.o.trans (I.mono aq.o.size);have br:O _:=L bq.o I;clear S Q I;go_wp2_with fail;refine Calls.mono (ae.o _) ?_;rintro e cf ⟨dl,rfl,R,i⟩;have az:O _:=mK (ad.o.1.u i) (ad.o.2.u ad.o.1.rl i);have au:O (Below w.heap.size w cf):=ar.o.trans (i.mono ar.o.size);have ba:O _:=R;have af:O _:=L br.o i;clear ad ar br i R;go_wp2_with fail;refine Calls.mono (b7.o _ _ _ _ _ _ g az.o.1 az.o.2 ba.o af.o.1 af.o.2 a0.o) ?_;rintro e Z ⟨rfl,J⟩;have aI:O (lR Z (.slice a1 g.length C) g/\∀x,x∈g->nY Z x):=L af.o J;have b6:O (Below w.heap.size w Z):=au.o.trans (J.mono au.o.size);clear J az au ba af bq aq b7 HS ae;clear L;obtain⟨r,s,a2,bN⟩:=a0.o.last;obtain⟨k,hk⟩:∃k,k=r.length:=⟨_,rfl⟩;(have b2:g.length=k+1:=by have h:=congrArg List.length a2;rw[aP,bA,qZ,<-hk]at h;exact h);(have b1:(tW g k).s.d=⟨1,[1,3]⟩:=by(have h:(g.map (·.s))[k]?=some s:=by rw[a2,hk,jP (aE _),wS];rfl);rw[cY,wN g k oM]at h;injection h with h;rw[show(tW g k).s=s from h,bN]);have bw:=aI.o.2 _ (uY g k oM);obtain⟨ao,cp,hv,c4,Y⟩:=aI.o.1;injection hv with e1 _ e3;subst e1 e3;rcases Y with Y|⟨m,q,rfl,Y⟩
 ·rw[Y]at b2;cases b2
 have b3:=Y k oM;have K:=bw.1.1;rw[b1]at K;obtain⟨N,P,bW,c3⟩:=id K;have b4:(tW g k).f=.slice N 2 P:=bW;rw[b4]at K;have bY:O (dM Z (.slice N 2 P) [1,3]):=K;have bs:O (Z.cell? ⟨m,q+k*4,none⟩=some (.int .i64 1)/\Z.cell? ⟨m,q+k*4+1,none⟩=some (.slice N 2 P)):=⟨by rw[b3.1,b1],by rw[b3.2.1,b4]⟩;(have bv:g.length<=60:=by have h9:=AW (FQ (sS rfl)) a0.o.proof a0.o.once;rw[aP]at h9;exact h9);(have HK:O ((0:Int)<=(k:Int)/\((k:Int)<(g.length:Int))/\True/\IntKind.i64.wrap ((g.length:Int)-1)=(k:Int)/\decide ((0:Int)<(g.length:Int))=true):=by have he:(g.length:Int)-1=(k:Int):=oM;refine⟨oM,oM,trivial,?_,aQ oM⟩;rw[he];simp[IntKind.wrap,IntKind.bits,IntKind.signed];omega);clear a2 bN hk b2 b1 bw c4 Y b3 K bW b4 c3 aI a0 bv;generalize g.length=z at *;go_upto_region 4 with fail;refine nF (aQY (.slice (some ⟨m,q,none⟩) z C) (.slice N 2 P) z k m q) kR kR (aOD _ _ _ _ _ _) ?hop ?hend
 case hop=>
  refine oC (fun a y h=>by have e3:a.eval (.tmp 3)=(.int .i64 0:Value):=h.old 3;exact jC (.int .i64 0)) ?_;refine oC (fun a y h=>by have ci:a.eval (.tmp 34)=(.int .i64 0:Value):=h.of 34;exact jC (.bool true)) ?_;refine oC (fun a y h=>by have cj:a.eval (.tmp 35)=(.bool true:Value):=h.of 35;exact jC (.bool true)) ?_;refine oC (fun a y h=>by have e6:a.eval (.tmp 6)=(.int .i64 0:Value):=h.old 6;refine fC (v:=.int .i64 0) (w':=y) (wG (h.of 36)) ?_ tR (aH _ _);have ec:=qM a;generalize a.eval=ev at *;clear h;go_simp) ?_;refine oC (fun a y h=>by have cl:a.eval (.tmp 37)=(.int .i64 0:Value):=h.of 37;refine fC (v:=.bool true) (w':=y) (wG (h.of 36)) ?_ tR (aH _ _);have ec:=qM a;generalize a.eval=ev at *;clear h;go_simp) ?_;refine oC (fun a y h=>by have ck:a.eval (.tmp 36)=(.bool true:Value):=h.of 36;have cm:a.eval (.tmp 38)=(.bool true:Value):=h.of 38;exact jC (.bool true)) ?_;refine oC (fun a y h=>by have cn:a.eval (.tmp 39)=(.bool true:Value):=h.of 39;exact jC (.bool true)) ?_;refine oC (fun a y h=>by have e8:a.eval (.tmp 8)=(.int .i64 0:Value):=h.old 8;refine fC (v:=.int .i64 0) (w':=y) (wG (h.of 40)) ?_ tR (aH _ _);have ec:=qM a;generalize a.eval=ev at *;clear h;go_simp) ?_;refine oC (fun a y h=>by have cq:a.eval (.tmp 41)=(.int .i64 0:Value):=h.of 41;refine fC (v:=.bool true) (w':=y) (wG (h.of 40)) ?_ tR (aH _ _);have ec:=qM a;generalize a.eval=ev at *;clear h;go_simp) ?_;refine oC (fun a y h=>by have co:a.eval (.tmp 40)=(.bool true:Value):=h.of 40;have cr:a.eval (.tmp 42)=(.bool true:Value):=h.of 42;exact jC (.bool true)) ?_;refine oC (fun a y h=>by have cs:a.eval (.tmp 43)=(.bool true:Value):=h.of 43;exact jC (.bool true)) ?_;refine oC (fun a y h=>by have e2:a.eval (.tmp 2)=(.bool true:Value):=h.old 2;refine fC (v:=.bool true) (w':=y) (wG (h.of 44)) ?_ tR (aH _ _);have ec:=qM a;generalize a.eval=ev at *;clear h;go_simp) ?_;refine oC (fun a y h=>by have ct:a.eval (.tmp 44)=(.bool true:Value):=h.of 44;have cu:a.eval (.tmp 45)=(.bool true:Value):=h.of 45;exact jC (.bool true)) ?_;refine oC (fun a y h=>by have cv:a.eval (.tmp 46)=(.bool true:Value):=h.of 46;exact jC (.bool true)) ?_;refine oC (fun a y h=>by have e5:a.eval (.tmp 5)=(.bool false:Value):=h.old 5;refine fC (v:=.bool false) (w':=y) (wG (h.of 47)) ?_ tR (aH _ _);have ec:=qM a;generalize a.eval=ev at *;clear h;go_simp) ?_;refine oC (fun a y h=>by have cy:a.eval (.tmp 48)=(.bool false:Value):=h.of 48;refine fC (v:=.bool true) (w':=y) (wG (h.of 47)) ?_ tR (aH _ _);have ec:=qM a;generalize a.eval=ev at *;clear h;go_simp) ?_;refine oC (fun a y h=>by have cw:a.eval (.tmp 47)=(.bool true:Value):=h.of 47;have cz:a.eval (.tmp 49)=(.bool true:Value):=h.of 49;exact jC (.bool true)) ?_;refine oC (fun a y h=>by have cE:a.eval (.tmp 50)=(.bool true:Value):=h.of 50;exact jC (.bool true)) ?_;refine oC (fun a y h=>by have e7:a.eval (.tmp 7)=(.bool true:Value):=h.old 7;refine fC (v:=.bool true) (w':=y) (wG (h.of 51)) ?_ tR (aH _ _);have ec:=qM a;generalize a.eval=ev at *;clear h;go_simp) ?_;refine oC (fun a y h=>by have cG:a.eval (.tmp 51)=(.bool true:Value):=h.of 51;have cK:a.eval (.tmp 52)=(.bool true:Value):=h.of 52;exact jC (.bool true)) ?_;refine oC (fun a y h=>by have cN:a.eval (.tmp 53)=(.bool true:Value):=h.of 53;exact jC (.bool true)) ?_;refine oC (fun a y h=>by have e1:a.eval (.tmp 1)=(.slice (some ⟨m,q,none⟩) z C:Value):=h.old 1;refine fC (v:=.slice (some ⟨m,q,none⟩) z C) (w':=y) (wG (h.of 54)) ?_ tR (aH _ _);have ec:=qM a;generalize a.eval=ev at *;clear h;go_simp) ?_;refine oC (fun a y h=>by have cT:a.eval (.tmp 55)=(.slice (some ⟨m,q,none⟩) z C:Value):=h.of 55;refine fC (v:=.int .i64 (z:Int)) (w':=y) (wG (h.of 54)) ?_ tR (aH _ _);have ec:=qM a;generalize a.eval=ev at *;clear h;go_simp) ?_;refine oC (fun a y h=>by have cU:a.eval (.tmp 56)=(.int .i64 (z:Int):Value):=h.of 56;(have dh:0<z:=by have V:=HK.o.1;have X:=HK.o.2.1;omega);refine fC (v:=.bool true) (w':=y) (wG (h.of 54)) ?_ tR (aH _ _);have ec:=qM a;generalize a.eval=ev at *;clear h;go_simp) ?_;refine oC (fun a y h=>by have cS:a.eval (.tmp 54)=(.bool true:Value):=h.of 54;have cV:a.eval (.tmp 57)=(.bool true:Value):=h.of 57;exact jC (.bool true)) ?_;refine oC (fun a y h=>by have cX:a.eval (.tmp 58)=(.bool true:Value):=h.of 58;exact jC (.bool true)) ?_;refine oC (fun a y h=>by have e1:a.eval (.tmp 1)=(.slice (some ⟨m,q,none⟩) z C:Value):=h.old 1;refine fC (v:=.slice (some ⟨m,q,none⟩) z C) (w':=y) (wG (h.of 59)) ?_ tR (aH _ _);have ec:=qM a;generalize a.eval=ev at *;clear h;go_simp) ?_;refine oC (fun a y h=>by have e1:a.eval (.tmp 1)=(.slice (some ⟨m,q,none⟩) z C:Value):=h.old 1;refine fC (v:=.slice (some ⟨m,q,none⟩) z C) (w':=y) (wG (h.of 59)) ?_ tR (aH _ _);have ec:=qM a;generalize a.eval=ev at *;clear h;go_simp) ?_;refine oC (fun a y h=>by have d2:a.eval (.tmp 61)=(.slice (some ⟨m,q,none⟩) z C:Value):=h.of 61;refine fC (v:=.int .i64 (z:Int)) (w':=y) (wG (h.of 59)) ?_ tR (aH _ _);have ec:=qM a;generalize a.eval=ev at *;clear h;go_simp) ?_;refine oC (fun a y h=>by have d3:a.eval (.tmp 62)=(.int .i64 (z:Int):Value):=h.of 62;have dg:=HK.o.2.2.2.1;refine fC (v:=.int .i64 (k:Int)) (w':=y) (wG (h.of 59)) ?_ tR (aH _ _);have ec:=qM a;generalize a.eval=ev at *;clear h;go_simp) ?_;refine oC (fun a y h=>by have d1:a.eval (.tmp 60)=(.slice (some ⟨m,q,none⟩) z C:Value):=h.of 60;have d4:a.eval (.tmp 63)=(.int .i64 (k:Int):Value):=h.of 63;have dc:=HK.o.1;have dd:=HK.o.2.1;have de:=HK.o.2.2.1;refine fC (v:=.pointer (some ⟨m,q+k*4,none⟩)) (w':=y) (wG (h.of 59)) ?_ tR (aH _ _);have ec:=qM a;generalize a.eval=ev at *;clear h;go_simp) ?_;refine oC (fun a y h=>by have d5:a.eval (.tmp 64)=(.pointer (some ⟨m,q+k*4,none⟩):Value):=h.of 64;refine fC (v:=.pointer (some ⟨m,q+k*4,none⟩)) (w':=y) (wG (h.of 59)) ?_ tR (aH _ _);have ec:=qM a;generalize a.eval=ev at *;clear h;go_simp) ?_;refine oC (fun a y h=>by have d6:a.eval (.tmp 65)=(.pointer (some ⟨m,q+k*4,none⟩):Value):=h.of 65;have x0:=aB h.u bs.o.1;have x1:=aB h.u bs.o.2;refine fC (v:=.agg #[.int .i64 1, .slice N 2 P]) (w':=y) (wG (h.of 59)) ?_ tR (aH _ _);have ec:=qM a;generalize a.eval=ev at *;clear h;go_simp) ?_;refine oC (fun a y h=>by have d7:a.eval (.tmp 66)=(.agg #[.int .i64 1, .slice N 2 P]:Value):=h.of 66;refine fC (v:=.slice (some ⟨y.heap.size,0,none⟩) 1 1) (w':=y.alloc (.cells #[.int .i64 1, .slice N 2 P] 55)) (wG (h.of 59)) ?_ (fun t ht=>by cases ht;exact TN y ⟨1,[1,3]⟩ _ (aM bY.o h.u)) (dD y _);have ec:=qM a;generalize a.eval=ev at *;clear h;go_simp) ?_;refine oC (fun a y h=>by refine fC (v:=.slice (some ⟨y.heap.size,0,none⟩) 2 2) (w':=y.alloc (.cells #[.int .i64 1, .int .i64 3] 3)) (wG (h.of 59)) ?_ (fun t ht=>by cases ht;exact⟨_,_,rfl,tV y 1 3⟩) (dD y _);have ec:=qM a;generalize a.eval=ev at *;clear h;go_simp) ?_;refine oC (fun a y h=>?_) ?_
  ·obtain⟨G,H,d8,K⟩:∃G H,a.eval (.tmp 68)=.slice G 2 H/\dM y (.slice G 2 H) [1,3]:=h.of 68;refine iC (f:=65) (args:=#[.int .i64 1, .slice G 2 H]) (wG (h.of 59)) ?_ ?_
   ·have ec:=qM a;have ef:=IM a;generalize a.eval=ev at *;clear h;go_simp
   refine Calls.mono (av.o _ _ _ _ y) ?_;rintro _ y2 ⟨rfl,i⟩;exact⟨_,rfl,fun t ht=>by cases ht;exact⟨_,_,rfl,aM K i⟩,i⟩
  refine oC (fun a y h=>by obtain⟨G,H,d9,K⟩:∃G H,a.eval (.tmp 69)=kS 1 (.slice G 2 H)/\dM y (.slice G 2 H) [1,3]:=h.of 69;refine fC (v:=.slice (some ⟨y.heap.size,0,none⟩) 1 1) (w':=y.alloc (.cells #[.int .i64 1, .slice G 2 H] 55)) (wG (h.of 59)) ?_ (fun t ht=>by cases ht;exact TN y ⟨1,[1,3]⟩ _ K) (dD y _);have ec:=qM a;generalize a.eval=ev at *;clear h;go_simp) ?_;refine oC (fun a y h=>?_) ?_
  ·have aS:dA y (a.eval (.tmp 67)) [⟨1,[1,3]⟩]:=h.of 67;obtain⟨G,H,bZ,_⟩:=id aS;rw[bZ]at aS;have aT:dA y (a.eval (.tmp 70)) [⟨1,[1,3]⟩]:=h.of 70;obtain⟨a9,c9,c2,_⟩:=id aT;rw[c2]at aT;refine iC (f:=21) (args:=#[.slice G ([⟨1,[1,3]⟩]:List aN).length H, .slice a9 ([⟨1,[1,3]⟩]:List aN).length c9]) (wG (h.of 59)) ?_ ?_
   ·have ec:=qM a;have ef:=IM a;generalize a.eval=ev at *;clear h;go_simp
   refine Calls.mono (xY [⟨1,[1,3]⟩] _ _ y aS aT dE (fun f hf=>by rw[cQ.mp hf];exact(by decide:(2:Nat)<=9223372036854775807))) ?_;rintro _ y2 ⟨rfl,i⟩;exact⟨_,rfl,fun t ht=>by cases ht;exact rfl,i⟩
  refine oC (fun a y h=>by have d0:a.eval (.tmp 59)=(.bool true:Value):=h.of 59;have da:a.eval (.tmp 71)=(.bool true:Value):=h.of 71;exact jC (.bool true)) ?_;refine oC (fun a y h=>by have db:a.eval (.tmp 72)=(.bool true:Value):=h.of 72;exact jC (.bool true)) ?_;exact JL.nil
 case hend=>rintro⟨tm,df⟩ wE bu c5 bz bT bt;have h0:tm.getD 0 undef=(.bool true:Value):=zG (T:=aQY (.slice (some ⟨m,q,none⟩) z C) (.slice N 2 P) z k m q) (w:=wE) (a:=⟨tm,df⟩) (t:=0) bt kR;obtain rfl:df=[]:=c5;have bX:O (Below w.heap.size w wE):=b6.o.trans (bu.mono b6.o.size);obtain⟨fQ,hQ,aV⟩:=pQ [34,35,36,37,38,39,40,41,42,43,44,45,46,47,48,49,50,51,52,53,54,55,56,57,58,59,60,61,62,63,64,65,66,67,68,69,70,71,72,0] tm _ bz bT;clear bz bT bt bu;simp only[List.foldl_cons,List.foldl_nil,(hQ 0).trans h0]at aV;clear h0 hQ;simp only[List.setIfInBounds_toArray,List.set_cons_zero,List.set_cons_succ]at aV;subst aV;go_wp2_with fail;go_ret;exact⟨rfl,bX.o⟩
def oG:List Int->List Int->Bool
 |a::x,b::y=>if a=b then oG x y else decide (a<b)
 |_,_=>false
theorem UW:∀{x y:List Int},x.length=y.length->oG x y=decide (eS x y<0)
 |[],[],_=>rfl
 |[],_::_,h=>by cases h
 |_::_,[],h=>by cases h
 |a::x,b::y,h=>by
  (have g:x.length=y.length:=by simpa using h);unfold oG;by_cases d:a=b
  ·subst d;rw[if_pos rfl,UW g];(have e:eS (a::x) (a::y)=eS x y:=by show(if gA a a=0 then eS x y else gA a a)=_;rw[if_pos (mU.mpr rfl)]);rw[e]
  rw[if_neg d];(have e:eS (a::x) (b::y)=gA a b:=by show(if gA a b=0 then eS x y else gA a b)=_;rw[if_neg (fun i=>d (mU.mp i))]);rw[e];unfold gA;by_cases f:a<b
  ·simp[f]
  have j:b<a:=oM;simp[f,j]
theorem RY{x y:List Int}(f:x.length=y.length){k:Nat}(b:k<x.length):oG (x.drop k) (y.drop k)=if bM x k=bM y k then oG (x.drop (k+1)) (y.drop (k+1))else decide (bM x k<bM y k):=by(have d:x.drop k=bM x k::x.drop (k+1):=by rw[dB b];unfold bM;rw[aC,aD b];rfl);(have e:y.drop k=bM y k::y.drop (k+1):=by rw[dB oM];unfold bM;rw[aC,aD oM];rfl);rw[d,e];rfl
theorem aSX(K:List Bool)(b:List dL)(k:Nat)(h:k<b.length):(b.drop k).all (cC K)=(cC K (cA b k)&&(b.drop (k+1)).all (cC K)):=by(have e:b.drop k=cA b k::b.drop (k+1):=by rw[dB h];unfold cA;rw[aC,aD h];rfl);rw[e,List.all_cons]
theorem aIK{w:World}{ao:Option Addr}{l:List Bool}(h:yO w ao l){k:Nat}(e:k<l.length):∃b d,ao=some ⟨b,d,none⟩/\w.cell? ⟨b,d+k,none⟩=some (.bool (rU l k)):=by
 rcases h with h|⟨b,d,f,g⟩
 ·rw[h]at e;exact absurd e sI
 exact⟨b,d,f,g k e⟩
theorem QA(b:List dL)(K:List Bool)(A z:Value)(w:World)(H:fT w A b)(G:vT w z K)(v:gX K.length b)(W:b.length<=1000000):Calls Tryz.prog 167 #[A,z] w fun e M=>e=.returned (.bool (b.all (cC K)))/\Below w.heap.size w M:=by
 obtain⟨N,S,rfl,_,r⟩:=H;obtain⟨R,T,rfl,_,s⟩:=G;have B:O _:=r;have C:O _:=s;have D:O _:=v;clear r s v
 go_enter Tryz.func167,Tryz.ntmps167
 go_wp2_with fail;go_loopw [5] (fun iv wr=>∃k:Nat,k<=b.length/\iv=.int .i64 k/\O (b.all (cC K)=(b.drop k).all (cC K))/\O (Below w.heap.size w wr)) (fun iv _=>b.length-(intOf iv).toNat);case atStart=>exact⟨0,oM,rfl,rfl,aH _ _⟩
 case round=>
  obtain⟨k,V,rfl,g,f⟩:=hrel;by_cases d:k<b.length
  ·obtain⟨P,X,rfl,y⟩:=rI B.o k d;have Z:=aB f.o (y k d).1;have p:O _:=aSX K b k d;have E:O (qK K.length (cA b k)):=D.o _ (mW d);clear y;generalize cA b k=t at *;obtain⟨j,L⟩:=t;dsimp only at *;by_cases i:j<0
   ·have F:decide (0<=j)=false:=aJ oM;(have n:O (b.all (cC K)=(b.drop (k+1)).all (cC K)):=by show _=_;rw[g.o,p.o];unfold cC;simp[i]);clear i;go_upto_region 4 with fail;(try go_quiet(fail));go_wp2_with fail;go_roundw;(case rel=>exact⟨k+1,d,gN,n.o,f.o⟩);case measure=>exact mI
   obtain⟨m,rfl⟩:∃m:Nat,j=m:=⟨j.toNat,oM⟩;have I:m<K.length:=by
    rcases E.o with h|h
    ·exact absurd h i
    simpa using h
   obtain⟨Q,Y,rfl,x⟩:=aIK C.o I;have q1:=aB f.o x;have F:decide (0<=(m:Int))=true:=aQ oM;(have q:O (cC K ⟨(m:Int),L⟩=rU K m):=by show _=_;unfold cC rU;rw[aJ (show¬((m:Int)<0) by omega),ZE];rfl);clear x i;generalize rU K m=J at *;cases J
   ·(have l:O (b.all (cC K)=false):=by show _=_;rw[g.o,p.o,q.o];rfl);go_upto_region 4 with fail;(try go_quiet(fail));go_wp2_with fail;go_ret;exact⟨by rw[l.o];rfl,f.o⟩
   (have n:O (b.all (cC K)=(b.drop (k+1)).all (cC K)):=by show _=_;rw[g.o,p.o,q.o,IF]);go_upto_region 4 with fail;(try go_quiet(fail));go_wp2_with fail;go_roundw;(case rel=>exact⟨k+1,d,gN,n.o,f.o⟩);case measure=>exact mI
  have U:decide (k<b.length)=false:=aJ d;(have l:O (b.all (cC K)=true):=by show _=_;rw[g.o,bD oM];rfl);go_wp2_with fail;go_ret;exact⟨by rw[l.o];rfl,f.o⟩
theorem aPR{d:List dL}(h:d.length=2)(x:List Int):bQ d x=[eJ x (cA d 0),eJ x (cA d 1)]:=by
 match d,h with
 |[a,b],_=>rfl
theorem aI1{d:List dL}(h:d.length=3)(x:List Int):bQ d x=[eJ x (cA d 0),eJ x (cA d 1),eJ x (cA d 2)]:=by
 match d,h with
 |[a,b,c],_=>rfl
theorem aPQ(b:List dL)(x:List Int):(bQ b x).length=b.length:=by unfold bQ;rw[aP]
theorem QD(facts:List aN)(l:cI)(x:List Int)(N P M:Value)(w:World)(y:fT w N l.p)(z:dM w P x)(v:dA w M facts)(a0:facts.length<=1000000)(I:∀f,f∈facts->fW f)(hl:l.p.length<=1000)(J:gX x.length l.p)(V:l.kind=1\/l.kind=2):
 Calls Tryz.prog 24 #[nR l N,P,M] w fun e X=>e=.returned (.bool (fF facts l x))/\Below w.heap.size w X:=by
 obtain⟨at_,n,rfl,_⟩:=id y;obtain⟨ax,cx,rfl,_⟩:=id z;obtain⟨R,T,rfl,_⟩:=id v;obtain⟨q,B,i,b⟩:=l;dsimp only at *;have m:=(aH w.heap.size w).alloc (aE _) (.cells #[.int .i64 q, .int .i64 B, .int .i64 i, .slice at_ b.length n] 49);have k:O _:=aR w (.cells #[.int .i64 q, .int .i64 B, .int .i64 i, .slice at_ b.length n] 49);have r:O _:=m;have D:O _:=xO b x _ _ _ (dS y m) (aM z m) oM J;have E:O (dA w (.slice R facts.length T) facts):=v;have F:O _:=I;have U:=aPQ b x;clear m y z v I J
 go_enter Tryz.func24,Tryz.ntmps24
 go_upto_region 1 with fail;generalize w.alloc (.cells #[.int .i64 q, .int .i64 B, .int .i64 i, .slice at_ b.length n] 49)=Y at *;(have S:Y.cell? ⟨w.heap.size,3,none⟩=some (.slice at_ b.length n):=cH k.o);go_wp2_with fail;refine Calls.mono D.o ?_;rintro _ j ⟨W,rfl,L,A⟩;have K:=L.ints;have Q:O (dM j W (bQ b x)):=K;obtain⟨aa,ca,rfl,_⟩:=K;have d:O (Below w.heap.size w j):=r.o.trans (A.mono r.o.size);have C:O _:=(A.block _ (bP k.o)).trans k.o;have G:O _:=AP facts ⟨i,bQ b x⟩ _ _ j (bR E.o d.o) Q.o oM F.o (by unfold fW;show(bQ b x).length<=_;omega);clear S A r k D L E F U;(have c0:j.cell? ⟨w.heap.size,0,none⟩=some (.int .i64 q):=cH C.o);(have H:j.cell? ⟨w.heap.size,2,none⟩=some (.int .i64 i):=cH C.o);rcases V with rfl|rfl
 ·go_wp2_with fail;refine Calls.mono G.o ?_;rintro _ Z ⟨rfl,g⟩;have s:O _:=d.o.trans (g.mono d.o.size);clear g c0 H;go_wp2_with fail;go_ret;exact⟨rfl,s.o⟩
 go_wp2_with fail;refine Calls.mono G.o ?_;rintro _ Z ⟨rfl,g⟩;have s:O _:=d.o.trans (g.mono d.o.size);clear g c0 H;go_wp2_with fail;go_ret;exact⟨rfl,s.o⟩
theorem Pc(facts:List aN)(l:cI)(x:List Int)(P Q N:Value)(w:World)(C:fT w P l.p)(D:dM w Q x)(H:dA w N facts)(V:l.p.length<=1000)(I:gX x.length l.p)(L:l.kind=3)(s:l.p.length=2)(hop:l.op=1\/l.op=2\/l.op=3\/l.op=4):
 Calls Tryz.prog 24 #[nR l P,Q,N] w fun e Y=>e=.returned (.bool (fF facts l x))/\Below w.heap.size w Y:=by
 obtain⟨at_,z,rfl,_⟩:=id C;obtain⟨ax,cx,rfl,_⟩:=id D;obtain⟨af,cf,rfl,_⟩:=id H;obtain⟨F,q,j,d⟩:=l;dsimp only at *;have y:=(aH w.heap.size w).alloc (aE _) (.cells #[.int .i64 F, .int .i64 q, .int .i64 j, .slice at_ d.length z] 49);have v:O _:=aR w (.cells #[.int .i64 F, .int .i64 q, .int .i64 j, .slice at_ d.length z] 49);have A:O _:=y;have B:O _:=xO d x _ _ _ (dS C y) (aM D y) oM I;rw[aPR s x]at B;(have k:O (fF facts ⟨F,q,j,d⟩ x=sY q (eJ x (cA d 0)) (eJ x (cA d 1))):=by show _=_;unfold fF;dsimp only;rw[if_neg oM,if_neg oM,if_pos L]);generalize eJ x (cA d 0)=a at *;generalize eJ x (cA d 1)=c at *;subst L;clear y C D H I;clear s V
 go_enter Tryz.func24,Tryz.ntmps24
 go_upto_region 1 with fail;generalize w.alloc (.cells #[.int .i64 3, .int .i64 q, .int .i64 j, .slice at_ d.length z] 49)=Z at *;(have T:Z.cell? ⟨w.heap.size,3,none⟩=some (.slice at_ d.length z):=cH v.o);go_wp2_with fail;refine Calls.mono B.o ?_;rintro _ r ⟨X,rfl,M,E⟩;have K:=M.ints;have R:O (dM r X [a,c]):=K;obtain⟨S,ca,rfl,J⟩:=K;have f:O (Below w.heap.size w r):=A.o.trans (E.mono A.o.size);have G:O _:=(E.block _ (bP v.o)).trans v.o;clear T E A v B M;(have c0:r.cell? ⟨w.heap.size,0,none⟩=some (.int .i64 3):=cH G.o);(have c1:r.cell? ⟨w.heap.size,1,none⟩=some (.int .i64 q):=cH G.o);have W:∃m n,S=some ⟨m,n,none⟩/\r.cell? ⟨m,n,none⟩=some (.int .i64 a)/\r.cell? ⟨m,n+1,none⟩=some (.int .i64 c):=by
  rcases J with h|⟨m,n,U,s⟩
  ·cases h
  exact⟨m,n,U,s 0 (yR _),s 1 (NG (yR _))⟩
 obtain⟨m,n,rfl,r0,r1⟩:=W;clear J R;rcases hop with rfl|rfl|rfl|rfl
 ·by_cases b:a<c
  ·(have g:decide (a<c)=true:=by simpa using b);(have i:O (fF facts ⟨3,1,j,d⟩ x=true):=by show _=_;rw[k.o];unfold sY;simp;first|exact b|omega);clear b;go_upto_region 8 with fail;go_quiet(fail);go_wp2_with fail;go_ret;exact⟨by rw[i.o];rfl,f.o.trans ((eO _ _).mono f.o.size)⟩
  (have g:decide (a<c)=false:=by simpa using b);(have i:O (fF facts ⟨3,1,j,d⟩ x=false):=by show _=_;rw[k.o];unfold sY;simp;first|exact b|omega);clear b;go_upto_region 8 with fail;go_quiet(fail);go_wp2_with fail;go_ret;exact⟨by rw[i.o];rfl,f.o.trans ((eO _ _).mono f.o.size)⟩
 ·by_cases b:a<=c
  ·(have g:decide (a<=c)=true:=by simpa using b);(have i:O (fF facts ⟨3,2,j,d⟩ x=true):=by show _=_;rw[k.o];unfold sY;simp;first|exact b|omega);clear b;go_upto_region 8 with fail;go_quiet(fail);go_wp2_with fail;go_ret;exact⟨by rw[i.o];rfl,f.o.trans ((eO _ _).mono f.o.size)⟩
  (have g:decide (a<=c)=false:=by simpa using b);(have i:O (fF facts ⟨3,2,j,d⟩ x=false):=by show _=_;rw[k.o];unfold sY;simp;first|exact b|omega);clear b;go_upto_region 8 with fail;go_quiet(fail);go_wp2_with fail;go_ret;exact⟨by rw[i.o];rfl,f.o.trans ((eO _ _).mono f.o.size)⟩
 ·by_cases b:a=c
  ·(have g:(a==c)=true:=by simpa using b);(have i:O (fF facts ⟨3,3,j,d⟩ x=true):=by show _=_;rw[k.o];unfold sY;simp;first|exact b|omega);clear b;go_upto_region 8 with fail;go_quiet(fail);go_wp2_with fail;go_ret;exact⟨by rw[i.o];rfl,f.o.trans ((eO _ _).mono f.o.size)⟩
  (have g:(a==c)=false:=by simpa using b);(have i:O (fF facts ⟨3,3,j,d⟩ x=false):=by show _=_;rw[k.o];unfold sY;simp;first|exact b|omega);clear b;go_upto_region 8 with fail;go_quiet(fail);go_wp2_with fail;go_ret;exact⟨by rw[i.o];rfl,f.o.trans ((eO _ _).mono f.o.size)⟩
 by_cases b:a≠c
 ·(have g:(a != c)=true:=by simpa using b);(have i:O (fF facts ⟨3,4,j,d⟩ x=true):=by show _=_;rw[k.o];unfold sY;simp;first|exact b|omega);clear b;go_upto_region 8 with fail;go_quiet(fail);go_wp2_with fail;go_ret;exact⟨by rw[i.o];rfl,f.o.trans ((eO _ _).mono f.o.size)⟩
 (have g:(a != c)=false:=by simpa using b);(have i:O (fF facts ⟨3,4,j,d⟩ x=false):=by show _=_;rw[k.o];unfold sY;simp;first|exact b|omega);clear b;go_upto_region 8 with fail;go_quiet(fail);go_wp2_with fail;go_ret;exact⟨by rw[i.o];rfl,f.o.trans ((eO _ _).mono f.o.size)⟩
theorem Pd(facts:List aN)(l:cI)(x:List Int)(vt vx Z:Value)(w:World)(K:fT w vt l.p)(L:dM w vx x)(S:dA w Z facts)(hl:l.p.length<=1000)(T:gX x.length l.p)(hk:l.kind=4)(R:l.p.length=3)(W:cP (eJ x (cA l.p 0))=true)(X:cP (eJ x (cA l.p 1))=true):
 Calls Tryz.prog 24 #[nR l vt,vx,Z] w fun e i=>e=.returned (.bool (fF facts l x))/\Below w.heap.size w i:=by
 obtain⟨at_,E,rfl,_⟩:=id K;obtain⟨ax,cx,rfl,_⟩:=id L;obtain⟨af,cf,rfl,_⟩:=id S;obtain⟨N,f,v,b⟩:=l;dsimp only at *;have D:=(aH w.heap.size w).alloc (aE _) (.cells #[.int .i64 N, .int .i64 f, .int .i64 v, .slice at_ b.length E] 49);have B:O _:=aR w (.cells #[.int .i64 N, .int .i64 f, .int .i64 v, .slice at_ b.length E] 49);have F:O _:=D;have H:O _:=xO b x _ _ _ (dS K D) (aM L D) oM T;rw[aI1 R x]at H;(have I:O (fF facts ⟨N,f,v,b⟩ x=(cP (nO f (eJ x (cA b 0)) (eJ x (cA b 1)))&&decide (nO f (eJ x (cA b 0)) (eJ x (cA b 1))=eJ x (cA b 2)))):=by show _=_;unfold fF nN;dsimp only;rw[if_neg oM,if_neg oM,if_neg oM]);generalize eJ x (cA b 0)=a at *;generalize eJ x (cA b 1)=c at *;generalize eJ x (cA b 2)=d at *;subst hk;clear D K L S T;have HQ:O (∀z:World,Calls Tryz.prog 67 #[.int .i64 f, .int .i64 a, .int .i64 c] z fun e i=>e=.returned (.int .i64 (nO f a c))/\∃n,i=z.drewN n):=fun z=>(Dy f a c z (kA.mp W) (kA.mp X)).mono fun _ _ h=>⟨h.1,0,h.2⟩;clear W X R hl
 go_enter Tryz.func24,Tryz.ntmps24
 go_upto_region 1 with fail;generalize w.alloc (.cells #[.int .i64 4, .int .i64 f, .int .i64 v, .slice at_ b.length E] 49)=w1 at *;(have c3:w1.cell? ⟨w.heap.size,3,none⟩=some (.slice at_ b.length E):=cH B.o);go_wp2_with fail;refine Calls.mono H.o ?_;rintro _ q ⟨va,rfl,Y,M⟩;have V:=Y.ints;have a0:O (dM q va [a,c,d]):=V;obtain⟨aa,ca,rfl,U⟩:=V;have P:O (Below w.heap.size w q):=F.o.trans (M.mono F.o.size);have Q:O _:=(M.block _ (bP B.o)).trans B.o;clear c3 M F B H Y;(have c0:q.cell? ⟨w.heap.size,0,none⟩=some (.int .i64 4):=cH Q.o);(have c1:q.cell? ⟨w.heap.size,1,none⟩=some (.int .i64 f):=cH Q.o);have hr:∃r s,aa=some ⟨r,s,none⟩/\q.cell? ⟨r,s,none⟩=some (.int .i64 a)/\q.cell? ⟨r,s+1,none⟩=some (.int .i64 c)/\q.cell? ⟨r,s+2,none⟩=some (.int .i64 d):=by
  rcases U with h|⟨r,s,h1,J⟩
  ·cases h
  exact⟨r,s,h1,J 0 (yR _),J 1 (NG (yR _)),J 2 (NG (NG (yR _)))⟩
 obtain⟨r,s,rfl,r0,r1,r2⟩:=hr;clear U a0;have HN:O (∀(n:Int)(z:World),Calls Tryz.prog 23 #[.int .i64 n] z fun e i=>e=.returned (.bool (cP n))/\i=z):=fun n z=>AN n z;go_upto_region 9 with fail
 go_quiet(first
  |(go_at_call 67;exact uO (HQ.o _)))
 generalize nO f a c=m at *;have G:O (∀j,Below w.heap.size w (q.drewN j)):=fun j=>P.o.trans ((eO _ _).mono P.o.size);cases k:cP m
 ·(have A:O (fF facts ⟨4,f,v,b⟩ x=false):=by show _=_;rw[I.o,k];rfl);(have C:O (∀z:World,Calls Tryz.prog 23 #[.int .i64 m] z fun e i=>e=.returned (.bool false)/\i=z):=fun z=>by have :=HN.o m z;rw[k]at this;exact this);clear k;go_wp2_with fail;refine Calls.mono (C.o _) ?_;rintro _ z ⟨rfl,rfl⟩;go_wp2_with fail;go_ret;exact⟨by rw[A.o];rfl,G.o _⟩
 (have C:O (∀z:World,Calls Tryz.prog 23 #[.int .i64 m] z fun e i=>e=.returned (.bool true)/\i=z):=fun z=>by have :=HN.o m z;rw[k]at this;exact this);by_cases y:m=d
 ·(have g:(m==d)=true:=by simpa using y);(have A:O (fF facts ⟨4,f,v,b⟩ x=true):=by show _=_;rw[I.o,k,aQ y];rfl);clear k y;go_wp2_with fail;refine Calls.mono (C.o _) ?_;rintro _ z ⟨rfl,rfl⟩;go_wp2_with fail;go_ret;exact⟨by rw[A.o];rfl,G.o _⟩
 (have g:(m==d)=false:=by simpa using y);(have A:O (fF facts ⟨4,f,v,b⟩ x=false):=by show _=_;rw[I.o,k,aJ y];rfl);clear k y;go_wp2_with fail;refine Calls.mono (C.o _) ?_;rintro _ z ⟨rfl,rfl⟩;go_wp2_with fail;go_ret;exact⟨by rw[A.o];rfl,G.o _⟩
theorem Yk(facts:List aN)(l:cI)(x:List Int)(i j g:Value)(w:World)(n:fT w i l.p)(q:dM w j x)(m:dA w g facts)(v:facts.length<=1000000)(s:∀f,f∈facts->fW f)(r:l.p.length<=1000)(d:Fk x.length facts l)
 (hop:l.kind=3->l.op=1\/l.op=2\/l.op=3\/l.op=4) (y:l.kind=4->cP (eJ x (cA l.p 0))=true) (z:l.kind=4->cP (eJ x (cA l.p 1))=true):
 Calls Tryz.prog 24 #[nR l i,j,g] w fun e A=>e=.returned (.bool (fF facts l x))/\Below w.heap.size w A:=by
 rcases d.k with b|b|b|b
 ·exact QD facts l x i j g w n q m v s r d.t (.inl b)
 ·exact QD facts l x i j g w n q m v s r d.t (.inr b)
 ·exact Pc facts l x i j g w n q m r d.t b (d.k3 b) (hop b)
 exact Pd facts l x i j g w n q m r d.t b (d.k4 b) (y b) (z b)
theorem FA(x y:List Int)(v u:Value)(w:World)(C:dM w v x)(B:dM w u y)(Q:x.length<=1000000):Calls Tryz.prog 25 #[v,u] w fun e E=>e=.returned (.bool (decide (x=y)))/\∃n,E=w.drewN n:=by
 obtain⟨F,J,rfl,m⟩:=C;obtain⟨I,K,rfl,p⟩:=B;have q:O _:=m;have r:O _:=p;clear m p;by_cases f:x.length=y.length
 ·have i:O _:=f;(have z:((x.length:Int) != (y.length:Int))=false:=by rw[f];simp);clear f
  go_enter Tryz.func25,Tryz.ntmps25
  go_wp2_with fail;go_loopw [5] (fun iv wr=>∃k nq:Nat,k<=x.length/\iv=.int .i64 k/\O (x=y↔x.drop k=y.drop k)/\wr=w.drewN nq) (fun iv _=>x.length-(intOf iv).toNat);case atStart=>exact⟨0,0,oM,rfl,Iff.rfl,rfl⟩
  case round=>
   obtain⟨k,nq,P,rfl,j,rfl⟩:=hrel;by_cases g:k<x.length
   ·(have D:k<y.length:=by have :=i.o;omega);obtain⟨G,R,rfl,L⟩:=pF q.o g;obtain⟨H,S,rfl,M⟩:=pF r.o D;have l:O _:=TE i.o g;generalize bM x k=a at *;generalize bM y k=c at *;by_cases b:a=c
    ·(have A:(a != c)=false:=by simpa using b);have s:O (x=y↔x.drop (k+1)=y.drop (k+1)):=j.o.trans (l.o.trans ⟨fun h=>h.2,fun h=>⟨b,h⟩⟩);clear b;go_wp2_with fail;go_quiet(fail);go_wp2_with fail;go_roundw;(case rel=>exact⟨k+1,_,g,gN,s.o,rfl⟩);case measure=>exact mI
    (have A:(a != c)=true:=by simpa using b);have d:O (decide (x=y)=false):=aJ (fun h=>b (l.o.mp (j.o.mp h)).1);clear b;go_wp2_with fail;go_quiet(fail);go_wp2_with fail;go_ret;exact⟨by rw[d.o];rfl,_,CE _ _ _⟩
   have N:decide (k<x.length)=false:=aJ g;have d:O (decide (x=y)=true):=aQ (j.o.mpr (by have :=i.o;rw[bD oM,bD oM]));go_wp2_with fail;go_ret;exact⟨by rw[d.o];rfl,_,rfl⟩
 have d:O (decide (x=y)=false):=aJ (fun h=>f (by rw[h]));(have z:((x.length:Int) != (y.length:Int))=true:=by simp;omega);clear f
 go_enter Tryz.func25,Tryz.ntmps25
 go_wp2_with fail;go_ret;exact⟨by rw[d.o];rfl,0,rfl⟩
theorem aH4{d:List Int}{r:bB}(i:kX d r){l:cI}(f:l∈r.body)(e:l.kind=3):l.op=1\/l.op=2\/l.op=3\/l.op=4:=by
 obtain⟨b,_⟩:=i.lit l f;unfold dX at b;rw[if_neg oM,if_pos e]at b;split at b
 ·rename_i g;have :=kA.mp g;omega
 omega
structure xS (facts:List aN) (m:Nat) (l:cI):Prop where
 i:Fk m facts l
 s:l.p.length<=3
 o:l.kind=3->l.op=1\/l.op=2\/l.op=3\/l.op=4
 n:FO l
theorem RZ{p:bC}(h:sC p){r:bB}(d:kX p.g r){facts:List aN}(e:∀f,f∈facts->iQ p.g f){l:cI}(b:l∈r.body):xS facts r.vars.toNat l:=
 ⟨OQ d e b,LX h d b,aH4 d b,Fz d b⟩
theorem OR{m:Nat}{t:dL}{x:List Int}(ht:qK m t)(d:t.var<0->cP t.n=true)(g:x.length=m)(e:∀n,n∈x->cP n=true):cP (eJ x t)=true:=by
 unfold eJ;split
 ·rename_i h;exact d h
 rename_i f;(have b:t.var.toNat<x.length:=by rcases ht with h|h<;>omega);rw[aC,aD b];exact e _ (dY b)
theorem JN(facts:List aN)(l:cI)(x:List Int)(k q j:Value)(w:World)(A:fT w k l.p)(B:dM w q x)(v:dA w j facts)(z:facts.length<=1000000)(y:∀f,f∈facts->fW f){m:Nat}(g:x.length=m)(b:xS facts m l)(r:∀n,n∈x->cP n=true):
 Calls Tryz.prog 24 #[nR l k,q,j] w fun e C=>e=.returned (.bool (fF facts l x))/\Below w.heap.size w C:=
 Yk facts l x k q j w A B v z y (by have :=b.s;omega) (by rw[g];exact b.i) b.o
  (fun d=>OR (b.i.t _ (mW (by have :=b.i.k4 d;omega))) (b.n _ (mW (by have :=b.i.k4 d;omega))) g r)
  (fun d=>OR (b.i.t _ (mW (by have :=b.i.k4 d;omega))) (b.n _ (mW (by have :=b.i.k4 d;omega))) g r)
theorem xG{l:List cI}{k:Nat}(h:k<l.length):l[k]?=some (cJ l k):=by unfold cJ;rw[aC,aD h];rfl
structure aDZ (m:Nat) (y:bK):Prop where
 wf:jI m y
 nm:∀n,n∈y.y->cP n=true
theorem Ng{body:List cI}{k:Nat}(b:k<body.length)(y:bK):lM (body.drop k) y=match pJ y (cJ body k)with |none=>none|some d=>lM (body.drop (k+1)) d:=by
 (have :body.drop k=cJ body k::body.drop (k+1):=by rw[dB b];unfold cJ;rw[aC,aD b];rfl);rw[this];rfl
theorem Nb{l:List Int}{i:Nat}{v n:Int}(h:n∈l.set i v):n∈l\/n=v:=List.mem_or_eq_of_mem_set h
theorem JU{y:bK}{l:cI}(h:¬(l.kind=4/\(l.p.take 2).all (cC y.w)=true/\¬(l.p.drop 2).all (cC y.w)=true)):pJ y l=some y:=by unfold pJ;rw[if_neg h]
theorem Nd{y:bK}{l:cI}(h:l.kind=4/\(l.p.take 2).all (cC y.w)=true/\¬(l.p.drop 2).all (cC y.w)=true)(b:cP (nN l y.y)=false):pJ y l=none:=by unfold pJ;rw[if_pos h,if_neg (by rw[b];simp)]
theorem Nf{y:bK}{l:cI}(h:l.kind=4/\(l.p.take 2).all (cC y.w)=true/\¬(l.p.drop 2).all (cC y.w)=true)(b:cP (nN l y.y)=true):pJ y l=some ⟨y.y.set (cA l.p 2).var.toNat (nN l y.y),y.w.set (cA l.p 2).var.toNat true⟩:=by unfold pJ;rw[if_pos h,if_pos b]
theorem Mm{l:List dL}(h:l.length=3)(x:List Int):bQ (l.take 2) x=[eJ x (cA l 0),eJ x (cA l 1)]:=by
 match l,h with
 |[a,b,c],_=>rfl
theorem Gp{K:List Bool}{t:dL}{m:Nat}(h:cC K t=false)(ht:qK m t):∃v:Nat,t.var=v/\v<m:=by
 unfold cC at h;rw[Bool.or_eq_false_iff]at h;have d:=IK h.1;refine⟨t.var.toNat,oM,?_⟩;rcases ht with b|b
 ·omega
 exact b
def ZF(w:World)(b:Nat)(g d e f:Value)(r:bB)(many:Bool):Prop:=w.heap[b]?=some (.cells #[.int .i64 r.z,g, .int .i64 r.x,d, .int .i64 r.vars,e,f, .bool many] 100)
structure vD (B:Nat) (w:World) (vn vs:Value) (m:Nat) (y:bK):Prop where
 n:w.ownsRow B 3 1 vn m (y.y.map (Value.int .i64))
 s:w.ownsRow B 4 1 vs m (y.w.map Value.bool)
 ok:aDZ m y
theorem vD.u{B:Nat}{w w':World}{vn vs:Value}{m:Nat}{y:bK}(h:vD B w vn vs m y)(b:Below w.heap.size w w'):vD B w' vn vs m y:=⟨bI h.n b,bI h.s b,h.ok⟩
theorem vD.ints{B:Nat}{w:World}{vn vs:Value}{m:Nat}{y:bK}(h:vD B w vn vs m y):dM w vn y.y:=oU (by rw[h.ok.wf.n];exact h.n)
theorem aNN{W:World}{B:Nat}{v:Value}{l:List Bool}(h:W.ownsRow B 4 1 v l.length (l.map Value.bool)):vT W v l:=by
 rcases id h.2 with⟨b,d⟩|⟨g,f,k,b,_,_,j,_⟩
 ·exact⟨none,0,by rw[b,d],⟨oM,fun _=>rfl⟩, .inl (eB d)⟩
 refine⟨some ⟨g,0,none⟩,f,b,⟨j,fun h=>by cases h⟩, .inr ⟨g,0,rfl,fun i e=>?_⟩⟩;subst b;rw[dV,World.ownsRow.cellAt h i oM,cY,aD e];unfold rU;rw[aC,aD e];rfl
theorem vD.bools{B:Nat}{w:World}{vn vs:Value}{m:Nat}{y:bK}(h:vD B w vn vs m y):vT w vs y.w:=aNN (by rw[h.ok.wf.k];exact h.s)
theorem vD.forms{B:Nat}{w:World}{vn vs:Value}{m:Nat}{y:bK}(h:vD B w vn vs m y)(E:0<m):∃d f i j,vn=.slice (some ⟨d,0,none⟩) m i/\vs=.slice (some ⟨f,0,none⟩) m j/\B<=d/\B<=f/\¬f=d:=by
 rcases id h.n.2 with⟨_,q⟩|⟨g,k,C,z,r,x,_⟩
 ·omega
 rcases id h.s.2 with⟨_,q⟩|⟨p,l,D,A,v,b,_⟩
 ·omega
 refine⟨g,p,k,l,z,A,r,v,fun e=>?_⟩;rw[e,x]at b;injection b with b;injection b with _ b;cases b
theorem vD.put{B:Nat}{w:World}{m NB SB i b:Nat}{y:bK}(h:vD B w (.slice (some ⟨NB,0,none⟩) m i) (.slice (some ⟨SB,0,none⟩) m b) m y)(j:¬SB=NB)(v:Nat)(x:Int)(z:cP x=true):
 vD B ((w.setCell ⟨NB,v,none⟩ (.int .i64 x)).setCell ⟨SB,v,none⟩ (.bool true)) (.slice (some ⟨NB,0,none⟩) m i) (.slice (some ⟨SB,0,none⟩) m b) m ⟨y.y.set v x,y.w.set v true⟩:=by
 have l:=(World.ownsRow.stored h.n v (.int .i64 x)).1;have q:(w.setCell ⟨NB,v,none⟩ (.int .i64 x)).ownsRow B 4 1 (.slice (some ⟨SB,0,none⟩) m b) m (y.w.map Value.bool):=kH h.s (fun g f=>cL (fun e=>j (by have :SB=g:=(by simpa[Value.ownBlock]using f);omega)));have r:=(World.ownsRow.stored q v (.bool true)).1;refine⟨?_,?_,⟨by simpa using h.ok.wf.n,by simpa using h.ok.wf.k⟩,fun n p=>?_⟩
 ·refine kH (w:=w.setCell ⟨NB,v,none⟩ (.int .i64 x)) ?_ (fun g f=>cL (fun e=>j (by have :NB=g:=(by simpa[Value.ownBlock]using f);omega)));rw[yP];exact l
 ·rw[yP];exact r
 rcases Nb p with d|d
 ·exact h.ok.nm n d
 rw[d];exact z
theorem aB6{w:World}{b off d:Nat}{l:List dL}(f:l.length=3)(g:3<=d)(h:∀i,i<l.length->IQ w b (off+i*2) (cA l i)):fT w (.slice (some ⟨b,off,none⟩) 2 d) (l.take 2)/\fT w (.slice (some ⟨b,off+4,none⟩) 1 (d-2)) (l.drop 2):=by
 match l,f with
 |[j,k,m],_=>
  refine⟨⟨_,_,rfl,by show 2<=d;omega, .inr ⟨b,off,rfl,fun i e=>?_⟩⟩,⟨_,_,rfl,by show 1<=d-2;omega, .inr ⟨b,off+4,rfl,fun i e=>?_⟩⟩⟩
  ·match i,e with
   |0,_=>exact h 0 sI
   |1,_=>exact h 1 sI
  match i,e with
  |0,_=>exact h 2 sI
theorem aH0(D:World)(B m A:Nat)(facts:List aN)(r:bB)(bo vb vf vo vn vs:Value)(many:Bool)(P:bK)(w:World)(c6:D.heap.size<=B)(bc:A<B)(ar:B<=w.heap.size)(bn:Below D.heap.size D w)(bb:ZF w A bo vb vf vo r many)(hb:pI D vb r.body)(Y:r.body.length<=4)(hL:∀l,l∈r.body->xS facts m l)(cw:m<=8)(hR:vD B w vn vs m P):
 Calls Tryz.prog 112 #[.pointer (some ⟨A,0,none⟩),vn,vs] w fun e w'=>((kN r.body (r.body.length+1) P=none/\e=.returned (.bool false))\/∃y',kN r.body (r.body.length+1) P=some y'/\e=.returned (.bool true)/\vD B w' vn vs m y')/\Below B w w':=by
 obtain⟨ab,cb,rfl,ba⟩:=hb;have br:O _:=ba;have HL:O _:=hL;have HR:O _:=hR;have aF:O (ZF w A bo (.slice ab r.body.length cb) vf vo r many):=bb;have c4:O _:=bn;obtain⟨an,cn,ci⟩:=bJ hR.n;obtain⟨b9,cs,cj⟩:=bJ hR.s;subst ci cj;clear ba hL hR bb bn;have be:∀{z:World},Below B w z->Below D.heap.size D z:=fun hz=>c4.o.trans (hz.mono c6);have F:O (∀{z:World},Below B w z->Below D.heap.size D z):=be;clear be
 go_enter Tryz.func112,Tryz.ntmps112
 go_wp2_with fail;go_loopw [7] (fun av wr=>∃(a:Nat)(y:bK),a<=r.body.length+1/\av=.int .i64 a/\O (kN r.body (r.body.length+1) P=kN r.body (r.body.length+1-a) y)/\O (vD B wr (.slice an m cn) (.slice b9 m cs) m y)/\O (Below B w wr)) (fun av _=>r.body.length+1-(intOf av).toNat);case atStart=>exact⟨0,P,bG _,rfl,rfl,HR.o,aH _ _⟩
 case round=>
  obtain⟨a,E,ha,rfl,am,Q,d⟩:=hrel;have a5:wr.heap[A]?=_:=(d.o.block A bc).trans aF.o;(have aq:wr.cell? ⟨A,3,none⟩=some (.slice ab r.body.length cb):=cH a5);clear a5;by_cases cr:a<=r.body.length
  ·(have aT:O (kN r.body (r.body.length+1-a) E=match lM r.body E with |none=>none|some w'=>kN r.body (r.body.length+1-(a+1)) w'):=by show _=_;rw[show r.body.length+1-a=(r.body.length+1-(a+1))+1 from by omega];rfl);have c5:decide ((a:Int)<=(r.body.length:Int))=true:=aQ oM;go_wp2_with fail;obtain⟨bp,ck⟩:∃bp,bp=wr:=⟨_,rfl⟩;subst ck;go_loopw [8] (fun iv wr=>∃(k:Nat)(y:bK),k<=r.body.length/\iv=.int .i64 k/\O (lM r.body E=lM (r.body.drop k) y)/\O (vD B wr (.slice an m cn) (.slice b9 m cs) m y)/\O (Below B w wr)) (fun iv _=>r.body.length-(intOf iv).toNat);case atStart=>exact⟨0,E,bG _,rfl,by show _=_;rw[gJ],Q.o,d.o⟩
   case round=>
    clear Q d aq;obtain⟨k,y,hk,rfl,W,Q,d⟩:=hrel;have a5:wr.heap[A]?=_:=(d.o.block A bc).trans aF.o;(have aq:wr.cell? ⟨A,3,none⟩=some (.slice ab r.body.length cb):=cH a5);clear a5;by_cases L:k<r.body.length
    ·obtain⟨b,cy,rfl,q0,q1,q2,vt,q3,hT⟩:=vH br.o k L;have a2:O _:=Ng L y;have bi:=HL.o _ (iN (xG L));have p0:=aB (F.o d.o) q0;have p1:=aB (F.o d.o) q1;have p2:=aB (F.o d.o) q2;have p3:=aB (F.o d.o) q3;obtain⟨at_,f,rfl,cd,bh⟩:=hT;have b8:O _:=bh;clear q0 q1 q2 q3 bh;generalize cJ r.body k=l at *;have V:O _:=bi;clear bi;go_upto_region 8 with fail;have aw:=dD wr (.cells #[.int .i64 l.kind, .int .i64 l.op, .int .i64 l.z, .slice at_ l.p.length f] 49);have a1:O _:=aR wr (.cells #[.int .i64 l.kind, .int .i64 l.op, .int .i64 l.z, .slice at_ l.p.length f] 49);have R:O _:=Q.o.u aw;have c1:O (B<=wr.heap.size):=bH ar d.o.size;have U:O (Below B w (wr.alloc (.cells #[.int .i64 l.kind, .int .i64 l.op, .int .i64 l.z, .slice at_ l.p.length f] 49))):=d.o.trans (aw.mono c1.o);clear p0 p1 p2 p3 aq aw Q d;generalize c7:wr.heap.size=C at *;generalize wr.alloc (.cells #[.int .i64 l.kind, .int .i64 l.op, .int .i64 l.z, .slice at_ l.p.length f] 49)=wa at *;clear c7;(have d0:wa.cell? ⟨C,0,none⟩=some (.int .i64 l.kind):=cH a1.o);(have H:wa.cell? ⟨C,3,none⟩=some (.slice at_ l.p.length f):=cH a1.o);by_cases T:l.kind=4
     ·have S:=V.o.i.k4 T;have bx:O _:=T;have a0:O _:=S;(have g4:(l.kind != 4)=false:=by simpa using T);have cc:∃M N,at_=some ⟨M,N,none⟩/\∀i,i<l.p.length->IQ D M (N+i*2) (cA l.p i):=by
       rcases b8.o with h|h
       ·rw[h]at S;simp at S
       exact h
      obtain⟨M,N,rfl,au⟩:=cc;have ce:3<=f:=oM;obtain⟨bg,bf⟩:=aB6 S ce au;have bm:=au 2 oM;have ao:O (D.cell? ⟨M,N+4,none⟩=some (.int .i64 (cA l.p 2).var)):=bm.1;have b7:O _:=bg;have c2:O _:=bf;have bq:O _:=Mm S y.y;have aI:O (∀i,i<3->qK m (cA l.p i)):=fun i hi=>V.o.i.t _ (mW oM);have bt:O (nN l y.y=nO l.op (eJ y.y (cA l.p 0)) (eJ y.y (cA l.p 1))):=rfl;have aS:O (∀i,i<3->cP (eJ y.y (cA l.p i))=true):=fun i hi=>OR (aI.o i hi) (V.o.n _ (mW oM)) R.o.ok.wf.n R.o.ok.nm;have ak:O _:=QA (l.p.take 2) y.w _ _ wa (dS b7.o (F.o U.o)) R.o.bools (fun t ht=>by rw[R.o.ok.wf.k];exact V.o.i.t t (jG ht)) (by rw[cW];omega);rw[S]at H;obtain⟨b1,ap⟩:∃b1,O ((l.p.take 2).all (cC y.w)=b1):=⟨_,rfl⟩;rw[ap.o]at ak;clear T S bg bf bm au b8 cd;have cv:(2:Int)<=(f:Int):=oM;go_wp2_with fail;refine Calls.mono ak.o ?_;rintro _ w2 ⟨rfl,a6⟩;have b4:O (B<=w2.heap.size):=bH (bH ar U.o.size) a6.size;have a3:O _:=R.o.u a6;have a9:O (Below B w w2):=U.o.trans (a6.mono (bH ar U.o.size));have ad:O _:=(a6.block _ (bP a1.o)).trans a1.o;clear a6 ak R U a1 d0 H;(have H:w2.cell? ⟨C,3,none⟩=some (.slice (some ⟨M,N,none⟩) 3 f):=by rw[cD ad.o];show some (Value.slice _ l.p.length f)=_;rw[a0.o]);cases b1
      ·(have G:O (lM r.body E=lM (r.body.drop (k+1)) y):=by show _=_;rw[W.o,a2.o,JU (fun h=>by rw[ap.o]at h;exact absurd h.2.1 sI)]);go_wp2_with fail;go_roundw;(case rel=>exact⟨k+1,y,L,gN,G.o,a3.o,a9.o⟩);case measure=>exact mI
      have al:O _:=QA (l.p.drop 2) y.w _ _ w2 (dS c2.o (F.o a9.o)) a3.o.bools (fun t ht=>by rw[a3.o.ok.wf.k];exact V.o.i.t t (qA ht)) (by rw[tT,a0.o];decide);obtain⟨b2,ag⟩:∃b2,O ((l.p.drop 2).all (cC y.w)=b2):=⟨_,rfl⟩;rw[ag.o]at al;go_wp2_with fail;refine Calls.mono al.o ?_;rintro _ w3 ⟨rfl,a7⟩;have b5:O (B<=w3.heap.size):=bH b4.o a7.size;have a4:O _:=a3.o.u a7;have ac:O (Below B w w3):=a9.o.trans (a7.mono b4.o);have ae:O _:=(a7.block _ (bP ad.o)).trans ad.o;clear a7 al a3 a9 ad H;(have H:w3.cell? ⟨C,3,none⟩=some (.slice (some ⟨M,N,none⟩) 3 f):=by rw[cD ae.o];show some (Value.slice _ l.p.length f)=_;rw[a0.o]);cases b2
      ·have az:O (l.kind=4/\(l.p.take 2).all (cC y.w)=true/\¬(l.p.drop 2).all (cC y.w)=true):=⟨bx.o,ap.o,by rw[ag.o];simp⟩;(have bz:O (cC y.w (cA l.p 2)=false):=by have :=ag.o;rw[EW a0.o]at this;exact this);have ah:O _:=xO (l.p.take 2) y.y _ _ w3 (dS b7.o (F.o ac.o)) a4.o.ints (by rw[cW];omega) (fun t ht=>by rw[a4.o.ok.wf.n];exact V.o.i.t t (jG ht));rw[bq.o]at ah;have bT:O _:=aS.o 0 dE;have bU:O _:=aS.o 1 dE;go_wp2_with fail;refine Calls.mono ah.o ?_;rintro _ I ⟨va,rfl,bk,Y⟩;have b6:O (B<=I.heap.size):=bH b5.o Y.size;have aV:O _:=a4.o.u Y;have ax:O (Below B w I):=ac.o.trans (Y.mono b5.o);have af:O _:=(Y.block _ (bP ae.o)).trans ae.o;have cf:=bk.ints;obtain⟨aa,ca,rfl,bd⟩:=cf;clear Y ah a4 ac ae H bk;generalize eJ y.y (cA l.p 0)=n0 at *;generalize eJ y.y (cA l.p 1)=n1 at *;have hr:∃X Z,aa=some ⟨X,Z,none⟩/\I.cell? ⟨X,Z,none⟩=some (.int .i64 n0)/\I.cell? ⟨X,Z+1,none⟩=some (.int .i64 n1):=by
        rcases bd with h|⟨X,Z,h1,h2⟩
        ·cases h
        exact⟨X,Z,h1,h2 0 (yR _),h2 1 (NG (yR _))⟩
       obtain⟨X,Z,rfl,r0,r1⟩:=hr;clear bd;(have d1:I.cell? ⟨C,1,none⟩=some (.int .i64 l.op):=cH af.o);have HQ:O (∀z:World,Calls Tryz.prog 67 #[.int .i64 l.op, .int .i64 n0, .int .i64 n1] z fun e w'=>e=.returned (.int .i64 (nO l.op n0 n1))/\∃n,w'=z.drewN n):=fun z=>(Dy l.op n0 n1 z (kA.mp bT.o) (kA.mp bU.o)).mono fun _ _ h=>⟨h.1,0,h.2⟩;go_upto_region 10 with fail;go_quiet(first|(go_at_call 67;exact uO (HQ.o _)));have a8:=eO I nq;have cm:O (B<=(I.drewN nq).heap.size):=bH b6.o a8.size;have b3:O _:=aV.o.u a8;have ai:O (Below B w (I.drewN nq)):=ax.o.trans (a8.mono b6.o);have aj:O _:=(a8.block _ (bP af.o)).trans af.o;clear a8 r0 r1 d1 aV ax af HQ;obtain⟨v,hv,cx⟩:=Gp bz.o (aI.o 2 dE);have bY:O (cP (nN l y.y)=false->pJ y l=none):=fun h=>Nd az.o h;(have bZ:O (cP (nN l y.y)=true->pJ y l=some ⟨y.y.set v (nN l y.y),y.w.set v true⟩):=fun h=>by have :=Nf az.o h;rw[hv,fJ]at this;exact this);rw[hv]at ao;rw[<-bt.o];clear hv;generalize nN l y.y=x at *;generalize I.drewN nq=w5 at *;have bW:O _:=AN x w5;go_wp2_with fail;refine Calls.mono bW.o ?_;rintro _ q ⟨rfl,rfl⟩;cases hn:cP x
       ·(have bw:O (kN r.body (r.body.length+1) P=none):=by show _=_;rw[am.o,aT.o,W.o,a2.o,bY.o hn]);go_wp2_with fail;go_ret;exact⟨.inl ⟨bw.o,rfl⟩,ai.o⟩
       (have G:O (lM r.body E=lM (r.body.drop (k+1)) ⟨y.y.set v x,y.w.set v true⟩):=by show _=_;rw[W.o,a2.o,bZ.o hn]);obtain⟨j,K,cN,cS,e1,e2,c8,c9,bj⟩:=b3.o.forms oM;injection e1 with e1 _ e3;injection e2 with e2 _ e4;subst e1 e2 e3 e4;have J:O (vD B q (.slice (some ⟨j,0,none⟩) m cn) (.slice (some ⟨K,0,none⟩) m cs) m y):=b3.o;have ch:=J.o.ok.wf.n;have cg:=J.o.ok.wf.k;(have cN:q.cell? ⟨j,v,none⟩=some (.int .i64 (y.y.getD v 0)):=by rw[World.ownsRow.cellAt J.o.n v oM,cY,aD oM,aC,aD oM];rfl);(have fN:q.frozen? ⟨j,v,none⟩=false:=World.ownsRow.frozenAt J.o.n v;have bN:O (¬C=j):=fun e=>by have h9:=aj.o;rw[e]at h9;have :=xJ J.o.n rfl h9;cases this);((have cl:O (¬C=K):=fun e=>by have h9:=aj.o;rw[e]at h9;have :=xJ J.o.s rfl h9;cases this);have bX:O _:=J.o.put bj v x hn;(have H:q.cell? ⟨C,3,none⟩=some (.slice (some ⟨M,N,none⟩) 3 f):=by rw[cD aj.o];show some (Value.slice _ l.p.length f)=_;rw[a0.o]);have tv:=aB (F.o ai.o) ao.o;have ay:O (Below B w (q.setCell ⟨j,v,none⟩ (.int .i64 x))):=ai.o.setCell (p:=⟨j,v,none⟩) c8 _;have bs:O (Below B w ((q.setCell ⟨j,v,none⟩ (.int .i64 x)).setCell ⟨K,v,none⟩ (.bool true))):=ay.o.setCell (p:=⟨K,v,none⟩) c9 _;(have bv:O ((q.setCell ⟨j,v,none⟩ (.int .i64 x)).cell? ⟨C,3,none⟩=some (.slice (some ⟨M,N,none⟩) 3 f)):=by show _=_;rw[lQ (a:=⟨C,3,none⟩) (cL bN.o)];exact H);have c3:O _:=aB (F.o ay.o) ao.o;have bu:O ((q.setCell ⟨j,v,none⟩ (.int .i64 x)).cell? ⟨K,v,none⟩=some (.bool (y.w.getD v false))/\(q.setCell ⟨j,v,none⟩ (.int .i64 x)).frozen? ⟨K,v,none⟩=false):=by have bl:(q.setCell ⟨j,v,none⟩ (.int .i64 x)).ownsRow B 4 1 (.slice (some ⟨K,0,none⟩) m cs) m (y.w.map Value.bool):=kH J.o.s (fun g hg=>cL (fun e=>bj (by have :K=g:=(by simpa[Value.ownBlock]using hg);omega)));refine⟨?_,World.ownsRow.frozenAt bl v⟩;rw[World.ownsRow.cellAt bl v oM,cY,aD oM,aC,aD oM];rfl);clear ch cg;generalize y.y.getD v 0=nv at *;generalize y.w.getD v false=kv at *;go_upto_region 14 with fail;generalize q.setCell ⟨j,v,none⟩ (.int .i64 x)=w7 at *;have cp:=bv.o;have cz:=c3.o;obtain⟨co,cq⟩:=bu.o;clear H tv cN fN;go_wp2_with fail;go_roundw;(case rel=>exact⟨k+1,_,L,gN,G.o,bX.o,bs.o⟩);case measure=>exact mI
      (have G:O (lM r.body E=lM (r.body.drop (k+1)) y):=by show _=_;rw[W.o,a2.o,JU (fun h=>h.2.2 ag.o)]);go_wp2_with fail;go_roundw;(case rel=>exact⟨k+1,y,L,gN,G.o,a4.o,ac.o⟩);case measure=>exact mI
     (have g4:(l.kind != 4)=true:=by simpa using T);(have G:O (lM r.body E=lM (r.body.drop (k+1)) y):=by show _=_;rw[W.o,a2.o,JU (fun h=>T h.1)]);clear T;go_wp2_with fail;go_roundw;(case rel=>exact⟨k+1,y,L,gN,G.o,R.o,U.o⟩);case measure=>exact mI
    have cu:decide (k<r.body.length)=false:=aJ L;(have G:O (kN r.body (r.body.length+1) P=kN r.body (r.body.length+1-(a+1)) y):=by show _=_;rw[am.o,aT.o,W.o,bD oM];rfl);go_wp2_with fail;go_roundw;(case rel=>exact⟨a+1,y,oM,gN,G.o,Q.o,d.o⟩);case measure=>exact mI
  have c5:decide ((a:Int)<=(r.body.length:Int))=false:=aJ oM;(have HE:O (kN r.body (r.body.length+1) P=some E):=by show _=_;rw[am.o,show r.body.length+1-a=0 from by omega];rfl);go_wp2_with fail;go_ret;exact⟨.inr ⟨E,HE.o,rfl,Q.o⟩,d.o⟩
def Yd(f b:Nat)(e j i g:Value)(l:cI)(d:Bool):Nat->Value
 |27=>.pointer (some ⟨f,3,none⟩)
 |28=>e
 |29=>j
 |30=>.bool true
 |31=>.bool true
 |32=>nR l e
 |33=>i
 |34=>.pointer (some ⟨b,0,none⟩)
 |35=>.pointer (some ⟨b,0,none⟩)
 |36=>.pointer (some ⟨b,5,none⟩)
 |37=>g
 |38=>.bool d
 |39=>.bool (!d)
 |40=>.bool (!d)
 |_=>.bool false
def Yc(b:Nat)(e d:Value):Nat->Value
 |27=>.pointer (some ⟨b,3,none⟩)
 |28=>e
 |29=>d
 |30=>.bool false
 |31=>.bool false
 |32=>undef
 |33=>undef
 |34=>undef
 |35=>undef
 |36=>undef
 |37=>undef
 |38=>undef
 |39=>undef
 |40=>.bool false
 |_=>.bool false
theorem aME(m B:Nat)(facts:List aN)(r:bB)(av vb vf vo vn vs:Value)(many:Bool)(y:bK)(w:World)(a8:ZF w B av vb vf vo r many)(j:pI w vb r.body)(hF:dA w vf facts)(ag:facts.length<=1000000)(ae:∀f,f∈facts->fW f)(aT:r.body.length<=4)(hL:∀l,l∈r.body->xS facts m l)(hN:dM w vn y.y)(hS:vT w vs y.w)(hY:aDZ m y):
 Calls Tryz.prog 113 #[.pointer (some ⟨B,0,none⟩),vn,vs] w fun e Z=>e=.returned (.bool (tK facts r.body y))/\Below w.heap.size w Z:=by
 obtain⟨ab,cb,rfl,ad⟩:=j;obtain⟨E,G,rfl,_⟩:=id hF;obtain⟨F,H,rfl,_⟩:=id hN;obtain⟨x,A,rfl,_⟩:=id hS;have ai:O _:=ad;have HL:O _:=hL;have HF:O (dA w (.slice E facts.length G) facts/\facts.length<=1000000/\∀f,f∈facts->fW f):=⟨hF,ag,ae⟩;have HN:O (dM w (.slice F y.y.length H) y.y):=hN;have HS:O (vT w (.slice x y.w.length A) y.w):=hS;have HY:O _:=hY;(have aq:w.cell? ⟨B,3,none⟩=some (.slice ab r.body.length cb):=cH a8);(have ar:w.cell? ⟨B,5,none⟩=some (.slice E facts.length G):=cH a8);clear ad hL hF ae hN hS a8 ag hY
 go_enter Tryz.func113,Tryz.ntmps113
 go_wp2_with fail;go_loopw [7] (fun iv wr=>∃k:Nat,k<=r.body.length/\iv=.int .i64 k/\O ((r.body.take k).any (fun l=>l.p.all (cC y.w)&& !fF facts l y.y)=false)/\O (Below w.heap.size w wr)) (fun iv _=>r.body.length-(intOf iv).toNat);case atStart=>exact⟨0,bG _,rfl,rfl,aH _ _⟩
 case round=>
  obtain⟨k,hk,rfl,HK,D⟩:=hrel;have f3:=aB D.o aq;by_cases Q:k<r.body.length
  ·obtain⟨b,b0,rfl,q0,q1,q2,vt,q3,hT⟩:=vH ai.o k Q;have ac:O (cJ r.body k∈r.body):=iN (xG Q);have aa:O _:=xG Q;have p0:=aB D.o q0;have p1:=aB D.o q1;have p2:=aB D.o q2;have p3:=aB D.o q3;have HT:O _:=hT;obtain⟨at_,g,rfl,_⟩:=id hT;have a4:O _:=HL.o _ ac.o;clear q0 q1 q2 q3 hT;generalize cJ r.body k=l at *;go_upto_region 5 with fail;have ah:=dD wr (.cells #[.int .i64 l.kind, .int .i64 l.op, .int .i64 l.z, .slice at_ l.p.length g] 49);have a1:O _:=aR wr (.cells #[.int .i64 l.kind, .int .i64 l.op, .int .i64 l.z, .slice at_ l.p.length g] 49);have C:O (Below w.heap.size w (wr.alloc (.cells #[.int .i64 l.kind, .int .i64 l.op, .int .i64 l.z, .slice at_ l.p.length g] 49))):=D.o.trans (ah.mono D.o.size);clear p0 p1 p2 p3 f3 ah D;generalize au:wr.heap.size=q at *;generalize wr.alloc (.cells #[.int .i64 l.kind, .int .i64 l.op, .int .i64 l.z, .slice at_ l.p.length g] 49)=I at *;clear au;(have d0:I.cell? ⟨q,0,none⟩=some (.int .i64 l.kind):=cH a1.o);(have d1:I.cell? ⟨q,1,none⟩=some (.int .i64 l.op):=cH a1.o);(have d2:I.cell? ⟨q,2,none⟩=some (.int .i64 l.z):=cH a1.o);(have d3:I.cell? ⟨q,3,none⟩=some (.slice at_ l.p.length g):=cH a1.o);have f5:=aB C.o ar;(have a2:O (∀d,Below I.heap.size I d->Calls Tryz.prog 167 #[.slice at_ l.p.length g, .slice x y.w.length A] d fun e Z=>e=.returned (.bool (l.p.all (cC y.w)))/\Below d.heap.size d Z):=fun d j=>by have N:Below w.heap.size w d:=C.o.trans (j.mono C.o.size);exact QA l.p y.w _ _ d (dS HT.o N) (MS HS.o N) (by rw[HY.o.wf.k];exact a4.o.i.t) (by have :=a4.o.s;omega));(have a7:O (∀d,Below I.heap.size I d->Calls Tryz.prog 24 #[nR l (.slice at_ l.p.length g), .slice F y.y.length H, .slice E facts.length G] d fun e Z=>e=.returned (.bool (fF facts l y.y))/\Below d.heap.size d Z):=fun d j=>by have N:Below w.heap.size w d:=C.o.trans (j.mono C.o.size);exact JN facts l y.y _ _ _ d (dS HT.o N) (aM HN.o N) (bR HF.o.1 N) HF.o.2.1 HF.o.2.2 HY.o.wf.n a4.o HY.o.nm);obtain⟨j,a5⟩:∃j,O (fF facts l y.y=j):=⟨_,rfl⟩;rw[a5.o]at a7;cases P:l.p.all (cC y.w)
   ·have a0:O _:=P;rw[P]at a2;clear P a7;refine nF (fun K M _=>M=Yc q (.slice at_ l.p.length g) (.slice x y.w.length A) K) kR kR (fun _ _ _ _ _ h=>h) ?hop ?hend
    case hop=>
     refine oC (fun a d h=>by have e8:a.eval (.tmp 8)=(.pointer (some ⟨q,0,none⟩):Value):=h.old 8;exact jC (.pointer (some ⟨q,3,none⟩))) ?_;refine oC (fun a d h=>by have aj:a.eval (.tmp 27)=(.pointer (some ⟨q,3,none⟩):Value):=h.of 27;have c3:=aB h.u d3;exact jC (.slice at_ l.p.length g)) ?_;refine oC (fun a d h=>by have e2:a.eval (.tmp 2)=(.slice x y.w.length A:Value):=h.old 2;exact jC (.slice x y.w.length A)) ?_;refine oC (fun a d h=>?_) ?_
     ·have ak:a.eval (.tmp 28)=(.slice at_ l.p.length g:Value):=h.of 28;have al:a.eval (.tmp 29)=(.slice x y.w.length A:Value):=h.of 29;refine iC (f:=167) (args:=#[.slice at_ l.p.length g, .slice x y.w.length A]) (bF rfl) ?_ ?_
      ·have ec:=qM a;have ef:=IM a;generalize a.eval=ev at *;clear h;go_simp
      refine Calls.mono (a2.o d h.u) ?_;rintro _ y2 ⟨rfl,W⟩;exact⟨_,rfl,fun t ht=>by cases ht;exact rfl,W⟩
     refine oC (fun a d h=>by have am:a.eval (.tmp 30)=(.bool false:Value):=h.of 30;exact jC (.bool false)) ?_;refine oC (fun a d h=>by exact Xb (h.of 31)) ?_;refine oC (fun a d h=>by exact Xb (h.of 31)) ?_;refine oC (fun a d h=>by exact Xb (h.of 31)) ?_;refine oC (fun a d h=>by exact Xb (h.of 31)) ?_;refine oC (fun a d h=>by exact Xb (h.of 31)) ?_;refine oC (fun a d h=>by exact Xb (h.of 31)) ?_;refine oC (fun a d h=>by exact Xb (h.of 31)) ?_;refine oC (fun a d h=>by exact Xb (h.of 31)) ?_;refine oC (fun a d h=>by have ao:a.eval (.tmp 31)=(.bool false:Value):=h.of 31;have ap:a.eval (.tmp 39)=(undef:Value):=h.of 39;exact jC (.bool false)) ?_;exact JL.nil
    case hend=>rintro⟨L,R⟩ wE a3 a9 X Y V;have S:L.getD 40 undef=.bool false:=zG (T:=fun K M _=>M=Yc q (.slice at_ l.p.length g) (.slice x y.w.length A) K) (w:=wE) (a:=⟨L,R⟩) (t:=40) V kR;obtain rfl:R=[]:=a9;obtain⟨fQ,U,J⟩:=pQ [27,28,29,30,31,32,33,34,35,36,37,38,39,40] L _ X Y;clear X Y V;simp only[List.foldl_cons,List.foldl_nil,(U 40).trans S]at J;clear S U;simp only[List.setIfInBounds_toArray,List.set_cons_zero,List.set_cons_succ]at J;subst J;(have a6:O ((r.body.take (k+1)).any (fun l=>l.p.all (cC y.w)&& !fF facts l y.y)=false):=by show _=_;rw[eI,List.any_append,HK.o,aa.o];show(l.p.all (cC y.w)&& !fF facts l y.y||false)=false;rw[a0.o];rfl);go_wp2_with fail;go_roundw;(case rel=>exact⟨k+1,Q,gN,a6.o,C.o.trans (a3.mono C.o.size)⟩);case measure=>exact mI
   have a0:O _:=P;rw[P]at a2;clear P;refine nF (fun K M _=>M=Yd q B (.slice at_ l.p.length g) (.slice x y.w.length A) (.slice F y.y.length H) (.slice E facts.length G) l j K) kR kR (fun _ _ _ _ _ h=>h) ?hop ?hend
   case hop=>
    refine oC (fun a d h=>by have e8:a.eval (.tmp 8)=(.pointer (some ⟨q,0,none⟩):Value):=h.old 8;exact jC (.pointer (some ⟨q,3,none⟩))) ?_;refine oC (fun a d h=>by have aj:a.eval (.tmp 27)=(.pointer (some ⟨q,3,none⟩):Value):=h.of 27;have c3:=aB h.u d3;exact jC (.slice at_ l.p.length g)) ?_;refine oC (fun a d h=>by have e2:a.eval (.tmp 2)=(.slice x y.w.length A:Value):=h.old 2;exact jC (.slice x y.w.length A)) ?_;refine oC (fun a d h=>?_) ?_
    ·have ak:a.eval (.tmp 28)=(.slice at_ l.p.length g:Value):=h.of 28;have al:a.eval (.tmp 29)=(.slice x y.w.length A:Value):=h.of 29;refine iC (f:=167) (args:=#[.slice at_ l.p.length g, .slice x y.w.length A]) (bF rfl) ?_ ?_
     ·have ec:=qM a;have ef:=IM a;generalize a.eval=ev at *;clear h;go_simp
     refine Calls.mono (a2.o d h.u) ?_;rintro _ y2 ⟨rfl,W⟩;exact⟨_,rfl,fun t ht=>by cases ht;exact rfl,W⟩
    refine oC (fun a d h=>by have am:a.eval (.tmp 30)=(.bool true:Value):=h.of 30;exact jC (.bool true)) ?_;refine oC (fun a d h=>by have e8:a.eval (.tmp 8)=(.pointer (some ⟨q,0,none⟩):Value):=h.old 8;have c0:=aB h.u d0;have c1:=aB h.u d1;have c2:=aB h.u d2;have c3:=aB h.u d3;refine fC (v:=nR l (.slice at_ l.p.length g)) (w':=d) (wG (h.of 31)) ?_ tR (aH _ _);have ec:=qM a;generalize a.eval=ev at *;clear h;go_simp) ?_;refine oC (fun a d h=>by have e1:a.eval (.tmp 1)=(.slice F y.y.length H:Value):=h.old 1;refine fC (v:=.slice F y.y.length H) (w':=d) (wG (h.of 31)) ?_ tR (aH _ _);have ec:=qM a;generalize a.eval=ev at *;clear h;go_simp) ?_;refine oC (fun a d h=>by have e0:a.eval (.tmp 0)=(.pointer (some ⟨B,0,none⟩):Value):=h.old 0;refine fC (v:=.pointer (some ⟨B,0,none⟩)) (w':=d) (wG (h.of 31)) ?_ tR (aH _ _);have ec:=qM a;generalize a.eval=ev at *;clear h;go_simp) ?_;refine oC (fun a d h=>by have ay:a.eval (.tmp 34)=(.pointer (some ⟨B,0,none⟩):Value):=h.of 34;refine fC (v:=.pointer (some ⟨B,0,none⟩)) (w':=d) (wG (h.of 31)) ?_ tR (aH _ _);have ec:=qM a;generalize a.eval=ev at *;clear h;go_simp) ?_;refine oC (fun a d h=>by have az:a.eval (.tmp 35)=(.pointer (some ⟨B,0,none⟩):Value):=h.of 35;refine fC (v:=.pointer (some ⟨B,5,none⟩)) (w':=d) (wG (h.of 31)) ?_ tR (aH _ _);have ec:=qM a;generalize a.eval=ev at *;clear h;go_simp) ?_;refine oC (fun a d h=>by have aF:a.eval (.tmp 36)=(.pointer (some ⟨B,5,none⟩):Value):=h.of 36;have c5:=aB h.u f5;refine fC (v:=.slice E facts.length G) (w':=d) (wG (h.of 31)) ?_ tR (aH _ _);have ec:=qM a;generalize a.eval=ev at *;clear h;go_simp) ?_;refine oC (fun a d h=>?_) ?_
    ·have aw:a.eval (.tmp 32)=(nR l (.slice at_ l.p.length g):Value):=h.of 32;have ax:a.eval (.tmp 33)=(.slice F y.y.length H:Value):=h.of 33;have aI:a.eval (.tmp 37)=(.slice E facts.length G:Value):=h.of 37;refine iC (f:=24) (args:=#[nR l (.slice at_ l.p.length g), .slice F y.y.length H, .slice E facts.length G]) (wG (h.of 31)) ?_ ?_
     ·have ec:=qM a;have ef:=IM a;generalize a.eval=ev at *;clear h;go_simp
     refine Calls.mono (a7.o d h.u) ?_;rintro _ y2 ⟨rfl,W⟩;exact⟨_,rfl,fun t ht=>by cases ht;exact rfl,W⟩
    refine oC (fun a d h=>by have aS:a.eval (.tmp 38)=(.bool j:Value):=h.of 38;refine fC (v:=.bool (!j)) (w':=d) (wG (h.of 31)) ?_ tR (aH _ _);have ec:=qM a;generalize a.eval=ev at *;clear h;go_simp) ?_;refine oC (fun a d h=>by have ao:a.eval (.tmp 31)=(.bool true:Value):=h.of 31;have ap:a.eval (.tmp 39)=(.bool (!j):Value):=h.of 39;exact jC (.bool (!j))) ?_;exact JL.nil
   case hend=>
    rintro⟨L,R⟩ wE a3 a9 X Y V;have S:L.getD 40 undef=.bool (!j):=zG (T:=fun K M _=>M=Yd q B (.slice at_ l.p.length g) (.slice x y.w.length A) (.slice F y.y.length H) (.slice E facts.length G) l j K) (w:=wE) (a:=⟨L,R⟩) (t:=40) V kR;obtain rfl:R=[]:=a9;obtain⟨fQ,U,J⟩:=pQ [27,28,29,30,31,32,33,34,35,36,37,38,39,40] L _ X Y;clear X Y V;simp only[List.foldl_cons,List.foldl_nil,(U 40).trans S]at J;clear S U;simp only[List.setIfInBounds_toArray,List.set_cons_zero,List.set_cons_succ]at J;subst J;cases j
    ·(have HE:O (tK facts r.body y=true):=by show _=_;unfold tK;exact kI.mpr ⟨_,ac.o,by rw[a0.o,a5.o];rfl⟩);go_wp2_with fail;go_ret;exact⟨by rw[HE.o];rfl,C.o.trans (a3.mono C.o.size)⟩
    (have a6:O ((r.body.take (k+1)).any (fun l=>l.p.all (cC y.w)&& !fF facts l y.y)=false):=by show _=_;rw[eI,List.any_append,HK.o,aa.o];show(l.p.all (cC y.w)&& !fF facts l y.y||false)=false;rw[a5.o,a0.o];rfl);go_wp2_with fail;go_roundw;(case rel=>exact⟨k+1,Q,gN,a6.o,C.o.trans (a3.mono C.o.size)⟩);case measure=>exact mI
  have aV:decide (k<r.body.length)=false:=aJ Q;(have HE:O (tK facts r.body y=false):=by show _=_;have :=HK.o;rw[dU oM]at this;exact this);go_wp2_with fail;go_ret;exact⟨by rw[HE.o];rfl,D.o⟩
end Go.Proofs.YthenjegmigeieaaGreat
