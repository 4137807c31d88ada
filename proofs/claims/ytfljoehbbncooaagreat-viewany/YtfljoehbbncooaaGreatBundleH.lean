/- Own texts, one behind the other (part 8). -/
import Derived.Test.YtfljoehbbncooaaGreatBundleG
import Derived.Test.YtfljoehbbncooaaGreatRows
import Derived.Laws.AppendOwnNone
import Derived.Lib.AppendZeros
import Derived.RangeFuncNested
import Derived.RangeFuncBound
import Derived.RangeFuncCalls
import Derived.RangeFuncLeaves
import Derived.RangeFuncBox
import Derived.Sort.MapsRangeIn
import Derived.Shelf.Abstract
import Derived.Shelf.RegionOpen
import Derived.WalkKit
import Derived.OwnWalkIn
import Derived.TacticsInMore
import Derived.LoopNIn
import Derived.LoopIn
import Derived.Shelf.SlSortCmp.WholeK
import Derived.Ground.SlsfProg
import Derived.Test.YtfljoehbbncooaaGreatProg
import Derived.Orders
import Derived.Lib.BufferMore
set_option maxRecDepth 100000
set_option maxHeartbeats 8000000
namespace Go.Proofs.YtfljoehbbncooaaGreat
open Go.RowKit
theorem FQ(q:List Uv):(q.map jC).flatten.length=q.length*5:=by
 induction q with
 |nil=>rfl
 |cons a r b=>
  rw[jN,qG,aV,b];show 5+r.length*5=(r.length+1)*5;omega
theorem YK{w:World}{b off:Nat}{q:List Uv}(h:∀i,i<q.length->TI w b (off+i*5) (jL q i)):∀j u,(q.map jC).flatten[j]?=some u->w.cell? ⟨b,off+j,none⟩=some u:=by
 intro j u c;have s:j<q.length*5:=by
  rcases lP j (q.length*5)with d|d
  ·exact d
  rw[dK (by rw[FQ];exact d)]at c;cases c
 have f:j/5<q.length:=oM;have e:j=j/5*5+j% 5:=oM;have g:j% 5<5:=oM;rw[e,PW q _ _ f g]at c;obtain⟨l,n,d,p,r⟩:=h _ f;have k:off+j=off+j/5*5+j% 5:=oM;rw[k];generalize j% 5=m at *
 match m,g with
 |0,_=>rw[<-c];exact l
 |1,_=>rw[<-c];exact n
 |2,_=>rw[<-c];exact d
 |3,_=>rw[<-c];exact p
 |4,_=>rw[<-c];exact r
theorem aIX{w:World}{q:List Uv}(h:∀x,x∈q->gM w x):∀u,u∈(q.map jC).flatten->u.oneCell'=true:=by intro u b;obtain⟨c,g,b⟩:=zT.mp b;obtain⟨p,i,rfl⟩:=cJ.mp g;obtain⟨j,s,m,k,C,n,l,D,r,d,e,f⟩:=(h p i).forms;simp only[jC,d,e,f,List.mem_cons,List.not_mem_nil,or_false]at b;rcases b with rfl|rfl|rfl|rfl|rfl<;>rfl
theorem wJ{W w:World}{E:Array Oper}{rest:List Oper}{o:Oper}{a:Act}{Q:Exit->Act->World->Prop}(l:o.guard=none)(s x:Operand)
 (p:o.op=.call {callee:=.builtin .append,args:=#[s,x],argTypes:=#[27,27]}) (B:Nat) (G:B<=w.heap.size) (v:Value) (q:List Uv) (r:a.eval s=v)
 (i:mT w B v q) (ao:Option Addr) (cap:Nat) (c:List Uv) (C:a.eval x=.slice ao c.length cap) (I:ao=none->cap=0) (k:xU w ao c) (L:∀x,x∈c->gM W x)
 (T:q.length+c.length<=4194304)
 (h:∀e d,mT d B e (q++c)->w.grownBy d v.ownBlock->wpList Tryz.prog E Q rest (a.put o.dst e) d):wpList Tryz.prog E Q (o::rest) a w:=by
 obtain⟨D,m,N,P,R⟩:=jY KS
 cases ao with
 |none=>
  have M:c=[]:=by
   rcases k with g|⟨b,S,f,_⟩
   ·exact g
   cases f
  subst M;refine PI l s x 27 p B 42 D 5 Tryz.underlying27 m v q.length _ r i (by rw[C,I rfl];rfl) ?_;refine h v w ?_ (MJ _ _);rw[iZ];exact i
 |some F=>
  refine iD w l s x 27 p B 42 D _ 5 88 Tryz.underlying27 m N P R rfl dE v q.length _ r i F c.length cap ((c.map jC).flatten) C (by rw[FQ]) ?_ (aIX L) (by unfold maxLen;omega) oM G ?_
  ·intro j u n;rcases k with g|⟨b,S,f,H⟩
   ·subst g;simp at n
   rw[Option.some.inj f,Addr.add_lit];exact YK H j u n
  intro e d K J _;refine h e d ?_ J;show World.ownsRow _ _ _ _ _ _ _;rw[aV,dC,iL];exact K
theorem aWM(w:World)(n:Nat)(C:n<=100000):
 Calls Tryz.prog 136 #[.slice none 0 0, .int .i64 n] w fun e f=>∃d,e=.returned d/\mT f w.heap.size d []/\Below w.heap.size w f:=by
 obtain⟨u,m,q,r,s⟩:=jY KS;by_cases j:n=0
 ·subst j
  go_enter Tryz.func136,Tryz.ntmps136
  go_wp2_with fail;go_ret;exact⟨_,rfl,eS _ _ _ _,aG _ _⟩
 have p:0<n:=oM;have i:O _:=Jw w 27 3 27 42 u _ .i64 .i64 Tryz.underlying27 Tryz.underlying3 m q n p (by rw[r];decide) oM (by rw[s];omega)
 go_enter Tryz.func136,Tryz.ntmps136
 go_wp2_with(at_builtin;refine Lib.wpList_append_run _ rfl _ _ 27 3 rfl _ _ rfl rfl _ _ i.o ?_);(have g:O (∀b:Array Value,b.size=grownCap w n 0 42*5->(w.alloc (.cells b 42)).drew.ownsRow w.heap.size 42 5 (.slice (some ⟨w.heap.size,0,none⟩) 0 (grownCap w n 0 42)) 0 []/\Below w.heap.size w (w.alloc (.cells b 42)).drew):=by intro b l;have k:=mQ (base:=w.heap.size) (e:=42) (size:=5) w b (grownCap w n 0 42) (aH _) (grownCap_le_maxLen _ _ _ _ (by unfold maxLen;omega)) l;have c:Below w.heap.size w (w.alloc (.cells b 42)):=(aG _ _).alloc (aH _) _;exact⟨k,c.os,c.tape,c.output,c.size,c.block⟩);have x:=grownCap_ge w n 0 42;go_ret;refine⟨_,rfl,g.o _ ?_⟩;simp[Builtin.zeroCells];omega
theorem Qb(l m:List Uv)(b:Nat)(ao f:Option Addr)(cap cbp:Nat)(w:World)(D:xU w ao l/\(ao=none->cap=0))(E:xU w f m/\(f=none->cbp=0))(F:w.cell? ⟨b,0,none⟩=some (.slice ao l.length cap))(G:w.cell? ⟨b,1,none⟩=some (.slice f m.length cbp))(hl:l.length+m.length<=1000)(K:∀x,x∈l++m->gM w x):
 Calls Tryz.prog 81 #[.slice (some ⟨b,0,none⟩) 2 2] w fun e T=>∃S,e=.returned S/\mT T w.heap.size S (l++m)/\Below w.heap.size w T:=by
 have U:O (∀z,Below w.heap.size w z->xU z ao l):=fun z M=>D.1.kc (Kc.z M);have X:O (∀z,Below w.heap.size w z->xU z f m):=fun z M=>E.1.kc (Kc.z M);have V:O (ao=none->cap=0):=D.2;have Y:O (f=none->cbp=0):=E.2;have Z:O (∀x,x∈l->gM w x):=fun x L=>K x (eX _ L);have a0:O (∀x,x∈m->gM w x):=fun x L=>K x (gE _ L);clear D E K
 go_enter Tryz.func81,Tryz.ntmps81
 go_wp2_with fail;go_loopw [3,11] (fun N i wr=>w=wr/\((i=.int .i64 (0:Nat)/\N=.int .i64 0)\/(i=.int .i64 (1:Nat)/\N=.int .i64 (l.length:Nat))\/(i=.int .i64 (2:Nat)/\N=.int .i64 ((l.length+m.length:Nat):Int)))) (fun _ i _=>2-(intOf i).toNat);case atStart=>exact⟨rfl, .inl ⟨rfl,rfl⟩⟩
 case round=>
  obtain⟨rfl,⟨rfl,rfl⟩|⟨rfl,rfl⟩|⟨rfl,rfl⟩⟩:=hrel
  ·go_wp2_with fail;go_roundw;(case rel=>exact⟨by trivial, .inr (.inl ⟨by first|rfl|go_num,by first|rfl|go_num|simp⟩)⟩);case measure=>simp[intOf]
  ·go_wp2_with fail;go_roundw;(case rel=>exact⟨by trivial, .inr (.inr ⟨by first|rfl|go_num,by first|rfl|go_num|simp⟩)⟩);case measure=>simp[intOf]
  go_wp2_with fail;refine Calls.mono (aWM _ (l.length+m.length) oM) ?_;rintro e w1 ⟨v1,rfl,R,H⟩;obtain⟨a1,c1,rfl⟩:=bR R;have u:=aB H F;have C:=aB H G;go_wp2_with fail;clear u C;go_loopw [6,27] (fun ns i wr=>Below w.heap.size w wr/\((i=.int .i64 (0:Nat)/\mT wr w.heap.size ns [])\/(i=.int .i64 (1:Nat)/\mT wr w.heap.size ns l)\/(i=.int .i64 (2:Nat)/\mT wr w.heap.size ns (l++m)))) (fun _ i _=>2-(intOf i).toNat);case atStart=>exact⟨H, .inl ⟨rfl,R⟩⟩
  case round=>
   obtain⟨d,hrel⟩:=hrel;have p:=d.size;rcases hrel with⟨rfl,c⟩|⟨rfl,c⟩|⟨rfl,c⟩
   ·have u:=aB d F;have C:=aB d G;obtain⟨P,Q,rfl⟩:=bR c;go_wp2_with(at_builtin;refine wJ (W:=w) rfl (.tmp 31) (.tmp 32) rfl w.heap.size p _ [] rfl c ao cap l rfl V.o (U.o _ d) Z.o ?c1 ?_);(case c1=>simp;omega);intro v2 n j I;have q:O (Below w.heap.size w n):=d.grown I p (fun k J=>(c.lt k J).1);obtain⟨r,s,rfl⟩:=bR j;have g:O (mT n w.heap.size (.slice r l.length s) l):=j;go_wp2_with fail;go_roundw;(case rel=>exact⟨q.o, .inr (.inl ⟨by first|rfl|go_num,g.o⟩)⟩);case measure=>simp[intOf]
   ·have u:=aB d F;have C:=aB d G;obtain⟨P,Q,rfl⟩:=bR c;go_wp2_with(at_builtin;refine wJ (W:=w) rfl (.tmp 31) (.tmp 32) rfl w.heap.size p _ l rfl c f cbp m rfl Y.o (X.o _ d) a0.o ?c1 ?_);(case c1=>omega);intro v2 n j I;have q:O (Below w.heap.size w n):=d.grown I p (fun k J=>(c.lt k J).1);obtain⟨r,s,rfl⟩:=bR j;have g:O (mT n w.heap.size (.slice r (l++m).length s) (l++m)):=j;go_wp2_with fail;go_roundw;(case rel=>exact⟨q.o, .inr (.inr ⟨by first|rfl|go_num,g.o⟩)⟩);case measure=>simp[intOf]
   have g:O (mT wr w.heap.size u6 (l++m)):=c;obtain⟨P,Q,rfl⟩:=bR c;clear c;go_wp2_with fail;go_ret;exact⟨_,rfl,g.o,d⟩
end Go.Proofs.YtfljoehbbncooaaGreat
namespace Go.Proofs.YtfljoehbbncooaaGreat
open Go.RowKit Go.Maps
theorem bBN{w:World}{v:Value}{x:fK}(g:Nat)(h0:w.cell? ⟨g,0,none⟩=some (.int .i64 x.a))(h1:w.cell? ⟨g,1,none⟩=some (.int .i64 x.n))(c:v=.slice (some ⟨g,0,none⟩) 1 1):uI w v [x]:=by subst c;refine⟨_,1,rfl,⟨aH _,fun h=>by cases h⟩, .inr ⟨g,0,rfl,fun i b=>?_⟩⟩;(have :i=0:=by simp at b;exact b);subst this;exact⟨h0,h1⟩
theorem aWQ(B hb:Nat)(c:List Uv)(x:Uv)(w w0:World)(C:BN w B c)(K:w.cell? ⟨hb,0,none⟩=some (.map (some B)))(E:gM w0 x)(D:fR x.u.id=true):
 Calls Tryz.prog 164 #[mA x, .pointer (some ⟨hb,0,none⟩)] w fun e q=>e=.returned (.bool (eG (bV c) x.u.id))/\Below w.heap.size w q:=by
 obtain⟨f,m,j,g,n,k,i,p,l,G,H,I⟩:=E.forms;obtain⟨⟨⟨b,d⟩,Q,R,S⟩,T,U,V⟩:=x;dsimp only at *;subst G H I;have r:Below w.heap.size w ((w.alloc (.cells #[.int .i64 b, .int .i64 d, .slice f m j, .slice g n k, .slice i p l] 42)).alloc (.cells #[.int .i64 b, .int .i64 d] 39)):=((aG _ _).alloc (aH _) _).alloc sI _;have s:O (Below w.heap.size w ((w.alloc (.cells #[.int .i64 b, .int .i64 d, .slice f m j, .slice g n k, .slice i p l] 42)).alloc (.cells #[.int .i64 b, .int .i64 d] 39))):=r;have P:(w.alloc (.cells #[.int .i64 b, .int .i64 d, .slice f m j, .slice g n k, .slice i p l] 42)).cell? ⟨hb,0,none⟩=some (.map (some B)):=aB ((aG _ _).alloc (aH _) _) K;(have F:O (Calls Tryz.prog 83 #[.map (some B), .slice (some ⟨w.heap.size+1,0,none⟩) 1 1] ((w.alloc (.cells #[.int .i64 b, .int .i64 d, .slice f m j, .slice g n k, .slice i p l] 42)).alloc (.cells #[.int .i64 b, .int .i64 d] 39)) fun e q=>e=.returned (.bool (eG (bV c) ⟨b,d⟩))/\Below ((w.alloc (.cells #[.int .i64 b, .int .i64 d, .slice f m j, .slice g n k, .slice i p l] 42)).alloc (.cells #[.int .i64 b, .int .i64 d] 39)).heap.size ((w.alloc (.cells #[.int .i64 b, .int .i64 d, .slice f m j, .slice g n k, .slice i p l] 42)).alloc (.cells #[.int .i64 b, .int .i64 d] 39)) q):=by have h:=YA B c [⟨b,d⟩] (.slice (some ⟨w.heap.size+1,0,none⟩) 1 1) _ (C.z r) (bBN (w.heap.size+1) (by rw[<-qB w];exact(zW _ _ _ 0).trans rfl) (by rw[<-qB w];exact(zW _ _ _ 1).trans rfl) rfl) sI (fun y M=>by rw[cP.mp M];exact D);refine h.mono ?_;rintro e q ⟨rfl,J⟩;refine⟨?_,J⟩;rw[FX,List.all_nil,Bool.and_true]);generalize eG (bV c) ⟨b,d⟩=N at *;clear C E D r
 go_enter Tryz.func164,Tryz.ntmps164
 go_wp2_with(go_at_call 83;refine Calls.mono F.o ?_;rintro e W ⟨rfl,L⟩);go_ret;exact⟨rfl,s.o.trans (L.mono s.o.size)⟩
theorem aWR(B hb:Nat)(c:List Uv)(x:Uv)(w:World)(p:BN w B c)(L:w.cell? ⟨hb,0,none⟩=some (.map (some B)))(f:gM w x)(b:TZ x.u):
 Calls Tryz.prog 165 #[mA x, .pointer (some ⟨hb,0,none⟩)] w fun e g=>e=.returned (.bool (!fO (bV c) x.u))/\Below w.heap.size w g:=by
 have J:=b.lp;have K:=b.lt;obtain⟨i,r,l,j,s,m,k,C,n,G,H,I⟩:=f.forms;have F:O (∀z,Below w.heap.size w z->Calls Tryz.prog 137 #[.map (some B),mA x] z fun e g=>e=.returned (.bool (fO (bV c) x.u))/\Below z.heap.size z g):=fun z q=>Lk B c x z (p.z q) (f.z q) oM b.ps b.ts;generalize fO (bV c) x.u=N at *;obtain⟨⟨⟨D,E⟩,Q,R,S⟩,T,U,V⟩:=x;dsimp only at *;subst G H I;have d:O (Below w.heap.size w (w.alloc (.cells #[.int .i64 D, .int .i64 E, .slice i r l, .slice j s m, .slice k C n] 42))):=(aG _ _).alloc (aH _) _;have P:(w.alloc (.cells #[.int .i64 D, .int .i64 E, .slice i r l, .slice j s m, .slice k C n] 42)).cell? ⟨hb,0,none⟩=some (.map (some B)):=aB d.o L;clear p f b J K
 go_enter Tryz.func165,Tryz.ntmps165
 go_wp2_with(go_at_call 137;refine Calls.mono (F.o _ d.o) ?_;rintro e W ⟨rfl,M⟩);go_ret;exact⟨rfl,d.o.trans (M.mono d.o.size)⟩
abbrev mU(b c:Value):Value:=.agg #[b,c]
theorem aSI{h w:List aX}(e:(dI eF h&&dI eF w&& !(w.any fun u=>eG h u.id))=false):iA h w=4:=by unfold iA;rw[if_pos e]
theorem aSJ{h w:List aX}(b:dI eF h=true)(c:dI eF w=true)(d:(w.any fun u=>eG h u.id)=false)(e:(h.any fun u=> !fO h u)=true):iA h w=5:=by unfold iA;rw[b,c,d,e];rfl
theorem aSK{h w:List aX}(b:dI eF h=true)(c:dI eF w=true)(d:(w.any fun u=>eG h u.id)=false)(e:(h.any fun u=> !fO h u)=false):iA h w=if((gV mV [] h).2.length != 0||w.any (fO h))=true then 4 else 0:=by unfold iA;rw[b,c,d,e];rfl
theorem Hx(b d:List Uv)(hv wv:Value)(w:World)(hV:iI w hv b)(wV:iI w wv d)(hl:b.length+d.length<=1000)(ak:∀x,x∈b++d->gM w x)(aj:∀x,x∈b++d->TZ x.u):
 Calls Tryz.prog 127 #[mU hv wv] w fun e p=>e=.returned (.int .i64 (iA (bV b) (bV d)))/\Below w.heap.size w p:=by
 have q:O ((∀x,x∈b->gM w x/\TZ x.u)/\(∀x,x∈d->gM w x/\TZ x.u)):=⟨fun x i=>⟨ak x (eX _ i),aj x (eX _ i)⟩,fun x i=>⟨ak x (gE _ i),aj x (gE _ i)⟩⟩;have Z:O (iI w hv b):=hV;have aa:O (iI w wv d):=wV;obtain⟨F,ch,rfl,_⟩:=hV;obtain⟨J,K,rfl,_⟩:=wV;clear ak aj;have Y:O (Below w.heap.size w (w.alloc (.cells #[.slice F b.length ch, .slice J d.length K] 29))):=(aG _ _).alloc (aH _) _;have a8:O ((w.alloc (.cells #[.slice F b.length ch, .slice J d.length K] 29)).heap[w.heap.size]?=some (.cells #[.slice F b.length ch, .slice J d.length K] 29)):=iC w _
 go_enter Tryz.func127,Tryz.ntmps127
 go_upto_region 1 with fail;generalize w.alloc (.cells #[.slice F b.length ch, .slice J d.length K] 29)=n at *;(have c0:n.cell? ⟨w.heap.size,0,none⟩=some (.slice F b.length ch):=cH a8.o);have am:O (Calls Tryz.prog 82 #[.slice F b.length ch] n fun e p=>e=.returned (.map (some n.heap.size))/\ST p n.heap.size b.length b/\Below n.heap.size n p):=aD4 b _ n (Z.o.kc (Kc.z Y.o)) oM (fun x i=>(q.o.1 x i).1.z Y.o) (fun x i=>(q.o.1 x i).2.id);go_upto_region 2 with(go_at_call 82;refine Calls.mono am.o ?_;rintro e U ⟨rfl,ay,af⟩);have a3:O (Below n.heap.size n (U.alloc (.cells #[.map (some n.heap.size)] 126))):=af.alloc af.size _;have ae:O ((U.alloc (.cells #[.map (some n.heap.size)] 126)).heap[U.heap.size]?=some (.cells #[.map (some n.heap.size)] 126)):=iC U _;have a9:O (((bV b).map aX.id).Nodup->BN (U.alloc (.cells #[.map (some n.heap.size)] 126)) n.heap.size b):=fun hn=>(ay.at_ hn).z ((aG _ _).alloc (aH _) _);clear ay af am c0;generalize U.heap.size=G at *;generalize U.alloc (.cells #[.map (some n.heap.size)] 126)=g at *;have ab:O (Below w.heap.size w g):=Y.o.trans (a3.o.mono Y.o.size);(have s:O (∀z,Below g.heap.size g z->z.cell? ⟨w.heap.size,0,none⟩=some (.slice F b.length ch)/\z.cell? ⟨w.heap.size,1,none⟩=some (.slice J d.length K)/\z.cell? ⟨G,0,none⟩=some (.map (some n.heap.size))):=fun z f=>by have aJ:=a3.o.trans (f.mono a3.o.size);have aq:=(aJ.block _ (aK.1 a8.o).1).trans a8.o;have az:=(f.block _ (aK.1 ae.o).1).trans ae.o;exact⟨cH aq,cH aq,cH az⟩);have j:O (∀z,Below g.heap.size g z->Below w.heap.size w z):=fun z f=>ab.o.trans (f.mono ab.o.size)
 have S:O (∀z,Below g.heap.size g z->Calls Tryz.prog 162 #[.slice F b.length ch, .func (.func 139) #[] #[]] z fun e p=>e=.returned (.bool (dI eF (bV b)))/\Below g.heap.size g p):=fun z f=>
  (aDP b _ z (Z.o.kc (Kc.z (j.o z f))) oM (fun x i=>(q.o.1 x i).1.z (j.o z f))).mono fun _ _ h=>⟨h.1,f.trans (h.2.mono f.size)⟩
 have a0:O (∀z,Below g.heap.size g z->Calls Tryz.prog 162 #[.slice J d.length K, .func (.func 139) #[] #[]] z fun e p=>e=.returned (.bool (dI eF (bV d)))/\Below g.heap.size g p):=fun z f=>
  (aDP d _ z (aa.o.kc (Kc.z (j.o z f))) oM (fun x i=>(q.o.2 x i).1.z (j.o z f))).mono fun _ _ h=>⟨h.1,f.trans (h.2.mono f.size)⟩
 have P:O (dI eF (bV b)=true->∀z,Below g.heap.size g z->Calls Tryz.prog 163 #[.slice J d.length K, .func (.func 164) #[] #[.pointer (some ⟨G,0,none⟩)]] z fun e p=>e=.returned (.bool ((bV d).any fun u=>eG (bV b) u.id))/\Below g.heap.size g p):=fun T z f=>
  (aCI G (fun u=>eG (bV b) u.id) d _ z (aa.o.kc (Kc.z (j.o z f))) oM (fun x i=>(q.o.2 x i).1.z (j.o z f)) (fun y x hy i=>by
   have H:=f.trans (hy.mono f.size)
   exact aWQ n.heap.size G b x y w ((a9.o (uF T)).z H) (s.o y H).2.2 (q.o.2 x i).1 (q.o.2 x i).2.id)).mono fun _ _ h=>⟨h.1,f.trans (h.2.mono f.size)⟩
 have I:O (dI eF (bV b)=true->∀z,Below g.heap.size g z->Calls Tryz.prog 163 #[.slice F b.length ch, .func (.func 165) #[] #[.pointer (some ⟨G,0,none⟩)]] z fun e p=>e=.returned (.bool ((bV b).any fun u=> !fO (bV b) u))/\Below g.heap.size g p):=fun T z f=>
  (aCJ G (fun u=> !fO (bV b) u) b _ z (Z.o.kc (Kc.z (j.o z f))) oM (fun x i=>(q.o.1 x i).1.z (j.o z f)) (fun y x hy i=>by
   have H:=f.trans (hy.mono f.size)
   exact aWR n.heap.size G b x y ((a9.o (uF T)).z H) (s.o y H).2.2 ((q.o.1 x i).1.z (j.o y H)) (q.o.1 x i).2)).mono fun _ _ h=>⟨h.1,f.trans (h.2.mono f.size)⟩
 have Q:O (dI eF (bV b)=true->∀z,Below g.heap.size g z->Calls Tryz.prog 84 #[.slice F b.length ch] z fun e p=>∃(m:Value)(a:Option Addr)(c:Nat),e=.returned (.tuple #[m, .slice a (gV mV [] (bV b)).2.length c])/\(∃k,m=.map (some k))/\Below g.heap.size g p):=fun T z f=>
  (Cy b _ z (Z.o.kc (Kc.z (j.o z f))) oM (fun x i=>(q.o.1 x i).1.z (j.o z f)) (fun x i=>(q.o.1 x i).2) (uF T)).mono (by
   rintro e p ⟨c,l,v,rfl,hs,_,_,aD,G⟩;obtain⟨a,cc,rfl⟩:=bR aD;refine⟨.map (some z.heap.size),a,cc,?_,⟨_,rfl⟩,f.trans (G.mono f.size)⟩;rw[hs];show _=Ending.returned (.tuple #[_, .slice a (bV l).length cc])
   rw[eH])
 have R:O (dI eF (bV b)=true->∀z,Below g.heap.size g z->Calls Tryz.prog 163 #[.slice J d.length K, .func (.func 137) #[.map (some n.heap.size)] #[]] z fun e p=>e=.returned (.bool ((bV d).any (fO (bV b))))/\Below g.heap.size g p):=fun T z f=>
  (aCK n.heap.size (fO (bV b)) d _ z (aa.o.kc (Kc.z (j.o z f))) oM (fun x i=>(q.o.2 x i).1.z (j.o z f)) (fun y x hy i=>by
   have H:=f.trans (hy.mono f.size);have hi:=(q.o.2 x i).2;have g1:=hi.lp;have g2:=hi.lt
   exact Lk n.heap.size b x y ((a9.o (uF T)).z H) ((q.o.2 x i).1.z (j.o y H)) oM hi.ps hi.ts)).mono fun _ _ h=>⟨h.1,f.trans (h.2.mono f.size)⟩
 have V:O ((dI eF (bV b)&&dI eF (bV d)&& !((bV d).any fun u=>eG (bV b) u.id))=false->iA (bV b) (bV d)=4):=aSI;have a4:O (dI eF (bV b)=true->dI eF (bV d)=true->((bV d).any fun u=>eG (bV b) u.id)=false->((bV b).any fun u=> !fO (bV b) u)=true->iA (bV b) (bV d)=5):=aSJ;have a6:O (dI eF (bV b)=true->dI eF (bV d)=true->((bV d).any fun u=>eG (bV b) u.id)=false->((bV b).any fun u=> !fO (bV b) u)=false->iA (bV b) (bV d)=if((gV mV [] (bV b)).2.length != 0||(bV d).any (fO (bV b)))=true then 4 else 0):=aSK;generalize dI eF (bV b)=r1 at *;generalize dI eF (bV d)=r2 at *;generalize ((bV d).any fun u=>eG (bV b) u.id)=r3 at *;generalize ((bV b).any fun u=> !fO (bV b) u)=r4 at *;generalize (gV mV [] (bV b)).2.length=M at *;generalize (bV d).any (fO (bV b))=r6 at *;clear Z aa q a9 Y a8 a3 ae ab;obtain⟨c0,C,D⟩:=s.o g (aG _ _);have HE:O (Below g.heap.size g g):=aG _ _;cases r1
 ·have r:O (iA (bV b) (bV d)=4):=V.o rfl;go_wp2_with(go_at_call 162;refine Calls.mono (S.o _ HE.o) ?_;rintro e X ⟨rfl,E⟩);go_ret;exact⟨by rw[r.o];rfl,j.o _ E⟩
 have ar:=P.o rfl;have au:=I.o rfl;have av:=Q.o rfl;have ax:=R.o rfl;clear P I Q R;have P:O _:=ar;have I:O _:=au;have Q:O _:=av;have R:O _:=ax;clear ar au av ax;cases r2
 ·have r:O (iA (bV b) (bV d)=4):=V.o rfl;clear V a4 a6 P I Q R
  go_wp2_with(first
   |(go_at_call 162;(with_reducible refine Calls.mono (S.o _ HE.o) ?_);clear S;rintro e X ⟨rfl,E⟩;obtain⟨c0,C,D⟩:=s.o X E;have W:O _:=E)
   |(go_at_call 162;(with_reducible refine Calls.mono (a0.o _ W.o) ?_);rintro e z2 ⟨rfl,L⟩))
  go_ret;exact⟨by rw[r.o];rfl,j.o _ L⟩
 cases r3;rotate_left
 ·have r:O (iA (bV b) (bV d)=4):=V.o rfl;clear V a4 a6 I Q R
  go_wp2_with(first
   |(go_at_call 162;(with_reducible refine Calls.mono (S.o _ HE.o) ?_);clear S;rintro e X ⟨rfl,E⟩;obtain⟨c0,C,D⟩:=s.o X E;have W:O _:=E)
   |(go_at_call 162;(with_reducible refine Calls.mono (a0.o _ W.o) ?_);clear a0;rintro e z2 ⟨rfl,L⟩;obtain⟨c0,C,D⟩:=s.o z2 L;have a7:O _:=L)
   |(go_at_call 163;(with_reducible refine Calls.mono (P.o _ a7.o) ?_);rintro e z3 ⟨rfl,a1⟩))
  go_ret;exact⟨by rw[r.o];rfl,j.o _ a1⟩
 clear V;have al:O (r4=true->iA (bV b) (bV d)=5):=fun h=>a4.o rfl rfl rfl h;have an:O (r4=false->iA (bV b) (bV d)=if(M != 0||r6)=true then 4 else 0):=fun h=>a6.o rfl rfl rfl h;clear a4 a6
 go_upto_region 4 with(first
  |(go_at_call 162;(with_reducible refine Calls.mono (S.o _ HE.o) ?_);clear S;rintro e X ⟨rfl,E⟩;obtain⟨c0,C,D⟩:=s.o X E;have W:O _:=E)
  |(go_at_call 162;(with_reducible refine Calls.mono (a0.o _ W.o) ?_);clear a0;rintro e z2 ⟨rfl,L⟩;obtain⟨c0,C,D⟩:=s.o z2 L;have a7:O _:=L)
  |(go_at_call 163;(with_reducible refine Calls.mono (P.o _ a7.o) ?_);clear P;rintro e z3 ⟨rfl,a1⟩))
 clear c0 C D W a7;obtain⟨c0,C,D⟩:=s.o z3 a1;have ac:O (Below g.heap.size g z3):=a1;clear E L a1;cases r4;rotate_left
 ·have r:O (iA (bV b) (bV d)=5):=al.o rfl;go_wp2_with(go_at_call 163;(with_reducible refine Calls.mono (I.o _ ac.o) ?_);rintro e z4 ⟨rfl,a2⟩);go_ret;exact⟨by rw[r.o];rfl,j.o _ a2⟩
 clear al;have N:=an.o rfl;clear an;go_upto_region 6 with(go_at_call 163;(with_reducible refine Calls.mono (I.o _ ac.o) ?_);rintro e z4 ⟨rfl,a2⟩);clear c0 C D I ac;obtain⟨c0,C,D⟩:=s.o z4 a2;have ao:O (Below g.heap.size g z4):=a2;clear a2;go_upto_region 7 with(go_at_call 84;(with_reducible refine Calls.mono (Q.o _ ao.o) ?_);rintro e z5 ⟨m5,a5,k5,rfl,⟨b5,rfl⟩,ag⟩);clear c0 C D Q ao;obtain⟨c0,C,D⟩:=s.o z5 ag;have ad:O (Below g.heap.size g z5):=ag;clear ag;by_cases h0:0<M
 ·have g0:decide ((0:Int)<(M:Int))=true:=aP oM;have g1:decide (0<M)=true:=aP h0;(have r:O (iA (bV b) (bV d)=4):=by show _=_;rw[N];(have :(M != 0)=true:=by simp;omega);rw[this];rfl);clear N;go_wp2_with fail;go_ret;exact⟨by rw[r.o];rfl,j.o _ ad.o⟩
 have g0:decide ((0:Int)<(M:Int))=false:=aF oM;have g1:decide (0<M)=false:=aF h0;(have aC:(M != 0)=false:=by simp;omega);rw[aC,rE]at N;cases r6
 ·have r:O (iA (bV b) (bV d)=0):=N;clear N;go_wp2_with(go_at_call 163;(with_reducible refine Calls.mono (R.o _ ad.o) ?_);rintro e z6 ⟨rfl,ai⟩);go_ret;exact⟨by rw[r.o];rfl,j.o _ ai⟩
 have r:O (iA (bV b) (bV d)=4):=N;clear N;go_wp2_with(go_at_call 163;(with_reducible refine Calls.mono (R.o _ ad.o) ?_);rintro e z6 ⟨rfl,ai⟩);go_ret;exact⟨by rw[r.o];rfl,j.o _ ai⟩
theorem Yp(l:List aX)(u:aX)(h:eV u=0):bJ (u::l)=bJ l:=by unfold bJ;rw[List.find?_cons,show TR u=false from by simp[TR,h]]
theorem Yq(l:List aX)(u:aX)(h:¬eV u=0):bJ (u::l)=eV u:=by unfold bJ;rw[List.find?_cons,show TR u=true from by simp[TR,h]]
theorem Am(c d:List Uv)(hv wv:Value)(w:World)(hV:iI w hv c)(wV:iI w wv d)(hl:c.length<=4611686018427387903/\d.length<=4611686018427387903)(ad:∀x,x∈c++d->gM w x):
 Calls Tryz.prog 79 #[mU hv wv] w fun e C=>e=.returned (.int .i64 (dN (bV c) (bV d)))/\Below w.heap.size w C:=by
 have I:O (∀x,x∈c++d->gM w x):=ad;have X:O (iI w hv c):=hV;have Z:O (iI w wv d):=wV;obtain⟨m,ch,rfl,a9,_⟩:=hV;obtain⟨n,r,rfl,ab,_⟩:=wV;clear ad;have G:O (Below w.heap.size w (w.alloc (.cells #[.slice m c.length ch, .slice n d.length r] 29))):=(aG _ _).alloc (aH _) _;have W:O ((w.alloc (.cells #[.slice m c.length ch, .slice n d.length r] 29)).heap[w.heap.size]?=some (.cells #[.slice m c.length ch, .slice n d.length r] 29)):=iC w _;have af:O (m=none->ch=0):=a9.2;have ai:O (n=none->r=0):=ab.2;clear a9 ab
 go_enter Tryz.func79,Tryz.ntmps79
 go_upto_region 1 with fail;generalize w.alloc (.cells #[.slice m c.length ch, .slice n d.length r] 29)=g at *;(have U:O (∀z,Below g.heap.size g z->z.cell? ⟨w.heap.size,0,none⟩=some (.slice m c.length ch)/\z.cell? ⟨w.heap.size,1,none⟩=some (.slice n d.length r)):=fun z j=>by have ac:=(j.block _ (aK.1 W.o).1).trans W.o;exact⟨cH ac,cH ac⟩);(obtain⟨c0,c1⟩:=U.o g (aG _ _);have an:IntKind.i64.wrap ((c.length:Int)+(d.length:Int))=((c.length+d.length:Nat):Int):=by rw[<-Int.natCast_add];simp[IntKind.wrap,IntKind.bits,IntKind.signed];omega);by_cases P:200<c.length+d.length
 ·have g0:decide ((200:Int)<((c.length+d.length:Nat):Int))=true:=aP oM;have g1:decide (200<c.length+d.length)=true:=aP P;(have L:O (dN (bV c) (bV d)=2):=by show _=_;unfold dN;rw[eH,eH,if_pos P]);clear U I;go_wp2_with fail;go_ret;exact⟨by rw[L.o];rfl,G.o⟩
 have g0:decide ((200:Int)<((c.length+d.length:Nat):Int))=false:=aF oM;have g1:decide (200<c.length+d.length)=false:=aF P;(have L:O (dN (bV c) (bV d)=if bJ (bV (c++d))≠0 then bJ (bV (c++d))else iA (bV c) (bV d)):=by show _=_;unfold dN;rw[eH,eH,if_neg P,nR]);(obtain⟨q,J⟩:∃q,O (q=c++d):=⟨_,rfl⟩;rw[<-J.o]at L;go_upto_region 3 with fail;have Q:O (Below g.heap.size g (g.alloc (.cells #[.slice m c.length ch, .slice n d.length r] 27))):=(aG _ _).alloc (aH _) _;have a6:O (Calls Tryz.prog 81 #[.slice (some ⟨g.heap.size,0,none⟩) 2 2] (g.alloc (.cells #[.slice m c.length ch, .slice n d.length r] 27)) fun e C=>∃S,e=.returned S/\mT C (g.alloc (.cells #[.slice m c.length ch, .slice n d.length r] 27)).heap.size S q/\Below g.heap.size g C):=by have hb:=G.o.trans (Q.o.mono G.o.size);obtain⟨_,_,e1,_,k1⟩:=X.o.kc (Kc.z hb);obtain⟨_,_,e2,_,k2⟩:=Z.o.kc (Kc.z hb);cases e1;cases e2;refine(Qb c d g.heap.size m n ch r _ ⟨k1,af.o⟩ ⟨k2,ai.o⟩ (zW _ _ _ 0) (zW _ _ _ 1) oM (fun x i=>(I.o x i).z hb)).mono ?_;rintro e C ⟨S,h1,h2,h3⟩;exact⟨S,h1,by rw[J.o];exact h2,Q.o.trans (h3.mono Q.o.size)⟩);go_upto_region 4 with(go_at_call 81;refine Calls.mono a6.o ?_;rintro e D ⟨v2,rfl,a0,a8⟩;obtain⟨a2,k2,rfl⟩:=bR a0);have am:O (iI D (.slice a2 q.length k2) q):=vE a0;have V:O (Below g.heap.size g D):=a8;clear a0 a8 a6 Q c0 c1;have E:O (∀z,Below g.heap.size g z->Below w.heap.size w z):=fun z j=>G.o.trans (j.mono G.o.size);(have ar:q.length<=200:=by rw[J.o,aV];omega);(have HQ:O (c.length+d.length<=200):=by show _<=_;omega);have ae:O (∀x,x∈q->gM D x):=fun x i=>(I.o x (J.o▸i)).z (E.o _ V.o)
 have a7:O ((∀u,u∈bV q->eV u=0)->∀z,Below g.heap.size g z->Calls Tryz.prog 127 #[mU (.slice m c.length ch) (.slice n d.length r)] z fun e C=>e=.returned (.int .i64 (iA (bV c) (bV d)))/\Below g.heap.size g C):=fun ao z j=>
  (Hx c d _ _ z (X.o.kc (Kc.z (E.o z j))) (Z.o.kc (Kc.z (E.o z j))) oM (fun x i=>(I.o x i).z (E.o z j)) (fun x i=>JE (ao _ (cJ.mpr ⟨x,J.o▸i,rfl⟩)))).mono fun _ _ h=>⟨h.1,j.trans (h.2.mono j.size)⟩
 clear X Z I an g0 g1 P hl W;go_wp2_with fail;go_loopw [21] (fun iv wr=>∃k:Nat,k<=q.length/\iv=.int .i64 k/\O (bJ (bV q)=bJ (bV (q.drop k)))/\O (Below D.heap.size D wr)) (fun iv _=>q.length-(intOf iv).toNat);case atStart=>exact⟨0,bL _,rfl,rfl,aG _ _⟩
 case round=>
  obtain⟨k,hk,rfl,K,H⟩:=hrel;have R:O (Below g.heap.size g wr):=V.o.trans (H.o.mono V.o.size);by_cases F:k<q.length
  ·obtain⟨_,_,e9,_,hA⟩:=am.o.kc (Kc.z H.o);cases e9;obtain⟨b,av,rfl,d0,d1,d2,d3,d4⟩:=tS hA k F;have i:=(ae.o _ (mG q k F)).z H.o;(have aj:O (eV (jL q k).u=0->bJ (bV q)=bJ (bV (q.drop (k+1)))):=fun h=>by rw[K.o,tA q k F];exact Yp _ _ h);have ak:O (¬eV (jL q k).u=0->bJ (bV q)=eV (jL q k).u):=fun h=>by rw[K.o,tA q k F];exact Yq _ _ h
   have HC:O (∀z,Below wr.heap.size wr z->Calls Tryz.prog 80 #[mA (jL q k)] z fun e C=>e=.returned (.int .i64 (eV (jL q k).u))/\Below wr.heap.size wr C):=fun z j=>
    (Tx (jL q k).u _ _ _ z (i.z j).p (i.z j).s (i.z j).t i.f i.l).mono fun _ _ h=>⟨h.1,j.trans (h.2.mono j.size)⟩
   obtain⟨a1,n1,f1,a3,n3,f3,a4,n4,f4,e1,e2,e3⟩:=i.forms;clear K i hA;generalize jL q k=x at *;generalize eV x.u=ck at *;obtain⟨⟨⟨ua,un⟩,ps,ax,ts⟩,vp,vs,vt⟩:=x;dsimp only at *;subst e1 e2 e3;have a5:O (Below wr.heap.size wr (wr.alloc (.cells #[.int .i64 ua, .int .i64 un, .slice a1 n1 f1, .slice a3 n3 f3, .slice a4 n4 f4] 42))):=(aG _ _).alloc (aH _) _;by_cases M:ck=0
   ·have T:O _:=aj.o M;subst M;go_wp2_with(go_at_call 80;refine Calls.mono (HC.o _ a5.o) ?_;rintro e z1 ⟨rfl,N⟩);have al:O (Below D.heap.size D z1):=H.o.trans (N.mono H.o.size);go_roundw;(case rel=>exact⟨k+1,F,gN,T.o,al.o⟩);case measure=>exact mI
   have T:O _:=ak.o M;(have au:(ck != 0)=true:=by simpa using M);(have Y:O (dN (bV c) (bV d)=ck):=by show _=_;rw[L.o,T.o,if_pos M]);go_wp2_with(go_at_call 80;refine Calls.mono (HC.o _ a5.o) ?_;rintro e z1 ⟨rfl,N⟩);go_ret;exact⟨by rw[Y.o];rfl,E.o _ (R.o.trans (N.mono R.o.size))⟩
  have aq:decide (k<q.length)=false:=aF F;(have h0:bJ (bV q)=0:=by rw[K.o,bG oM];rfl);(have Y:O (dN (bV c) (bV d)=iA (bV c) (bV d)):=by show _=_;rw[L.o,if_neg (fun e=>e h0)]);have aa:=a7.o (MV.mp h0) wr R.o;have ag:O (Calls Tryz.prog 127 #[mU (.slice m c.length ch) (.slice n d.length r)] wr fun e C=>e=.returned (.int .i64 (iA (bV c) (bV d)))/\Below g.heap.size g C):=aa;obtain⟨c0,c1⟩:=U.o wr R.o;clear a7 aa K h0;go_wp2_with(go_at_call 127;refine Calls.mono ag.o ?_;rintro e z1 ⟨rfl,N⟩);go_ret;exact⟨by rw[Y.o];rfl,E.o _ N⟩
end Go.Proofs.YtfljoehbbncooaaGreat
namespace Go.Proofs.YtfljoehbbncooaaGreat
open Go.RowKit Go.Shelf Go.Maps
attribute [local go_sem] Oper.semAt_some
abbrev RY(c:List Uv):={x:Uv//x∈c}
abbrev Qf{c:List Uv}(x:RY c):Array Value:=#[mA x.1]
theorem aSO(F:Fence)(n:Nat)(h7:F.fn 141)(ac:F.round=none)(hn:1<=n)(l R s b off cap:Nat)(q:List Uv)(hl:q.length<=1000)(m:b<s)(w0:World)(ab:∀x,x∈q->gM w0 x)(J S:List (RY q)->World->Prop)
 (hY:∀j x W,J j W->j.length<q.length->YieldAt F (n-1) Tryz.prog l (Qf x) W fun e f=>
  (e=.returned (.bool true)/\J (j++[x]) f/\Below s W f)\/(e=.returned (.bool false)/\S (j++[x]) f))
 (W:World) (hJ:AbidesFrom W.heap.size J) (a9:s<=W.heap.size) (af:W.cell? ⟨R,0,none⟩=some (.slice (some ⟨b,off,none⟩) q.length cap)) (hc:∀i,i<q.length->TI W b (off+i*5) (jL q i)) (h0:J [] W):
 CallsIn F n Tryz.prog 141 #[.func (.yield l) #[] #[], .pointer (some ⟨R,0,none⟩)] W fun e f=>(∃v,e=.returned v)/\
  ((∃c:List (RY q),c.map (·.1)=q/\J c f)\/(∃j:List (RY q),True/\S j f)):=by
 refine Px Tryz.func141 rfl h7 ?_ ac;simp only[Tryz.ntmps141,List.size_toArray,List.length_cons,List.length_nil,Nat.reduceAdd,Nat.reduceSub,Array.replicate_succ,Array.replicate_zero,List.push_toArray,List.append_toArray,List.nil_append,List.cons_append];gi_wp2
 gi_loopw [7] (fun i wr=>∃(k:Nat)(c:List (RY q)),k<=q.length/\i=.int .i64 k/\O (c.map (·.1)=q.take k)/\J c wr/\Below s W wr)
  (fun i _=>q.length-(intOf i).toNat)
 case atStart=>exact⟨0,[],bL _,rfl,rfl,h0,aG _ _⟩
 case round=>
  obtain⟨k,c,hk,rfl,P,U,d⟩:=hrel;by_cases H:k<q.length
  ·have g:=hc k H;(have a0:O (c.length=k):=by have :=congrArg List.length P.o;rw[aY,dV]at this;show _=_;omega);obtain⟨c0,c1,c2,c3,c4⟩:TI wr b (off+k*5) (jL q k):=⟨(d.cell (p:=⟨b,_,none⟩) m).trans g.1,(d.cell (p:=⟨b,_,none⟩) m).trans g.2.1,(d.cell (p:=⟨b,_,none⟩) m).trans g.2.2.1,(d.cell (p:=⟨b,_,none⟩) m).trans g.2.2.2.1,(d.cell (p:=⟨b,_,none⟩) m).trans g.2.2.2.2⟩;have Q:=mG q k H;obtain⟨u,I,D,w,K,E,C,L,G,e1,e2,e3⟩:=(ab _ Q).forms;have a4:O (q.take (k+1)=q.take k++[jL q k]):=zB q k H;generalize jL q k=x at *;obtain⟨⟨⟨M,N⟩,X,Y,Z⟩,vp,vs,vt⟩:=x;dsimp only at *;subst e1 e2 e3;have T:=hJ c wr (wr.alloc (.cells #[.int .i64 M, .int .i64 N, .slice u I D, .slice w K E, .slice C L G] 42)) none U (JW _ _ _) (fun r e=>by cases e);obtain⟨fn,ag,ad,ae,hy,V⟩:=hY c ⟨⟨⟨⟨M,N⟩,X,Y,Z⟩, .slice u I D, .slice w K E, .slice C L G⟩,Q⟩ _ T (by rw[a0.o];exact H);have aa:Below s W (wr.alloc (.cells #[.int .i64 M, .int .i64 N, .slice u I D, .slice w K E, .slice C L G] 42)):=d.alloc (bP a9 d.size) _;dsimp only[Qf]at hy V;clear T g;gi_wp2;refine V.mono ?_;rintro e W3 (⟨rfl,a6,a8⟩|⟨rfl,a7⟩)
   ·(have a5:O ((c++[(⟨⟨⟨⟨M,N⟩,X,Y,Z⟩, .slice u I D, .slice w K E, .slice C L G⟩,Q⟩:RY q)]).map (·.1)=q.take (k+1)):=by show _=_;rw[dC,P.o,a4.o];rfl);gi_wp2;go_roundw;(case rel=>exact⟨k+1,_,oM,gN,a5.o,a6,aa.trans a8⟩);case measure=>exact mI
   gi_wp2;refine dP (yC rfl _ _ _) rfl ?_;exact⟨⟨_,rfl⟩, .inr ⟨_,trivial,a7⟩⟩
  obtain rfl:k=q.length:=oM;gi_wp2;go_end0;exact⟨⟨_,rfl⟩, .inl ⟨c,by rw[P.o,nK],U⟩⟩
theorem aIY(F:Fence)(n:Nat)(k:F.fn 141)(r:F.round=none)(L:1<=n)(c d:Nat)(ao:Option Addr)(cap:Nat)(q:List Uv)(I:q.length<=1000)(w:World)(N:∀x,x∈q->gM w x)(M:d<=w.heap.size)
 (m:w.heap[c]?=some (.cells #[.slice ao q.length cap] 27)) (u:xU w ao q) (K:∀b e,ao=some ⟨b,e,none⟩->q≠[]->b<d):
 SeqStopsK F n Tryz.prog 141 #[.pointer (some ⟨c,0,none⟩)] (fun x:RY q=>Qf x) (Below d) (fun P=>P.map (·.1)=q) (fun _=>True) q.length w:=fun l J s W f C _ E j=>by
 (have p:W.cell? ⟨c,0,none⟩=some (.slice ao q.length cap):=by rw[cM ((f.block c (aK.mp m).1).trans m)];rfl);by_cases g:q=[]
 ·
  subst g;have Q:W.cell? ⟨c,0,none⟩=some (.slice ao 0 cap):=p;refine Px Tryz.func141 rfl k ?_ r;simp only[Tryz.ntmps141,List.size_toArray,List.length_cons,List.length_nil,Nat.reduceAdd,Nat.reduceSub,Array.replicate_succ,Array.replicate_zero,List.push_toArray,List.append_toArray,List.nil_append,List.cons_append];gi_wp2;gi_loopw [7] (fun i wr=>i=.int .i64 0/\J [] wr) (fun _ _=>0);(case atStart=>exact⟨rfl,j⟩);case round=>obtain⟨rfl,D⟩:=hrel;gi_wp2;go_end0;exact⟨⟨_,rfl⟩, .inl ⟨[],rfl,D⟩⟩
 rcases u with h|⟨b,e,rfl,G⟩
 ·exact absurd h g
 exact aSO F n k r L l c d b e cap q I (K b e rfl g) w N J s E W C (bP M f.size) p (fun i H=>(Kc.z f).up (G i H)) j
structure aZB (c:List Uv) (leftE:Lit->Bool) (xs:List Uv):Prop where
 nd:xs.Nodup
 mem:∀x,x∈xs->x∈c/\leftE (xB x.u.id)=false
 rest:∀x,x∈c->leftE (xB x.u.id)=true\/x∈xs
theorem bAF{c:List Uv}(h:((bV c).map aX.id).Nodup):c.Nodup:=by unfold bV at h;rw[List.map_map]at h;exact(vL.mp h).imp (fun h e=>h (by rw[e]))
theorem aZB.perm{c xs:List Uv}{e:Lit->Bool}(h:aZB c e xs)(f:c.Nodup)(g:∀k,e k=false):xs.Perm c:=
 (sB h.nd f).mpr fun x=>⟨fun d=>(h.mem x d).1,fun d=>by
  rcases h.rest x d with b|b
  ·rw[g]at b;cases b
  exact b⟩
theorem aIJ(x:fK):(xB x).sameKey (xB x)=true:=by simp[xB,Lit.sameKey]
theorem aZB.step{c xs:List Uv}{D:DataW Value}{k:Lit->Bool}(g:CmD c D)(h:aZB c k xs){y:Uv}(i:y∈c)(q:k (xB y.u.id)=true):aZB c (fun z=>k z&& !z.sameKey (xB y.u.id)) (xs++[y]):=by
 (have s:y∉xs:=fun d=>by have :=(h.mem y d).2;rw[q]at this;cases this);refine⟨?_,fun x d=>?_,fun x d=>?_⟩
 ·rw[qH];exact⟨h.nd,by simp,fun a n b p e=>by rw[cP.mp p]at e;exact s (e▸n)⟩
 ·rcases cW.mp d with d|d
  ·exact⟨(h.mem x d).1,by rw[(h.mem x d).2];rfl⟩
  rw[cP.mp d];exact⟨i,by rw[aIJ];simp⟩
 rcases h.rest x d with j|j
 ·by_cases e:x.u.id=y.u.id
  ·right;have :x.u=y.u:=kT g.apart x.u y.u (cJ.mpr ⟨x,d,rfl⟩) (cJ.mpr ⟨y,i,rfl⟩) e;(have w:x=y:=by have f:=g.at_ x d (.lit (.bool true));have m:=g.at_ y i (.lit (.bool true));rw[e,m]at f;injection f with f;injection f with f;obtain⟨F,C,xs,E⟩:=x;obtain⟨J,G,H,I⟩:=y;dsimp only at this;subst this;simp only[Array.mk.injEq,List.cons.injEq,and_true,true_and]at f;obtain⟨rfl,rfl,rfl⟩:=f;rfl);rw[w];simp
  left;have r:xB x.u.id≠xB y.u.id:=fun l=>e (Cj (g.ok x d) (g.ok y i) l);rw[j,sameKey_ne r];rfl
 exact .inr (eX _ j)
theorem aMK(F:Fence)(n:Nat)(h7:F.fn 140)(ar:F.round=none)(hn:1<=n)(l X b:Nat)(c:List Uv)(D:DataW Value)(g:CmD c D)(J Z:List (RY c)->World->Prop)
 (hY:∀j x W,J j W->j.length<c.length->YieldAt F (n-1) Tryz.prog l (Qf x) W fun e i=>
  (e=.returned (.bool true)/\J (j++[x]) i/\KeepsWalks W i)\/(e=.returned (.bool false)/\Z (j++[x]) i))
 (W:World) (M:AbidesFrom W.heap.size J) (hm:W.cell? ⟨X,0,none⟩=some (.map (some b))) (am:W.ownsMap Tryz.prog 39 JQ b c.length D) (h0:J [] W):
 CallsIn F n Tryz.prog 140 #[.func (.yield l) #[] #[], .pointer (some ⟨X,0,none⟩)] W fun e i=>(∃v,e=.returned v)/\
  ((∃d:List (RY c),(d.map (·.1)).Perm c/\J d i)\/(∃j:List (RY c),True/\Z j i)):=by
 refine Px Tryz.func140 rfl h7 ?_ ar;simp only[Tryz.ntmps140,List.size_toArray,List.length_cons,List.length_nil,Nat.reduceAdd,Nat.reduceSub,Array.replicate_succ,Array.replicate_zero,List.push_toArray,List.append_toArray,List.nil_append,List.cons_append]
 gi_wp2_with (first
  |(gi_at_range;refine wpListIn_range_own _ rfl _ 126 rfl 39 42 PY Tryz.underlying126 _ b c.length _ rfl am ?_;intro w0 an af hs0)
  |gi_in)
 go_frame
 gi_loopw [4] (fun _ wr=>∃(s:Lit->Bool)(H:Nat)(d:List (RY c)),wr.ranges Tryz.prog 39 JQ b W.heap.size c.length D s H/\d.length+H<=c.length/\O (aZB c s (d.map (·.1)))/\J d wr)
  (fun _ wr=>wr.rangeLeft b W.heap.size)
 case atStart=>exact⟨_,_,[],an,by rw[g.size];simp,⟨List.nodup_nil,fun x q=>absurd q sI,fun x q=>.inl (by rw[g.has _ (g.ok x q)];exact iH.mpr ⟨x.u,cJ.mpr ⟨x,q,rfl⟩,rfl⟩)⟩,M [] W w0 none h0 af (fun r e=>by cases e)⟩
 case round=>
  obtain⟨s,H,d,P,aD,Y,a5⟩:=hrel
  gi_wp2_with (first
   |(gi_at_next;refine wpListIn_next_ranges _ rfl _ rfl 39 PY JQ (fun v:Value=>v) XY (fun aw Q hk=>⟨aw,rfl⟩) (fun v y p=>(Dh p).1) b W.heap.size c.length _ _ _ rfl P ?_ ?_)
   |gi_in)
  ·intro aC ak;gi_wp2;go_end0;exact⟨⟨_,rfl⟩, .inl ⟨d,Y.o.perm (bAF g.apart) ak,a5⟩⟩
  intro x f Q yd yp w ac ai a7 p N ao al ag au aJ;obtain⟨y,m,rfl⟩:=g.onlY Q (has_true_of_atKey N);(have a6:XY f=mA y:=by have h1:=(Dh p).2;have k:=N (.lit (.bool true));rw[g.at_ y m]at k;have h3:yd=.held (XY f):=(Prod.mk.inj h1).1;rw[h3]at k;injection k with k;exact k.symm);have a9:O (aZB c (fun z=>s z&& !z.sameKey (xB y.u.id)) (d.map (·.1)++[y])):=Y.o.step g m a7;have a0:J d w:=M _ wr w (some W.heap.size) a5 ag (fun r e=>by cases e;exact⟨aH _,P.iter_walk⟩);obtain⟨U,V,C,R,I,E,S,K,G,T,L⟩:=f;(have aa:O (d.length<c.length):=by show _<_;omega);clear N p ai a7 au;have ab:O (m=m):=rfl;generalize aj:xB y.u.id=Q at *;clear aj;obtain⟨⟨⟨ya,yn⟩,ps,ax,ts⟩,vp,vs,vt⟩:=y;simp only[XY,mA,Value.agg.injEq,Array.mk.injEq,List.cons.injEq,Value.int.injEq,and_true,true_and]at a6;obtain⟨rfl,rfl,rfl,rfl,rfl⟩:=a6;have a4:=M d w (w.alloc (.cells #[.int .i64 U, .int .i64 V, .slice C R I, .slice E S K, .slice G T L] 42)) none a0 (JW _ _ _) (fun r e=>by cases e);obtain⟨fn,aL,ay,az,av,hR⟩:=hY d ⟨⟨⟨⟨U,V⟩,ps,ax,ts⟩, .slice C R I, .slice E S K, .slice G T L⟩,m⟩ _ a4 aa.o;have aq:=ao.alloc (.cells #[.int .i64 U, .int .i64 V, .slice C R I, .slice E S K, .slice G T L] 42);dsimp only[Qf]at av hR;clear a0 a4 ab;gi_wp2;refine hR.mono ?_;rintro e W3 (⟨rfl,ad,ah⟩|⟨rfl,ae⟩)
  ·gi_wp2;have a8:=aq.of_walks ah;go_roundw;(case rel=>exact⟨_,ac,_,a8,by simp;omega,by rw[dC];exact a9.o,ad⟩);case measure=>rw[a8.left_eq,P.left_eq];exact al
  gi_wp2;refine dP (yC rfl _ _ _) rfl ?_;exact⟨⟨_,rfl⟩, .inr ⟨_,trivial,ae⟩⟩
theorem aCT(F:Fence)(n:Nat)(m:F.fn 140)(u:F.round=none)(s:1<=n)(d b:Nat)(c:List Uv)(w:World)(q:BN w b c)(e:w.heap[d]?=some (.cells #[.map (some b)] 126)):
 SeqStopsK F n Tryz.prog 140 #[.pointer (some ⟨d,0,none⟩)] (fun x:RY c=>Qf x) KeepsWalks (fun C=>(C.map (·.1)).Perm c) (fun _=>True) c.length w:=fun l J g W f p _ r i=>by
 obtain⟨D,j,k⟩:=q.z f;exact aMK F n m u s l d b c D k J g r W p (by rw[cM ((f.block d (aK.mp e).1).trans e)];rfl) j i
end Go.Proofs.YtfljoehbbncooaaGreat
namespace Go.Proofs
open Go.Shelf
def Tryz.sortU_ren:Go.Shelf.Ren:=⟨fun |6=>170|15=>150|14=>198|28=>184|29=>185|20=>220|21=>221|22=>222|23=>223|24=>224|25=>225|26=>226|27=>227|46=>239|47=>203|48=>204|49=>240|50=>241|57=>256|n=>n,fun |22=>27|24=>42|25=>181|3=>3|39=>155|0=>0|53=>223|55=>225|4=>4|46=>217|45=>216|50=>114|5=>5|9=>9|66=>245|70=>249|76=>267|77=>183|n=>n,fun |n=>n⟩
theorem Tryz.sortU:Go.Proofs.SlLaysF0.n6 Tryz.prog Tryz.sortU_ren:={
 mixed:=by kernel_rfl
 f6:=⟨Tryz.f170.name,by decide,Tryz.func170.trans (congrArg some (by kernel_rfl))⟩
 f14:=⟨Tryz.f198.name,by decide,Tryz.func198.trans (congrArg some (by kernel_rfl))⟩
 f15:=Tryz.func150.trans (congrArg some (by kernel_rfl))
 f20:=⟨Tryz.f220.name,by decide,Tryz.func220.trans (congrArg some (by kernel_rfl))⟩
 f21:=⟨Tryz.f221.name,by decide,Tryz.func221.trans (congrArg some (by kernel_rfl))⟩
 f22:=⟨Tryz.f222.name,by decide,Tryz.func222.trans (congrArg some (by kernel_rfl))⟩
 f23:=⟨Tryz.f223.name,by decide,Tryz.func223.trans (congrArg some (by kernel_rfl))⟩
 f24:=⟨Tryz.f224.name,by decide,Tryz.func224.trans (congrArg some (by kernel_rfl))⟩
 f25:=⟨Tryz.f225.name,by decide,Tryz.func225.trans (congrArg some (by kernel_rfl))⟩
 f26:=⟨Tryz.f226.name,by decide,Tryz.func226.trans (congrArg some (by kernel_rfl))⟩
 f27:=⟨Tryz.f227.name,by decide,Tryz.func227.trans (congrArg some (by kernel_rfl))⟩
 f28:=Tryz.func184.trans (congrArg some (by kernel_rfl))
 f29:=Tryz.func185.trans (congrArg some (by kernel_rfl))
 f46:=⟨Tryz.f239.name,by decide,Tryz.func239.trans (congrArg some (by kernel_rfl))⟩
 f47:=Tryz.func203.trans (congrArg some (by kernel_rfl))
 f48:=Tryz.func204.trans (congrArg some (by kernel_rfl))
 f49:=⟨Tryz.f240.name,by decide,Tryz.func240.trans (congrArg some (by kernel_rfl))⟩
 f50:=⟨Tryz.f241.name,by decide,Tryz.func241.trans (congrArg some (by kernel_rfl))⟩
 f57:=⟨Tryz.f256.name,by decide,Tryz.func256.trans (congrArg some (by kernel_rfl))⟩
 t0:=Tryz.underlying0
 a0:=Tryz.isAgg0
 z0:=Tryz.sizeOf0
 v0:=Tryz.zeroValue0
 t3:=Tryz.underlying3
 a3:=Tryz.isAgg3
 z3:=Tryz.sizeOf3
 v3:=Tryz.zeroValue3
 t4:=Tryz.underlying4
 a4:=Tryz.isAgg4
 z4:=Tryz.sizeOf4
 v4:=Tryz.zeroValue4
 t5:=Tryz.underlying5
 a5:=Tryz.isAgg5
 z5:=Tryz.sizeOf5
 v5:=Tryz.zeroValue5
 t9:=Tryz.underlying9
 a9:=Tryz.isAgg9
 z9:=Tryz.sizeOf9
 v9:=Tryz.zeroValue9
 t22:=Tryz.underlying27
 a22:=Tryz.isAgg27
 z22:=Tryz.sizeOf27
 v22:=Tryz.zeroValue27
 t25:=Tryz.underlying181
 a25:=Tryz.isAgg181
 z25:=Tryz.sizeOf181
 v25:=Tryz.zeroValue181
 t39:=Tryz.underlying155
 a39:=Tryz.isAgg155
 z39:=Tryz.sizeOf155
 v39:=Tryz.zeroValue155
 t45:=Tryz.underlying216
 a45:=Tryz.isAgg216
 z45:=Tryz.sizeOf216
 v45:=Tryz.zeroValue216
 t46:=Tryz.underlying217
 a46:=Tryz.isAgg217
 z46:=Tryz.sizeOf217
 v46:=Tryz.zeroValue217
 t50:=Tryz.underlying114
 a50:=Tryz.isAgg114
 z50:=Tryz.sizeOf114
 v50:=Tryz.zeroValue114
 t53:=Tryz.underlying223
 a53:=Tryz.isAgg223
 z53:=Tryz.sizeOf223
 v53:=Tryz.zeroValue223
 t55:=Tryz.underlying225
 a55:=Tryz.isAgg225
 z55:=Tryz.sizeOf225
 v55:=Tryz.zeroValue225
 t66:=Tryz.underlying245
 a66:=Tryz.isAgg245
 z66:=Tryz.sizeOf245
 v66:=Tryz.zeroValue245
 t70:=Tryz.underlying249
 a70:=Tryz.isAgg249
 z70:=Tryz.sizeOf249
 v70:=Tryz.zeroValue249
 t76:=Tryz.underlying267
 a76:=Tryz.isAgg267
 z76:=Tryz.sizeOf267
 v76:=Tryz.zeroValue267
 t77:=Tryz.underlying183
 a77:=Tryz.isAgg183
 z77:=Tryz.sizeOf183
 v77:=Tryz.zeroValue183}
end Go.Proofs
namespace Go.Proofs.YtfljoehbbncooaaGreat
open Go.RowKit
def MU(w:World)(ao:Option Addr)(xs:List Value):Prop:=xs=[]\/∃b c,ao=some ⟨b,c,none⟩/\∀j u,xs[j]?=some u->w.cell? ⟨b,c+j,none⟩=some u
abbrev oG(x:fK):List Value:=[.int .i64 x.a, .int .i64 x.n]
theorem aTO:(Tryz.prog.info? 39).map (fun i=>(i.zero,i.size,i.bytes))=some (some (.agg #[.int .i64 0, .int .i64 0]),2,16):=kR
theorem aQN(n:Nat)(xs:List Value)(ao:Option Addr)(cap:Nat)(w:World)(p:MU w ao xs)(r:xs.length=n*5)(h1:∀u,u∈xs->u.oneCell'=true)(Q:n<=1048576)(h0:ao=none->n=0):
 Calls Tryz.prog 88 #[.slice ao n cap] w fun e f=>∃i,e=.returned i/\f.ownsRow w.heap.size 42 5 i n xs/\Below w.heap.size w f:=by
 obtain⟨P,I,L,M,N⟩:=jY KS;have S:∀(w:World)(a:Option Addr)(n c:Nat),(binOp .eql 27 (.slice a n c) (.slice none 0 0)).run Tryz.prog w=.ok (.bool a.isNone) w:=fun w a n c=>QG w 27 42 a n c 0 0 Tryz.underlying27;have T:∀w,Sem.run Tryz.prog (underlying 27) w=.ok (TypeDesc.slice 42) w:=run_underlying Tryz.underlying27;have l:O (MU w ao xs):=p;have m:O (xs.length=n*5):=r;have s:O (∀u,u∈xs->u.oneCell'=true):=h1;clear p r h1
 cases ao with
 |none=>
  have K:n=0:=h0 rfl;subst K;have C:O (xs=[]):=dQ (by have :=m.o;omega)
  go_enter Tryz.func88,Tryz.ntmps88
  go_wp2_with fail;go_ret;exact⟨_,rfl,by rw[C.o];exact eS _ _ _ _,aG _ _⟩
 |some a=>
  clear h0;have x:O (∀j u,xs[j]?=some u->w.cell? (a.add j)=some u):=by
   intro j u d;rcases l.o with h|⟨b,R,h,H⟩
   ·rw[h]at d;simp at d
   rw[Option.some.inj h,Addr.add_lit];exact H j u d
  clear l
  go_enter Tryz.func88,Tryz.ntmps88
  go_wp2_with(at_builtin;refine iD _ rfl _ _ 27 rfl w.heap.size 42 P _ 5 88 Tryz.underlying27 I L M N rfl dE _ _ _ rfl (mQ w #[] 0 (aH _) (bL _) sI) a n cap xs rfl ?qc1 ?qc2 ?qc3 ?qc4 ?qc5 ?qc6 ?_);(case qc1=>exact m.o);(case qc2=>intro j u d;exact TM _ (x.o j u d));(case qc3=>exact s.o);(case qc4=>unfold maxLen;omega);(case qc5=>omega);(case qc6=>simp);intro i f g q _;obtain⟨E,F,rfl⟩:=bR g;have G:Below w.heap.size w f:=((aG w.heap.size w).alloc (aH _) _).grown q sI (fun k J=>by
   have :w.heap.size=k:=by simpa[Value.ownBlock]using J
   omega)
  have D:O (f.ownsRow w.heap.size 42 5 (.slice E n F) n xs):=g;clear g q;go_wp2_with fail;go_ret;exact⟨_,rfl,D.o,G⟩
theorem aQM(n:Nat)(xs:List Value)(ao:Option Addr)(cap:Nat)(w:World)(p:MU w ao xs)(r:xs.length=n*2)(h1:∀u,u∈xs->u.oneCell'=true)(Q:n<=1048576)(h0:ao=none->n=0):
 Calls Tryz.prog 142 #[.slice ao n cap] w fun e f=>∃i,e=.returned i/\f.ownsRow w.heap.size 72 2 i n xs/\Below w.heap.size w f:=by
 obtain⟨P,I,L,M,N⟩:=jY yZ;have S:∀(w:World)(a:Option Addr)(n c:Nat),(binOp .eql 30 (.slice a n c) (.slice none 0 0)).run Tryz.prog w=.ok (.bool a.isNone) w:=fun w a n c=>QG w 30 72 a n c 0 0 Tryz.underlying30;have T:∀w,Sem.run Tryz.prog (underlying 30) w=.ok (TypeDesc.slice 72) w:=run_underlying Tryz.underlying30;have l:O (MU w ao xs):=p;have m:O (xs.length=n*2):=r;have s:O (∀u,u∈xs->u.oneCell'=true):=h1;clear p r h1
 cases ao with
 |none=>
  have K:n=0:=h0 rfl;subst K;have C:O (xs=[]):=dQ (by have :=m.o;omega)
  go_enter Tryz.func142,Tryz.ntmps142
  go_wp2_with fail;go_ret;exact⟨_,rfl,by rw[C.o];exact eS _ _ _ _,aG _ _⟩
 |some a=>
  clear h0;have x:O (∀j u,xs[j]?=some u->w.cell? (a.add j)=some u):=by
   intro j u d;rcases l.o with h|⟨b,R,h,H⟩
   ·rw[h]at d;simp at d
   rw[Option.some.inj h,Addr.add_lit];exact H j u d
  clear l
  go_enter Tryz.func142,Tryz.ntmps142
  go_wp2_with(at_builtin;refine iD _ rfl _ _ 30 rfl w.heap.size 72 P _ 2 32 Tryz.underlying30 I L M N rfl dE _ _ _ rfl (mQ w #[] 0 (aH _) (bL _) sI) a n cap xs rfl ?qc1 ?qc2 ?qc3 ?qc4 ?qc5 ?qc6 ?_);(case qc1=>exact m.o);(case qc2=>intro j u d;exact TM _ (x.o j u d));(case qc3=>exact s.o);(case qc4=>unfold maxLen;omega);(case qc5=>omega);(case qc6=>simp);intro i f g q _;obtain⟨E,F,rfl⟩:=bR g;have G:Below w.heap.size w f:=((aG w.heap.size w).alloc (aH _) _).grown q sI (fun k J=>by
   have :w.heap.size=k:=by simpa[Value.ownBlock]using J
   omega)
  have D:O (f.ownsRow w.heap.size 72 2 (.slice E n F) n xs):=g;clear g q;go_wp2_with fail;go_ret;exact⟨_,rfl,D.o,G⟩
theorem Cc(n:Nat)(xs:List Value)(ao:Option Addr)(cap:Nat)(w:World)(p:MU w ao xs)(r:xs.length=n*2)(h1:∀u,u∈xs->u.oneCell'=true)(Q:n<=1048576)(h0:ao=none->n=0):
 Calls Tryz.prog 143 #[.slice ao n cap] w fun e f=>∃i,e=.returned i/\f.ownsRow w.heap.size 39 2 i n xs/\Below w.heap.size w f:=by
 obtain⟨P,I,L,M,N⟩:=jY aTO;have S:∀(w:World)(a:Option Addr)(n c:Nat),(binOp .eql 40 (.slice a n c) (.slice none 0 0)).run Tryz.prog w=.ok (.bool a.isNone) w:=fun w a n c=>QG w 40 39 a n c 0 0 Tryz.underlying40;have T:∀w,Sem.run Tryz.prog (underlying 40) w=.ok (TypeDesc.slice 39) w:=run_underlying Tryz.underlying40;have l:O (MU w ao xs):=p;have m:O (xs.length=n*2):=r;have s:O (∀u,u∈xs->u.oneCell'=true):=h1;clear p r h1
 cases ao with
 |none=>
  have K:n=0:=h0 rfl;subst K;have C:O (xs=[]):=dQ (by have :=m.o;omega)
  go_enter Tryz.func143,Tryz.ntmps143
  go_wp2_with fail;go_ret;exact⟨_,rfl,by rw[C.o];exact eS _ _ _ _,aG _ _⟩
 |some a=>
  clear h0;have x:O (∀j u,xs[j]?=some u->w.cell? (a.add j)=some u):=by
   intro j u d;rcases l.o with h|⟨b,R,h,H⟩
   ·rw[h]at d;simp at d
   rw[Option.some.inj h,Addr.add_lit];exact H j u d
  clear l
  go_enter Tryz.func143,Tryz.ntmps143
  go_wp2_with(at_builtin;refine iD _ rfl _ _ 40 rfl w.heap.size 39 P _ 2 16 Tryz.underlying40 I L M N rfl dE _ _ _ rfl (mQ w #[] 0 (aH _) (bL _) sI) a n cap xs rfl ?qc1 ?qc2 ?qc3 ?qc4 ?qc5 ?qc6 ?_);(case qc1=>exact m.o);(case qc2=>intro j u d;exact TM _ (x.o j u d));(case qc3=>exact s.o);(case qc4=>unfold maxLen;omega);(case qc5=>omega);(case qc6=>simp);intro i f g q _;obtain⟨E,F,rfl⟩:=bR g;have G:Below w.heap.size w f:=((aG w.heap.size w).alloc (aH _) _).grown q sI (fun k J=>by
   have :w.heap.size=k:=by simpa[Value.ownBlock]using J
   omega)
  have D:O (f.ownsRow w.heap.size 39 2 (.slice E n F) n xs):=g;clear g q;go_wp2_with fail;go_ret;exact⟨_,rfl,D.o,G⟩
theorem WW(l:List fK):(l.map oG).flatten.length=l.length*2:=by
 induction l with
 |nil=>rfl
 |cons a r b=>
  rw[jN,qG,aV,b];show 2+r.length*2=(r.length+1)*2;omega
theorem Lw:∀(q:List fK)(i j:Nat),i<q.length->j<2->(q.map oG).flatten[i*2+j]?=(oG (GS q i))[j]?
 |[],i,j,b,_=>absurd b sI
 |x::r,0,j,_,hj=>by
  show(oG x++(r.map oG).flatten)[0*2+j]?=(oG x)[j]?;rw[lB (by show 0*2+j<2;omega)]
  congr 1
  omega
 |x::r,i+1,j,b,hj=>by have h:=Lw r i j (by simpa using b) hj;show(oG x++(r.map oG).flatten)[(i+1)*2+j]?=_;rw[kS (by show 2<=_;omega)];(have e:(i+1)*2+j-(oG x).length=i*2+j:=by show(i+1)*2+j-2=_;omega);rw[e,h];rfl
theorem YB{w:World}{ao:Option Addr}{l:List fK}(h:IP w ao l):MU w ao (l.map oG).flatten:=by
 rcases h with rfl|⟨b,f,rfl,h⟩
 ·exact .inl rfl
 refine .inr ⟨b,f,rfl,fun j u c=>?_⟩;have q:j<l.length*2:=by
  rcases lP j (l.length*2)with d|d
  ·exact d
  rw[dK (by rw[WW];exact d)]at c;cases c
 have g:j/2<l.length:=oM;have e:j=j/2*2+j% 2:=oM;have i:j% 2<2:=oM;rw[e,Lw l _ _ g i]at c;have k:f+j=f+j/2*2+j% 2:=oM;rw[k];obtain⟨n,p⟩:=h _ g;generalize j% 2=m at *
 match m,i with
 |0,_=>rw[<-c];exact n
 |1,_=>rw[<-c];exact p
theorem YE{W:World}{B:Nat}{v:Value}{l:List fK}(h:W.ownsRow B 39 2 v l.length (l.map oG).flatten):uI W v l:=by
 obtain⟨k,cap,rfl,n,m⟩:=xL h;refine⟨k,cap,rfl,⟨n,fun e=>?_⟩,?_⟩
 ·rcases lJ h with⟨b,d⟩|⟨g,s,b⟩
  ·injection b
  injection b with c;rw[e]at c;cases c
 rcases m with d|⟨g,rfl,p⟩
 ·exact .inl (dQ d)
 refine .inr ⟨g,0,rfl,fun i q=>?_⟩;(have f:∀j,j<2->W.cell? ⟨g,0+i*2+j,none⟩=(oG (GS l i))[j]?:=fun j r=>by rw[eP,p (i*2+j) oM,Lw l i j q r]);exact⟨by have :=f 0 oM;simpa using this,by have :=f 1 oM;simpa using this⟩
theorem Hy(q:List Uv)(v:Value)(w:World)(i:iI w v q)(k:∀x,x∈q->gM w x)(m:q.length<=1000):
 Calls Tryz.prog 88 #[v] w fun e d=>∃c,e=.returned c/\mT d w.heap.size c q/\Below w.heap.size w d:=by
 obtain⟨f,cap,rfl,j,g⟩:=i;refine aQN q.length _ f cap w ?_ (FQ q) (aIX k) oM (fun h=>by have :=j.2 h;omega);rcases g with rfl|⟨b,l,rfl,h⟩
 ·exact .inl rfl
 exact .inr ⟨b,l,rfl,YK h⟩
end Go.Proofs.YtfljoehbbncooaaGreat
namespace Go.Proofs.YtfljoehbbncooaaGreat
open Go.Shelf Go.RowKit Go.Lib Go.Sort
abbrev JV(w:World)(B g cap:Nat)(q:List Uv):Prop:=w.ownsRow B 42 5 (.slice (some ⟨g,0,none⟩) q.length cap) q.length (q.map jC).flatten
abbrev UvS(w:World):={x:Uv//gM w x}
theorem bCG(w:World):gM w uvZ:=⟨⟨none,0,rfl,⟨aH _,fun _=>rfl⟩, .inl rfl⟩,⟨none,0,rfl,⟨aH _,fun _=>rfl⟩, .inl rfl⟩,⟨none,0,rfl,⟨aH _,fun _=>rfl⟩, .inl rfl⟩,fun f hf=>absurd hf (by simp[uvZ]),by simp[uvZ]⟩
theorem aNQ(q:List Uv)(t:Nat)(ht:t<q.length*5):∃x,q[t/5]?=some x/\(q.map jC).flatten[t]?=(jC x)[t% 5]?:=by
 have h1:t/5<q.length:=oM;have e:t=t/5*5+t% 5:=oM;refine⟨jL q (t/5),?_,?_⟩
 ·simp[jL,List.getD_eq_getElem?_getD,h1]
 have h:=PW q (t/5) (t% 5) h1 oM;rw[<-e]at h;exact h
theorem bFH{w:World}:∀{q:List Uv},(∀p,p∈q->gM w p)->∃Q:List (UvS w),Q.map (·.1)=q:=by
 intro q
 induction q with
 |nil=>intro _;exact⟨[],rfl⟩
 |cons a r ih=>
  intro h;obtain⟨Q,hQ⟩:=ih (fun p hp=>h p (by simp[hp]));exact⟨⟨a,h a sI⟩::Q,by simp[hQ]⟩
abbrev aAW(w:World):Inhabited (UvS w):=⟨⟨_,bCG w⟩⟩
def Ac{w:World}(x:UvS w):List Value:=jC x.1
def aAV{w:World}(x y:UvS w):Int:=eF x.1.u y.1.u
theorem bIL(w:World):SWO (ltOf (aAV (w:=w)))where
 irrefl x:=by unfold ltOf aAV;simp only[decide_eq_false_iff_not];intro h;exact LJ h rfl
 trans x y z h1 h2:=by unfold ltOf aAV at *;simp only[decide_eq_true_eq]at *;exact CU h1 h2
 ntrans x y z h1 h2:=by
  unfold ltOf aAV at *;simp only[decide_eq_false_iff_not]at *;intro h3;rcases Classical.em (x.1.u.id=y.1.u.id)with e|e
  ·unfold eF at *;rw[e]at h3;exact h2 h3
  exact h2 (CU (OK h1 e) h3)
theorem bFI{w:World}(x:UvS w):∀v∈Ac x,v.oneCell'=true:=by intro v hv;obtain⟨a1,n1,d1,a2,n2,d2,a3,n3,d3,e1,e2,e3⟩:=x.2.forms;simp only[Ac,jC,e1,e2,e3,List.mem_cons,List.not_mem_nil,or_false]at hv;rcases hv with rfl|rfl|rfl|rfl|rfl<;>rfl
theorem aV8{w0 w:World}{g:Nat}(size:Nat):@CmpLays (UvS w0) (aAW w0) Tryz.prog 139 #[] Ac 5 aAV g 0 size w:=by
 letI:Inhabited (UvS w0):=aAW w0
 intro m os dk _ x y;exact aEV x.1 y.1 _ w0 x.2 y.2
theorem aQ3{w0 w:World}{B g cap:Nat}{Q:List (UvS w0)}(h:JV w B g cap (Q.map (·.1))):@HoldsK (UvS w0) (aAW w0) Ac 5 w g 0 Q.toArray:=by
 letI:Inhabited (UvS w0):=aAW w0
 intro t ht;(have ht2:t<Q.length*5:=by simpa using ht);refine⟨?_,by rw[eP];exact World.ownsRow.frozenAt h t⟩;rw[eP];have hc:=World.ownsRow.cellAt h t (by rw[aY];exact ht2);obtain⟨x,hx,hx2⟩:=aNQ (Q.map (·.1)) t (by rw[aY];exact ht2);rw[hc,hx2];have h1:t/5<Q.length:=oM;rw[dW,aM h1]at hx;(have hx3:Q[t/5].1=x:=by simpa using hx);show(jC x)[t% 5]?=some ((flatK Ac 5 Q.toArray)[t]!);rw[get_flatK Ac 5 Q.toArray t (by simpa using ht2)];(have h2:(Q.toArray)[t/5]! =Q[t/5]:=by simp[h1]);rw[h2];show _=some ((jC Q[t/5].1)[t% 5]!);rw[hx3];(have h3:t% 5<(jC x).length:=by show t% 5<5;omega);rw[aM h3,getElem!_pos (jC x) (t% 5) h3]
theorem aNC{w0 w:World}{B g cap n:Nat}{Q:List (UvS w0)}{d:Array (UvS w0)}{os:Array Obj}(h:JV w B g cap (Q.map (·.1)))(hd:d.size=Q.length):
 JV (@sortWorldK (UvS w0) (aAW w0) Ac 5 w g 0 n d os) B g cap (d.toList.map (·.1)):=by
 letI:Inhabited (UvS w0):=aAW w0
 have hg:=World.ownsRow.lt h g rfl;obtain⟨h1,h2⟩:=h;rcases h2 with⟨h2,_⟩|⟨g',cap',cur,hv,hb,hh,hc1,hc2,hc3,hc4⟩
 ·cases h2
 injection hv with e1 _ e3;injection e1 with e1;injection e1 with e1;subst e1 e3;(have hl:(d.toList.map (·.1)).length=Q.length:=by rw[aY,vM,hd]);refine⟨FQ _, .inr ⟨g,cap,putCells id 0 (flatK Ac 5 d) cur,rfl,hb,?_,by rw[hl];simpa using hc1,hc2,by simpa[putCells]using hc3,?_⟩⟩
 ·unfold sortWorldK putRowK putRow mapBlock Sort.ahead grow;show((w.heap.modify g _)++os)[g]?=_;rw[sA (by simpa using hg.2),zY,if_pos rfl,hh];rfl
 apply kP;intro t;rw[jA,fZ,hl];by_cases ht:t<Q.length*5
 ·rw[if_pos ht];have hq:(Q.map (·.1)).length=Q.length:=aY _;(have hcs:t<cur.size:=by rw[hc3];(have :Q.length<=cap:=by simpa using hc1);omega);obtain⟨x,hx,hx2⟩:=aNQ (d.toList.map (·.1)) t (by rw[hl];exact ht);rw[hx2];unfold putCells;rw[QF,jO hcs,nU,if_pos (by rw[size_flatK,hd];omega)];have h4:t/5<d.size:=oM;rw[dW,fZ,jO h4]at hx;(have hx3:d[t/5].1=x:=by simpa using hx);rw[Nat.sub_zero,get_flatK Ac 5 d t (by rw[hd];exact ht),getElem!_pos d _ h4];show some ((jC d[t/5].1)[t% 5]!)=_;rw[hx3];(have h3:t% 5<(jC x).length:=by show t% 5<5;omega);rw[aM h3,getElem!_pos (jC x) (t% 5) h3]
 rw[if_neg ht,dK];rw[FQ,hl];omega
theorem aXZ(w0 w:World)(B g cap:Nat)(q:List Uv)(hown:JV w B g cap q)(hq:∀p,p∈q->gM w0 p)(hn:q.length<4611686018427387904):
 Calls Tryz.prog 170 #[.slice (some ⟨g,0,none⟩) q.length cap, .func (.func 139) #[] #[]] w fun e w'=>e=.returned (.tuple #[])/\∃q',q'.Perm q/\(bV q').Pairwise (fun a b=>¬eF b a<0)/\JV w' B g cap q'/\w.grownBy w' (some g):=by
 obtain⟨Q,rfl⟩:=bFH hq
 letI:Inhabited (UvS w0):=aAW w0
 have eg:∀args w,(callFunc 139 args).run Tryz.prog w=.ok (.enter 139 args) w:=oQ Tryz.func139 kR rfl;(have hsz:Q.toArray.size=Q.length:=by simp);have hcon:=AnyQ.slices_SortFunc Tryz.sortU 5 Tryz.isAgg42 Tryz.sizeOf42 Ac (fun _=>rfl) bFI aAV (bIL w0) 139 #[] g 0 cap Q.toArray w eg (aV8 _) (aQ3 hown) (World.ownsRow.lt hown g rfl).2 (by rw[hsz];simpa using hn);rw[hsz]at hcon;change Calls Tryz.prog 170 _ _ _ at hcon;rw[aY];refine hcon.mono ?_;rintro e w' ⟨rfl,d',n,os,hp,hs,rfl⟩;obtain⟨p1,p2,p3⟩:=hp;(have hds:d'.size=Q.length:=by rw[p1];simp);(have e1:d'.extract 0 Q.length=d':=by rw[<-hds];simp);(have e2:Q.toArray.extract 0 Q.length=Q.toArray:=by simp);rw[e1,e2]at p3;refine⟨rfl,d'.toList.map (·.1),?_,?_,aNC hown hds,rfl,rfl,rfl,JP _ _ _ _ _ _ _,fun k hk hne=>zA _ _ _ _ _ _ _ k hk (fun e=>hne (by rw[e]))⟩
 ·exact p3.map _
 rw[wN];intro i j hi hj hij;(have hi2:i<d'.size:=by simpa[bV]using hi);(have hj2:j<d'.size:=by simpa[bV]using hj);have :=hs i j (bL _) hij oM;rw[getElem!_pos d' j hj2,getElem!_pos d' i hi2]at this;unfold ltOf aAV at this;simp only[decide_eq_false_iff_not]at this;simpa[bV]using this
end Go.Proofs.YtfljoehbbncooaaGreat
namespace Go.Proofs.YtfljoehbbncooaaGreat
open Go.RowKit
end Go.Proofs.YtfljoehbbncooaaGreat

namespace Go.Proofs.YtfljoehbbncooaaGreat
open Go.RowKit



structure Bq (B:Nat) (w:World) (x:Uv):Prop where
 p:w.ownsRow B 39 2 x.p x.u.ps.length (x.u.ps.map oG).flatten
 s:pQ B w x.s x.u.says
 t:w.ownsRow B 39 2 x.t x.u.ts.length (x.u.ts.map oG).flatten
 f:∀f,f∈x.u.says->gD f
 l:x.u.ps.length<=9223372036854775807/\x.u.says.length<=9223372036854775807/\x.u.ts.length<=9223372036854775807
theorem aTP(l:List fK):∀u,u∈(l.map oG).flatten->u.oneCell'=true:=by intro u b;obtain⟨c,d,b⟩:=zT.mp b;obtain⟨p,e,rfl⟩:=cJ.mp d;simp only[oG,List.mem_cons,List.not_mem_nil,or_false]at b;rcases b with rfl|rfl<;>rfl
theorem iN(w:World)(b o:Nat)(v:Value):w.grownBy (w.setCell ⟨b,o,none⟩ v) (some b):=⟨rfl,rfl,rfl,by simp[World.setCell],fun k _ c=>iG _ _ _ k (fun e=>c (by rw[e]))⟩
theorem SI{B:Nat}{w w':World}{v:Value}{s:List aQ}(h:pQ B w v s)(b:Below w.heap.size w w'):pQ B w' v s:=by obtain⟨q,c,d,e⟩:=h;exact⟨q,c,bO d b,fun p f=>bO (e p f) b⟩
theorem Ib{B Z:Nat}{w w':World}{v:Value}{s:List aQ}(h:pQ B w v s)(hg:w.grownBy w' (some Z))(g:Z<B):pQ B w' v s:=by obtain⟨q,f,b,c⟩:=h;exact⟨q,f,b.kept hg (.inr (fun e=>by have :=(b.lt _ e).1;omega)),fun p d=>(c p d).kept hg (.inr (fun e=>by have :=((c p d).lt _ e).1;omega))⟩
theorem aEC{B b:Nat}{w:World}{v:Value}{s:List aQ}(h:pQ B w v s)(c:b<=B):pQ b w v s:=by obtain⟨q,d,e,f⟩:=h;exact⟨q,d,gP e c,fun p g=>gP (f p g) c⟩
theorem bAR{B:Nat}{w:World}{v:Value}{s:List aQ}(h:pQ B w v s)(g:∀f,f∈s->gD f):bS w v s:=by obtain⟨q,b,d,e⟩:=h;have :=xC (w:=w) d (fun p c=>⟨tY (e p c),g _ (b▸nW c)⟩) (aG _ _);rw[b]at this;exact this
theorem Bq.ok{B:Nat}{w:World}{x:Uv}(h:Bq B w x):gM w x:=⟨YE h.p,bAR h.s h.f,YE h.t,h.f,h.l⟩
theorem Bq.z{B:Nat}{w w':World}{x:Uv}(h:Bq B w x)(b:Below w.heap.size w w'):Bq B w' x:=⟨bO h.p b,SI h.s b,bO h.t b,h.f,h.l⟩
theorem Bq.grown{B Z:Nat}{w w':World}{x:Uv}(h:Bq B w x)(hg:w.grownBy w' (some Z))(b:Z<B):Bq B w' x:=
 ⟨h.p.kept hg (.inr (fun e=>by have :=(h.p.lt _ e).1;omega)),Ib h.s hg b,h.t.kept hg (.inr (fun e=>by have :=(h.t.lt _ e).1;omega)),h.f,h.l⟩
theorem Bq.le{B c:Nat}{w:World}{x:Uv}(h:Bq B w x)(b:c<=B):Bq c w x:=by obtain⟨q,d,e,g⟩:=h.s;exact⟨gP h.p b,⟨q,d,gP e b,fun p i=>gP (g p i) b⟩,gP h.t b,h.f,h.l⟩
def aHN(X c:Nat)(f g:Int)(k:Option Addr)(m:Nat)(e:Option Addr)(ns sc:Nat)(l:Option Addr)(n:Nat)(ps ts:List fK)(p:Nat)(b:Value)(d:World):Prop:=
 match p with
 |24=>b=.pointer (some ⟨X,0,none⟩)
 |25=>b=.agg #[.int .i64 f, .int .i64 g]
 |26=>b=.pointer (some ⟨X,2,none⟩)
 |27=>b=.slice k ps.length m
 |28=>d.ownsRow c 39 2 b ps.length (ps.map oG).flatten
 |29=>b=.slice e ns sc
 |30=>b=.pointer (some ⟨X,4,none⟩)
 |31=>b=.slice l ts.length n
 |32=>d.ownsRow c 39 2 b ts.length (ts.map oG).flatten
 |33=>∃i j,b=.agg #[.int .i64 f, .int .i64 g,i, .slice e ns sc,j]/\d.ownsRow c 39 2 i ps.length (ps.map oG).flatten/\d.ownsRow c 39 2 j ts.length (ts.map oG).flatten
 |_=>True
theorem aLM(X c:Nat)(l m:Int)(e:Option Addr)(g:Nat)(j:Option Addr)(ns sc:Nat)(f:Option Addr)(i:Nat)(ps ts:List fK)(k:Nat)(n:Value)(W d:World)(b:Below W.heap.size W d)(h:aHN X c l m e g j ns sc f i ps ts k n W):aHN X c l m e g j ns sc f i ps ts k n d:=by revert h;unfold aHN;split<;>(intro h;first|exact h|exact(bO h b)|exact(h.elim fun p h=>h.elim fun q h=>⟨p,q,h.1,bO h.2.1 b,bO h.2.2 b⟩))
theorem aZD(x:Uv)(w:World)(X:gM w x)(hl:x.u.ps.length<=6/\x.u.says.length<=6/\x.u.ts.length<=6)(hf:∀f,f∈x.u.says->f.args.length<=3):
 Calls Tryz.prog 89 #[mA x] w fun e N=>∃x':Uv,e=.returned (mA x')/\x'.u=x.u/\Bq w.heap.size N x'/\Below w.heap.size w N:=by
 have aw:O (gM w x):=X;have aS:O (∀f,f∈x.u.says->f.args.length<=3):=hf;have HL:O (x.u.ps.length<=9223372036854775807/\x.u.says.length<=9223372036854775807/\x.u.ts.length<=9223372036854775807):=X.l;have bo:O (∀f,f∈x.u.says->gD f):=X.f;obtain⟨P,I,e1,_⟩:=X.p;obtain⟨V,M,e2,aD,b3⟩:=X.s;obtain⟨Q,J,e3,_⟩:=X.t;obtain⟨⟨⟨r,D⟩,n,d,C⟩,vp,vs,vt⟩:=x;dsimp only at *;subst e1 e2 e3;obtain⟨q,ak,bc,bd⟩:=aLQ b3 X.f;have au:O (q.map (·.1)=d):=ak;have af:O (∀p,p∈q->AK w p):=bc;have b0:O (MU w V (q.map eO).flatten):=by
  rcases bd with h|h
  ·left;have :q=[]:=dQ (by have :=congrArg List.length ak;rw[aY,h]at this;exact this);rw[this];rfl
  exact .inr h
 (have ag:O (q.length=d.length):=by have :=congrArg List.length ak;rw[aY]at this;exact this);have bm:O (V=none->M=0):=aD.2;have bn:O (d.length<=M):=aD.1;clear X hf b3 aD ak bc bd;have a4:O (Below w.heap.size w ((w.alloc (.cells #[.int .i64 r, .int .i64 D, .slice P n.length I, .slice V d.length M, .slice Q C.length J] 42)).alloc (.cells #[.int .i64 0, .int .i64 0, .slice none 0 0, .slice none 0 0, .slice none 0 0] 42))):=((aG _ _).alloc (aH _) _).alloc (by simp) _;(have b5:((w.alloc (.cells #[.int .i64 r, .int .i64 D, .slice P n.length I, .slice V d.length M, .slice Q C.length J] 42)).alloc (.cells #[.int .i64 0, .int .i64 0, .slice none 0 0, .slice none 0 0, .slice none 0 0] 42)).heap[w.heap.size]?=some (.cells #[.int .i64 r, .int .i64 D, .slice P n.length I, .slice V d.length M, .slice Q C.length J] 42):=by rw[MQ _ _ _ (by simp)];exact iC w _);(have b6:((w.alloc (.cells #[.int .i64 r, .int .i64 D, .slice P n.length I, .slice V d.length M, .slice Q C.length J] 42)).alloc (.cells #[.int .i64 0, .int .i64 0, .slice none 0 0, .slice none 0 0, .slice none 0 0] 42)).heap[w.heap.size+1]?=some (.cells #[.int .i64 0, .int .i64 0, .slice none 0 0, .slice none 0 0, .slice none 0 0] 42):=by have :=iC (w.alloc (.cells #[.int .i64 r, .int .i64 D, .slice P n.length I, .slice V d.length M, .slice Q C.length J] 42)) (.cells #[.int .i64 0, .int .i64 0, .slice none 0 0, .slice none 0 0, .slice none 0 0] 42);rw[qB]at this;exact this);have ai:O (((w.alloc (.cells #[.int .i64 r, .int .i64 D, .slice P n.length I, .slice V d.length M, .slice Q C.length J] 42)).alloc (.cells #[.int .i64 0, .int .i64 0, .slice none 0 0, .slice none 0 0, .slice none 0 0] 42)).heap[w.heap.size]?=some (.cells #[.int .i64 r, .int .i64 D, .slice P n.length I, .slice V d.length M, .slice Q C.length J] 42)):=b5;have ay:O (((w.alloc (.cells #[.int .i64 r, .int .i64 D, .slice P n.length I, .slice V d.length M, .slice Q C.length J] 42)).alloc (.cells #[.int .i64 0, .int .i64 0, .slice none 0 0, .slice none 0 0, .slice none 0 0] 42)).heap[w.heap.size+1]?=some (.cells #[.int .i64 0, .int .i64 0, .slice none 0 0, .slice none 0 0, .slice none 0 0] 42)):=b6;(have b1:O (((w.alloc (.cells #[.int .i64 r, .int .i64 D, .slice P n.length I, .slice V d.length M, .slice Q C.length J] 42)).alloc (.cells #[.int .i64 0, .int .i64 0, .slice none 0 0, .slice none 0 0, .slice none 0 0] 42)).heap.size=w.heap.size+2):=by show _=_;simp);clear b5 b6
 go_enter Tryz.func89,Tryz.ntmps89
 go_upto_region 1 with fail;generalize ((w.alloc (.cells #[.int .i64 r, .int .i64 D, .slice P n.length I, .slice V d.length M, .slice Q C.length J] 42)).alloc (.cells #[.int .i64 0, .int .i64 0, .slice none 0 0, .slice none 0 0, .slice none 0 0] 42))=L at *;have c3:L.cell? ⟨w.heap.size,3,none⟩=some (.slice V d.length M):=cH ai.o
 have aO:O (Calls Tryz.prog 142 #[.slice V d.length M] L fun e N=>∃K,e=.returned K/\N.ownsRow L.heap.size 72 2 K d.length (q.map eO).flatten/\Below L.heap.size L N):=
  aQM d.length _ V M L (by
   rcases b0.o with h|⟨b,bU,h,hc⟩
   ·exact .inl h
   ·exact .inr ⟨b,bU,h,fun j u hj=>aB a4.o (hc j u hj)⟩) (by rw[rW,ag.o]) (fun u hu=>by
   obtain⟨c,hc,hu⟩:=zT.mp hu;obtain⟨p,hp,rfl⟩:=cJ.mp hc;obtain⟨a9,c9,bT⟩:=WR (af.o p hp);simp[eO,bT]at hu
   rcases hu with rfl|rfl<;>rfl) (by omega) (fun h=>by have Y:=bm.o h;have W:=bn.o;omega)
 go_upto_region 2 with(go_at_call 142;refine Calls.mono aO.o ?_;rintro e w2 ⟨v2,rfl,aL,b8⟩;obtain⟨F,E,rfl⟩:=bR aL);clear c3 aO b0;go_wp2_with fail;go_loopw [10] (fun i wr=>∃(m:Nat)(R:List Fv),m<=d.length/\i=.int .i64 m/\R.length=d.length/\wr.ownsRow L.heap.size 72 2 (.slice F d.length E) d.length (R.map eO).flatten/\R.map (·.1)=q.map (·.1)/\(∀j,m<=j->R[j]?=q[j]?)/\(∀j p,j<m->R[j]?=some p->wr.ownsRow L.heap.size 3 1 p.2 p.1.args.length (p.1.args.map (Value.int .i64)))/\Below L.heap.size L wr) (fun i _=>d.length-(intOf i).toNat);(case atStart=>exact⟨0,q,bL _,rfl,ag.o,aL,rfl,fun _ _=>rfl,fun j p hj=>absurd hj (by omega),b8⟩);clear aL b8;obtain⟨m,R,hm,rfl,b4,a0,ba,be,b7,S⟩:=hrel;have a5:O (R.length=d.length):=b4;have ae:O (R.map (·.1)=q.map (·.1)):=ba;have ah:O (∀j,m<=j->R[j]?=q[j]?):=be;have ac:O (∀j p,j<m->R[j]?=some p->wr.ownsRow L.heap.size 3 1 p.2 p.1.args.length (p.1.args.map (Value.int .i64))):=b7;clear ba be b7 b4;by_cases aj:m<d.length
 ·obtain⟨x,X,al⟩:∃x,q[m]?=some x/\x∈q:=⟨q[m]'(by rw[ag.o];exact aj),aM _,fG _⟩;have aC:R[m]?=some x:=(ah.o m (aH _)).trans X;obtain⟨g,rfl⟩:∃g,F=some ⟨g,0,none⟩:=by
   rcases lJ a0 with⟨_,h0⟩|⟨g,c,hv⟩
   ·omega
   injection hv with hv;exact⟨g,hv⟩
  (have a0:wS wr L.heap.size g E R:=by unfold wS;rw[a5.o];exact a0);obtain⟨c0,c1⟩:=a0.cell aC;obtain⟨xa,xc,aN⟩:=WR (af.o x al);have aT:O (eT w x.2 x.1.args/\x.1.args.length<=1048576):=⟨(af.o x al).1,bP (aS.o _ (au.o▸nW al)) (by decide)⟩;have b2:O (x.2=.slice xa x.1.args.length xc):=aN;rw[aN]at c1;have av:O (R[m]?=some x/\q[m]?=some x):=⟨aC,X⟩;clear aC X al aN;have f1:=a0.frozen (m*2+1);have bl:O (Below w.heap.size w wr):=a4.o.trans (S.mono a4.o.size);have aR:O (Calls Tryz.prog 107 #[.slice xa x.1.args.length xc] wr fun e N=>∃K,e=.returned K/\N.ownsRow wr.heap.size 3 1 K x.1.args.length (x.1.args.map (Value.int .i64))/\Below wr.heap.size wr N):=SD x.1.args _ wr (by have h3:=bC aT.o.1 bl.o;rw[b2.o]at h3;exact h3) aT.o.2;go_wp2_with fail;refine Calls.mono aR.o ?_;rintro e w7 ⟨v7,rfl,aJ,aa⟩;obtain⟨a7,c7,rfl⟩:=bR aJ;have a6:=a0.keep (aa.block g a0.lt.2);have bb:=a6.put1 av.o.1 (.slice a7 x.1.args.length c7);obtain⟨d0,I⟩:=a6.cell av.o.1;rw[b2.o]at I;have ci:=a6.frozen (m*2+1);have cs:=a0.lt;have bN:Below L.heap.size L (w7.setCell ⟨g,m*2+1,none⟩ (.slice a7 x.1.args.length c7)):=(S.trans (aa.mono S.size)).grown (iN _ _ _ _) (bP S.size aa.size) (fun k e=>by cases e;omega);have bj:O (∀j p,j<m+1->(R.set m (x.1,Value.slice a7 x.1.args.length c7))[j]?=some p->(w7.setCell ⟨g,m*2+1,none⟩ (.slice a7 x.1.args.length c7)).ownsRow L.heap.size 3 1 p.2 p.1.args.length (p.1.args.map (Value.int .i64))):=by
   intro j p hj ab;rw[fU]at ab;by_cases b9:m=j
   ·rw[if_pos b9,if_pos (by rw[a5.o];omega)]at ab;(obtain rfl:(x.1,Value.slice a7 x.1.args.length c7)=p:=by simpa using ab);exact Jd (gP aJ S.size) a6 _ _
   rw[if_neg b9]at ab;exact Jd (bO (ac.o j p (by omega) ab) aa) a6 _ _
  have bq:O ((R.set m (x.1,Value.slice a7 x.1.args.length c7)).map (·.1)=q.map (·.1)):=by
   show _=_;rw[yB,ae.o];apply kP;intro t;rw[fU];split
   ·rename_i ht;subst ht;rw[if_pos (by rw[aY,ag.o];exact aj),dW,av.o.2];rfl
   rfl
  (have bt:O (∀j,m+1<=j->(R.set m (x.1,Value.slice a7 x.1.args.length c7))[j]?=q[j]?):=fun j hj=>by rw[fU,if_neg (by omega)];exact ah.o j (by omega));(have bs:O ((w7.setCell ⟨g,m*2+1,none⟩ (.slice a7 x.1.args.length c7)).ownsRow L.heap.size 72 2 (.slice (some ⟨g,0,none⟩) d.length E) d.length ((R.set m (x.1,Value.slice a7 x.1.args.length c7)).map eO).flatten):=by have h9:=bb;unfold wS at h9;rw[iS,a5.o]at h9;exact h9);clear a0 aJ aa a6 S ac ae ah c0 c1 f1 bb aR;go_wp2_with fail;go_roundw;(case rel=>exact⟨m+1,R.set m (x.1,Value.slice a7 x.1.args.length c7),aj,by go_num,by rw[iS];exact a5.o,bs.o,bq.o,bt.o,bj.o,bN⟩);case measure=>simp[intOf];omega
 have cr:decide (m<d.length)=false:=aF aj;(obtain rfl:m=d.length:=by omega);have bp:O (pQ L.heap.size wr (.slice F d.length E) d):=⟨R,ae.o.trans au.o,by rw[a5.o];exact a0,fun p hp=>by
  obtain⟨j,hj⟩:=FW.mp hp
  exact ac.o j p (by have :=(gH.mp hj).1;rw[a5.o]at this;exact this) hj⟩
 have HB:O (Below w.heap.size w wr):=a4.o.trans (S.mono a4.o.size);(have cu:w.heap.size+2<=wr.heap.size:=by have Y:=S.size;have W:=b1.o;omega);(have ct:w.heap.size+2<=L.heap.size:=by have W:=b1.o;omega);(have ax:O (∀z,Below wr.heap.size wr z->z.cell? ⟨w.heap.size,0,none⟩=some (.int .i64 r)/\z.cell? ⟨w.heap.size,1,none⟩=some (.int .i64 D)/\z.cell? ⟨w.heap.size,2,none⟩=some (.slice P n.length I)/\z.cell? ⟨w.heap.size,3,none⟩=some (.slice V d.length M)/\z.cell? ⟨w.heap.size,4,none⟩=some (.slice Q C.length J)):=fun z hz=>by have Y:=S.trans (hz.mono S.size);have W:=(Y.block _ (aK.1 ai.o).1).trans ai.o;exact⟨cH W,cH W,cH W,cH W,cH W⟩);(have bw:O (∀z,Below wr.heap.size wr z->z.heap[w.heap.size+1]?=some (.cells #[.int .i64 0, .int .i64 0, .slice none 0 0, .slice none 0 0, .slice none 0 0] 42)):=fun z hz=>by have Y:=S.trans (hz.mono S.size);exact(Y.block _ (aK.1 ay.o).1).trans ay.o);((have HP:O (∀z,Below wr.heap.size wr z->Calls Tryz.prog 143 #[.slice P n.length I] z fun e N=>∃K,e=.returned K/\N.ownsRow wr.heap.size 39 2 K n.length (n.map oG).flatten/\Below z.heap.size z N):=fun z hz=>by obtain⟨_,_,e9,hc,hA⟩:=iO aw.o.p (HB.o.trans (hz.mono HB.o.size));cases e9;refine(Cc n.length _ P I z (YB hA) (WW n) (aTP n) (by omega) (fun h=>by have Y:=hc.2 h;have W:=hc.1;omega)).mono ?_;rintro e N ⟨K,Y,W,h3⟩;exact⟨K,Y,gP W hz.size,h3⟩);have HT:O (∀z,Below wr.heap.size wr z->Calls Tryz.prog 143 #[.slice Q C.length J] z fun e N=>∃K,e=.returned K/\N.ownsRow wr.heap.size 39 2 K C.length (C.map oG).flatten/\Below z.heap.size z N):=fun z hz=>by obtain⟨_,_,e9,hc,hA⟩:=iO aw.o.t (HB.o.trans (hz.mono HB.o.size));cases e9;refine(Cc C.length _ Q J z (YB hA) (WW C) (aTP C) (by omega) (fun h=>by have Y:=hc.2 h;have W:=hc.1;omega)).mono ?_;rintro e N ⟨K,Y,W,h3⟩;exact⟨K,Y,gP W hz.size,h3⟩);clear ac ah ae au af aw ai ay aS a0 S a4;go_upto_region 7 with fail;refine XL (aHN w.heap.size wr.heap.size r D P I F d.length E Q J n C) _ rfl (by kernel_rfl) (by kernel_rfl) (by kernel_rfl) (aLM _ _ _ _ _ _ _ _ _ _ _ _ _) ?hop ?hlast
 case hop=>
  refine oC (fun a y h=>by have e1:a.eval (.tmp 1)=(.pointer (some ⟨w.heap.size,0,none⟩):Value):=h.old 1;exact iQ (.pointer (some ⟨w.heap.size,0,none⟩))) ?_;refine oC (fun a y h=>by have cj:a.eval (.tmp 24)=(.pointer (some ⟨w.heap.size,0,none⟩):Value):=h.of 24;obtain⟨c0,c1,c2,c3,c4⟩:=ax.o y h.z;exact iQ (.agg #[.int .i64 r, .int .i64 D])) ?_;refine oC (fun a y h=>by have e1:a.eval (.tmp 1)=(.pointer (some ⟨w.heap.size,0,none⟩):Value):=h.old 1;exact iQ (.pointer (some ⟨w.heap.size,2,none⟩))) ?_;refine oC (fun a y h=>by have cm:a.eval (.tmp 26)=(.pointer (some ⟨w.heap.size,2,none⟩):Value):=h.of 26;obtain⟨c0,c1,c2,c3,c4⟩:=ax.o y h.z;exact iQ (.slice P n.length I)) ?_;refine oC (fun a y h=>?_) ?_
  ·have cn:a.eval (.tmp 27)=(.slice P n.length I:Value):=h.of 27;refine fI (f:=143) (args:=#[.slice P n.length I]) (bI rfl) ?_ ?_
   ·have ec:=kZ a;have ef:=AO a;generalize a.eval=ev at *;clear h;go_simp
   refine(HP.o y h.z).mono ?_;rintro e N ⟨K,rfl,ho,S⟩;exact⟨K,rfl,fun t ht=>by cases ht;exact ho,S⟩
  refine oC (fun a y h=>by have e3:a.eval (.tmp 3)=(.slice F d.length E:Value):=h.old 3;exact iQ (.slice F d.length E)) ?_;refine oC (fun a y h=>by have e1:a.eval (.tmp 1)=(.pointer (some ⟨w.heap.size,0,none⟩):Value):=h.old 1;exact iQ (.pointer (some ⟨w.heap.size,4,none⟩))) ?_;refine oC (fun a y h=>by have cp:a.eval (.tmp 30)=(.pointer (some ⟨w.heap.size,4,none⟩):Value):=h.of 30;obtain⟨c0,c1,c2,c3,c4⟩:=ax.o y h.z;exact iQ (.slice Q C.length J)) ?_;refine oC (fun a y h=>?_) ?_
  ·have cq:a.eval (.tmp 31)=(.slice Q C.length J:Value):=h.of 31;refine fI (f:=143) (args:=#[.slice Q C.length J]) (bI rfl) ?_ ?_
   ·have ec:=kZ a;have ef:=AO a;generalize a.eval=ev at *;clear h;go_simp
   refine(HT.o y h.z).mono ?_;rintro e N ⟨K,rfl,ho,S⟩;exact⟨K,rfl,fun t ht=>by cases ht;exact ho,S⟩
  refine oC (fun a y h=>by have ck:a.eval (.tmp 25)=(.agg #[.int .i64 r, .int .i64 D]:Value):=h.of 25;have bh:y.ownsRow wr.heap.size 39 2 (a.eval (.tmp 28)) n.length (n.map oG).flatten:=h.of 28;have co:a.eval (.tmp 29)=(.slice F d.length E:Value):=h.of 29;have bi:y.ownsRow wr.heap.size 39 2 (a.eval (.tmp 32)) C.length (C.map oG).flatten:=h.of 32;obtain⟨H,G,bW⟩:=bR bh;obtain⟨U,T,bZ⟩:=bR bi;refine dG (v:=.agg #[.int .i64 r, .int .i64 D, .slice H n.length G, .slice F d.length E, .slice U C.length T]) (w':=y) (bI rfl) ?_ (fun t ht=>by cases ht;exact⟨_,_,rfl,bW▸bh,bZ▸bi⟩) (aG _ _);have ec:=kZ a;generalize a.eval=ev at *;clear h;go_simp) ?_;exact OI.nil
 case hlast=>rintro⟨tm,df⟩ y Z;obtain⟨v1,v2,bz,o1,o2⟩:∃v1 v2,(Act.eval ⟨tm,df⟩ (.tmp 33))=.agg #[.int .i64 r, .int .i64 D,v1, .slice F d.length E,v2]/\y.ownsRow wr.heap.size 39 2 v1 n.length (n.map oG).flatten/\y.ownsRow wr.heap.size 39 2 v2 C.length (C.map oG).flatten:=Z.all 9 _ 33 (by decide) rfl rfl;have e2:Act.eval ⟨tm,df⟩ (.tmp 2)=.pointer (some ⟨w.heap.size+1,0,none⟩):=Z.still 2 (by decide);obtain⟨H,G,rfl⟩:=bR o1;obtain⟨U,T,rfl⟩:=bR o2;have am:=(bw.o y Z.z);(have cc:(y).cell? ⟨w.heap.size+1,0,none⟩=some (.int .i64 0):=cH am);have c5:=bM am 0;(have an:((y).setCell ⟨w.heap.size+1,0,none⟩ (.int .i64 r)).heap[w.heap.size+1]?=some (.cells #[.int .i64 r, .int .i64 0, .slice none 0 0, .slice none 0 0, .slice none 0 0] 42):=by rw[bD am];rfl);(have cd:((y).setCell ⟨w.heap.size+1,0,none⟩ (.int .i64 r)).cell? ⟨w.heap.size+1,1,none⟩=some (.int .i64 0):=cH an);have c6:=bM an 1;(have ao:(((y).setCell ⟨w.heap.size+1,0,none⟩ (.int .i64 r)).setCell ⟨w.heap.size+1,1,none⟩ (.int .i64 D)).heap[w.heap.size+1]?=some (.cells #[.int .i64 r, .int .i64 D, .slice none 0 0, .slice none 0 0, .slice none 0 0] 42):=by rw[bD an];rfl);(have ce:(((y).setCell ⟨w.heap.size+1,0,none⟩ (.int .i64 r)).setCell ⟨w.heap.size+1,1,none⟩ (.int .i64 D)).cell? ⟨w.heap.size+1,2,none⟩=some (.slice none 0 0):=cH ao);have c8:=bM ao 2;(have aq:((((y).setCell ⟨w.heap.size+1,0,none⟩ (.int .i64 r)).setCell ⟨w.heap.size+1,1,none⟩ (.int .i64 D)).setCell ⟨w.heap.size+1,2,none⟩ (.slice H n.length G)).heap[w.heap.size+1]?=some (.cells #[.int .i64 r, .int .i64 D, .slice H n.length G, .slice none 0 0, .slice none 0 0] 42):=by rw[bD ao];rfl);(have cf:((((y).setCell ⟨w.heap.size+1,0,none⟩ (.int .i64 r)).setCell ⟨w.heap.size+1,1,none⟩ (.int .i64 D)).setCell ⟨w.heap.size+1,2,none⟩ (.slice H n.length G)).cell? ⟨w.heap.size+1,3,none⟩=some (.slice none 0 0):=cH aq);have ca:=bM aq 3;(have ar:(((((y).setCell ⟨w.heap.size+1,0,none⟩ (.int .i64 r)).setCell ⟨w.heap.size+1,1,none⟩ (.int .i64 D)).setCell ⟨w.heap.size+1,2,none⟩ (.slice H n.length G)).setCell ⟨w.heap.size+1,3,none⟩ (.slice F d.length E)).heap[w.heap.size+1]?=some (.cells #[.int .i64 r, .int .i64 D, .slice H n.length G, .slice F d.length E, .slice none 0 0] 42):=by rw[bD aq];rfl);(have cg:(((((y).setCell ⟨w.heap.size+1,0,none⟩ (.int .i64 r)).setCell ⟨w.heap.size+1,1,none⟩ (.int .i64 D)).setCell ⟨w.heap.size+1,2,none⟩ (.slice H n.length G)).setCell ⟨w.heap.size+1,3,none⟩ (.slice F d.length E)).cell? ⟨w.heap.size+1,4,none⟩=some (.slice none 0 0):=cH ar);have cb:=bM ar 4;(have a8:((((((y).setCell ⟨w.heap.size+1,0,none⟩ (.int .i64 r)).setCell ⟨w.heap.size+1,1,none⟩ (.int .i64 D)).setCell ⟨w.heap.size+1,2,none⟩ (.slice H n.length G)).setCell ⟨w.heap.size+1,3,none⟩ (.slice F d.length E)).setCell ⟨w.heap.size+1,4,none⟩ (.slice U C.length T)).heap[w.heap.size+1]?=some (.cells #[.int .i64 r, .int .i64 D, .slice H n.length G, .slice F d.length E, .slice U C.length T] 42):=by rw[bD ar];rfl);refine aE5 (w':=(((((y).setCell ⟨w.heap.size+1,0,none⟩ (.int .i64 r)).setCell ⟨w.heap.size+1,1,none⟩ (.int .i64 D)).setCell ⟨w.heap.size+1,2,none⟩ (.slice H n.length G)).setCell ⟨w.heap.size+1,3,none⟩ (.slice F d.length E)).setCell ⟨w.heap.size+1,4,none⟩ (.slice U C.length T)) rfl (bI rfl) rfl ?hr ?_;(case hr=>show Sem.run Tryz.prog (execOp (Act.eval ⟨tm,df⟩) _) y=_;generalize Act.eval ⟨tm,df⟩=ev at *;clear Z;go_simp);have ad:O (y.grownBy ((((((y).setCell ⟨w.heap.size+1,0,none⟩ (.int .i64 r)).setCell ⟨w.heap.size+1,1,none⟩ (.int .i64 D)).setCell ⟨w.heap.size+1,2,none⟩ (.slice H n.length G)).setCell ⟨w.heap.size+1,3,none⟩ (.slice F d.length E)).setCell ⟨w.heap.size+1,4,none⟩ (.slice U C.length T)) (some (w.heap.size+1))):=((((iN y _ 0 _).trans_row (iN _ _ 1 _)).trans_row (iN _ _ 2 _)).trans_row (iN _ _ 3 _)).trans_row (iN _ _ 4 _);have bk:O (Below w.heap.size w ((((((y).setCell ⟨w.heap.size+1,0,none⟩ (.int .i64 r)).setCell ⟨w.heap.size+1,1,none⟩ (.int .i64 D)).setCell ⟨w.heap.size+1,2,none⟩ (.slice H n.length G)).setCell ⟨w.heap.size+1,3,none⟩ (.slice F d.length E)).setCell ⟨w.heap.size+1,4,none⟩ (.slice U C.length T))):=((HB.o.trans (Z.z.mono HB.o.size))).grown ad.o (bP HB.o.size Z.z.size) (fun j e=>by cases e;omega);have br:O _:=gP (base':=w.heap.size) (o1.kept ad.o (.inr (fun e=>by have :=(o1.lt _ e).1;omega))) (by omega);have bv:O _:=gP (base':=w.heap.size) (o2.kept ad.o (.inr (fun e=>by have :=(o2.lt _ e).1;omega))) (by omega);have bu:O (pQ L.heap.size ((((((y).setCell ⟨w.heap.size+1,0,none⟩ (.int .i64 r)).setCell ⟨w.heap.size+1,1,none⟩ (.int .i64 D)).setCell ⟨w.heap.size+1,2,none⟩ (.slice H n.length G)).setCell ⟨w.heap.size+1,3,none⟩ (.slice F d.length E)).setCell ⟨w.heap.size+1,4,none⟩ (.slice U C.length T)) (.slice F d.length E) d):=Ib (SI bp.o Z.z) ad.o (by omega);(have d0:((((((y).setCell ⟨w.heap.size+1,0,none⟩ (.int .i64 r)).setCell ⟨w.heap.size+1,1,none⟩ (.int .i64 D)).setCell ⟨w.heap.size+1,2,none⟩ (.slice H n.length G)).setCell ⟨w.heap.size+1,3,none⟩ (.slice F d.length E)).setCell ⟨w.heap.size+1,4,none⟩ (.slice U C.length T)).cell? ⟨w.heap.size+1,0,none⟩=some (.int .i64 r):=cH a8);(have I:((((((y).setCell ⟨w.heap.size+1,0,none⟩ (.int .i64 r)).setCell ⟨w.heap.size+1,1,none⟩ (.int .i64 D)).setCell ⟨w.heap.size+1,2,none⟩ (.slice H n.length G)).setCell ⟨w.heap.size+1,3,none⟩ (.slice F d.length E)).setCell ⟨w.heap.size+1,4,none⟩ (.slice U C.length T)).cell? ⟨w.heap.size+1,1,none⟩=some (.int .i64 D):=cH a8);(have M:((((((y).setCell ⟨w.heap.size+1,0,none⟩ (.int .i64 r)).setCell ⟨w.heap.size+1,1,none⟩ (.int .i64 D)).setCell ⟨w.heap.size+1,2,none⟩ (.slice H n.length G)).setCell ⟨w.heap.size+1,3,none⟩ (.slice F d.length E)).setCell ⟨w.heap.size+1,4,none⟩ (.slice U C.length T)).cell? ⟨w.heap.size+1,2,none⟩=some (.slice H n.length G):=cH a8);(have J:((((((y).setCell ⟨w.heap.size+1,0,none⟩ (.int .i64 r)).setCell ⟨w.heap.size+1,1,none⟩ (.int .i64 D)).setCell ⟨w.heap.size+1,2,none⟩ (.slice H n.length G)).setCell ⟨w.heap.size+1,3,none⟩ (.slice F d.length E)).setCell ⟨w.heap.size+1,4,none⟩ (.slice U C.length T)).cell? ⟨w.heap.size+1,3,none⟩=some (.slice F d.length E):=cH a8);(have d4:((((((y).setCell ⟨w.heap.size+1,0,none⟩ (.int .i64 r)).setCell ⟨w.heap.size+1,1,none⟩ (.int .i64 D)).setCell ⟨w.heap.size+1,2,none⟩ (.slice H n.length G)).setCell ⟨w.heap.size+1,3,none⟩ (.slice F d.length E)).setCell ⟨w.heap.size+1,4,none⟩ (.slice U C.length T)).cell? ⟨w.heap.size+1,4,none⟩=some (.slice U C.length T):=cH a8);have bg:=Z.size;have bf:=Z.still;obtain rfl:df=[]:=Z.defers;clear Z o1 o2 bz e2 am an ao aq ar a8 cc cd ce cf cg c5 c6 c8 ca cb;generalize (((((y).setCell ⟨w.heap.size+1,0,none⟩ (.int .i64 r)).setCell ⟨w.heap.size+1,1,none⟩ (.int .i64 D)).setCell ⟨w.heap.size+1,2,none⟩ (.slice H n.length G)).setCell ⟨w.heap.size+1,3,none⟩ (.slice F d.length E)).setCell ⟨w.heap.size+1,4,none⟩ (.slice U C.length T)=yf at *;show Exit.then _ _ Exit.normal ⟨tm,[]⟩ yf;obtain⟨fQ,hQ,az⟩:=oR [24,25,26,27,28,29,30,31,32,33] tm _ bg bf;clear bg bf;simp only[List.foldl_cons,List.foldl_nil]at az;clear hQ;simp only[List.setIfInBounds_toArray,List.set_cons_zero,List.set_cons_succ]at az;subst az;go_wp2_with fail;refine dP (v:=.agg #[.int .i64 r, .int .i64 D, .slice H n.length G, .slice F d.length E, .slice U C.length T]) (by simp[results,Tryz.results89,go_sem,d0,I,M,J,d4]) rfl ?_;exact⟨⟨⟨⟨r,D⟩,n,d,C⟩, .slice H n.length G, .slice F d.length E, .slice U C.length T⟩,rfl,rfl,⟨br.o,aEC bu.o (by omega),bv.o,bo.o,HL.o⟩,bk.o⟩
theorem nH{w:World}{g o b:Nat}(u:Value)(h:o≠b):(w.setCell ⟨g,o,none⟩ u).cell? ⟨g,b,none⟩=w.cell? ⟨g,b,none⟩:=by apply Dy;intro e;exact h (by injection e)
theorem Jh(y:Uv)(F:List Value)(k:Nat)(u:Value):(jC y++F).set (k+5) u=jC y++F.set k u:=rfl
theorem Lq:∀(q:List Uv)(m:Nat)(x:Uv),m<q.length->((q.set m x).map jC).flatten=((((((q.map jC).flatten.set (m*5) (.int .i64 x.u.id.a)).set (m*5+1) (.int .i64 x.u.id.n)).set (m*5+2) x.p).set (m*5+3) x.s).set (m*5+4) x.t)
 |[],m,x,h=>absurd h (by simp)
 |y::r,0,x,_=>rfl
 |y::r,m+1,x,h=>by have c:=Lq r m x (by simpa using h);(have b:(m+1)*5=m*5+5:=by omega);(have e:∀i,m*5+5+i=(m*5+i)+5:=fun i=>by omega);show jC y++((r.set m x).map jC).flatten=((((((jC y++(r.map jC).flatten).set ((m+1)*5) (.int .i64 x.u.id.a)).set ((m+1)*5+1) (.int .i64 x.u.id.n)).set ((m+1)*5+2) x.p).set ((m+1)*5+3) x.s).set ((m+1)*5+4) x.t);rw[c,b,e,e,e,e,Jh,Jh,Jh,Jh,Jh]
theorem aR2{w:World}{B g cap:Nat}{q:List Uv}(h:mT w B (.slice (some ⟨g,0,none⟩) q.length cap) q){m:Nat}(d:m<q.length):TI w g (m*5) (jL q m):=by(have b:∀j,j<5->w.cell? ⟨g,m*5+j,none⟩=(jC (jL q m))[j]?:=fun j c=>by rw[World.ownsRow.cellAt h (m*5+j) (by omega),PW q m j d c]);exact⟨b 0 (by omega),b 1 (by omega),b 2 (by omega),b 3 (by omega),b 4 (by omega)⟩
theorem bII{q:List Uv}{m:Nat}{x:Uv}(h:q[m]?=some x):jL q m=x:=by unfold jL;rw[aI,h];rfl
theorem aTJ{q:List Uv}{m:Nat}(h:m<q.length):q[m]?=some (jL q m):=by unfold jL;rw[aI,aM h];rfl
structure Few (u:aX):Prop where
 l:u.ps.length<=6/\u.says.length<=6/\u.ts.length<=6
 f:∀f,f∈u.says->f.args.length<=3
theorem JO{u:aX}(h:eV u=0):Few u:=by have r:=WI h;refine⟨⟨r.ps,r.says,r.ts⟩,fun f b=>?_⟩;have :=r.fs f b;unfold gS at this;rw[eI,BL]at this;exact this.1.2.2
theorem Ak(q:List Uv)(v:Value)(w:World)(hV:iI w v q)(ae:∀x,x∈q->gM w x)(aj:∀x,x∈q->Few x.u)(hl:q.length<=1000):
 Calls Tryz.prog 52 #[v] w fun e K=>∃(R:List Uv)(v':Value),e=.returned v'/\mT K w.heap.size v' R/\bV R=bV q/\(∀x,x∈R->Bq w.heap.size K x)/\Below w.heap.size w K:=by
 have HO:O (∀x,x∈q->gM w x/\Few x.u):=fun x hx=>⟨ae x hx,aj x hx⟩;have HC:O (Calls Tryz.prog 88 #[v] w fun e K=>∃v',e=.returned v'/\mT K w.heap.size v' q/\Below w.heap.size w K):=Hy q v w hV ae hl;obtain⟨av,cv,rfl,_⟩:=hV;clear ae aj
 go_enter Tryz.func52,Tryz.ntmps52
 go_upto_region 2 with(go_at_call 88;refine Calls.mono HC.o ?_;rintro e P ⟨v1,rfl,ab,ac⟩;obtain⟨ar,cr,rfl⟩:=bR ab);clear HC;go_wp2_with fail;go_loopw [9] (fun i wr=>∃(m:Nat)(R:List Uv),m<=q.length/\i=.int .i64 m/\R.length=q.length/\wr.ownsRow w.heap.size 42 5 (.slice ar q.length cr) q.length (R.map jC).flatten/\O (bV R=bV q)/\O (∀j,m<=j->R[j]?=q[j]?)/\O (∀j p,j<m->R[j]?=some p->Bq P.heap.size wr p)/\Below w.heap.size w wr/\P.heap.size<=wr.heap.size) (fun i _=>q.length-(intOf i).toNat);(case atStart=>exact⟨0,q,bL _,rfl,rfl,ab,rfl,fun _ _=>rfl,fun j p X=>absurd X (by omega),ac,aH _⟩);have aa:=ab;have aL:O (w.heap.size<=P.heap.size):=ac.size;clear ab ac;obtain⟨m,R,hm,rfl,ai,N,HU,a8,a5,W,aJ⟩:=hrel;have L:O (R.length=q.length):=ai;clear ai;by_cases M:m<q.length
 ·obtain⟨g,rfl⟩:∃g,ar=some ⟨g,0,none⟩:=by
   rcases lJ N with⟨_,h0⟩|⟨g,c,hv⟩
   ·omega
   injection hv with hv;exact⟨g,hv⟩
  have ak:g<P.heap.size:=(aa.lt g rfl).2;have aO:w.heap.size<=g:=(aa.lt g rfl).1;clear aa;(have N:mT wr w.heap.size (.slice (some ⟨g,0,none⟩) R.length cr) R:=by show World.ownsRow _ _ _ _ _ _ _;rw[L.o];exact N);(have af:R[m]?=some (jL q m):=(a8.o m (aH _)).trans (aTJ M);have a9:=aR2 N (m:=m) (by rw[L.o];exact M);rw[bII af]at a9;have ad:=mG q m M;have HX:O (gM wr (jL q m)/\Few (jL q m).u):=⟨(HO.o _ ad).1.z W,(HO.o _ ad).2⟩;have aC:O (R[m]?=some (jL q m)/\q[m]?=some (jL q m)):=⟨af,aTJ M⟩;clear af ad;generalize jL q m=x at *;have ag:O (∀z,Below wr.heap.size wr z->Calls Tryz.prog 89 #[mA x] z fun e K=>∃Q:Uv,e=.returned (mA Q)/\Q.u=x.u/\Bq z.heap.size K Q/\Below z.heap.size z K):=fun z hz=>aZD x z (HX.o.1.z hz) HX.o.2.l HX.o.2.f;obtain⟨a1,n1,d1,a2,n2,d2,a3,n3,d3,e1,e2,e3⟩:=HX.o.1.forms;have aD:O (∃y:Uv,y=x):=⟨x,rfl⟩;obtain⟨⟨⟨ua,un⟩,ps,b7,ts⟩,vp,vs,vt⟩:=x;dsimp only at *;subst e1 e2 e3;obtain⟨c0,c1,c2,c3,c4⟩:=id a9;dsimp only at c0 c1 c2 c3 c4;have a6:O (Below wr.heap.size wr (wr.alloc (.cells #[.int .i64 ua, .int .i64 un, .slice a1 n1 d1, .slice a2 n2 d2, .slice a3 n3 d3] 42))):=(aG _ _).alloc (aH _) _;go_wp2_with fail;refine Calls.mono (ag.o _ a6.o) ?_;rintro e b ⟨Q,rfl,ao,a4,J⟩;have J:=a6.o.trans (J.mono a6.o.size);have a4:Bq P.heap.size b Q:=a4.le (by have :=a6.o.size;omega);obtain⟨C,s,r,F,E,D,I,H,G,f1,f2,f3⟩:=a4.ok.forms;have ah:O (Bq P.heap.size b Q/\Q.u=_):=⟨a4,ao⟩;clear a4 ao HX aD c0 c1 c2 c3 c4;obtain⟨⟨⟨d,n⟩,Y,Z,a0⟩,b8,b9,ba⟩:=Q;dsimp only at *;subst f1 f2 f3;have T:=(Kc.z J).up a9;have U:=bO N J;dsimp only[TI]at T;(have b2:(b).cell? ⟨g,m*5,none⟩=some (.int .i64 ua):=by exact T.1);(have aR:(b).frozen? ⟨g,m*5,none⟩=false:=by exact World.ownsRow.frozenAt U _);(have b3:((b).setCell ⟨g,m*5,none⟩ (.int .i64 d)).cell? ⟨g,m*5+1,none⟩=some (.int .i64 un):=by rw[nH _ (by omega)];exact T.2.1);(have aS:((b).setCell ⟨g,m*5,none⟩ (.int .i64 d)).frozen? ⟨g,m*5+1,none⟩=false:=by rw[fW];exact World.ownsRow.frozenAt U _);(have b4:(((b).setCell ⟨g,m*5,none⟩ (.int .i64 d)).setCell ⟨g,m*5+1,none⟩ (.int .i64 n)).cell? ⟨g,m*5+2,none⟩=some (.slice a1 n1 d1):=by rw[nH _ (by omega)];rw[nH _ (by omega)];exact T.2.2.1);(have aT:(((b).setCell ⟨g,m*5,none⟩ (.int .i64 d)).setCell ⟨g,m*5+1,none⟩ (.int .i64 n)).frozen? ⟨g,m*5+2,none⟩=false:=by rw[fW];rw[fW];exact World.ownsRow.frozenAt U _);(have b5:((((b).setCell ⟨g,m*5,none⟩ (.int .i64 d)).setCell ⟨g,m*5+1,none⟩ (.int .i64 n)).setCell ⟨g,m*5+2,none⟩ (.slice C s r)).cell? ⟨g,m*5+3,none⟩=some (.slice a2 n2 d2):=by rw[nH _ (by omega)];rw[nH _ (by omega)];rw[nH _ (by omega)];exact T.2.2.2.1);(have b0:((((b).setCell ⟨g,m*5,none⟩ (.int .i64 d)).setCell ⟨g,m*5+1,none⟩ (.int .i64 n)).setCell ⟨g,m*5+2,none⟩ (.slice C s r)).frozen? ⟨g,m*5+3,none⟩=false:=by rw[fW];rw[fW];rw[fW];exact World.ownsRow.frozenAt U _);(have b6:(((((b).setCell ⟨g,m*5,none⟩ (.int .i64 d)).setCell ⟨g,m*5+1,none⟩ (.int .i64 n)).setCell ⟨g,m*5+2,none⟩ (.slice C s r)).setCell ⟨g,m*5+3,none⟩ (.slice F E D)).cell? ⟨g,m*5+4,none⟩=some (.slice a3 n3 d3):=by rw[nH _ (by omega)];rw[nH _ (by omega)];rw[nH _ (by omega)];rw[nH _ (by omega)];exact T.2.2.2.2);(have b1:(((((b).setCell ⟨g,m*5,none⟩ (.int .i64 d)).setCell ⟨g,m*5+1,none⟩ (.int .i64 n)).setCell ⟨g,m*5+2,none⟩ (.slice C s r)).setCell ⟨g,m*5+3,none⟩ (.slice F E D)).frozen? ⟨g,m*5+4,none⟩=false:=by rw[fW];rw[fW];rw[fW];rw[fW];exact World.ownsRow.frozenAt U _);have am:mT ((((((b).setCell ⟨g,m*5,none⟩ (.int .i64 d)).setCell ⟨g,m*5+1,none⟩ (.int .i64 n)).setCell ⟨g,m*5+2,none⟩ (.slice C s r)).setCell ⟨g,m*5+3,none⟩ (.slice F E D)).setCell ⟨g,m*5+4,none⟩ (.slice I H G)) w.heap.size (.slice (some ⟨g,0,none⟩) R.length cr) (R.set m ⟨⟨⟨d,n⟩,Y,Z,a0⟩, .slice C s r, .slice F E D, .slice I H G⟩):=by show World.ownsRow _ _ _ _ _ _ _;rw[iS,Lq R m _ (by rw[L.o];exact M)];exact(World.ownsRow.stored (World.ownsRow.stored (World.ownsRow.stored (World.ownsRow.stored (World.ownsRow.stored U (m*5) _).1 (m*5+1) _).1 (m*5+2) _).1 (m*5+3) _).1 (m*5+4) _).1);have a7:O (b.grownBy ((((((b).setCell ⟨g,m*5,none⟩ (.int .i64 d)).setCell ⟨g,m*5+1,none⟩ (.int .i64 n)).setCell ⟨g,m*5+2,none⟩ (.slice C s r)).setCell ⟨g,m*5+3,none⟩ (.slice F E D)).setCell ⟨g,m*5+4,none⟩ (.slice I H G)) (some g)):=((((iN b _ _ _).trans_row (iN _ _ _ _)).trans_row (iN _ _ _ _)).trans_row (iN _ _ _ _)).trans_row (iN _ _ _ _);have an:=J.size;have au:O (Below w.heap.size w ((((((b).setCell ⟨g,m*5,none⟩ (.int .i64 d)).setCell ⟨g,m*5+1,none⟩ (.int .i64 n)).setCell ⟨g,m*5+2,none⟩ (.slice C s r)).setCell ⟨g,m*5+3,none⟩ (.slice F E D)).setCell ⟨g,m*5+4,none⟩ (.slice I H G))):=(W.trans (J.mono W.size)).grown a7.o (bP W.size J.size) (fun k e=>by cases e;omega);have az:O (P.heap.size<=((((((b).setCell ⟨g,m*5,none⟩ (.int .i64 d)).setCell ⟨g,m*5+1,none⟩ (.int .i64 n)).setCell ⟨g,m*5+2,none⟩ (.slice C s r)).setCell ⟨g,m*5+3,none⟩ (.slice F E D)).setCell ⟨g,m*5+4,none⟩ (.slice I H G)).heap.size):=bP aJ (bP an a7.o.size);(have ax:O (((((((b).setCell ⟨g,m*5,none⟩ (.int .i64 d)).setCell ⟨g,m*5+1,none⟩ (.int .i64 n)).setCell ⟨g,m*5+2,none⟩ (.slice C s r)).setCell ⟨g,m*5+3,none⟩ (.slice F E D)).setCell ⟨g,m*5+4,none⟩ (.slice I H G)).ownsRow w.heap.size 42 5 (.slice (some ⟨g,0,none⟩) q.length cr) q.length ((R.set m ⟨⟨⟨d,n⟩,Y,Z,a0⟩, .slice C s r, .slice F E D, .slice I H G⟩).map jC).flatten):=by have V:=am;unfold mT at V;rw[iS,L.o]at V;exact V);have aq:O (∀j p,j<m+1->(R.set m ⟨⟨⟨d,n⟩,Y,Z,a0⟩, .slice C s r, .slice F E D, .slice I H G⟩)[j]?=some p->Bq P.heap.size ((((((b).setCell ⟨g,m*5,none⟩ (.int .i64 d)).setCell ⟨g,m*5+1,none⟩ (.int .i64 n)).setCell ⟨g,m*5+2,none⟩ (.slice C s r)).setCell ⟨g,m*5+3,none⟩ (.slice F E D)).setCell ⟨g,m*5+4,none⟩ (.slice I H G)) p):=by
   intro j p X S;rw[fU]at S;by_cases al:m=j
   ·rw[if_pos al,if_pos (by rw[L.o];omega)]at S;have S:=Option.some.inj S;subst S;exact ah.o.1.grown a7.o ak
   rw[if_neg al]at S;exact((a5.o j p (by omega) S).z J).grown a7.o ak
  have aw:O (bV (R.set m ⟨⟨⟨d,n⟩,Y,Z,a0⟩, .slice C s r, .slice F E D, .slice I H G⟩)=bV q):=by
   show _=_;have V:=HU.o;unfold bV at V ⊢;rw[yB,V];apply kP;intro t;rw[fU];split
   ·rename_i ht;subst ht;rw[if_pos (by rw[aY];exact M),dW,aC.o.2];exact congrArg some ah.o.2
   rfl
  (have ay:O (∀j,m+1<=j->(R.set m ⟨⟨⟨d,n⟩,Y,Z,a0⟩, .slice C s r, .slice F E D, .slice I H G⟩)[j]?=q[j]?):=fun j X=>by rw[fU,if_neg (by omega)];exact a8.o j (by omega));clear N W J U a5 HU a8 am ag a9 T an;go_wp2_with fail;go_roundw;(case rel=>exact⟨m+1,R.set m ⟨⟨⟨d,n⟩,Y,Z,a0⟩, .slice C s r, .slice F E D, .slice I H G⟩,M,by go_num,by rw[iS];exact L.o,ax.o,aw.o,ay.o,aq.o,au.o,az.o⟩);case measure=>simp[intOf];omega
 have aN:decide (m<q.length)=false:=aF M;(obtain rfl:m=q.length:=by omega);(have HR:O (mT wr w.heap.size (.slice ar q.length cr) R):=by show World.ownsRow _ _ _ _ _ _ _;rw[L.o];exact N);(have HP:O (∀x,x∈R->Bq w.heap.size wr x):=fun p hp=>by obtain⟨j,X⟩:=FW.mp hp;exact(a5.o j p (by have :=(gH.mp X).1;rw[L.o]at this;exact this) X).le aL.o);clear N a5 a8 aa;go_wp2_with fail;go_ret;exact⟨R,_,rfl,HR.o,HU.o,HP.o,W⟩
end Go.Proofs.YtfljoehbbncooaaGreat
namespace Go.Proofs.YtfljoehbbncooaaGreat
open Go.RowKit Go.Shelf Go.Maps
attribute [local go_sem] Oper.semAt_some
theorem aV3{β:Type}(B:Nat)(o:β->Obj)(g:∀s,(o s).isCells=true):Own (fun s W=>W.heap[B]?=some (o s)):=fun s X Y row b f i=>
 (f.block B (aK.1 b).1 (fun e=>by obtain⟨j,d,c⟩:=i B e.symm;rw[b]at d;cases d;rw[g s]at c;cases c)).trans b
theorem aCC(gf:Nat)(lb:Array Value)(eg:∀args w,(callFunc gf args).run Tryz.prog w=.ok (.enter gf args) w)(c:List Uv)(hl:c.length<=1000)(w:World)(a7:∀x,x∈c->gM w x)
 (Kp:World->World->Prop) (ad:∀{A B C:World},Kp A B->Kp B C->Kp A C) (ac:∀(W:World)(l:Nat)(o o':Obj),w.heap.size<=l->W.heap[l]?=some o->o.isCells=false->o.isWalk=false->Kp W (W.putObj l o')) (a4:∀A B:World,KeepsOthers A B->Below w.heap.size A B->Kp A B)
 (S Sp:List (RY c)->Prop) (hS:∀k,S k->(k.map (·.1)).Perm c) (ai:∀z,Below w.heap.size w z->SeqStopsK Fence.wide 2 Tryz.prog gf lb (fun x:RY c=>Qf x) Kp S Sp c.length z):
 Calls Tryz.prog 197 #[.slice none 0 0, .func (.func gf) #[] lb] w fun e w'=>∃(v:Value)(q:List Uv),e=.returned v/\q.Perm c/\mT w' w.heap.size v q/\Below w.heap.size w w':=by
 obtain⟨i0,hi,ak,al,am⟩:=jY KS;refine(callsIn_wide (n:=3)).1 ?_;refine callsIn_of_wp_marks Tryz.func197 rfl trivial ?_ rfl;simp only[Tryz.ntmps197,List.size_toArray,List.length_cons,List.length_nil,Nat.reduceAdd,Nat.reduceSub,Array.replicate_succ,Array.replicate_zero,List.push_toArray,List.append_toArray,List.nil_append,List.cons_append];have a0:Below w.heap.size w (w.alloc (.cells #[.slice none 0 0] 27)):=(aG _ _).alloc (aH _) _;have aa:=Boxed.new w 27 (.slice none 0 0);(have hs0:(w.alloc (.cells #[.slice none 0 0] 27)).heap.size=w.heap.size+1:=by simp);gi_wp2;generalize w.alloc (.cells #[.slice none 0 0] 27)=W0 at *
 refine wpIn_rangeFunc_ownH rfl dE (gf:=gf) (lb:=lb) rfl trivial eg
  (ai W0 a0) ad (fun W l o o' h1 T U h4=>ac W l o o' oM T U h4) (aG _ _) (fun _=>rfl)
  (fun(b:List (RY c)) W=>(∃v,Boxed W w.heap.size 27 v/\W.ownsRow w.heap.size 42 5 v b.length ((b.map (·.1)).map jC).flatten/\True)/\Below w.heap.size w W)
  (fun _ _ _=>False)
  (OwnFrom.and (Own.from (holdsRow_own w.heap.size w.heap.size 27 42 5 (fun b:List (RY c)=>b.length) (fun b:List (RY c)=>((b.map (·.1)).map jC).flatten) (fun _ _=>True)) _) (ownFrom_below (aH _) oM))
  (fun _ _ _ _ _ Z _ _=>Z)
  ⟨⟨_,aa,eS _ _ _ _,trivial⟩,a0⟩
  (fun x N W=>∃Bx,W.heap[Bx]?=some (.cells (jC x.1).toArray 42)/\N={tmps:=#[.slice none 0 0, .func (.func gf) #[] lb, .pointer (some ⟨w.heap.size,0,none⟩),undef, .slice none 0 0, .pointer (some ⟨Bx,0,none⟩), .func (.func gf) #[] lb,mA x.1,undef,undef,undef,undef,undef],defers:=[]})
  (fun x N _ X Y row Z hg hr=>by obtain⟨Bx,T,U⟩:=Z;exact⟨Bx,aV3 Bx (fun(_:Unit)=>Obj.cells (jC x.1).toArray 42) (fun _=>rfl) () X Y row T hg (fun r e=>(hr r e).2),U⟩)
  ?assign ?body ?done ?stop
 case assign=>rintro l b x W K ⟨⟨v1,g,f,_⟩,d⟩ i;have V:=a7 x.1 x.2;obtain⟨⟨⟨⟨L,M⟩,ps,an,ts⟩,vp,vs,vt⟩,hx⟩:=x;obtain⟨m,H,E,p,I,F,s,J,G,P,Q,R⟩:=V.forms;dsimp only at *;subst P Q R;gi_wp2;have ab:=(aG w.heap.size W).alloc d.size (.cells #[.int .i64 L, .int .i64 M, .slice m H E, .slice p I F, .slice s J G] 42);exact i _ _ ((KeepsOthers.alloc _ _).from _) (a4 _ _ (KeepsOthers.alloc _ _) ab) ⟨⟨v1,g.alloc _,f.alloc _,trivial⟩,d.alloc d.size _⟩ ⟨W.heap.size,iC W _,rfl⟩
 case body=>
  rintro l b x N W aw ⟨r,hr⟩ ⟨⟨v1,g,f,_⟩,d⟩ ⟨Bx,j,rfl⟩ ax;have V:=a7 x.1 x.2;obtain⟨⟨⟨⟨L,M⟩,ps,an,ts⟩,vp,vs,vt⟩,hx⟩:=x;obtain⟨m,H,E,p,I,F,s,J,G,P,Q,R⟩:=V.forms;dsimp only at *;subst P Q R;(have c0:W.cell? ⟨Bx,0,none⟩=some (.int .i64 L):=cH j);(have c1:W.cell? ⟨Bx,1,none⟩=some (.int .i64 M):=cH j);(have c2:W.cell? ⟨Bx,2,none⟩=some (.slice m H E):=cH j);(have c3:W.cell? ⟨Bx,3,none⟩=some (.slice p I F):=cH j);(have c4:W.cell? ⟨Bx,4,none⟩=some (.slice s J G):=cH j);obtain⟨av,cv,rfl⟩:=bR f;have cS:=g.cell;have ah:=d.size;have aq:1<=3-1-1:=dE
  gi_wp2_with (first
   |(gi_at_builtin;refine wpListIn_append_own _ rfl _ _ 27 rfl w.heap.size 42 i0 _ 5 88 Tryz.underlying27 hi ak al am rfl dE _ _ _ rfl (f.alloc _) ⟨W.heap.size,0,none⟩ 1 1 [.int .i64 L, .int .i64 M, .slice m H E, .slice p I F, .slice s J G] rfl rfl (bBI W _ _ _ _ _ 42) (by intro u hu;simp at hu;rcases hu with rfl|rfl|rfl|rfl|rfl<;>rfl) (by unfold maxLen;omega) oM sO ?_;intro v' w1 a8 af _;obtain⟨g',ao,rfl⟩:=ownsRow_succ a8;obtain⟨a9,aj,ag,a6,a5⟩:=g.appended dE f ah (aH _) a8 af;have ar:=a9.cell;have au:=a9.frozen)
   |gi_in)
  refine⟨a6.from _,a4 _ _ a6 a5,⟨_,aj,?_,trivial⟩,d.trans a5⟩;simp only[List.length_append,List.length_cons,List.length_nil,List.map_append,List.map_cons,List.map_nil,List.flatten_append,List.flatten_cons,List.flatten_nil,List.append_nil];exact ag
 case done=>
  rintro D k W hD ae ⟨⟨v1,g,f,_⟩,d⟩ i;obtain⟨av,cv,rfl⟩:=bR f;have cS:=g.cell;gi_wp2;refine⟨by simp, .inl ⟨_,_,rfl,run_takeDeferred i,?_⟩⟩;refine⟨_,results_tmp rfl _ _ _,_,k.map (·.1),rfl,hS k ae,?_,?_⟩
  ·have :=ownsRow_putObj f (.deferred none) i rfl;show World.ownsRow _ _ _ _ _ _ _;rw[aY];exact this
  exact d.trans (belowK_b (w:=w) (aH _) W D _ _ oM i rfl rfl)
 case stop=>rintro D c' b W _ _ h _;exact h.elim
end Go.Proofs.YtfljoehbbncooaaGreat
namespace Go.Proofs.YtfljoehbbncooaaGreat
open Go.RowKit Go.Shelf Go.Maps
structure Kz (gf:Nat) (lb:Array Value) (c:List Uv) (w:World):Prop where
 eg:∀args w,(callFunc gf args).run Tryz.prog w=.ok (.enter gf args) w
 seq:∃(Kp:World->World->Prop)(S Sp:List (RY c)->Prop),(∀{A B C:World},Kp A B->Kp B C->Kp A C)/\(∀(W:World)(l:Nat)(o o':Obj),w.heap.size<=l->W.heap[l]?=some o->o.isCells=false->o.isWalk=false->Kp W (W.putObj l o'))/\(∀A B:World,KeepsOthers A B->Below w.heap.size A B->Kp A B)/\
  (∀xs,S xs->(xs.map (·.1)).Perm c)/\(∀z,Below w.heap.size w z->SeqStopsK Fence.wide 2 Tryz.prog gf lb (fun x:RY c=>Qf x) Kp S Sp c.length z)
theorem Qw:∀{l:List aX},l.Pairwise (fun a b=>¬eF b a<0)->(l.map aX.id).Nodup->dI eF l=true
 |[],_,_=>rfl
 |a::r,h,hn=>by rw[nP]at h;rw[jN,qY]at hn;refine sP.mpr ⟨fun v c=>?_,Qw h.2 hn.2⟩;exact OK (h.1 v c) (fun e=>hn.1 (e▸cJ.mpr ⟨v,c,rfl⟩))
theorem aLI(gf:Nat)(lb:Array Value)(c:List Uv)(s:c.length<=1000)(w:World)(l:∀x,x∈c->gM w x)(C:Kz gf lb c w):
 Calls Tryz.prog 169 #[.func (.func gf) #[] lb] w fun e b=>∃(v:Value)(q:List Uv),e=.returned v/\q.Perm c/\mT b w.heap.size v q/\Below w.heap.size w b:=by
 obtain⟨d,Kp,S,p,f,g,i,j,k⟩:=C;have n:O (Calls Tryz.prog 197 #[.slice none 0 0, .func (.func gf) #[] lb] w fun e b=>∃(v:Value)(q:List Uv),e=.returned v/\q.Perm c/\mT b w.heap.size v q/\Below w.heap.size w b):=aCC gf lb d c s w l Kp f g i S p j k;clear f g i j k l d
 go_enter Tryz.func169,Tryz.ntmps169
 go_wp2_with(go_at_call 197;refine Calls.mono n.o ?_;rintro e H ⟨G,D,rfl,u,m,r⟩;obtain⟨E,F,rfl⟩:=bR m);go_ret;exact⟨_,D,rfl,u,m,r⟩
theorem aSH(gf:Nat)(lb:Array Value)(c:List Uv)(Q:c.length<=1000)(w:World)(F:∀x,x∈c->gM w x)(R:((bV c).map aX.id).Nodup)(l:Kz gf lb c w):
 Calls Tryz.prog 138 #[.func (.func gf) #[] lb, .func (.func 139) #[] #[]] w fun e d=>∃(v:Value)(q:List Uv),e=.returned v/\q.Perm c/\dI eF (bV q)=true/\mT d w.heap.size v q/\Below w.heap.size w d:=by
 have K:O (Calls Tryz.prog 169 #[.func (.func gf) #[] lb] w fun e d=>∃(v:Value)(q:List Uv),e=.returned v/\q.Perm c/\mT d w.heap.size v q/\Below w.heap.size w d):=aLI gf lb c Q w F l;have X:O (∀x,x∈c->gM w x):=F;have W:O (((bV c).map aX.id).Nodup):=R;clear l F R
 go_enter Tryz.func138,Tryz.ntmps138
 go_upto_region 2 with(go_at_call 169;refine Calls.mono K.o ?_;rintro e j ⟨v1,i,rfl,G,f,N⟩;obtain⟨a1,m,rfl⟩:=bR f);have u:O (i.Perm c):=G;(have a5:i.length<=1000:=by rw[G.length_eq];exact Q);have s:O (Below w.heap.size w j):=N;clear K G N;rcases lJ f with⟨H,a3⟩|⟨g,c2,H⟩
 ·injection H with C e2 D;subst C D;have a4:i=[]:=dQ a3;subst a4;have l:=AnyF.slices_SortFunc_none Tryz.sortU none 0 (.func (.func 139) #[] #[]) j;change Calls Tryz.prog 170 _ _ _ at l;have a2:O _:=l;have Y:O (mT j w.heap.size (.slice none 0 0) []):=f;clear l f;simp only[List.length_nil];go_wp2_with fail;refine Calls.mono a2.o ?_;rintro e J ⟨rfl,rfl⟩;go_wp2_with fail;go_ret;exact⟨_,[],rfl,u.o,rfl,Y.o,s.o⟩
 injection H with C e2 D;subst C D;have M:O (Calls Tryz.prog 170 #[.slice (some ⟨g,0,none⟩) i.length m, .func (.func 139) #[] #[]] j fun e d=>e=.returned (.tuple #[])/\∃I,I.Perm i/\(bV I).Pairwise (fun a b=>¬eF b a<0)/\JV d w.heap.size g m I/\j.grownBy d (some g)):=aXZ w j w.heap.size g m i f (fun p hp=>X.o p (u.o.mem_iff.mp hp)) oM;have V:O (w.heap.size<=g/\g<j.heap.size):=f.lt g rfl;clear f;go_wp2_with fail;refine Calls.mono M.o ?_;rintro e J ⟨rfl,r,n,S,T,P⟩;have L:O (r.Perm c):=n.trans u.o;have a0:O (dI eF (bV r)=true):=Qw (S.imp (fun h=>oM)) (GU L.o W.o);have U:O (Below w.heap.size w J):=s.o.grown P s.o.size (fun k e=>by cases e;exact V.o.1);(have Z:O (mT J w.heap.size (.slice (some ⟨g,0,none⟩) i.length m) r):=by have E:=T;unfold JV at E;rw[n.length_eq]at E;show World.ownsRow _ _ _ _ _ _ _;rw[n.length_eq];exact E);clear n S T P M;go_wp2_with fail;go_ret;exact⟨_,r,rfl,L.o,a0.o,Z.o,U.o⟩
theorem SE(gf:Nat)(lb:Array Value)(c:List Uv)(G:c.length<=1000)(w:World)(l:∀x,x∈c->gM w x)(F:∀x,x∈c->Few x.u)(H:((bV c).map aX.id).Nodup)(K:Kz gf lb c w):
 Calls Tryz.prog 85 #[.func (.func gf) #[] lb] w fun e b=>∃(v:Value)(R:List Uv),e=.returned v/\(bV R).Perm (bV c)/\dI eF (bV R)=true/\mT b w.heap.size v R/\(∀x,x∈R->Bq w.heap.size b x)/\Below w.heap.size w b:=by
 have r:O (Calls Tryz.prog 138 #[.func (.func gf) #[] lb, .func (.func 139) #[] #[]] w fun e b=>∃(v:Value)(q:List Uv),e=.returned v/\q.Perm c/\dI eF (bV q)=true/\mT b w.heap.size v q/\Below w.heap.size w b):=aSH gf lb c G w l H K;have C:O (∀x,x∈c->gM w x/\Few x.u):=fun x d=>⟨l x d,F x d⟩;clear K l H F
 go_enter Tryz.func85,Tryz.ntmps85
 go_wp2_with fail;refine Calls.mono r.o ?_;rintro e f ⟨N,i,rfl,g,J,m,k⟩;have s:O (Calls Tryz.prog 52 #[N] f fun e b=>∃(R:List Uv)(M:Value),e=.returned M/\mT b f.heap.size M R/\bV R=bV i/\(∀x,x∈R->Bq f.heap.size b x)/\Below f.heap.size f b):=Ak i N f (vE m) (fun x d=>(C.o x (g.mem_iff.mp d)).1.z k) (fun x d=>(C.o x (g.mem_iff.mp d)).2) (by rw[g.length_eq];exact G);obtain⟨W,X,rfl⟩:=bR m;have HP:O (i.Perm c):=g;have T:O (dI eF (bV i)=true):=J;have j:O (Below w.heap.size w f):=k;clear g J m k r;go_wp2_with fail;refine Calls.mono s.o ?_;rintro e p ⟨R,Y,rfl,n,L,I,E⟩;obtain⟨U,V,rfl⟩:=bR n;have P:O (Below w.heap.size w p):=j.o.trans (E.mono j.o.size);have S:O (mT p w.heap.size (.slice U R.length V) R):=gP n j.o.size;have Q:O (∀x,x∈R->Bq w.heap.size p x):=fun x d=>(I x d).le j.o.size;have D:O (bV R=bV i):=L;clear n L I E s;go_wp2_with fail;go_ret;exact⟨_,R,rfl,by rw[D.o];exact HP.o.map _,by rw[D.o];exact T.o,S.o,Q.o,P.o⟩
theorem aER(b:Nat)(c:List Uv)(w:World)(f:BN w b c):Calls Tryz.prog 86 #[.map (some b)] w fun e j=>∃i,e=.returned (.func (.func 140) #[] i)/\Kz 140 i c j/\Below w.heap.size w j:=by
 have d:O (Below w.heap.size w (w.alloc (.cells #[.map (some b)] 126))):=(aG _ _).alloc (aH _) _;have k:O (Kz 140 #[.pointer (some ⟨w.heap.size,0,none⟩)] c (w.alloc (.cells #[.map (some b)] 126))):=⟨oQ Tryz.func140 kR rfl,KeepsWalks,fun s=>(s.map (·.1)).Perm c,fun _=>True,walksK_t,fun W l o r m n p q=>walksK_b (w:=w.alloc (.cells #[.map (some b)] 126)) W l o r m n p q,fun A B h _=>h.walks,fun u h=>h,fun z g=>aCT Fence.wide 2 trivial rfl dE w.heap.size b c z ((f.z d.o).z g) ((g.block _ sI).trans (iC w _))⟩;clear f
 go_enter Tryz.func86,Tryz.ntmps86
 go_wp2_with fail;go_ret;exact⟨_,rfl,k.o,d.o⟩
theorem aE2(q:List Uv)(v:Value)(w:World)(E:iI w v q)(F:q.length<=1000)(k:∀x,x∈q->gM w x):Calls Tryz.prog 87 #[v] w fun e p=>∃n,e=.returned (.func (.func 141) #[] n)/\Kz 141 n q p/\Below w.heap.size w p:=by
 obtain⟨c,cap,rfl,_,g⟩:=E;have d:O (Below w.heap.size w (w.alloc (.cells #[.slice c q.length cap] 27))):=(aG _ _).alloc (aH _) _;have r:O (Kz 141 #[.pointer (some ⟨w.heap.size,0,none⟩)] q (w.alloc (.cells #[.slice c q.length cap] 27))):=⟨oQ Tryz.func141 kR rfl,Below w.heap.size,fun I=>I.map (·.1)=q,fun _=>True,belowK_t,fun W l o H u f C D=>belowK_b (w:=w.alloc (.cells #[.slice c q.length cap] 27)) sI W l o H u f C D,fun A B _ h=>h.mono sI,fun M h=>by rw[h],fun z m=>by
  have i:=d.o.trans (m.mono d.o.size);exact aIY Fence.wide 2 trivial rfl dE w.heap.size w.heap.size c cap q F z (fun x G=>(k x G).z i) i.size ((m.block _ sI).trans (iC w _)) (g.kc (Kc.z i)) (fun b K e j=>by
   rcases g with h|⟨J,L,s,f⟩
   ·exact absurd h j
   rw[s]at e;cases e
   exact Th (f 0 (by cases q with |nil=>exact absurd rfl j|cons _ _=>simp)).1)⟩
 clear g k
 go_enter Tryz.func87,Tryz.ntmps87
 go_wp2_with fail;go_ret;exact⟨_,rfl,r.o,d.o⟩
end Go.Proofs.YtfljoehbbncooaaGreat
