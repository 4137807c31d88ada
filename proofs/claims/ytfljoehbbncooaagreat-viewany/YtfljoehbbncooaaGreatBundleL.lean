/- Own texts, one behind the other (part 12). -/
import Derived.Test.YtfljoehbbncooaaGreatBundleK
import Derived.Test.YtfljoehbbncooaaGreatRows
import Derived.Deep.Strs
set_option maxRecDepth 100000
set_option maxHeartbeats 8000000
namespace Go.Proofs.YtfljoehbbncooaaGreat
open Go.RowKit Go.Maps
theorem aAX{W w:World}{i:Array Oper}{rest:List Oper}{o:Oper}{a:Act}{Q:Exit->Act->World->Prop}(r:o.guard=none)(s x:Operand)
 (E:o.op=.call {callee:=.builtin .append,args:=#[s,x],argTypes:=#[27,27]}) (B:Nat) (l:B<=w.heap.size) (v:Value) (q:List Uv) (I:a.eval s=v)
 (H:mT w B v q) (f:Addr) (cap:Nat) (c:List Uv) (J:a.eval x=.slice (some f) c.length cap) (k:xU w (some f) c) (G:∀x,x∈c->gM W x)
 (P:(q.length+c.length)*88<=140737488355328)
 (h:∀e d,mT d B e (q++c)->w.grownBy d v.ownBlock->wpList Tryz.prog i Q rest (a.put o.dst e) d):wpList Tryz.prog i Q (o::rest) a w:=by
 obtain⟨N,C,K,L,M⟩:=jY KS;refine iD w r s x 27 E B 42 N _ 5 88 Tryz.underlying27 C K L M rfl dE v q.length _ I H f c.length cap ((c.map jC).flatten) J (by rw[FQ]) ?_ (aIX G) (by unfold maxLen;omega) oM l ?_
 ·intro j u g;rcases k with D|⟨b,R,m,n⟩
  ·subst D;simp at g
  rw[Option.some.inj m,Addr.add_lit];exact YK n j u g
 intro e d F p _;refine h e d ?_ p;show World.ownsRow _ _ _ _ _ _ _;rw[aV,dC,iL];exact F
theorem aX8{y:World}{x:Uv}{f g j:Option Addr}{c d e k l m:Nat}(q:x.p=.slice f c k)(r:x.s=.slice g d l)(w:x.t=.slice j e m):
 xU (y.alloc (.cells #[.int .i64 x.u.id.a, .int .i64 x.u.id.n, .slice f c k, .slice g d l, .slice j e m] 42)) (some ⟨y.heap.size,0,none⟩) [x]:=by
 have b:=bA y (.cells #[.int .i64 x.u.id.a, .int .i64 x.u.id.n, .slice f c k, .slice g d l, .slice j e m] 42);refine .inr ⟨_,0,rfl,fun i C=>?_⟩
 match i,C with
 |0,_=>exact⟨cH b,cH b,by rw[cM b];exact congrArg some q.symm,by rw[cM b];exact congrArg some r.symm,by rw[cM b];exact congrArg some w.symm⟩
structure Pk (lq:List Uv) (k:Nat) (T:List Uv):Prop where
 e:T=(lq.drop k).reverse
 nd:((bV T).map aX.id).Nodup
theorem Pk.start(b:List Uv):Pk b b.length []:=⟨by simp,List.nodup_nil⟩
theorem Pk.on{b T:List Uv}{k:Nat}(h:Pk b (k+1) T)(c:k<b.length)(d:eG (bV T) (jL b k).u.id=false):Pk b k (T++[jL b k]):=by
 refine⟨?_,?_⟩
 ·rw[h.e,dA c,List.reverse_cons];simp[jL,c]
 rw[nR];exact aA8 h.nd d
theorem Pk.len{b T:List Uv}{k:Nat}(h:Pk b k T):T.length=b.length-k:=by rw[h.e];simp
theorem Pk.perm{b T:List Uv}(h:Pk b 0 T):(bV b).Perm (bV T):=by rw[h.e];simp[bV];exact(List.reverse_perm _).symm
theorem aK1{p:bK}{l m:List aX}{h1 w1 g k:List aX}{c1 c2:pX}(j:l.Perm m)(w:(m.map aX.id).Nodup)(a:DK p [] [] l 0 h1 w1 c1)(b:DK p [] [] m 0 g k c2):
 h1=g/\w1=k/\∃S,sG p h1 w1 0 (dY p h1 w1) S/\dN h1 w1=0:=by
 rcases a with⟨a,_⟩|⟨_,S,n,d,_,e⟩
 ·exact absurd rfl a.1
 rcases b with⟨b,_⟩|⟨_,T,C,D,_,q⟩
 ·exact absurd rfl b.1
 have c:dN [] []=0:=(CG d).2.1;have i:rP [] [] []:=(lK.mp c).is;have f:=AF e rfl c [] i;have r:=AF q rfl c [] i;have x:(l.map aX.id).Nodup:=((j.map aX.id).nodup_iff).mpr w;obtain⟨s,u⟩:=(f.1.congr (aA7 j x)).one r.1;exact⟨s,u,n,Hm d e,f.2.1⟩
theorem aOH(p:bK)(g:List Uv)(lv va vn vr:Value)(w:World)(hP:nV w va vn vr p)(hF:lR p)(bd:mM w vr)(lV:iI w lv g)(cf:g.length*88<=140737488351232)(cj:∀x,x∈g->gM w x):
 Calls Tryz.prog 5 #[gU va vn vr,lv] w fun e I=>e=.returned (.bool true)/\Below w.heap.size w I:=by
 have bp:O (∀z ab af aN aR,Below w.heap.size w z->iI z aN ab->iI z aR af->(ab.length<=4611686018427387903/\af.length<=4611686018427387903)->(∀x,x∈ab++af->gM z x)->Calls Tryz.prog 6 #[gU va vn vr,mU aN aR] z fun e I=>∃vO c R S,e=.returned (.tuple #[vO, .int .i64 c])/\sG p (bV ab) (bV af) c R S/\bS I vO S/\Below z.heap.size z I):=fun z ab af aN aR d l h2 h3 h4=>Vm p ab af aN aR va vn vr z (hP.z d) hF (bd.z hP.rl d) l h2 h3 h4;have aT:O (∀z ae aO,Below w.heap.size w z->iI z aO ae->ae.length<=4611686018427387903->(∀x,x∈ae->gM z x)->Calls Tryz.prog 7 #[gU va vn vr,mU (.slice none 0 0) (.slice none 0 0),aO] z fun e I=>∃vx vc c l C cs,e=.returned (.tuple #[vx,vc, .int .i64 c])/\DK p (bV []) (bV []) (bV ae) c l C cs/\CpR l C I vx/\Nj z.heap.size I vc cs/\Below z.heap.size z I):=fun z ae aO d l h2 h3=>TQ p [] [] ae _ _ aO va vn vr z (hP.z d) hF (bd.z hP.rl d) (xZ z) (xZ z) l dE h2 (fun _ h=>by cases h) h3;have ax:O (∀z,Below w.heap.size w z->iI z lv g/\∀x,x∈g->gM z x):=fun z d=>⟨lV.kc (Kc.z d),fun x i=>(cj x i).z d⟩;have bn:O (g.length*88<=140737488351232):=cf;obtain⟨a0,n0,rfl,_⟩:=id hP.ar;obtain⟨a1,n1,rfl,_⟩:=id hP.nm;obtain⟨a2,n2,rfl,_⟩:=id hP.rl;obtain⟨al,cl,rfl,_,_⟩:=lV;clear cj hP hF bd cf;have bj:O (Below w.heap.size w (w.alloc (pB a0 n0 a1 n1 a2 n2 p))):=eB w _;have ay:O ((w.alloc (pB a0 n0 a1 n1 a2 n2 p)).heap[w.heap.size]?=some (pB a0 n0 a1 n1 a2 n2 p)):=bA w _
 go_enter Tryz.func5,Tryz.ntmps5
 go_upto_region 1 with fail;generalize w.alloc (pB a0 n0 a1 n1 a2 n2 p)=J at *
 have aw:O (∀z,Below J.heap.size J z->z.cell? ⟨w.heap.size,0,none⟩=some (.slice a0 p.x.length n0)/\z.cell? ⟨w.heap.size,1,none⟩=some (.slice a1 p.r.length n1)/\z.cell? ⟨w.heap.size,2,none⟩=some (.slice a2 p.y.length n2)):=fun z d=>
  ⟨aB d (cH ay.o),aB d (cH ay.o),aB d (cH ay.o)⟩
 clear ay;go_wp2_with fail;refine Calls.mono (Ad J) ?_;rintro _ C ⟨rfl,c9⟩;have ag:O (Below J.heap.size J C):=c9;clear c9;(have cK:g.length<=1599289640354:=by have :=bn.o;omega);go_upto_region 5 with fail;go_loopw [5,6] (fun tv iv wr=>∃(k:Nat)(T:List Uv),k<=g.length/\iv=.int .i64 ((k:Int)-1)/\mT wr C.heap.size tv T/\Pk g k T/\Below C.heap.size C wr) (fun _ iv _=>(intOf iv+1).toNat);case atStart=>exact⟨g.length,[],aH _,rfl,eS _ _ _ _,Pk.start g,aG _ _⟩
 case round=>
  obtain⟨k,T,hk,rfl,hT,bf,bc⟩:=hrel;obtain⟨at_,ct,rfl⟩:=bR hT;have HT:O (mT wr C.heap.size (.slice at_ T.length ct) T):=hT;have aj:O (Pk g k T):=bf;have ai:O (Below C.heap.size C wr):=bc;have L:O (Below w.heap.size w wr):=bj.o.trans ((ag.o.trans (bc.mono ag.o.size)).mono bj.o.size);have az:O _:=bf.len;clear hT bf bc;by_cases h0:0<k
  ·obtain⟨m,rfl⟩:∃m,k=m+1:=⟨k-1,oM⟩;have em:(((m+1:Nat):Int)-1)=(m:Nat):=oM;rw[em];have be:m<g.length:=oM;obtain⟨cz,ci⟩:=ax.o wr L.o;obtain⟨_,_,e9,_,c6⟩:=cz;cases e9;obtain⟨b,an,rfl,c0,D,q,c3,c4⟩:=tS c6 m be;have i:=ci _ (mG g m be);obtain⟨x,bi⟩:∃x,x=jL g m:=⟨_,rfl⟩;have bN:O (x=jL g m):=bi;rw[<-bi]at c0 D q c3 c4 i;clear bi;obtain⟨g1,l1,d1,g2,l2,d2,g4,l4,d4,e1,e2,e3⟩:=i.forms;rw[e1]at q;rw[e2]at c3;rw[e3]at c4;have Y:O (gM wr x):=i;have G:O (x.p=.slice g1 l1 d1/\x.s=.slice g2 l2 d2/\x.t=.slice g4 l4 d4):=⟨e1,e2,e3⟩;have cm:O (∀z,Below wr.heap.size wr z->z.cell? ⟨b,an+m*5,none⟩=some (.int .i64 x.u.id.a)/\z.cell? ⟨b,an+m*5+1,none⟩=some (.int .i64 x.u.id.n)/\z.cell? ⟨b,an+m*5+2,none⟩=some (.slice g1 l1 d1)/\z.cell? ⟨b,an+m*5+3,none⟩=some (.slice g2 l2 d2)/\z.cell? ⟨b,an+m*5+4,none⟩=some (.slice g4 l4 d4)):=fun z d=>⟨aB d c0,aB d D,aB d q,aB d c3,aB d c4⟩;have bq:O _:=DX T x.u.id _ wr (vE HT.o) (by have :=az.o;omega);clear c6 i ci e1 e2 e3 q c3 c4;go_wp2_with fail;refine Calls.mono bq.o ?_;rintro e z ⟨r,rfl,hr,hb⟩;have hp:=hr.pos;have HB:O (Below wr.heap.size wr z):=hb;clear c0 D hr hb bq
   cases hU:eG (bV T) x.u.id with
   |true=>
    rw[hU]at hp;go_wp2_with fail;go_ret;exact⟨rfl,L.o.trans (HB.o.mono L.o.size)⟩
   |false=>
    rw[hU]at hp;obtain⟨c0,D,q,c3,c4⟩:=cm.o z HB.o;have bk:O (Below z.heap.size z (z.alloc (.cells #[.int .i64 x.u.id.a, .int .i64 x.u.id.n, .slice g1 l1 d1, .slice g2 l2 d2, .slice g4 l4 d4] 42))):=eB z _;have av:O (Below wr.heap.size wr (z.alloc (.cells #[.int .i64 x.u.id.a, .int .i64 x.u.id.n, .slice g1 l1 d1, .slice g2 l2 d2, .slice g4 l4 d4] 42))):=HB.o.trans (bk.o.mono HB.o.size);have cx:=ai.o.size;have cy:=av.o.size;(have cp:O (Pk g m (T++[x])):=by rw[bN.o];exact aj.o.on be (by rw[<-bN.o];exact hU));go_wp2_with(at_builtin;refine aAX (W:=wr) rfl (.tmp 32) (.tmp 37) rfl C.heap.size oM _ T rfl (bO HT.o av.o) ⟨z.heap.size,0,none⟩ 1 [x] rfl (aX8 G.o.1 G.o.2.1 G.o.2.2) (fun x i=>by rw[cP.mp i];exact Y.o) (by show(T.length+1)*88<=_;have :=az.o;have :=bn.o;omega) ?_);intro v' I cg ce;have cq:O (mT I C.heap.size v' (T++[x])):=cg;have ck:O (Below C.heap.size C I):=(ai.o.trans (av.o.mono ai.o.size)).grown ce oM (fun j hj=>(HT.o.lt j hj).1);clear cg ce cx cy av bk c0 D q c3 c4;go_wp2_with fail;go_roundw;(case rel=>exact⟨m,_,oM,gN,cq.o,cp.o,ck.o⟩);case measure=>simp[intOf]
  obtain rfl:k=0:=oM;have aC:O (iI wr (.slice at_ T.length ct) T/\(∀x,x∈T->gM wr x)/\T.length=g.length):=⟨vE HT.o,fun x i=>(ax.o wr L.o).2 x (by
   have i:=i;rw[aj.o.e]at i
   simpa using i),by rw[az.o];omega⟩
  have br:O ((bV g).Perm (bV T)):=aj.o.perm;have bo:O (((bV T).map aX.id).Nodup):=aj.o.nd;have ao:O (Below J.heap.size J wr):=ag.o.trans (ai.o.mono ag.o.size);have e0:(((0:Nat):Int)-1)= -1:=oM;rw[e0];obtain⟨c0,D,q⟩:=aw.o wr ao.o;clear e0 az aj ai HT ag h0 hk;go_wp2_with fail;refine Calls.mono (aT.o wr g _ L.o (ax.o wr L.o).1 oM (ax.o wr L.o).2) ?_;rintro e E ⟨vx,vc,cD,l,H,cs,rfl,hV,⟨U,M,P,V,N,Q,rfl,ak,am⟩,hH,b6⟩;obtain⟨ac,cc,rfl⟩:=hH.sl;have bt:O (DK p [] [] (bV g) cD l H cs):=hV;have b0:O ((E.alloc (.cells #[.slice U M P, .slice V N Q] 29)).heap[E.heap.size]?=some (.cells #[.slice U M P, .slice V N Q] 29)):=bA E _;have aq:O (Below E.heap.size E (E.alloc (.cells #[.slice U M P, .slice V N Q] 29))):=eB E _;have ah:O (Below wr.heap.size wr (E.alloc (.cells #[.slice U M P, .slice V N Q] 29))):=b6.trans (aq.o.mono b6.size);have Y:O (CpV l E (.slice U M P)/\CpV H E (.slice V N Q)):=⟨ak,am⟩;clear hV ak am hH b6 c0 D q;go_upto_region 11 with fail;generalize E.alloc (.cells #[.slice U M P, .slice V N Q] 29)=w3 at *;have b4:O (CpV l w3 (.slice U M P)/\CpV H w3 (.slice V N Q)):=⟨Y.o.1.kn (Kn.z aq.o),Y.o.2.kn (Kn.z aq.o)⟩;have aD:O (Below w.heap.size w w3):=L.o.trans (ah.o.mono L.o.size);have aJ:O (Below J.heap.size J w3):=ao.o.trans (ah.o.mono ao.o.size);obtain⟨c0,D,q⟩:=aw.o w3 aJ.o;clear Y aq;go_wp2_with fail;refine Calls.mono (aT.o w3 T _ aD.o (aC.o.1.kc (Kc.z ah.o)) (by rw[aC.o.2.2];omega) (fun x i=>(aC.o.2.1 x i).z ah.o)) ?_;rintro e F ⟨vy,vd,cE,h2,u2,ds,rfl,hV,⟨y1,Z,r1,y2,a3,r2,rfl,ak,am⟩,hH,b9⟩;obtain⟨ad,cd,rfl⟩:=hH.sl;have bu:O (DK p [] [] (bV T) cE h2 u2 ds):=hV;have b1:O ((F.alloc (.cells #[.slice y1 Z r1, .slice y2 a3 r2] 29)).heap[F.heap.size]?=some (.cells #[.slice y1 Z r1, .slice y2 a3 r2] 29)):=bA F _;have au:O (Below F.heap.size F (F.alloc (.cells #[.slice y1 Z r1, .slice y2 a3 r2] 29))):=eB F _;have a5:O (Below w3.heap.size w3 (F.alloc (.cells #[.slice y1 Z r1, .slice y2 a3 r2] 29))):=b9.trans (au.o.mono b9.size);have Y:O (CpV h2 F (.slice y1 Z r1)/\CpV u2 F (.slice y2 a3 r2)):=⟨ak,am⟩;clear hV ak am hH b9 c0 D q;go_upto_region 12 with fail;generalize F.alloc (.cells #[.slice y1 Z r1, .slice y2 a3 r2] 29)=f at *;have bz:O (CpV h2 f (.slice y1 Z r1)/\CpV u2 f (.slice y2 a3 r2)):=⟨Y.o.1.kn (Kn.z au.o),Y.o.2.kn (Kn.z au.o)⟩;have bw:O (CpV l f (.slice U M P)/\CpV H f (.slice V N Q)):=⟨b4.o.1.kn (Kn.z a5.o),b4.o.2.kn (Kn.z a5.o)⟩;have a6:O (Below w.heap.size w f):=aD.o.trans (a5.o.mono aD.o.size);have b5:O (Below J.heap.size J f):=aJ.o.trans (a5.o.mono aJ.o.size);clear Y b4 au;by_cases he:cD=0;rotate_left
  ·(have cw:(cD != 0)=true:=by simpa using he);go_wp2_with fail;go_ret;exact⟨rfl,a6.o⟩
  by_cases cb:cE=0;rotate_left
  ·(have cw:(cD != 0)=false:=by simp[he]);(have cL:(cE != 0)=true:=by simpa using cb);clear he;go_wp2_with fail;go_ret;exact⟨rfl,a6.o⟩
  subst he cb;obtain⟨rfl,rfl,S,hO,ca⟩:=aK1 br.o bo.o bt.o bu.o;have HO:O (sG p l H 0 (dY p l H) S):=hO;have a7:O (l.length+H.length<=200):=(lK.mp ca).few;clear hO ca;obtain⟨⟨Q1,bU,o1,e1⟩,⟨Q2,bW,o2,e2⟩⟩:=bw.o;obtain⟨⟨Q3,bZ,o3,e3⟩,⟨Q4,c5,o4,e4⟩⟩:=bz.o;have a8:O (Q1.length=l.length/\Q2.length=H.length/\Q3.length=l.length/\Q4.length=H.length):=⟨by rw[<-eH,e1],by rw[<-eH,e2],by rw[<-eH,e3],by rw[<-eH,e4]⟩;have a9:O (∀z,Below f.heap.size f z->iI z (.slice U M P) Q1/\iI z (.slice V N Q) Q2/\∀x,x∈Q1++Q2->gM z x):=fun z d=>⟨bU.kc (Kc.z d),bW.kc (Kc.z d),fun x i=>by
   rcases cW.mp i with h|h
   ·exact(o1 x h).z d
   exact(o2 x h).z d⟩
  have aa:O (∀z,Below f.heap.size f z->iI z (.slice y1 Z r1) Q3/\iI z (.slice y2 a3 r2) Q4/\∀x,x∈Q3++Q4->gM z x):=fun z d=>⟨bZ.kc (Kc.z d),c5.kc (Kc.z d),fun x i=>by
   rcases cW.mp i with h|h
   ·exact(o3 x h).z d
   exact(o4 x h).z d⟩
  have G:O (bV Q1=l/\bV Q2=H/\bV Q3=l/\bV Q4=H):=⟨e1,e2,e3,e4⟩
  have aS:O (∀z,Below f.heap.size f z->z.cell? ⟨E.heap.size,0,none⟩=some (.slice U M P)/\z.cell? ⟨E.heap.size,1,none⟩=some (.slice V N Q)/\z.cell? ⟨F.heap.size,0,none⟩=some (.slice y1 Z r1)/\z.cell? ⟨F.heap.size,1,none⟩=some (.slice y2 a3 r2)):=fun z d=>
   ⟨aB d (aB a5.o (cH b0.o)),aB d (aB a5.o (cH b0.o)),aB d (cH b1.o),aB d (cH b1.o)⟩
  clear bU bW bZ c5 o1 o2 o3 o4 e1 e2 e3 e4 bw bz bt bu br bo aC b0 b1 ah a5 aD aJ L ao aT;obtain⟨c0,D,q⟩:=aw.o f b5.o;obtain⟨z0,z1,z2,z3⟩:=aS.o f (aG _ _);have b2:O _:=bp.o f Q1 Q2 _ _ a6.o (a9.o f (aG _ _)).1 (a9.o f (aG _ _)).2.1 ⟨by have :=a8.o;have :=a7.o;omega,by have :=a8.o;have :=a7.o;omega⟩ (a9.o f (aG _ _)).2.2;rw[G.o.1,G.o.2.1]at b2;go_wp2_with fail;refine Calls.mono b2.o ?_;rintro e w6 ⟨vO,cF,R3,S3,rfl,c7,bg,ba⟩;obtain⟨rfl,_,rfl⟩:=tJ c7 HO.o;obtain⟨b7,k7,rfl,_⟩:=id bg;have bm:O (bS w6 (.slice b7 S3.length k7) S3):=bg;have a4:O (Below f.heap.size f w6):=ba;have bv:O (Below w.heap.size w w6):=a6.o.trans (ba.mono a6.o.size);clear c7 bg ba b2 c0 D q z0 z1 z2 z3;obtain⟨c0,D,q⟩:=aw.o w6 (b5.o.trans (a4.o.mono b5.o.size));obtain⟨z0,z1,z2,z3⟩:=aS.o w6 a4.o;have b3:O _:=bp.o w6 Q3 Q4 _ _ bv.o (aa.o w6 a4.o).1 (aa.o w6 a4.o).2.1 ⟨by have :=a8.o;have :=a7.o;omega,by have :=a8.o;have :=a7.o;omega⟩ (aa.o w6 a4.o).2.2;rw[G.o.2.2.1,G.o.2.2.2]at b3;go_wp2_with fail;refine Calls.mono b3.o ?_;rintro e K ⟨vP,cG,R4,S4,rfl,c8,bh,bb⟩;obtain⟨rfl,_,rfl⟩:=tJ c8 HO.o;obtain⟨b8,k8,rfl,_⟩:=id bh;have cn:O (bS K (.slice b8 S4.length k8) S4):=bh;have co:O (bS K (.slice b7 S4.length k7) S4):=bQ bm.o bb;have X:O (Below f.heap.size f K):=a4.o.trans (bb.mono a4.o.size);have bT:O _:=CG HO.o;clear c8 bh bb b3 c0 D q z0 z1 z2 z3 bm bv a4;obtain⟨z0,z1,z2,z3⟩:=aS.o K X.o;have bs:O _:=CA Q1 Q2 Q3 Q4 _ _ _ _ K (a9.o K X.o).1 (a9.o K X.o).2.1 (aa.o K X.o).1 (aa.o K X.o).2.1 (G.o.1.trans G.o.2.2.1.symm) (G.o.2.1.trans G.o.2.2.2.symm) ⟨by have :=a8.o;have :=a7.o;omega,by have :=a8.o;have :=a7.o;omega⟩ (a9.o K X.o).2.2 (aa.o K X.o).2.2;go_wp2_with fail;refine Calls.mono bs.o ?_;rintro _ w8 ⟨rfl,aL⟩;have cv:=(uK bT.o.2.2.2).1;have cr:O _:=SQ (bQ co.o aL) (bQ cn.o aL) oM (IR bT.o.2.2.2);have bl:O (Below w.heap.size w w8):=a6.o.trans ((X.o.trans (aL.mono X.o.size)).mono a6.o.size);clear aL bs cv z0 z1 z2 z3;go_wp2_with fail;refine Calls.mono cr.o ?_;rintro _ w9 ⟨rfl,cu⟩;go_wp2_with fail;go_ret;exact⟨rfl,bl.o.trans (cu.mono bl.o.size)⟩
end Go.Proofs.YtfljoehbbncooaaGreat
namespace Go.Proofs.YtfljoehbbncooaaGreat
open Go.RowKit
section
variable {H:Type} {enc:TypeId×Value->H} {w:World} {base:Nat} {spare:Nat->Bool} {held:Bool}
theorem aY5:Tryz.prog.cellsOf 9=1:=kR
theorem bKV{l:List Value}(h:l.length=2):∃a b,l=[a,b]:=by
 match l,h with
 |[a,b],_=>exact⟨a,b,rfl⟩
theorem bKX{l:List Value}(h:l.length=5):∃a b c d e,l=[a,b,c,d,e]:=by
 match l,h with
 |[a,b,c,d,e],_=>exact⟨a,b,c,d,e,rfl⟩
theorem aIQ{t:TypeId}{c d e f g:Field}{q:Nat}{b:List Value}{x:DataW H×List MemPlace}(ht:Tryz.prog.underlying t=some (.struct #[c,d,e,f,g]))(h:DataW.trod enc Tryz.prog w base spare held q t b=some x):
 ∃j k l m p n,b.length=Tryz.prog.cellsOf t/\DataW.trod enc Tryz.prog w base spare held n c.type ((b.drop c.offset).take (Tryz.prog.cellsOf c.type))=some j/\
  DataW.trod enc Tryz.prog w base spare held n d.type ((b.drop d.offset).take (Tryz.prog.cellsOf d.type))=some k/\DataW.trod enc Tryz.prog w base spare held n e.type ((b.drop e.offset).take (Tryz.prog.cellsOf e.type))=some l/\
  DataW.trod enc Tryz.prog w base spare held n f.type ((b.drop f.offset).take (Tryz.prog.cellsOf f.type))=some m/\DataW.trod enc Tryz.prog w base spare held n g.type ((b.drop g.offset).take (Tryz.prog.cellsOf g.type))=some p:=by
 obtain⟨u,n,_,rfl,r,s,i⟩:=DataW.trod_struct ht h
 match u,s with
 |[j,k,l,m,p],_=>exact⟨j,k,l,m,p,n,r,by simpa using i 0 c rfl,by simpa using i 1 d rfl,by simpa using i 2 e rfl,by simpa using i 3 f rfl,by simpa using i 4 g rfl⟩
theorem aUX:Tryz.prog.cellsOf 23=1:=kR
theorem aUY:Tryz.prog.cellsOf 24=1:=kR
theorem aDO:Tryz.prog.cellsOf 94=1:=kR
theorem aU0:Tryz.prog.cellsOf 95=1:=kR
theorem aU1:Tryz.prog.cellsOf 97=5:=kR
theorem aU2:Tryz.prog.cellsOf 109=4:=kR
theorem aPI:Tryz.prog.cellsOf 107=2:=kR
theorem bKW{l:List Value}(h:l.length=4):∃a b c d,l=[a,b,c,d]:=by
 match l,h with
 |[a,b,c,d],_=>exact⟨a,b,c,d,rfl⟩
theorem aIP{t:TypeId}{c d e:Field}{k:Nat}{b:List Value}{x:DataW H×List MemPlace}(ht:Tryz.prog.underlying t=some (.struct #[c,d,e]))(h:DataW.trod enc Tryz.prog w base spare held k t b=some x):
 ∃g i j n,b.length=Tryz.prog.cellsOf t/\DataW.trod enc Tryz.prog w base spare held n c.type ((b.drop c.offset).take (Tryz.prog.cellsOf c.type))=some g/\
  DataW.trod enc Tryz.prog w base spare held n d.type ((b.drop d.offset).take (Tryz.prog.cellsOf d.type))=some i/\DataW.trod enc Tryz.prog w base spare held n e.type ((b.drop e.offset).take (Tryz.prog.cellsOf e.type))=some j:=by
 obtain⟨p,n,_,rfl,l,m,f⟩:=DataW.trod_struct ht h
 match p,m with
 |[g,i,j],_=>exact⟨g,i,j,n,l,by simpa using f 0 c rfl,by simpa using f 1 d rfl,by simpa using f 2 e rfl⟩
theorem aXD{j:Nat}{v:Value}{x:DataW H×List MemPlace}(h:DataW.trod enc Tryz.prog w base spare held j 23 [v]=some x):∃l,Xk w v l/\l.length<=9223372036854775807:=by
 obtain⟨f,l,cap,u,_,s,q⟩:=EE Tryz.underlying23 aY5 dE ([]:List UInt8) (fun b c a=>w.cell? ⟨b,c,none⟩=some (.string ⟨a.toArray⟩)) (fun n g y b c r d k=>by
  match g,r with
  |[D],_=>
   obtain⟨C,e,_,_⟩:=DataW.trod_string Tryz.underlying9 k;simp at e;subst e
   exact⟨C.data.toList,d 0 dE⟩) h
 refine⟨l,⟨f,cap,u,?_⟩,s⟩;rcases q with h|⟨b,c,m,d⟩
 ·exact .inl h
 exact .inr ⟨b,c,m,fun i p=>by have :=d i p;rw[Nat.mul_one]at this;exact this⟩
theorem Qq{j:Nat}{v:Value}{x:DataW H×List MemPlace}(h:DataW.trod enc Tryz.prog w base spare held j 94 [v]=some x):∃l,iX w v l/\l.length<=9223372036854775807:=by
 obtain⟨i,l,cap,u,p,s,q⟩:=EE Tryz.underlying94 aPI dE (⟨0,0⟩:eE) (ND w) (fun n E y b F r g m=>by
  obtain⟨J,K,k,_,e,f⟩:=KR Tryz.underlying107 m;obtain⟨G,I,rfl⟩:=bKV r;simp[PM]at e f;obtain⟨C,c,_,_⟩:=DataW.trod_int Tryz.underlying3 e;obtain⟨D,d,_,_⟩:=DataW.trod_int Tryz.underlying3 f;simp at c d;subst c d
  exact⟨⟨C,D⟩,g 0 dE,g 1 dE⟩) h
 exact⟨l,⟨i,cap,u,p,q⟩,s⟩
theorem aMQ{F:Nat}{v:Value}{x:DataW H×List MemPlace}(h:DataW.trod enc Tryz.prog w base spare held F 95 [v]=some x):∃l,uA w v l/\l.length<=9223372036854775807/\(∀i,i<l.length->UC (dR l i))/\aDB v:=by
 obtain⟨E,l,cap,D,G,L,C⟩:=EE Tryz.underlying95 aU2 dE (⟨0,0,0,[]⟩:cX) (fun b e x=>Vp w b e x/\UC x) (fun n U y b e J c j=>by
  obtain⟨Z,y1,y2,y3,k,_,p,q,r,s⟩:=Jj Tryz.underlying109 j;obtain⟨W,X,Y,R,rfl⟩:=bKW J;simp[PM,aDO]at p q r s;obtain⟨M,m,_,_⟩:=DataW.trod_int Tryz.underlying3 p;obtain⟨N,f,_,_⟩:=DataW.trod_int Tryz.underlying3 q;obtain⟨P,g,_,_⟩:=DataW.trod_int Tryz.underlying3 r;obtain⟨Q,I,K⟩:=Qq s;simp at m f g;subst m f g
  exact⟨⟨M,N,P,Q⟩,⟨c 0 dE,c 1 dE,c 2 dE,R,c 3 dE,I⟩,K⟩) h
 refine⟨l,⟨E,cap,D,?_⟩,L,?_,fun S V T j=>by rw[D]at j;injection j with _ f g;subst f g;exact G⟩
 ·rcases C with h|⟨b,e,u,c⟩
  ·exact .inl h
  exact .inr ⟨b,e,u,fun i d=>(c i d).1⟩
 intro i d;rcases C with h|⟨b,e,u,c⟩
 ·rw[h]at d;simp at d
 exact(c i d).2
theorem aH0{N:Nat}{v:Value}{x:DataW H×List MemPlace}(h:DataW.trod enc Tryz.prog w base spare held N 24 [v]=some x):∃l,EV w v l/\l.length<=9223372036854775807/\(∀i,i<l.length->KH (dX l i))/\mM w v:=by
 obtain⟨L,l,cap,I,_,X,q⟩:=EE Tryz.underlying24 aU1 dE (⟨0,[],0,[],0⟩:cA) (fun b d x=>Fg w b d x/\KH x/\∃u,w.cell? ⟨b,d+3,none⟩=some u/\aDB u) (fun n a1 y b d U c P=>by
  obtain⟨y0,y1,y2,y3,y4,k,_,C,D,E,F,G⟩:=aIQ Tryz.underlying97 P;obtain⟨v0,v1,v2,K,v4,rfl⟩:=bKX U;simp[PM,aDO,aU0]at C D E F G;obtain⟨k0,r,_,_⟩:=DataW.trod_int Tryz.underlying3 C;obtain⟨l1,S,V⟩:=Qq D;obtain⟨k2,e,_,_⟩:=DataW.trod_int Tryz.underlying3 E;obtain⟨l3,T,W,R,Q⟩:=aMQ F;obtain⟨k4,s,_,_⟩:=DataW.trod_int Tryz.underlying3 G;simp at r e s;subst r e s
  exact⟨⟨k0,l1,k2,l3,k4⟩,⟨c 0 dE,⟨v1,c 1 dE,S⟩,c 2 dE,⟨K,c 3 dE,T⟩,c 4 dE⟩,⟨V,W,R⟩,K,c 3 dE,Q⟩) h
 refine⟨l,⟨L,cap,I,?_⟩,X,?_,?_⟩
 ·rcases q with h|⟨b,d,f,c⟩
  ·exact .inl h
  exact .inr ⟨b,d,f,fun i g=>(c i g).1⟩
 ·intro i g;rcases q with h|⟨b,d,f,c⟩
  ·rw[h]at g;simp at g
  exact(c i g).2.1
 intro b d n a0 J k p u j;rw[I]at J;injection J with m e M;subst m e M;rcases q with h|⟨b2,a2,f,c⟩
 ·rw[h]at p;simp at p
 injection f with f;injection f with m e;subst m e;obtain⟨u2,Z,Y⟩:=(c k p).2.2;rw[Z]at j;injection j with j;subst j;exact Y
theorem aAA{e:Nat}{va vn vr:Value}{x:DataW H×List MemPlace}(h:DataW.trod enc Tryz.prog w base spare held e 26 [va,vn,vr]=some x):∃p,nV w va vn vr p/\lR p/\mM w vr:=by obtain⟨C,D,E,n,_,b,c,d⟩:=aIP Tryz.underlying26 h;simp[aDN,aUX,aUY]at b c d;obtain⟨r,i,l⟩:=Mg b;obtain⟨s,j,m⟩:=aXD c;obtain⟨u,k,q,g,f⟩:=aH0 d;exact⟨⟨r,s,u⟩,⟨i,j,k⟩,⟨l,m,q,g⟩,f⟩
end
def bK4(f d e:Value)(c:Nat)(g:Nat)(b:Value):Prop:=
 match g with
 |5=>b=f
 |6=>b=(.pointer (some ⟨c,1,none⟩):Value)
 |7=>b=e
 |9=>b=(.pointer (some ⟨c,0,none⟩):Value)
 |10=>b=d
 |_=>True
def aMT(g e f:Value)(i:Nat)(A B:List aQ)(b:Nat)(c:Value)(d:World):Prop:=
 if b=8 then bS d c A else if b=11 then bS d c B else if b=4 then bS d c B else bK4 g e f i b c
theorem aRT(f d e:Value)(i:Nat)(A B:List aQ)(b:Nat)(m:Value)(W g:World)(c:Below W.heap.size W g)(h:aMT f d e i A B b m W):aMT f d e i A B b m g:=by
 unfold aMT at h ⊢;by_cases l:b=8
 ·rw[if_pos l]at h ⊢;exact bQ h c
 rw[if_neg l]at h ⊢;by_cases j:b=11
 ·rw[if_pos j]at h ⊢;exact bQ h c
 rw[if_neg j]at h ⊢;by_cases k:b=4
 ·rw[if_pos k]at h ⊢;exact bQ h c
 rw[if_neg k]at h ⊢;exact h
theorem aJS(m c b:List aQ)(vm vc vd:Value)(w:World)(M:bS w vm m)(J:bS w vc c)(K:bS w vd b)(Q:m.length<=1048576)(Z:c.length<=1048576)(a1:b.length<=1048576)(P:∀f,f∈m->f.args.length<=1048576)(Y:∀f,f∈c->f.args.length<=1048576)(a0:∀f,f∈b->f.args.length<=1048576):
 Calls Tryz.prog 17 #[vm, .agg #[vc,vd]] w fun e q=>∃p,e=.returned p/\bS q p (jS (eM m b) c)/\Below w.heap.size w q:=by
 obtain⟨r,s,rfl,_⟩:=id M;obtain⟨d,i,rfl,_⟩:=id J;obtain⟨g,j,rfl,_⟩:=id K;have u:=eB w (.cells #[.slice d c.length i, .slice g b.length j] 47);have D:O _:=bA w (.cells #[.slice d c.length i, .slice g b.length j] 47);have S:O (Below w.heap.size w _):=u;have a7:O (∀y,Below (w.alloc (.cells #[.slice d c.length i, .slice g b.length j] 47)).heap.size (w.alloc (.cells #[.slice d c.length i, .slice g b.length j] 47)) y->Calls Tryz.prog 47 #[.slice r m.length s, .slice g b.length j] y fun e q=>∃p,e=.returned p/\bS q p (eM m b)/\Below y.heap.size y q):=fun y C=>aUS m b _ _ y (bQ (bQ M u) C) (bQ (bQ K u) C) Q a1 P a0;have a9:O (∀y,Below (w.alloc (.cells #[.slice d c.length i, .slice g b.length j] 47)).heap.size (w.alloc (.cells #[.slice d c.length i, .slice g b.length j] 47)) y->∀v,bS y v (eM m b)->Calls Tryz.prog 46 #[v, .slice d c.length i] y fun e q=>∃p,e=.returned p/\bS q p (jS (eM m b) c)/\Below y.heap.size y q):=fun y C v hv=>Lj (eM m b) c v _ y hv (bQ (bQ J u) C) (bP EL Q) Z (fun f hf=>P f (qM.mp hf).1) Y;clear M J K Q Z a1 P Y a0 u
 go_enter Tryz.func17,Tryz.ntmps17
 go_upto_region 1 with fail;generalize w.alloc (.cells #[.slice d c.length i, .slice g b.length j] 47)=w1 at *;obtain⟨k,W⟩:∃k,k=w.heap.size:=⟨_,rfl⟩;rw[<-W]at D ⊢;clear W;(have c0:w1.cell? ⟨k,0,none⟩=some (.slice d c.length i):=cH D.o);(have c1:w1.cell? ⟨k,1,none⟩=some (.slice g b.length j):=cH D.o);refine kB (aMT (.slice r m.length s) (.slice d c.length i) (.slice g b.length j) k (eM m b) (jS (eM m b) c)) kR kR (aRT _ _ _ _ _ _) ?hop ?hend
 case hop=>
  refine oC (fun a y h=>by have e0:a.eval (.tmp 0)=(.slice r m.length s:Value):=h.old 0;exact iQ (.slice r m.length s)) ?_;refine oC (fun a y h=>by have e3:a.eval (.tmp 3)=(.pointer (some ⟨k,0,none⟩):Value):=h.old 3;exact iQ (.pointer (some ⟨k,1,none⟩))) ?_;refine oC (fun a y h=>by have e6:a.eval (.tmp 6)=(.pointer (some ⟨k,1,none⟩):Value):=h.of 6;have x1:=aB h.z c1;exact iQ (.slice g b.length j)) ?_;refine oC (fun a y h=>?_) ?_
  ·have e5:a.eval (.tmp 5)=(.slice r m.length s:Value):=h.of 5;have e7:a.eval (.tmp 7)=(.slice g b.length j:Value):=h.of 7;refine fI (f:=47) (args:=#[.slice r m.length s, .slice g b.length j]) (bI rfl) ?_ ?_
   ·have ec:=kZ a;have ef:=AO a;generalize a.eval=ev at *;clear h;go_simp
   refine Calls.mono (a7.o y h.z) ?_;rintro _ y2 ⟨v2,rfl,L,N⟩;exact⟨_,rfl,fun t ht=>by cases ht;exact L,N⟩
  refine oC (fun a y h=>by have e3:a.eval (.tmp 3)=(.pointer (some ⟨k,0,none⟩):Value):=h.old 3;exact iQ (.pointer (some ⟨k,0,none⟩))) ?_;refine oC (fun a y h=>by have e9:a.eval (.tmp 9)=(.pointer (some ⟨k,0,none⟩):Value):=h.of 9;have x0:=aB h.z c0;exact iQ (.slice d c.length i)) ?_;refine oC (fun a y h=>?_) ?_
  ·have I:bS y (a.eval (.tmp 8)) (eM m b):=h.of 8;obtain⟨E,F,e8,_⟩:=id I;rw[e8]at I;have ae:a.eval (.tmp 10)=(.slice d c.length i:Value):=h.of 10;refine fI (f:=46) (args:=#[.slice E (eM m b).length F, .slice d c.length i]) (bI rfl) ?_ ?_
   ·have ec:=kZ a;have ef:=AO a;generalize a.eval=ev at *;clear h;go_simp
   refine Calls.mono (a9.o y h.z _ I) ?_;rintro _ y2 ⟨v2,rfl,L,N⟩;exact⟨_,rfl,fun t ht=>by cases ht;exact L,N⟩
  refine oC (fun a y h=>by have H:bS y (a.eval (.tmp 11)) (jS (eM m b) c):=h.of 11;obtain⟨E,F,aa,_⟩:=id H;rw[aa]at H;refine dG (v:=.slice E (jS (eM m b) c).length F) (w':=y) (bI rfl) ?_ (fun t ht=>by cases ht;exact H) (aG _ _);have ec:=kZ a;generalize a.eval=ev at *;clear h;go_simp) ?_;exact OI.nil
 case hend=>rintro⟨n,U⟩ R X ab a2 a3 V;have x:bS R (n.getD 4 undef) (jS (eM m b) c):=tW (T:=aMT (.slice r m.length s) (.slice d c.length i) (.slice g b.length j) k (eM m b) (jS (eM m b) c)) (w:=R) (a:=⟨n,U⟩) (t:=4) V kR;obtain⟨a4,c4,G,_⟩:=id x;rw[G]at x;obtain rfl:U=[]:=ab;have a6:O _:=x;have a5:O (Below w.heap.size w R):=S.o.trans (X.mono S.o.size);have l:=QC [5,6,7,8,9,10,11,4] n _ a2 a3;clear a2 a3 V x X;simp only[List.foldl_cons,List.foldl_nil,G]at l;clear G;generalize n.getD 5 undef=x5 at l;generalize n.getD 6 undef=x6 at l;generalize n.getD 7 undef=x7 at l;generalize n.getD 8 undef=x8 at l;generalize n.getD 9 undef=x9 at l;generalize n.getD 10 undef=af at l;generalize n.getD 11 undef=ag at l;simp only[List.setIfInBounds_toArray,List.set_cons_zero,List.set_cons_succ]at l;subst l;go_wp2_with fail;go_ret;exact⟨_,rfl,a6.o,a5.o⟩
def DF:List aQ:=[⟨0,[1,2]⟩,⟨1,[1,2]⟩]
theorem aPD:eZ ([⟨0,[1,2]⟩]:List aQ)=[⟨0,[1,2]⟩]:=kR
theorem aUH:jS ([⟨0,[1,2]⟩]:List aQ) (cZ [⟨0,[1,2]⟩] kJ)=DF:=kR
theorem aUI:cZ DF kJ=[⟨1,[1,2]⟩]:=kR
theorem aUJ:cZ DF gB=[]:=kR
theorem aUK:(kF DF kJ).length=1:=kR
theorem aUL:(kF DF gB).length=0:=kR
theorem aFP:pR jQ [⟨0,[1,2]⟩] (some DF):=by
 have g:jQ.x.length=2:=rfl;unfold pR;rw[g,aPD];refine⟨some DF,⟨some [⟨0,[1,2]⟩],rfl,?_⟩,?_⟩
 ·refine⟨?_,fun r c _ f d=>?_,dE,fun r c _=>?_⟩
  ·have e:=kL.step kL.refl (AQ (p:=jQ) (T:=[⟨0,[1,2]⟩]) Vf IQ);rw[aUH]at e;exact e
  ·rcases oK c with rfl|rfl
   ·rw[aUI]at d;rw[cP.mp d];exact bY _ dL
   rw[aUJ]at d;cases d
  rcases oK c with rfl|rfl
  ·rw[aUK];decide
  rw[aUL];decide
 refine⟨kL.refl,fun r c b=>?_,dE,fun r c b=>?_⟩
 ·rcases oK c with rfl|rfl
  ·rw[IQ]at b;cases b
  rw[PR]at b;cases b
 rcases oK c with rfl|rfl
 ·rw[IQ]at b;cases b
 rw[PR]at b;cases b
theorem aPC:lE jQ [⟨0,[1,2]⟩] [] 0 DF:=.inr ⟨by kernel_rfl,some DF,aFP,rfl,rfl⟩
theorem aI5{p:bK}{l m puts takes:List aQ}{e k:Int}{G N C D i j f g:List aQ}(h:DE p l m puts takes e G N C D)(r:DE p l m puts takes k i j f g):e=k/\G=i/\N=j/\C=f/\D=g:=by
 obtain⟨x,s,w⟩:=h;obtain⟨L,u,n⟩:=r;obtain rfl:=Aj s u;rcases w with⟨a,rfl,rfl,rfl,rfl,rfl⟩|⟨a,c,I,E,H⟩
 ·rcases n with⟨_,rfl,rfl,rfl,rfl,rfl⟩|⟨b,_⟩
  ·exact⟨rfl,rfl,rfl,rfl,rfl⟩
  exact absurd b a
 rcases n with⟨b,_⟩|⟨_,K,J,F,q⟩
 ·exact absurd a b
 obtain⟨rfl,rfl⟩:=wC E F;rcases H with⟨b,rfl,rfl,rfl,rfl,rfl⟩|⟨b,rfl,rfl,rfl,rfl,rfl⟩
 ·rcases q with⟨_,rfl,rfl,rfl,rfl,rfl⟩|⟨d,_⟩
  ·exact⟨rfl,rfl,rfl,rfl,rfl⟩
  exact absurd d b
 rcases q with⟨d,_⟩|⟨_,rfl,rfl,rfl,rfl,rfl⟩
 ·exact absurd b d
 exact⟨rfl,rfl,rfl,rfl,rfl⟩
theorem aE8:uX jQ sZ qL [] [⟨0,[2,3]⟩] 0:=
 ⟨0,qL,QT rfl, .inr (.inr (.inr ⟨rfl,dE,kR, .inl ⟨aJM,rfl⟩⟩))⟩
theorem TP:yS sZ [] [⟨0,[2,3]⟩]=[⟨0,[1,2]⟩]:=kR
theorem aA1:eM DF qL=[]:=kR
theorem aA3:eM qL DF=[⟨0,[2,3]⟩,⟨1,[1,3]⟩,⟨1,[2,3]⟩]:=kR
theorem aE9:DE jQ sZ qL [] [⟨0,[2,3]⟩] 0 [⟨0,[1,2]⟩] [⟨0,[1,2]⟩,⟨1,[1,2]⟩] [] [⟨0,[2,3]⟩,⟨1,[1,3]⟩,⟨1,[2,3]⟩]:=
 ⟨0,aE8, .inr ⟨rfl,0,DF,by rw[TP];exact aPC, .inr ⟨rfl,rfl,TP.symm,rfl,aA1.symm,aA3.symm⟩⟩⟩
theorem aA2:jS (eM qL [⟨0,[2,3]⟩,⟨1,[1,3]⟩,⟨1,[2,3]⟩]) []=[⟨0,[1,2]⟩,⟨1,[1,2]⟩]:=kR
theorem aMO:∀f,f∈([⟨0,[1,2]⟩,⟨1,[1,2]⟩]:List aQ)->gD f:=by intro f b;simp only[List.mem_cons,List.not_mem_nil,or_false]at b;rcases b with rfl|rfl<;>exact(by decide:(2:Nat)<=9223372036854775807)
theorem aEF:∀f,f∈qL->f.args.length<=3:=by intro f b;simp only[qL,List.mem_cons,List.not_mem_nil,or_false]at b;rcases b with rfl|rfl|rfl|rfl|rfl<;>exact(by decide:(2:Nat)<=3)
theorem aSY:∀f,f∈([⟨0,[2,3]⟩,⟨1,[1,3]⟩,⟨1,[2,3]⟩]:List aQ)->f.args.length<=3:=by intro f b;simp only[List.mem_cons,List.not_mem_nil,or_false]at b;rcases b with rfl|rfl|rfl<;>exact(by decide:(2:Nat)<=3)
def bL5(g e c d:Value)(f:Nat)(i:Nat)(b:Value):Prop:=
 match i with
 |17=>b=(.int .i64 0:Value)
 |18=>b=(.bool true:Value)
 |19=>b=(.bool true:Value)
 |20=>b=(g:Value)
 |23=>b=(.bool true:Value)
 |24=>b=(.bool true:Value)
 |25=>b=(.bool true:Value)
 |26=>b=(e:Value)
 |32=>b=(.bool true:Value)
 |33=>b=(.bool true:Value)
 |34=>b=(.bool true:Value)
 |35=>b=(.pointer (some ⟨f,0,none⟩):Value)
 |36=>b=(c:Value)
 |37=>b=(.int .i64 0:Value)
 |38=>b=(.bool true:Value)
 |39=>b=(.bool true:Value)
 |40=>b=(.bool true:Value)
 |41=>b=(.pointer (some ⟨f,1,none⟩):Value)
 |42=>b=(d:Value)
 |43=>b=(.int .i64 3:Value)
 |44=>b=(.bool true:Value)
 |45=>b=(.bool true:Value)
 |46=>b=(.bool true:Value)
 |48=>b=(.agg #[c,d]:Value)
 |50=>b=(e:Value)
 |51=>b=(.bool true:Value)
 |52=>b=(.bool true:Value)
 |0=>b=(.bool true:Value)
 |_=>True
def bAB(j k g i:Value)(l:Nat)(e:Nat)(d:Value)(f:World):Prop:=
 if e=21 then∃b m cap,d=.slice (some ⟨b,m,none⟩) 2 cap/\2<=cap/\bS f d sZ
 else if e=22 then bS f d (sZ.take 1)
 else if e=27 then∃a c,d=.slice a 2 c/\eT f (.slice a 2 c) [1,2]
 else if e=28 then∃a c,d=lT 0 (.slice a 2 c)/\eT f (.slice a 2 c) [1,2]
 else if e=29 then∃a c,d=.slice a 2 c/\eT f (.slice a 2 c) [1,2]
 else if e=30 then∃a c,d=lT 1 (.slice a 2 c)/\eT f (.slice a 2 c) [1,2]
 else if e=31 then bS f d [⟨0,[1,2]⟩,⟨1,[1,2]⟩]
 else if e=47 then bS f d qL
 else if e=49 then bS f d [⟨0,[1,2]⟩,⟨1,[1,2]⟩]
 else bL5 j k g i l e d
theorem aV4(k l i j:Value)(n:Nat)(d:Nat)(E:Value)(W m:World)(g:Below W.heap.size W m)(h:bAB k l i j n d E W):bAB k l i j n d E m:=by
 unfold bAB at h ⊢;by_cases p:d=21
 ·rw[if_pos p]at h ⊢;obtain⟨b,G,cap,e,f,F⟩:=h;exact⟨b,G,cap,e,f,bQ F g⟩
 rw[if_neg p]at h ⊢;by_cases q:d=22
 ·rw[if_pos q]at h ⊢;exact bQ h g
 rw[if_neg q]at h ⊢;by_cases r:d=27
 ·rw[if_pos r]at h ⊢;obtain⟨a,c,e,f⟩:=h;exact⟨a,c,e,bC f g⟩
 rw[if_neg r]at h ⊢;by_cases s:d=28
 ·rw[if_pos s]at h ⊢;obtain⟨a,c,e,f⟩:=h;exact⟨a,c,e,bC f g⟩
 rw[if_neg s]at h ⊢;by_cases u:d=29
 ·rw[if_pos u]at h ⊢;obtain⟨a,c,e,f⟩:=h;exact⟨a,c,e,bC f g⟩
 rw[if_neg u]at h ⊢;by_cases w:d=30
 ·rw[if_pos w]at h ⊢;obtain⟨a,c,e,f⟩:=h;exact⟨a,c,e,bC f g⟩
 rw[if_neg w]at h ⊢;by_cases x:d=31
 ·rw[if_pos x]at h ⊢;exact bQ h g
 rw[if_neg x]at h ⊢;by_cases C:d=47
 ·rw[if_pos C]at h ⊢;exact bQ h g
 rw[if_neg C]at h ⊢;by_cases D:d=49
 ·rw[if_pos D]at h ⊢;exact bQ h g
 rw[if_neg D]at h ⊢;exact h
theorem Sh(w:World):Calls Tryz.prog 16 #[] w fun e d=>e=.returned (.bool true)/\Below w.heap.size w d:=by
 have HS:O (∀w,Calls Tryz.prog 38 #[] w fun e d=>∃M P H,e=.returned (gU M P H)/\nV d M P H jQ/\mM d H/\Below w.heap.size w d):=Mv;have ay:O (∀w,Calls Tryz.prog 41 #[] w fun e d=>∃v,e=.returned v/\bS d v qL/\Below w.heap.size w d):=aLU;have ai:O (∀(p:Int)(a:Option Addr)(n c:Nat)(w:World),Calls Tryz.prog 43 #[.int .i64 p, .slice a n c] w fun e d=>e=.returned (lT p (.slice a n c))/\Below w.heap.size w d):=MG;have b2:O (∀w,Calls Tryz.prog 45 #[] w fun e d=>∃b F cap,e=.returned (.slice (some ⟨b,F,none⟩) 2 cap)/\2<=cap/\bS d (.slice (some ⟨b,F,none⟩) 2 cap) sZ/\Below w.heap.size w d):=fun w=>Calls.mono (aXH w) (by
  rintro e d ⟨v,rfl,K,hb⟩;obtain⟨ao,cap,rfl,S,hA⟩:=id K;rcases hA with hA|⟨b,F,rfl,_⟩
  ·cases hA
  exact⟨b,F,cap,rfl,S.1,K,hb⟩)
 have ar:O (∀w M P H uf uo ut,nV w M P H jQ->mM w H->bS w uf sZ->bS w uo qL->bS w ut [⟨0,[2,3]⟩]->Calls Tryz.prog 44 #[gU M P H,uf,uo, .slice none 0 0,ut] w fun e d=>∃I J r s k m l q,e=.returned (.tuple #[.slice I 1 J, .slice r 2 s, .agg #[.slice k 0 m, .slice l 3 q], .int .i64 0])/\bS d (.slice I 1 J) (sZ.take 1)/\bS d (.slice r 2 s) [⟨0,[1,2]⟩,⟨1,[1,2]⟩]/\bS d (.slice k 0 m) []/\bS d (.slice l 3 q) [⟨0,[2,3]⟩,⟨1,[1,3]⟩,⟨1,[2,3]⟩]/\Below w.heap.size w d):=by intro w M P H uf uo ut h1 h2 h3 h4 h5;refine(aDA jQ sZ qL [] [⟨0,[2,3]⟩] M P H uf uo _ ut w h1 Cz h2 h3 dE aAC h4 dE (fun f u=>by have :=aEF f u;omega) ⟨none,0,rfl,⟨aH _,fun _=>rfl⟩, .inl rfl⟩ (bL _) (fun f u=>absurd u sI) h5 dE (fun f u=>by rw[cP.mp u];exact(by decide:(2:Nat)<=9223372036854775807))).mono ?_;rintro e d ⟨vg,vw,vc,vd,c,G,N,C,D,rfl,hR,Y,Z,S,hd,hb⟩;obtain⟨rfl,rfl,rfl,rfl,rfl⟩:=aI5 hR aE9;obtain⟨x1,y1,rfl,_⟩:=id Y;obtain⟨x2,L,rfl,_⟩:=id Z;obtain⟨x3,y3,rfl,_⟩:=id S;obtain⟨x4,y4,rfl,_⟩:=id hd;exact⟨x1,y1,x2,L,x3,y3,x4,y4,rfl,Y,Z,S,hd,hb⟩
 go_enter Tryz.func16,Tryz.ntmps16
 go_wp2_with fail;refine Calls.mono (HS.o _) ?_;rintro e w1 ⟨M,P,H,rfl,b7,b5,b9⟩;have a0:O _:=TO b7 b5;have ab:O _:=b9;clear b7 b5 b9;go_wp2_with fail;refine Calls.mono (b2.o _) ?_;rintro e w2 ⟨pb,po,pc,rfl,bo,U,j⟩;have a5:O _:=TO (a0.o.1.z j) (a0.o.2.z a0.o.1.rl j);have ac:O _:=ab.o.trans (j.mono ab.o.size);have ax:O _:=U;clear a0 ab j U bo;go_wp2_with fail;refine Calls.mono (ay.o _) ?_;rintro e w3 ⟨uo,rfl,b6,X⟩;have a6:O _:=TO (a5.o.1.z X) (a5.o.2.z a5.o.1.rl X);have ad:O _:=ac.o.trans (X.mono ac.o.size);have aJ:O _:=bQ ax.o X;have aS:O _:=b6;clear a5 ac ax X b6;go_wp2_with fail;have x:=eB w3 (.cells #[.int .i64 2, .int .i64 3] 3);have aC:O _:=AG w3 2 3;have a7:O _:=TO (a6.o.1.z x) (a6.o.2.z a6.o.1.rl x);have ae:O _:=ad.o.trans (x.mono ad.o.size);have aL:O _:=bQ aJ.o x;have aT:O _:=bQ aS.o x;clear x a6 ad aJ aS;generalize w3.alloc (.cells #[.int .i64 2, .int .i64 3] 3)=w4 at *;generalize w3.heap.size=X3 at *;refine Calls.mono (ai.o _ _ _ _ _) ?_;rintro e w5 ⟨rfl,R⟩;have aD:O _:=bC aC.o R;have aa:O _:=TO (a7.o.1.z R) (a7.o.2.z a7.o.1.rl R);have af:O _:=ae.o.trans (R.mono ae.o.size);have aN:O _:=bQ aL.o R;have b0:O _:=bQ aT.o R;clear R aC a7 ae aL aT;go_wp2_with fail;have x:=eB w5 (.cells #[.int .i64 0, .slice (some ⟨X3,0,none⟩) 2 2] 72);have b3:O _:=aQP w5 ⟨0,[2,3]⟩ _ aD.o;have aj:O _:=TO (aa.o.1.z x) (aa.o.2.z aa.o.1.rl x);have ag:O _:=af.o.trans (x.mono af.o.size);have aO:O _:=bQ aN.o x;have b1:O _:=bQ b0.o x;clear x aD aa af aN b0;generalize w5.alloc (.cells #[.int .i64 0, .slice (some ⟨X3,0,none⟩) 2 2] 72)=w6 at *;generalize w5.heap.size=X5 at *;refine Calls.mono (ar.o _ _ _ _ _ _ _ aj.o.1 aj.o.2 aO.o b1.o b3.o) ?_;rintro e w7 ⟨I,J,r,s,k,m,l,q,rfl,Y,Z,bc,bf,ba⟩;have az:O _:=Y;have aR:O _:=Z;have av:O _:=bc;have aw:O _:=bf;have ah:O (Below w.heap.size w w7):=ag.o.trans (ba.mono ag.o.size);clear Y Z bc bf ba aj ag aO b1 b3 ar HS;go_upto_region 2 with fail;have V:=eB w7 (.cells #[.slice k 0 m, .slice l 3 q] 47);have b4:O _:=bA w7 (.cells #[.slice k 0 m, .slice l 3 q] 47);have HG:O _:=bQ az.o V;have HN:O _:=bQ aR.o V;have HC:O _:=bQ av.o V;have HD:O _:=bQ aw.o V;have au:O (Below w.heap.size w _):=ah.o.trans (V.mono ah.o.size);clear V az aR av aw ah;generalize w7.alloc (.cells #[.slice k 0 m, .slice l 3 q] 47)=w8 at *;generalize w7.heap.size=E at *;(have d0:w8.cell? ⟨E,0,none⟩=some (.slice k 0 m):=cH b4.o);(have d1:w8.cell? ⟨E,1,none⟩=some (.slice l 3 q):=cH b4.o);(have bh:O (∀y,Below w8.heap.size w8 y->∀v,bS y v qL->Calls Tryz.prog 17 #[v, .agg #[.slice k 0 m, .slice l 3 q]] y fun e d=>∃v',e=.returned v'/\bS d v' [⟨0,[1,2]⟩,⟨1,[1,2]⟩]/\Below y.heap.size y d):=fun y hy v hv=>by have h:=aJS qL [] [⟨0,[2,3]⟩,⟨1,[1,3]⟩,⟨1,[2,3]⟩] v (.slice k 0 m) (.slice l 3 q) y hv (bQ HC.o hy) (bQ HD.o hy) dE dE dE (fun f u=>by have :=aEF f u;omega) (fun f u=>absurd u sI) (fun f u=>by have :=aSY f u;omega);rw[aA2]at h;exact h);refine kB (bAB (.slice I 1 J) (.slice r 2 s) (.slice k 0 m) (.slice l 3 q) E) kR kR (aV4 _ _ _ _ _) ?hop ?hend
 case hop=>
  refine oC (fun a y h=>by have e4:a.eval (.tmp 4)=(.int .i64 0:Value):=h.old 4;exact iQ (.int .i64 0)) ?_;refine oC (fun a y h=>by have bp:a.eval (.tmp 17)=(.int .i64 0:Value):=h.of 17;exact iQ (.bool true)) ?_;refine oC (fun a y h=>by have bq:a.eval (.tmp 18)=(.bool true:Value):=h.of 18;exact iQ (.bool true)) ?_;refine oC (fun a y h=>by have e1:a.eval (.tmp 1)=(.slice I 1 J:Value):=h.old 1;refine dG (v:=.slice I 1 J) (w':=y) (wG (h.of 19)) ?_ tR (aG _ _);have ec:=kZ a;generalize a.eval=ev at *;clear h;go_simp) ?_;refine oC (fun a y h=>?_) ?_
  ·refine fI (f:=45) (args:=#[]) (wG (h.of 19)) ?_ ?_
   ·have ec:=kZ a;have Q:=AO a;generalize a.eval=ev at *;clear h;go_simp
   refine Calls.mono (b2.o y) ?_;rintro _ L ⟨b,F,cap,rfl,S,K,j⟩;exact⟨_,rfl,fun t ht=>by cases ht;exact⟨b,F,cap,rfl,S,K⟩,j⟩
  refine oC (fun a y h=>by obtain⟨b,F,cap,bi,S,K⟩:∃b F cap,a.eval (.tmp 21)=.slice (some ⟨b,F,none⟩) 2 cap/\2<=cap/\bS y (a.eval (.tmp 21)) sZ:=h.of 21;rw[bi]at K;have U:bS y (.slice (some ⟨b,F,none⟩) 1 cap) (sZ.take 1):=aQS K 0 1 cap dE oM;refine dG (v:=.slice (some ⟨b,F,none⟩) 1 cap) (w':=y) (wG (h.of 19)) ?_ (fun t ht=>by cases ht;exact U) (aG _ _);have g1:decide ((1:Int)<=(cap:Int))=true:=aP oM;have g2:(1:Int)<=(cap:Int):=oM;have ec:=kZ a;generalize a.eval=ev at *;clear h;go_simp) ?_;refine oC (fun a y h=>?_) ?_
  ·have bs:a.eval (.tmp 20)=(.slice I 1 J:Value):=h.of 20;have ak:bS y (a.eval (.tmp 22)) (sZ.take 1):=h.of 22;obtain⟨g,i,bj,_⟩:=id ak;rw[bj]at ak;refine fI (f:=15) (args:=#[.slice I 1 J, .slice g (sZ.take 1).length i]) (wG (h.of 19)) ?_ ?_
   ·have ec:=kZ a;have Q:=AO a;generalize a.eval=ev at *;clear h;go_simp
   refine Calls.mono (wY (sZ.take 1) _ _ y (bQ HG.o h.z) ak dE (fun f u=>aAC f (mC u))) ?_;rintro _ L ⟨rfl,j⟩;exact⟨_,rfl,fun t ht=>by cases ht;exact rfl,j⟩
  refine oC (fun a y h=>by have br:a.eval (.tmp 19)=(.bool true:Value):=h.of 19;have bt:a.eval (.tmp 23)=(.bool true:Value):=h.of 23;exact iQ (.bool true)) ?_;refine oC (fun a y h=>by have bu:a.eval (.tmp 24)=(.bool true:Value):=h.of 24;exact iQ (.bool true)) ?_;refine oC (fun a y h=>by have e2:a.eval (.tmp 2)=(.slice r 2 s:Value):=h.old 2;refine dG (v:=.slice r 2 s) (w':=y) (wG (h.of 25)) ?_ tR (aG _ _);have ec:=kZ a;generalize a.eval=ev at *;clear h;go_simp) ?_;refine oC (fun a y h=>by refine dG (v:=.slice (some ⟨y.heap.size,0,none⟩) 2 2) (w':=y.alloc (.cells #[.int .i64 1, .int .i64 2] 3)) (wG (h.of 25)) ?_ (fun t ht=>by cases ht;exact⟨_,_,rfl,AG y 1 2⟩) (eB y _);have ec:=kZ a;generalize a.eval=ev at *;clear h;go_simp) ?_;refine oC (fun a y h=>?_) ?_
  ·obtain⟨g,i,bz,W⟩:∃g i,a.eval (.tmp 27)=.slice g 2 i/\eT y (.slice g 2 i) [1,2]:=h.of 27;refine fI (f:=43) (args:=#[.int .i64 0, .slice g 2 i]) (wG (h.of 25)) ?_ ?_
   ·have ec:=kZ a;have Q:=AO a;generalize a.eval=ev at *;clear h;go_simp
   refine Calls.mono (ai.o _ _ _ _ y) ?_;rintro _ L ⟨rfl,j⟩;exact⟨_,rfl,fun t ht=>by cases ht;exact⟨_,_,rfl,bC W j⟩,j⟩
  refine oC (fun a y h=>by refine dG (v:=.slice (some ⟨y.heap.size,0,none⟩) 2 2) (w':=y.alloc (.cells #[.int .i64 1, .int .i64 2] 3)) (wG (h.of 25)) ?_ (fun t ht=>by cases ht;exact⟨_,_,rfl,AG y 1 2⟩) (eB y _);have ec:=kZ a;generalize a.eval=ev at *;clear h;go_simp) ?_;refine oC (fun a y h=>?_) ?_
  ·obtain⟨g,i,bT,W⟩:∃g i,a.eval (.tmp 29)=.slice g 2 i/\eT y (.slice g 2 i) [1,2]:=h.of 29;refine fI (f:=43) (args:=#[.int .i64 1, .slice g 2 i]) (wG (h.of 25)) ?_ ?_
   ·have ec:=kZ a;have Q:=AO a;generalize a.eval=ev at *;clear h;go_simp
   refine Calls.mono (ai.o _ _ _ _ y) ?_;rintro _ L ⟨rfl,j⟩;exact⟨_,rfl,fun t ht=>by cases ht;exact⟨_,_,rfl,bC W j⟩,j⟩
  refine oC (fun a y h=>by obtain⟨g,i,bN,W⟩:∃g i,a.eval (.tmp 28)=lT 0 (.slice g 2 i)/\eT y (.slice g 2 i) [1,2]:=h.of 28;obtain⟨a9,c9,bU,hJ⟩:∃a9 c9,a.eval (.tmp 30)=lT 1 (.slice a9 2 c9)/\eT y (.slice a9 2 c9) [1,2]:=h.of 30;refine dG (v:=.slice (some ⟨y.heap.size,0,none⟩) 2 2) (w':=y.alloc (.cells #[.int .i64 0, .slice g 2 i, .int .i64 1, .slice a9 2 c9] 72)) (wG (h.of 25)) ?_ (fun t ht=>by cases ht;exact Ym y ⟨0,[1,2]⟩ ⟨1,[1,2]⟩ _ _ W hJ) (eB y _);have ec:=kZ a;generalize a.eval=ev at *;clear h;go_simp) ?_;refine oC (fun a y h=>?_) ?_
  ·have bw:a.eval (.tmp 26)=(.slice r 2 s:Value):=h.of 26;have al:bS y (a.eval (.tmp 31)) [⟨0,[1,2]⟩,⟨1,[1,2]⟩]:=h.of 31;obtain⟨g,i,bk,_⟩:=id al;rw[bk]at al;refine fI (f:=15) (args:=#[.slice r 2 s, .slice g ([⟨0,[1,2]⟩,⟨1,[1,2]⟩]:List aQ).length i]) (wG (h.of 25)) ?_ ?_
   ·have ec:=kZ a;have Q:=AO a;generalize a.eval=ev at *;clear h;go_simp
   refine Calls.mono (wY [⟨0,[1,2]⟩,⟨1,[1,2]⟩] _ _ y (bQ HN.o h.z) al dE aMO) ?_;rintro _ L ⟨rfl,j⟩;exact⟨_,rfl,fun t ht=>by cases ht;exact rfl,j⟩
  refine oC (fun a y h=>by have bv:a.eval (.tmp 25)=(.bool true:Value):=h.of 25;have bW:a.eval (.tmp 32)=(.bool true:Value):=h.of 32;exact iQ (.bool true)) ?_;refine oC (fun a y h=>by have bZ:a.eval (.tmp 33)=(.bool true:Value):=h.of 33;exact iQ (.bool true)) ?_;refine oC (fun a y h=>by have e3:a.eval (.tmp 3)=(.pointer (some ⟨E,0,none⟩):Value):=h.old 3;refine dG (v:=.pointer (some ⟨E,0,none⟩)) (w':=y) (wG (h.of 34)) ?_ tR (aG _ _);have ec:=kZ a;generalize a.eval=ev at *;clear h;go_simp) ?_;refine oC (fun a y h=>by have c6:a.eval (.tmp 35)=(.pointer (some ⟨E,0,none⟩):Value):=h.of 35;have x0:=aB h.z d0;refine dG (v:=.slice k 0 m) (w':=y) (wG (h.of 34)) ?_ tR (aG _ _);have ec:=kZ a;generalize a.eval=ev at *;clear h;go_simp) ?_;refine oC (fun a y h=>by have c7:a.eval (.tmp 36)=(.slice k 0 m:Value):=h.of 36;refine dG (v:=.int .i64 0) (w':=y) (wG (h.of 34)) ?_ tR (aG _ _);have ec:=kZ a;generalize a.eval=ev at *;clear h;go_simp) ?_;refine oC (fun a y h=>by have ca:a.eval (.tmp 37)=(.int .i64 0:Value):=h.of 37;refine dG (v:=.bool true) (w':=y) (wG (h.of 34)) ?_ tR (aG _ _);have ec:=kZ a;generalize a.eval=ev at *;clear h;go_simp) ?_;refine oC (fun a y h=>by have c5:a.eval (.tmp 34)=(.bool true:Value):=h.of 34;have cb:a.eval (.tmp 38)=(.bool true:Value):=h.of 38;exact iQ (.bool true)) ?_;refine oC (fun a y h=>by have cc:a.eval (.tmp 39)=(.bool true:Value):=h.of 39;exact iQ (.bool true)) ?_;refine oC (fun a y h=>by have e3:a.eval (.tmp 3)=(.pointer (some ⟨E,0,none⟩):Value):=h.old 3;refine dG (v:=.pointer (some ⟨E,1,none⟩)) (w':=y) (wG (h.of 40)) ?_ tR (aG _ _);have ec:=kZ a;generalize a.eval=ev at *;clear h;go_simp) ?_;refine oC (fun a y h=>by have ce:a.eval (.tmp 41)=(.pointer (some ⟨E,1,none⟩):Value):=h.of 41;have x1:=aB h.z d1;refine dG (v:=.slice l 3 q) (w':=y) (wG (h.of 40)) ?_ tR (aG _ _);have ec:=kZ a;generalize a.eval=ev at *;clear h;go_simp) ?_;refine oC (fun a y h=>by have cf:a.eval (.tmp 42)=(.slice l 3 q:Value):=h.of 42;refine dG (v:=.int .i64 3) (w':=y) (wG (h.of 40)) ?_ tR (aG _ _);have ec:=kZ a;generalize a.eval=ev at *;clear h;go_simp) ?_;refine oC (fun a y h=>by have cg:a.eval (.tmp 43)=(.int .i64 3:Value):=h.of 43;refine dG (v:=.bool true) (w':=y) (wG (h.of 40)) ?_ tR (aG _ _);have ec:=kZ a;generalize a.eval=ev at *;clear h;go_simp) ?_;refine oC (fun a y h=>by have cd:a.eval (.tmp 40)=(.bool true:Value):=h.of 40;have ci:a.eval (.tmp 44)=(.bool true:Value):=h.of 44;exact iQ (.bool true)) ?_;refine oC (fun a y h=>by have cj:a.eval (.tmp 45)=(.bool true:Value):=h.of 45;exact iQ (.bool true)) ?_;refine oC (fun a y h=>?_) ?_
  ·refine fI (f:=41) (args:=#[]) (wG (h.of 46)) ?_ ?_
   ·have ec:=kZ a;have Q:=AO a;generalize a.eval=ev at *;clear h;go_simp
   refine Calls.mono (ay.o y) ?_;rintro _ L ⟨v,rfl,K,j⟩;exact⟨_,rfl,fun t ht=>by cases ht;exact K,j⟩
  refine oC (fun a y h=>by have e3:a.eval (.tmp 3)=(.pointer (some ⟨E,0,none⟩):Value):=h.old 3;have x0:=aB h.z d0;have x1:=aB h.z d1;refine dG (v:=.agg #[.slice k 0 m, .slice l 3 q]) (w':=y) (wG (h.of 46)) ?_ tR (aG _ _);have ec:=kZ a;generalize a.eval=ev at *;clear h;go_simp) ?_;refine oC (fun a y h=>?_) ?_
  ·have cm:a.eval (.tmp 48)=(.agg #[.slice k 0 m, .slice l 3 q]:Value):=h.of 48;have am:bS y (a.eval (.tmp 47)) qL:=h.of 47;obtain⟨g,i,bl,_⟩:=id am;rw[bl]at am;refine fI (f:=17) (args:=#[.slice g qL.length i, .agg #[.slice k 0 m, .slice l 3 q]]) (wG (h.of 46)) ?_ ?_
   ·have ec:=kZ a;have Q:=AO a;generalize a.eval=ev at *;clear h;go_simp
   refine Calls.mono (bh.o y h.z _ am) ?_;rintro _ L ⟨v2,rfl,U,j⟩;exact⟨_,rfl,fun t ht=>by cases ht;exact U,j⟩
  refine oC (fun a y h=>by have e2:a.eval (.tmp 2)=(.slice r 2 s:Value):=h.old 2;refine dG (v:=.slice r 2 s) (w':=y) (wG (h.of 46)) ?_ tR (aG _ _);have ec:=kZ a;generalize a.eval=ev at *;clear h;go_simp) ?_;refine oC (fun a y h=>?_) ?_
  ·have cn:a.eval (.tmp 50)=(.slice r 2 s:Value):=h.of 50;have an:bS y (a.eval (.tmp 49)) [⟨0,[1,2]⟩,⟨1,[1,2]⟩]:=h.of 49;obtain⟨g,i,bm,_⟩:=id an;rw[bm]at an;refine fI (f:=15) (args:=#[.slice g ([⟨0,[1,2]⟩,⟨1,[1,2]⟩]:List aQ).length i, .slice r 2 s]) (wG (h.of 46)) ?_ ?_
   ·have ec:=kZ a;have Q:=AO a;generalize a.eval=ev at *;clear h;go_simp
   refine Calls.mono (wY [⟨0,[1,2]⟩,⟨1,[1,2]⟩] _ _ y an (bQ HN.o h.z) dE aMO) ?_;rintro _ L ⟨rfl,j⟩;exact⟨_,rfl,fun t ht=>by cases ht;exact rfl,j⟩
  refine oC (fun a y h=>by have ck:a.eval (.tmp 46)=(.bool true:Value):=h.of 46;have co:a.eval (.tmp 51)=(.bool true:Value):=h.of 51;exact iQ (.bool true)) ?_;refine oC (fun a y h=>by have cp:a.eval (.tmp 52)=(.bool true:Value):=h.of 52;exact iQ (.bool true)) ?_;exact OI.nil
 case hend=>rintro⟨tm,df⟩ wE bb bn bd be b8;have h0:tm.getD 0 undef=(.bool true:Value):=tW (T:=bAB (.slice I 1 J) (.slice r 2 s) (.slice k 0 m) (.slice l 3 q) E) (w:=wE) (a:=⟨tm,df⟩) (t:=0) b8 kR;obtain rfl:df=[]:=bn;have bg:O (Below w.heap.size w wE):=au.o.trans (bb.mono au.o.size);obtain⟨fQ,hQ,aq⟩:=oR [17,18,19,20,21,22,23,24,25,26,27,28,29,30,31,32,33,34,35,36,37,38,39,40,41,42,43,44,45,46,47,48,49,50,51,52,0] tm _ bd be;clear bd be b8 bb;simp only[List.foldl_cons,List.foldl_nil,(hQ 0).trans h0]at aq;clear h0 hQ;simp only[List.setIfInBounds_toArray,List.set_cons_zero,List.set_cons_succ]at aq;subst aq;go_wp2_with fail;go_ret;exact⟨rfl,bg.o⟩
end Go.Proofs.YtfljoehbbncooaaGreat
namespace Go.Proofs.YtfljoehbbncooaaGreat
open Go.RowKit Go.Maps
theorem aC4(p:bK)(d i D:List Uv)(hv wv lv va vn vr:Value)(w:World)(F:nV w va vn vr p)(hF:lR p)(ay:mM w vr)(hV:iI w hv d)(wV:iI w wv i)(lV:iI w lv D)(hl:d.length<=4611686018427387903/\i.length<=4611686018427387903)(bg:D.length<=4611686018427387903)(az:∀x,x∈d++i->gM w x)(bh:∀x,x∈D->gM w x):
 Calls Tryz.prog 4 #[gU va vn vr,mU hv wv,lv] w fun e I=>e=.returned (.bool true)/\Below w.heap.size w I:=by
 have aS:O (∀z a4 a6 N ai,Below w.heap.size w z->iI z N a4->iI z ai a6->(a4.length<=4611686018427387903/\a6.length<=4611686018427387903)->(∀x,x∈a4++a6->gM z x)->Calls Tryz.prog 6 #[gU va vn vr,mU N ai] z fun e I=>∃vO c R S,e=.returned (.tuple #[vO, .int .i64 c])/\sG p (bV a4) (bV a6) c R S/\bS I vO S/\Below z.heap.size z I):=fun z a4 a6 N ai j s h2 h3 h4=>Vm p a4 a6 N ai va vn vr z (F.z j) hF (ay.z F.rl j) s h2 h3 h4;have aO:O (∀z,Below w.heap.size w z->Calls Tryz.prog 7 #[gU va vn vr,mU hv wv,lv] z fun e I=>∃vx vc c s J b,e=.returned (.tuple #[vx,vc, .int .i64 c])/\DK p (bV d) (bV i) (bV D) c s J b/\CpR s J I vx/\Nj z.heap.size I vc b/\Below z.heap.size z I):=fun z j=>TQ p d i D hv wv lv va vn vr z (F.z j) hF (ay.z F.rl j) (hV.kc (Kc.z j)) (wV.kc (Kc.z j)) (lV.kc (Kc.z j)) hl bg (fun x P=>(az x P).z j) (fun x P=>(bh x P).z j);have af:O (∀z,Below w.heap.size w z->iI z hv d/\iI z wv i/\∀x,x∈d++i->gM z x):=fun z j=>⟨hV.kc (Kc.z j),wV.kc (Kc.z j),fun x P=>(az x P).z j⟩;have HL:O (d.length<=4611686018427387903/\i.length<=4611686018427387903):=hl;obtain⟨Z,n0,rfl,_⟩:=id F.ar;obtain⟨a1,n1,rfl,_⟩:=id F.nm;obtain⟨a2,n2,rfl,_⟩:=id F.rl;obtain⟨ah,ch,rfl,_,_⟩:=hV;obtain⟨aw,cw,rfl,_,_⟩:=wV;obtain⟨al,cl,rfl,_,_⟩:=lV;clear az bh F hF ay hl bg;have bc:Below w.heap.size w ((w.alloc (pB Z n0 a1 n1 a2 n2 p)).alloc (.cells #[.slice ah d.length ch, .slice aw i.length cw] 29)):=((aG _ _).alloc (aH _) _).alloc sI _;have X:O (((w.alloc (pB Z n0 a1 n1 a2 n2 p)).alloc (.cells #[.slice ah d.length ch, .slice aw i.length cw] 29)).heap[w.heap.size]?=some (pB Z n0 a1 n1 a2 n2 p)/\((w.alloc (pB Z n0 a1 n1 a2 n2 p)).alloc (.cells #[.slice ah d.length ch, .slice aw i.length cw] 29)).heap[w.heap.size+1]?=some (.cells #[.slice ah d.length ch, .slice aw i.length cw] 29)):=by
  refine⟨?_,?_⟩
  ·show((w.heap.push _).push _)[w.heap.size]?=_;rw[iK,if_neg sI,iK,if_pos rfl]
  show((w.heap.push _).push _)[w.heap.size+1]?=_;rw[iK,if_pos sI]
 have V:O _:=bc;clear bc
 go_enter Tryz.func4,Tryz.ntmps4
 go_upto_region 1 with fail;generalize (w.alloc (pB Z n0 a1 n1 a2 n2 p)).alloc (.cells #[.slice ah d.length ch, .slice aw i.length cw] 29)=E at *
 have ao:O (∀z,Below E.heap.size E z->z.cell? ⟨w.heap.size,0,none⟩=some (.slice Z p.x.length n0)/\z.cell? ⟨w.heap.size,1,none⟩=some (.slice a1 p.r.length n1)/\z.cell? ⟨w.heap.size,2,none⟩=some (.slice a2 p.y.length n2)/\z.cell? ⟨w.heap.size+1,0,none⟩=some (.slice ah d.length ch)/\z.cell? ⟨w.heap.size+1,1,none⟩=some (.slice aw i.length cw)):=fun z j=>
  ⟨aB j (cH X.o.1),aB j (cH X.o.1),aB j (cH X.o.1),aB j (cH X.o.2),aB j (cH X.o.2)⟩
 clear X;obtain⟨c0,c1,c2,c3,c4⟩:=ao.o E (aG _ _);go_wp2_with fail;refine Calls.mono (aS.o _ d i _ _ V.o (af.o _ V.o).1 (af.o _ V.o).2.1 HL.o (af.o _ V.o).2.2) ?_;rintro e J ⟨vO,c,R,S,rfl,hR,aD,u⟩;obtain⟨b6,k6,rfl,_,_⟩:=id aD;have HR:O (sG p (bV d) (bV i) c R S):=hR;have b3:O (bS J (.slice b6 S.length k6) S):=aD;have aj:O (Below E.heap.size E J):=u;clear hR aD u c0 c1 c2 c3 c4;go_wp2_with fail;refine Calls.mono (Ad J) ?_;rintro _ w2 ⟨rfl,ax⟩;go_wp2_with fail;refine Calls.mono (Sh w2) ?_;rintro _ C ⟨rfl,bd⟩;have ak:O (Below J.heap.size J C):=ax.trans (bd.mono ax.size);have ad:O (Below E.heap.size E C):=aj.o.trans (ak.o.mono aj.o.size);have ae:O (Below w.heap.size w C):=V.o.trans (ad.o.mono V.o.size);have aR:O (bS C (.slice b6 S.length k6) S):=bQ b3.o ak.o;clear ax bd b3 ak aj;by_cases L:c=0;rotate_left
 ·have hS:S=[]:=by
   rcases HR.o with⟨_,_,_,h⟩|⟨_,_,_,_,h⟩|⟨_,_,_,_,⟨_,_,h⟩|⟨h,_⟩⟩
   ·exact h
   ·exact h
   ·exact h
   exact absurd h L
  subst hS;(have bT:(c != 0)=true:=by simpa using L);go_wp2_with fail;go_ret;exact⟨rfl,ae.o⟩
 subst L;obtain⟨c0,c1,c2,c3,c4⟩:=ao.o C ad.o;go_wp2_with fail;refine Calls.mono (aO.o _ ae.o) ?_;rintro e m ⟨vx,vc,cD,s,u1,b,rfl,hV,⟨K,G,H,U,Q,T,rfl,ba,bb⟩,hH,be⟩;obtain⟨ac,cc,rfl⟩:=hH.sl;have av:O (DK p (bV d) (bV i) (bV D) cD s u1 b):=hV;have HX:O (CpV s m (.slice K G H)/\CpV u1 m (.slice U Q T)):=⟨ba,bb⟩;have aN:O (Nj C.heap.size m (.slice ac b.length cc) b):=hH;have an:O (Below C.heap.size C m):=be;clear hV ba bb hH be c0 c1 c2 c3 c4;have aq:O ((m.alloc (.cells #[.slice K G H, .slice U Q T] 29)).heap[m.heap.size]?=some (.cells #[.slice K G H, .slice U Q T] 29)):=bA m _;have a7:O (Below m.heap.size m (m.alloc (.cells #[.slice K G H, .slice U Q T] 29))):=eB m _;go_upto_region 7 with fail;generalize m.alloc (.cells #[.slice K G H, .slice U Q T] 29)=n at *;have ab:O (Below C.heap.size C n):=an.o.trans (a7.o.mono an.o.size);have W:O (Below w.heap.size w n):=ae.o.trans (ab.o.mono ae.o.size);have aL:O (Below E.heap.size E n):=ad.o.trans (ab.o.mono ad.o.size);by_cases L:cD=0;rotate_left
 ·have hm:G=0:=by
   rcases av.o with⟨_,h,_⟩|⟨h,_⟩
   ·rw[aTF HX.o.1,h];rfl
   exact absurd h L
  subst hm;(have bT:(cD != 0)=true:=by simpa using L);(have x0:n.cell? ⟨m.heap.size,0,none⟩=some (.slice K 0 H):=cH aq.o);go_wp2_with fail;go_ret;exact⟨rfl,W.o⟩
 subst L;obtain⟨S0,S1,b5,b8,b9⟩:∃S0 S1,sG p (bV d) (bV i) 0 (dY p (bV d) (bV i)) S0/\(bV D).length<=200/\xG p (bV d) (bV i) S0 (bV D) 0 s u1 S1 b:=by
  rcases av.o with⟨h,_⟩|⟨_,h⟩
  ·exact absurd rfl h.1
  exact h
 obtain⟨_,bv,rfl⟩:=tJ HR.o b5;subst bv;have Y:O _:=CG HR.o;have a9:O (xG p (bV d) (bV i) S (bV D) 0 s u1 S1 b):=b9;have aT:O _:=Hj a9.o rfl Y.o.2.2.2;(have bm:O (b.length<=200):=by show _<=_;rw[(AF a9.o rfl Y.o.2.1 _ (lK.mp Y.o.2.1).is).2.2];exact b8);have bn:O _:=Pm a9.o rfl Y.o.2.2.2;have bq:O (bS n (.slice b6 S.length k6) S):=bQ aR.o ab.o;have bl:O (Nj C.heap.size n (.slice ac b.length cc) b):=aN.o.z a7.o;have bt:O (CpV s n (.slice K G H)/\CpV u1 n (.slice U Q T)):=⟨HX.o.1.kn (Kn.z a7.o),HX.o.2.kn (Kn.z a7.o)⟩;clear b5 b8 b9 av HX aN aR an a7 ab aO af HL;go_upto_region 10 with fail;go_loopw [7,11] (fun vm iv wr=>∃k:Nat,k<=b.length/\iv=.int .i64 k/\bS wr vm ((b.take k).foldl NS S)/\Below n.heap.size n wr) (fun _ iv _=>b.length-(intOf iv).toNat);case atStart=>exact⟨0,bL _,rfl,by rw[List.take_zero];exact bq.o,aG _ _⟩
 case round=>
  obtain⟨k,hk,rfl,a5,q⟩:=hrel;have bW:b.length<=200:=bm.o;obtain⟨M,hM⟩:∃M,M=(b.take k).foldl NS S:=⟨_,rfl⟩;have HM:O (M=(b.take k).foldl NS S):=hM;rw[<-hM]at a5;clear hM;obtain⟨am,cm,rfl,_⟩:=id a5;have b2:O (bS wr (.slice am M.length cm) M):=a5;have a8:O (Below n.heap.size n wr):=q;obtain⟨QM,aa⟩:=aT.o.2 k;rw[<-HM.o]at aa;have ag:=uK aa;by_cases a3:k<b.length
  ·obtain⟨g,cap,v1,v2,e9,y0,y1,f0,f1⟩:=aQG (bl.o.z q) k a3;cases e9;obtain⟨j1,i1,rfl,_⟩:=id f0;obtain⟨j2,i2,rfl,_⟩:=id f1;have hc:=bn.o b[k] (fG a3);have b0:O _:=aJS M b[k].1 b[k].2 _ _ _ wr a5 f0 f1 oM (by have :=hc.l.1;omega) (by have :=hc.l.2;omega) (fun f hf=>by have :=ag.2 f hf;omega) (fun f hf=>by have :=hc.f f (.inl hf);omega) (fun f hf=>by have :=hc.f f (.inr hf);omega);(have b1:O ((b.take (k+1)).foldl NS S=jS (eM M b[k].2) b[k].1):=by show _=_;rw[nE a3,rL,<-HM.o];rfl);clear ag aa hc f0 f1 a5 q;go_wp2_with fail;refine Calls.mono b0.o ?_;rintro e z ⟨v',rfl,N,u⟩;(have bs:O (bS z v' ((b.take (k+1)).foldl NS S)):=by rw[b1.o];exact N);have bk:O (Below n.heap.size n z):=a8.o.trans (u.mono a8.o.size);clear N u b0 y0 y1 b1 b2 a8 HM;go_wp2_with fail;go_roundw;(case rel=>exact⟨k+1,a3,gN,bs.o,bk.o⟩);case measure=>exact mI
  (have bu:M=S1:=by rw[HM.o,dM oM];exact aT.o.1);subst bu;have bf:=(AF a9.o rfl Y.o.2.1 _ (lK.mp Y.o.2.1).is).2.1;have bw:=(lK.mp bf).few;obtain⟨⟨Q1,bi,o1,e1⟩,⟨Q2,bj,o2,e2⟩⟩:=bt.o;(have bz:Q1.length=s.length:=by rw[<-eH,e1]);(have bN:Q2.length=u1.length:=by rw[<-eH,e2]);have au:O _:=aS.o wr Q1 Q2 _ _ (W.o.trans (q.mono W.o.size)) (bi.kc (Kc.z q)) (bj.kc (Kc.z q)) ⟨oM,oM⟩ (fun x P=>by
   rcases cW.mp P with h|h
   ·exact(o1 x h).z q
   exact(o2 x h).z q)
  rw[e1,e2]at au;obtain⟨c0,c1,c2,c3,c4⟩:=ao.o wr (aL.o.trans (q.mono aL.o.size));have z0:wr.cell? ⟨m.heap.size,0,none⟩=some (.slice K G H):=aB q (cH aq.o);have z1:wr.cell? ⟨m.heap.size,1,none⟩=some (.slice U Q T):=aB q (cH aq.o);have bo:O (∀f,f∈M->gD f):=IR aa;have bp:O (M.length<=60):=ag.1;have d0:decide (k<b.length)=false:=aF a3;have d1:decide ((k:Int)<(b.length:Int))=false:=aF oM;clear bf bw bi bj o1 o2 e1 e2 bz bN a5 q ag aa a3 hk;go_wp2_with fail;refine Calls.mono au.o ?_;rintro e z ⟨vO,bU,R3,S3,rfl,b4,aC,u⟩;obtain⟨rfl,_,rfl⟩:=tJ b4 (Hm HR.o a9.o);obtain⟨b7,k7,rfl,_⟩:=id aC;have br:O _:=SQ (bQ b2.o u) aC (by have :=bp.o;omega) bo.o;have aJ:O (Below w.heap.size w z):=W.o.trans ((a8.o.mono W.o.size).trans (u.mono (bP W.o.size a8.o.size)));clear b4 aC u au c0 c1 c2 c3 c4 z0 z1 d0 d1;go_wp2_with fail;refine Calls.mono br.o ?_;rintro _ zz ⟨rfl,u⟩;go_wp2_with fail;go_ret;exact⟨rfl,aJ.o.trans (u.mono aJ.o.size)⟩
end Go.Proofs.YtfljoehbbncooaaGreat
