/- Own texts, one behind the other (part 10). -/
import Derived.Test.YtfljoehbbncooaaGreatBundleI
import Derived.Test.YtfljoehbbncooaaGreatRows
import Derived.Deep.RegionHeld3
import Derived.Lib.BufferMore
import Derived.Laws.AppendOwnNone
import Derived.ArgAppend
set_option maxRecDepth 100000
set_option maxHeartbeats 8000000
namespace Go.Proofs.YtfljoehbbncooaaGreat
open Go.RowKit Go.Maps
def sG(p:bK)(h w:List aX)(c:Int)(R S:List aQ):Prop:=
 (¬dB p=0/\c=dB p/\R=[]/\S=[])\/
 (dB p=0/\¬dN h w=0/\c=dN h w/\R=[]/\S=[])\/
 (dB p=0/\dN h w=0/\∃b,lE p (dY p h w) [] c b/\((¬c=0/\R=[]/\S=[])\/(c=0/\R=dY p h w/\S=b)))
def Sl(v:Value):Prop:=∃a n c,v=.slice a n c
def vwV(b e va vn vr d c:Value):Value:=.agg #[b,e,va,vn,vr,d,c]
theorem bFJ:(Tryz.prog.info? 58).map (·.size)=some 7:=kR
theorem aRH{w:World}{b:Nat}{c f va vn vr e d:Value}(h:w.heap[b]?=some (JJ c f va vn vr e d)):(loadVar 58 ⟨b,0,none⟩).run Tryz.prog w=.ok (vwV c f va vn vr e d) w:=by
 have :=run_loadVar_mid (P:=Tryz.prog) w b 0 58 [c,f,va,vn,vr,e,d] _ (fun j v c=>by
  rw[eP,cM h]
  simpa using c) Tryz.underlying58 rfl bFJ
 simpa[vwV]using this
theorem SN{c:Func}{t u:Tmp}(h:c.results=#[.cell t 58, .tmp u]){tmps:Array Value}{w:World}{b:Nat}{d g va vn vr f e:Value}(ht:tmps.getD t undef=.pointer (some ⟨b,0,none⟩))(j:w.heap[b]?=some (JJ d g va vn vr f e)):
 (results c tmps).run Tryz.prog w=.ok (.tuple #[vwV d g va vn vr f e,tmps.getD u undef]) w:=by
 have i:=aRH j;(have k:tmps[t]?.getD undef=.pointer (some ⟨b,0,none⟩):=by simpa using ht);simp[results,h,k,asAddr,i]
def bCR(z:World)(b:Nat)(c f va vn vr e d:Value):World:=((((((z.setCell ⟨b,0,none⟩ c).setCell ⟨b,1,none⟩ f).setCell ⟨b,2,none⟩ va).setCell ⟨b,3,none⟩ vn).setCell ⟨b,4,none⟩ vr).setCell ⟨b,5,none⟩ e).setCell ⟨b,6,none⟩ d
theorem SS{z:World}{b:Nat}{h0 h1 k i g f e:Value}(c d va vn vr j l:Value)(h:z.heap[b]?=some (JJ h0 h1 k i g f e)):(bCR z b c d va vn vr j l).heap[b]?=some (JJ c d va vn vr j l):=by unfold bCR;(have m:(z.setCell ⟨b,0,none⟩ c).heap[b]?=some (JJ c h1 k i g f e):=by rw[bD h];rfl);have n:=(show((z.setCell ⟨b,0,none⟩ c).setCell ⟨b,1,none⟩ d).heap[b]?=some (JJ c d k i g f e) by rw[bD m];rfl);have p:=(show(((z.setCell ⟨b,0,none⟩ c).setCell ⟨b,1,none⟩ d).setCell ⟨b,2,none⟩ va).heap[b]?=some (JJ c d va i g f e) by rw[bD n];rfl);have q:=(show((((z.setCell ⟨b,0,none⟩ c).setCell ⟨b,1,none⟩ d).setCell ⟨b,2,none⟩ va).setCell ⟨b,3,none⟩ vn).heap[b]?=some (JJ c d va vn g f e) by rw[bD p];rfl);have r:=(show(((((z.setCell ⟨b,0,none⟩ c).setCell ⟨b,1,none⟩ d).setCell ⟨b,2,none⟩ va).setCell ⟨b,3,none⟩ vn).setCell ⟨b,4,none⟩ vr).heap[b]?=some (JJ c d va vn vr f e) by rw[bD q];rfl);have s:=(show((((((z.setCell ⟨b,0,none⟩ c).setCell ⟨b,1,none⟩ d).setCell ⟨b,2,none⟩ va).setCell ⟨b,3,none⟩ vn).setCell ⟨b,4,none⟩ vr).setCell ⟨b,5,none⟩ j).heap[b]?=some (JJ c d va vn vr j e) by rw[bD r];rfl);rw[bD s];rfl
theorem Jm(z:World)(b:Nat)(c f va vn vr e d:Value):Vk b z (bCR z b c f va vn vr e d):=
 ((((((Vk.set b 0 z c).trans (Vk.set b 1 _ f)).trans (Vk.set b 2 _ va)).trans (Vk.set b 3 _ vn)).trans (Vk.set b 4 _ vr)).trans (Vk.set b 5 _ e)).trans (Vk.set b 6 _ d)
theorem aAB(p:bK)(d f:List Uv)(hv wv va vn vr:Value)(w:World)(Y:nV w va vn vr p)(hF:lR p)(ba:mM w vr)(hV:iI w hv d)(wV:iI w wv f)(hl:d.length<=4611686018427387903/\f.length<=4611686018427387903)(be:∀x,x∈d++f->gM w x):
 Calls Tryz.prog 20 #[gU va vn vr,mU hv wv] w fun e U=>∃an av ao aq au vR vO c R S,e=.returned (.tuple #[vwV an av ao aq au vR vO, .int .i64 c])/\sG p (bV d) (bV f) c R S/\bS U vR R/\bS U vO S/\(Sl an/\Sl av/\Sl ao/\Sl aq/\Sl au)/\(c=0->an=hv/\av=wv/\ao=va/\aq=vn/\au=vr)/\Below w.heap.size w U:=by
 have aC:O (∀z,Below w.heap.size w z->Calls Tryz.prog 48 #[gU va vn vr] z fun e U=>e=.returned (.int .i64 (dB p))/\Below z.heap.size z U):=fun z L=>VJ p va vn vr z (Y.z L) hF;have aj:O (nV w va vn vr p):=Y;have aO:O (lR p):=hF;have bj:O (mM w vr):=ba;have bg:O (iI w hv d):=hV;have bm:O (iI w wv f):=wV;have HO:O (∀x,x∈d++f->gM w x):=be;obtain⟨l,u,rfl,_⟩:=id Y.ar;obtain⟨q,C,rfl,_⟩:=id Y.nm;obtain⟨s,D,rfl,_⟩:=id Y.rl;obtain⟨E,ch,rfl,_,_⟩:=hV;obtain⟨F,G,rfl,_,_⟩:=wV;clear be Y hF ba;have hb:=XJ w (pB l u q C s D p) (.cells #[.slice E d.length ch, .slice F f.length G] 29) (JJ (.slice none 0 0) (.slice none 0 0) (.slice none 0 0) (.slice none 0 0) (.slice none 0 0) (.slice none 0 0) (.slice none 0 0));have hn:=YI w (pB l u q C s D p) (.cells #[.slice E d.length ch, .slice F f.length G] 29) (JJ (.slice none 0 0) (.slice none 0 0) (.slice none 0 0) (.slice none 0 0) (.slice none 0 0) (.slice none 0 0) (.slice none 0 0));have V:O _:=hb;have I:O _:=hn;clear hb hn;unfold JJ at V I
 go_enter Tryz.func20,Tryz.ntmps20
 go_upto_region 1 with fail;generalize ((w.alloc (pB l u q C s D p)).alloc (.cells #[.slice E d.length ch, .slice F f.length G] 29)).alloc (.cells #[.slice none 0 0, .slice none 0 0, .slice none 0 0, .slice none 0 0, .slice none 0 0, .slice none 0 0, .slice none 0 0] 58)=M at *;(have al:O (∀z,Below M.heap.size M z->z.cell? ⟨w.heap.size,0,none⟩=some (.slice l p.x.length u)/\z.cell? ⟨w.heap.size,1,none⟩=some (.slice q p.r.length C)/\z.cell? ⟨w.heap.size,2,none⟩=some (.slice s p.y.length D)/\z.cell? ⟨w.heap.size+1,0,none⟩=some (.slice E d.length ch)/\z.cell? ⟨w.heap.size+1,1,none⟩=some (.slice F f.length G)):=fun z L=>by obtain⟨h0,h1,_⟩:=I.o;exact⟨aB L (cH h0),aB L (cH h0),aB L (cH h0),aB L (cH h1),aB L (cH h1)⟩);(obtain⟨c0,c1,c2,_,_⟩:=al.o M (aG _ _);go_upto_region 2 with(go_at_call 48;refine Calls.mono (aC.o _ V.o) ?_;rintro e b ⟨rfl,b9⟩);have N:O (Below M.heap.size M b):=b9;clear b9 c0 c1 c2 aC;have b0:O (∀z,Below M.heap.size M z->(z.cell? ⟨w.heap.size+1+1,0,none⟩=some (.slice none 0 0)/\z.cell? ⟨w.heap.size+1+1,1,none⟩=some (.slice none 0 0)/\z.cell? ⟨w.heap.size+1+1,2,none⟩=some (.slice none 0 0)/\z.cell? ⟨w.heap.size+1+1,3,none⟩=some (.slice none 0 0)/\z.cell? ⟨w.heap.size+1+1,4,none⟩=some (.slice none 0 0)/\z.cell? ⟨w.heap.size+1+1,5,none⟩=some (.slice none 0 0)/\z.cell? ⟨w.heap.size+1+1,6,none⟩=some (.slice none 0 0))/\∀k,z.frozen? ⟨w.heap.size+1+1,k,none⟩=false):=fun z L=>by obtain⟨_,_,h2⟩:=I.o;have T:=(L.block _ (cV h2)).trans h2;exact⟨⟨cH T,cH T,cH T,cH T,cH T,cH T,cH T⟩,fun k=>bM T _⟩);by_cases Z:dB p=0;rotate_left
 ·have X:O (¬dB p=0):=Z;(have bd:(dB p != 0)=true:=by simpa using Z);clear Z;generalize hk:dB p=k at *;have HK:O (dB p=k):=hk;clear hk;obtain⟨⟨r0,r1,r2,r3,r4,r5,r6⟩,r7⟩:=b0.o b N.o;have HZ:O (b.heap[w.heap.size+1+1]?=some (JJ (.slice none 0 0) (.slice none 0 0) (.slice none 0 0) (.slice none 0 0) (.slice none 0 0) (.slice none 0 0) (.slice none 0 0))):=(N.o.block _ (cV I.o.2.2)).trans I.o.2.2;go_wp2_with fail;refine dP (SN rfl rfl (SS (.slice none 0 0) (.slice none 0 0) (.slice none 0 0) (.slice none 0 0) (.slice none 0 0) (.slice none 0 0) (.slice none 0 0) HZ.o)) rfl ?_;exact⟨_,_,_,_,_,_,_,k,[],[],rfl, .inl ⟨by rw[HK.o];exact X.o,HK.o.symm,rfl,rfl⟩,⟨none,0,rfl,⟨aH _,fun _=>rfl⟩, .inl rfl⟩,⟨none,0,rfl,⟨aH _,fun _=>rfl⟩, .inl rfl⟩,⟨⟨_,_,_,rfl⟩,⟨_,_,_,rfl⟩,⟨_,_,_,rfl⟩,⟨_,_,_,rfl⟩,⟨_,_,_,rfl⟩⟩,fun h=>absurd h X.o,V.o.trans ((N.o.mono V.o.size).trans ((Jm _ _ _ _ _ _ _ _ _).z oM (bP V.o.size N.o.size)))⟩
 have X:O (dB p=0):=Z;rw[Z];clear Z;obtain⟨c0,c1,c2,c3,c4⟩:=al.o b N.o;have a5:O (Below w.heap.size w b):=V.o.trans (N.o.mono V.o.size);have ac:O ((b.alloc (JJ (.slice E d.length ch) (.slice F f.length G) (.slice l p.x.length u) (.slice q p.r.length C) (.slice s p.y.length D) (.slice none 0 0) (.slice none 0 0))).heap[b.heap.size]?=some (JJ (.slice E d.length ch) (.slice F f.length G) (.slice l p.x.length u) (.slice q p.r.length C) (.slice s p.y.length D) (.slice none 0 0) (.slice none 0 0))):=iC b _;have aa:O (Below b.heap.size b (b.alloc (JJ (.slice E d.length ch) (.slice F f.length G) (.slice l p.x.length u) (.slice q p.r.length C) (.slice s p.y.length D) (.slice none 0 0) (.slice none 0 0)))):=(aG _ _).alloc (aH _) _;have a6:O (Below w.heap.size w (b.alloc (JJ (.slice E d.length ch) (.slice F f.length G) (.slice l p.x.length u) (.slice q p.r.length C) (.slice s p.y.length D) (.slice none 0 0) (.slice none 0 0)))):=a5.o.trans (aa.o.mono a5.o.size);have ag:O _:=aMJ b.heap.size p d f _ _ _ _ _ _ _ _ ac.o (OD ac.o) (bg.o.kc (Kc.z a6.o)) (bm.o.kc (Kc.z a6.o)) hl (fun x hx=>(HO.o x hx).z a6.o) (aj.o.z a6.o) aO.o;have bl:O (MA b.heap.size (b.alloc (JJ (.slice E d.length ch) (.slice F f.length G) (.slice l p.x.length u) (.slice q p.r.length C) (.slice s p.y.length D) (.slice none 0 0) (.slice none 0 0)))):=OD ac.o;have b3:O (b.heap.size<=(b.alloc (JJ (.slice E d.length ch) (.slice F f.length G) (.slice l p.x.length u) (.slice q p.r.length C) (.slice s p.y.length D) (.slice none 0 0) (.slice none 0 0))).heap.size):=aa.o.size;unfold JJ at ac aa a6 ag bl b3;go_wp2_with fail;refine Calls.mono ag.o ?_;generalize b.alloc (.cells #[.slice E d.length ch, .slice F f.length G, .slice l p.x.length u, .slice q p.r.length C, .slice s p.y.length D, .slice none 0 0, .slice none 0 0] 58)=w2 at *;rintro e H ⟨vR,rfl,b5,b8,bb,bc,b6⟩;have ae:O (Below b.heap.size b H):=aa.o.trans (b6.z (aH _) b3.o);have a8:O _:=b8;have aJ:O _:=bb;have aL:O _:=bc;have ab:O _:=b5;clear ag b6 b8 bb bc b5 c0 c1 c2 c3 c4;have a4:O (Below M.heap.size M H):=N.o.trans (ae.o.mono N.o.size);have HZ:O (H.heap[w.heap.size+1+1]?=some (JJ (.slice none 0 0) (.slice none 0 0) (.slice none 0 0) (.slice none 0 0) (.slice none 0 0) (.slice none 0 0) (.slice none 0 0))):=(a4.o.block _ (cV I.o.2.2)).trans I.o.2.2;have W:O (Below w.heap.size w H):=a5.o.trans (ae.o.mono a5.o.size);obtain⟨⟨r0,r1,r2,r3,r4,r5,r6⟩,r7⟩:=b0.o H a4.o;by_cases a3:dN (bV d) (bV f)=0;rotate_left
 ·have a7:O (¬dN (bV d) (bV f)=0):=a3;(have bd:(dN (bV d) (bV f) != 0)=true:=by simpa using a3);clear a3 a8 aJ aL;generalize hk:dN (bV d) (bV f)=k at *;have HK:O (dN (bV d) (bV f)=k):=hk;clear hk;go_wp2_with fail;refine dP (SN rfl rfl (SS (.slice none 0 0) (.slice none 0 0) (.slice none 0 0) (.slice none 0 0) (.slice none 0 0) (.slice none 0 0) (.slice none 0 0) HZ.o)) rfl ?_;exact⟨_,_,_,_,_,_,_,k,[],[],rfl, .inr (.inl ⟨X.o,by rw[HK.o];exact a7.o,HK.o.symm,rfl,rfl⟩),⟨none,0,rfl,⟨aH _,fun _=>rfl⟩, .inl rfl⟩,⟨none,0,rfl,⟨aH _,fun _=>rfl⟩, .inl rfl⟩,⟨⟨_,_,_,rfl⟩,⟨_,_,_,rfl⟩,⟨_,_,_,rfl⟩,⟨_,_,_,rfl⟩,⟨_,_,_,rfl⟩⟩,fun h=>absurd h a7.o,W.o.trans ((Jm _ _ _ _ _ _ _ _ _).z oM W.o.size)⟩
 have a7:O (dN (bV d) (bV f)=0):=a3;rw[a3];clear a3;obtain⟨c0,c1,c2,_,_⟩:=al.o H a4.o;obtain⟨P,Q,rfl,_,_⟩:=id a8.o;have aN:O (Calls Tryz.prog 50 #[gU (.slice l p.x.length u) (.slice q p.r.length C) (.slice s p.y.length D), .slice P (dY p (bV d) (bV f)).length Q] H fun e U=>∃v c S,e=.returned (.tuple #[v, .int .i64 c])/\lE p (dY p (bV d) (bV f)) [] c S/\bS U v S/\Below H.heap.size H U):=Kk p (dY p (bV d) (bV f)) _ _ _ _ H (aj.o.z W.o) aO.o (bj.o.z aj.o.rl W.o) a8.o (by have :=aL.o;omega) aJ.o;(have v5:H.cell? ⟨b.heap.size,5,none⟩=some (.slice P (dY p (bV d) (bV f)).length Q):=cH ab.o);have bp:O (∃n,n=(dY p (bV d) (bV f)).length):=⟨_,rfl⟩;go_upto_region 7 with fail;refine Calls.mono aN.o ?_;rintro e g ⟨v,c,S,rfl,b7,am,a9⟩;obtain⟨i,j,rfl,_,_⟩:=id am;have ai:O _:=b7;have b2:O (bS g (.slice i S.length j) S):=am;have bf:O (Below H.heap.size H g):=a9;have ax:O (Below M.heap.size M g):=a4.o.trans (a9.mono a4.o.size);have ay:O (Below w.heap.size w g):=W.o.trans (a9.mono W.o.size);have J:O (g.heap[b.heap.size]?=some (JJ (.slice E d.length ch) (.slice F f.length G) (.slice l p.x.length u) (.slice q p.r.length C) (.slice s p.y.length D) (.slice P (dY p (bV d) (bV f)).length Q) (.slice none 0 0))):=(a9.block _ (cV ab.o)).trans ab.o;(have d0:g.cell? ⟨b.heap.size,0,none⟩=some (.slice E d.length ch):=cH J.o);(have d1:g.cell? ⟨b.heap.size,1,none⟩=some (.slice F f.length G):=cH J.o);(have d2:g.cell? ⟨b.heap.size,2,none⟩=some (.slice l p.x.length u):=cH J.o);(have d3:g.cell? ⟨b.heap.size,3,none⟩=some (.slice q p.r.length C):=cH J.o);(have d4:g.cell? ⟨b.heap.size,4,none⟩=some (.slice s p.y.length D):=cH J.o);(have d5:g.cell? ⟨b.heap.size,5,none⟩=some (.slice P (dY p (bV d) (bV f)).length Q):=cH J.o);(have d6:g.cell? ⟨b.heap.size,6,none⟩=some (.slice none 0 0):=cH J.o);have d7:g.frozen? ⟨b.heap.size,6,none⟩=false:=bM J.o _;clear b7 am a9 aN c0 c1 c2 v5 r0 r1 r2 r3 r4 r5 r6 r7;have ak:O (Vk b.heap.size g (g.setCell ⟨b.heap.size,6,none⟩ (.slice i S.length j))):=Vk.set _ 6 g _;(have bi:O (¬w.heap.size+1+1=b.heap.size):=by show¬_;have h1:=cV I.o.2.2;have h2:=N.o.size;omega);(have b1:O (∀z,Vk b.heap.size g z->(z.heap[w.heap.size+1+1]?=some (JJ (.slice none 0 0) (.slice none 0 0) (.slice none 0 0) (.slice none 0 0) (.slice none 0 0) (.slice none 0 0) (.slice none 0 0)))):=fun z L=>(L.block _ (cV ((ax.o.block _ (cV I.o.2.2)).trans I.o.2.2)) bi.o).trans ((ax.o.block _ (cV I.o.2.2)).trans I.o.2.2);have ad:O (Below w.heap.size w (g.setCell ⟨b.heap.size,6,none⟩ (.slice i S.length j))):=ay.o.trans (ak.o.z a5.o.size ay.o.size);have bn:O ((g.setCell ⟨b.heap.size,6,none⟩ (.slice i S.length j)).heap[b.heap.size]?=some (JJ (.slice E d.length ch) (.slice F f.length G) (.slice l p.x.length u) (.slice q p.r.length C) (.slice s p.y.length D) (.slice P (dY p (bV d) (bV f)).length Q) (.slice i S.length j))):=by show _=_;rw[bD J.o];rfl);have af:O (Cl b.heap.size g (g.setCell ⟨b.heap.size,6,none⟩ (.slice i S.length j))):=ak.o.cl (OD J.o);have aT:O (bS (g.setCell ⟨b.heap.size,6,none⟩ (.slice i S.length j)) (.slice P (dY p (bV d) (bV f)).length Q) (dY p (bV d) (bV f))):=af.o.factsV (bQ a8.o bf.o);have bk:O (bS (g.setCell ⟨b.heap.size,6,none⟩ (.slice i S.length j)) (.slice i S.length j) S):=af.o.factsV b2.o;have K:O _:=b1.o _ ak.o;obtain⟨m,hm⟩:∃m,m=(dY p (bV d) (bV f)).length:=⟨_,rfl⟩;have bo:O (m=(dY p (bV d) (bV f)).length):=hm;rw[<-hm]at d5 bn aT;clear hm af b1 ae a8 ab J b2;(have q0:(g.setCell ⟨b.heap.size,6,none⟩ (.slice i S.length j)).cell? ⟨w.heap.size+1+1,0,none⟩=some (.slice none 0 0):=cH K.o);(have q1:(g.setCell ⟨b.heap.size,6,none⟩ (.slice i S.length j)).cell? ⟨w.heap.size+1+1,1,none⟩=some (.slice none 0 0):=cH K.o);(have q2:(g.setCell ⟨b.heap.size,6,none⟩ (.slice i S.length j)).cell? ⟨w.heap.size+1+1,2,none⟩=some (.slice none 0 0):=cH K.o);(have q3:(g.setCell ⟨b.heap.size,6,none⟩ (.slice i S.length j)).cell? ⟨w.heap.size+1+1,3,none⟩=some (.slice none 0 0):=cH K.o);(have q4:(g.setCell ⟨b.heap.size,6,none⟩ (.slice i S.length j)).cell? ⟨w.heap.size+1+1,4,none⟩=some (.slice none 0 0):=cH K.o);(have q5:(g.setCell ⟨b.heap.size,6,none⟩ (.slice i S.length j)).cell? ⟨w.heap.size+1+1,5,none⟩=some (.slice none 0 0):=cH K.o);(have q6:(g.setCell ⟨b.heap.size,6,none⟩ (.slice i S.length j)).cell? ⟨w.heap.size+1+1,6,none⟩=some (.slice none 0 0):=cH K.o);(have q7:∀k,g.frozen? ⟨w.heap.size+1+1,k,none⟩=false:=fun k=>by have h9:(g.setCell ⟨b.heap.size,6,none⟩ (.slice i S.length j)).frozen? ⟨w.heap.size+1+1,k,none⟩=false:=bM K.o _;rw[fW]at h9;exact h9);by_cases hc:c=0;rotate_left
 ·have az:O (¬c=0):=hc;(have bd:(c != 0)=true:=by simpa using hc);clear hc;go_wp2_with fail;refine dP (SN rfl rfl (SS (.slice none 0 0) (.slice none 0 0) (.slice none 0 0) (.slice none 0 0) (.slice none 0 0) (.slice none 0 0) (.slice none 0 0) K.o)) rfl ?_;exact⟨_,_,_,_,_,_,_,c,[],[],rfl, .inr (.inr ⟨X.o,a7.o,_,ai.o, .inl ⟨az.o,rfl,rfl⟩⟩),⟨none,0,rfl,⟨aH _,fun _=>rfl⟩, .inl rfl⟩,⟨none,0,rfl,⟨aH _,fun _=>rfl⟩, .inl rfl⟩,⟨⟨_,_,_,rfl⟩,⟨_,_,_,rfl⟩,⟨_,_,_,rfl⟩,⟨_,_,_,rfl⟩,⟨_,_,_,rfl⟩⟩,fun h=>absurd h az.o,ad.o.trans ((Jm _ _ _ _ _ _ _ _ _).z oM ad.o.size)⟩
 (have bh:O (lE p (dY p (bV d) (bV f)) [] 0 S):=by rw[<-hc];exact ai.o);subst hc;clear ai;go_wp2_with fail;refine dP (SN rfl rfl (SS (.slice E d.length ch) (.slice F f.length G) (.slice l p.x.length u) (.slice q p.r.length C) (.slice s p.y.length D) (.slice P m Q) (.slice i S.length j) K.o)) rfl ?_;have b4:O _:=Jm (g.setCell ⟨b.heap.size,6,none⟩ (.slice i S.length j)) (w.heap.size+1+1) (.slice E d.length ch) (.slice F f.length G) (.slice l p.x.length u) (.slice q p.r.length C) (.slice s p.y.length D) (.slice P m Q) (.slice i S.length j);have aD:O _:=b4.o.cl (OD K.o);exact⟨_,_,_,_,_,_,_,0,_,_,rfl, .inr (.inr ⟨X.o,a7.o,_,bh.o, .inr ⟨rfl,rfl,rfl⟩⟩),aD.o.factsV aT.o,aD.o.factsV bk.o,⟨⟨_,_,_,rfl⟩,⟨_,_,_,rfl⟩,⟨_,_,_,rfl⟩,⟨_,_,_,rfl⟩,⟨_,_,_,rfl⟩⟩,fun _=>⟨rfl,rfl,rfl,rfl,rfl⟩,ad.o.trans (b4.o.z oM ad.o.size)⟩
theorem Vm(p:bK)(b d:List Uv)(E I va vn vr:Value)(w:World)(s:nV w va vn vr p)(X:lR p)(a4:mM w vr)(Z:iI w E b)(wV:iI w I d)(hl:b.length<=4611686018427387903/\d.length<=4611686018427387903)(a5:∀x,x∈b++d->gM w x):
 Calls Tryz.prog 6 #[gU va vn vr,mU E I] w fun e C=>∃u c R S,e=.returned (.tuple #[u, .int .i64 c])/\sG p (bV b) (bV d) c R S/\bS C u S/\Below w.heap.size w C:=by
 have W:O (∀z,Below w.heap.size w z->Calls Tryz.prog 20 #[gU va vn vr,mU E I] z fun e C=>∃J N K L M T u c R S,e=.returned (.tuple #[vwV J N K L M T u, .int .i64 c])/\sG p (bV b) (bV d) c R S/\bS C T R/\bS C u S/\(Sl J/\Sl N/\Sl K/\Sl L/\Sl M)/\(c=0->J=E/\N=I/\K=va/\L=vn/\M=vr)/\Below z.heap.size z C):=fun z F=>aAB p b d E I va vn vr z (s.z F) X (a4.z s.rl F) (Z.kc (Kc.z F)) (wV.kc (Kc.z F)) hl (fun x hx=>(a5 x hx).z F);obtain⟨f,m,rfl,_⟩:=id s.ar;obtain⟨g,n,rfl,_⟩:=id s.nm;obtain⟨i,q,rfl,_⟩:=id s.rl;obtain⟨j,ch,rfl,_,_⟩:=Z;obtain⟨k,l,rfl,_,_⟩:=wV;clear a5 s X a4 hl;have hn:=YI w (pB f m g n i q p) (.cells #[.slice j b.length ch, .slice k d.length l] 29) (.cells #[] 3);have a3:Below w.heap.size w ((w.alloc (pB f m g n i q p)).alloc (.cells #[.slice j b.length ch, .slice k d.length l] 29)):=((aG _ _).alloc (aH _) _).alloc sI _;have D:O (((w.alloc (pB f m g n i q p)).alloc (.cells #[.slice j b.length ch, .slice k d.length l] 29)).heap[w.heap.size]?=some (pB f m g n i q p)/\((w.alloc (pB f m g n i q p)).alloc (.cells #[.slice j b.length ch, .slice k d.length l] 29)).heap[w.heap.size+1]?=some (.cells #[.slice j b.length ch, .slice k d.length l] 29)):=by
  refine⟨?_,?_⟩
  ·show((w.heap.push _).push _)[w.heap.size]?=_;rw[iK,if_neg sI,iK,if_pos rfl]
  show((w.heap.push _).push _)[w.heap.size+1]?=_;rw[iK,if_pos sI]
 have P:O _:=a3;clear hn a3
 go_enter Tryz.func6,Tryz.ntmps6
 go_upto_region 1 with fail;generalize (w.alloc (pB f m g n i q p)).alloc (.cells #[.slice j b.length ch, .slice k d.length l] 29)=G at *;(have c0:G.cell? ⟨w.heap.size,0,none⟩=some (.slice f p.x.length m):=cH D.o.1);(have c1:G.cell? ⟨w.heap.size,1,none⟩=some (.slice g p.r.length n):=cH D.o.1);(have c2:G.cell? ⟨w.heap.size,2,none⟩=some (.slice i p.y.length q):=cH D.o.1);(have c3:G.cell? ⟨w.heap.size+1,0,none⟩=some (.slice j b.length ch):=cH D.o.2);(have c4:G.cell? ⟨w.heap.size+1,1,none⟩=some (.slice k d.length l):=cH D.o.2);go_wp2_with fail;refine Calls.mono (W.o _ P.o) ?_;rintro e H ⟨J,N,K,L,M,T,u,c,R,S,rfl,Y,a6,Q,⟨⟨b0,m0,k0,rfl⟩,⟨b1,m1,k1,rfl⟩,⟨b2,m2,k2,rfl⟩,⟨b3,m3,k3,rfl⟩,⟨b4,m4,k4,rfl⟩⟩,_,hb⟩;obtain⟨b5,k5,rfl,_,_⟩:=id a6;obtain⟨b6,k6,rfl,_,_⟩:=id Q;have HR:O _:=Y;have a7:O (bS H (.slice b6 S.length k6) S):=Q;have U:O (Below w.heap.size w H):=P.o.trans (hb.mono P.o.size);have V:O (∀o,Below H.heap.size H (H.alloc o)):=fun o=>(aG _ _).alloc (aH _) o;clear Y a6 Q hb W c0 c1 c2 c3 c4;unfold vwV;go_wp2_with fail;go_ret2;exact⟨_,c,R,S,rfl,HR.o,bQ a7.o (V.o _),U.o.trans ((V.o _).mono U.o.size)⟩
end Go.Proofs.YtfljoehbbncooaaGreat
namespace Go.Proofs.YtfljoehbbncooaaGreat
open Go.RowKit
def Ax(q:List Uv)(x:fK)(r:Int):Prop:=(r= -1/\eG (bV q) x=false)\/∃k:Nat,r=k/\k<q.length/\(jL q k).u.id=x
theorem Ax.neg{q:List Uv}{x:fK}{r:Int}(h:Ax q x r):decide (r<0)= !eG (bV q) x:=by
 rcases h with⟨rfl,h⟩|⟨k,rfl,c,b⟩
 ·rw[h];rfl
 have :eG (bV q) x=true:=iH.mpr ⟨(jL q k).u,cJ.mpr ⟨_,mG q k c,rfl⟩,b⟩;rw[this];exact aF oM
theorem Ax.pos{q:List Uv}{x:fK}{r:Int}(h:Ax q x r):decide (0<=r)=eG (bV q) x:=by have b:=h.neg;cases c:eG (bV q) x<;>rw[c]at b<;>simp at b ⊢ <;>omega
theorem DX(q:List Uv)(x:fK)(v:Value)(w:World)(S:iI w v q)(X:q.length<=9223372036854775806):Calls Tryz.prog 18 #[v,rY x] w fun e T=>∃r:Int,e=.returned (.int .i64 r)/\Ax q x r/\Below w.heap.size w T:=by
 obtain⟨P,cap,rfl,_,H⟩:=S;obtain⟨c,d⟩:=x;have K:O (xU w P q):=H;have g:O (Below w.heap.size w (w.alloc (.cells #[.int .i64 c, .int .i64 d] 39))):=((Gr.refl w).alloc _).z;have D:O _:=bA w (.cells #[.int .i64 c, .int .i64 d] 39);clear H
 go_enter Tryz.func18,Tryz.ntmps18
 go_upto_region 1 with fail;generalize w.alloc (.cells #[.int .i64 c, .int .i64 d] 39)=l at *;(have c0:l.cell? ⟨w.heap.size,0,none⟩=some (.int .i64 c):=cH D.o);(have U:l.cell? ⟨w.heap.size,1,none⟩=some (.int .i64 d):=cH D.o);clear D;go_wp2_with fail;go_loopw [5] (fun iv wr=>∃k nq:Nat,k<=q.length/\iv=.int .i64 k/\O (eG (bV (q.take k)) ⟨c,d⟩=false)/\wr=l.drewN nq) (fun iv _=>q.length-(intOf iv).toNat);case atStart=>exact⟨0,0,bL _,rfl,rfl,rfl⟩
 case round=>
  obtain⟨k,nq,W,rfl,F,rfl⟩:=hrel;have L:O (Below w.heap.size w (l.drewN nq)):=g.o.trans ((fB l nq).mono g.o.size);by_cases j:k<q.length
  ·obtain⟨b,Y,rfl,I,J,_⟩:=tS K.o k j;have M:=aB g.o I;have N:=aB g.o J;clear I J;(have C:O ((jL q k).u.id≠⟨c,d⟩->eG (bV (q.take (k+1))) ⟨c,d⟩=false):=fun h=>by rw[zB q k j,nR];have p:=F.o;unfold eG at p ⊢;rw[MR,p];simp[bV,h]);have m:O ((jL q k).u.id=⟨c,d⟩->Ax q ⟨c,d⟩ k):=fun h=>.inr ⟨k,rfl,j,h⟩;clear F;generalize (jL q k).u.id=z at *;obtain⟨f,s⟩:=z;dsimp only at M N;by_cases i:f=c
   ·by_cases n:s=d
    ·subst i n;(have G:(f==f)=true:=by simp);(have Q:(s==s)=true:=by simp);have HP:O _:=m.o rfl;go_upto_region 4 with fail;go_quiet(fail);go_wp2_with fail;go_ret;exact⟨k,rfl,HP.o,g.o.trans ((fB l _).mono g.o.size)⟩
    (have Q:(s==d)=false:=by simpa using n);(have R:(d==s)=false:=by simpa using fun h=>n h.symm);subst i;(have G:(f==f)=true:=by simp);have E:O _:=C.o (fun h=>n (by injection h));clear C m n;go_upto_region 4 with fail;go_quiet(fail);go_wp2_with fail;go_roundw;(case rel=>exact⟨k+1,_,j,gN,E.o,rfl⟩);case measure=>exact mI
   (have G:(f==c)=false:=by simpa using i);(have R:(c==f)=false:=by simpa using fun h=>i h.symm);have E:O _:=C.o (fun h=>i (by injection h));clear C m i;go_upto_region 4 with fail;go_quiet(fail);go_wp2_with fail;go_roundw;(case rel=>exact⟨k+1,_,j,gN,E.o,rfl⟩);case measure=>exact mI
  have V:decide (k<q.length)=false:=aF j;(have m:O (Ax q ⟨c,d⟩ (-1)):=by have p:=F.o;rw[dM oM]at p;exact .inl ⟨rfl,p⟩);go_wp2_with fail;go_ret;exact⟨-1,rfl,m.o,L.o⟩














theorem aD5(n k l:Nat):aDB (TJ n k l):=by intro b m c h;injection h with _ d e;omega
theorem aSE(w:World):mM (qC w (tP w.heap.size)) (TJ w.heap.size 13 2):=by
 have f:(qC w (tP w.heap.size)).cell? ⟨w.heap.size+13,3,none⟩=some (TJ w.heap.size 8 1):=zQ (tP w.heap.size) w 13 _ _ 3 _ rfl rfl;have g:(qC w (tP w.heap.size)).cell? ⟨w.heap.size+13,8,none⟩=some (TJ w.heap.size 12 2):=zQ (tP w.heap.size) w 13 _ _ 8 _ rfl rfl;generalize qC w (tP w.heap.size)=W at *;generalize w.heap.size=N at *;intro b q n cap l k p v e;injection l with c i m;injection c with c;injection c with c j;subst i j;rw[<-c]at e;rcases(show k=0\/k=1 by omega)with rfl|rfl
 ·have d:W.cell? ⟨N+13,3,none⟩=some v:=e;rw[f]at d;rw[<-Option.some.inj d];exact aD5 _ _ _
 have d:W.cell? ⟨N+13,8,none⟩=some v:=e;rw[g]at d;rw[<-Option.some.inj d];exact aD5 _ _ _
theorem Mv(w:World):Calls Tryz.prog 38 #[] w fun e j=>∃k l i,e=.returned (gU k l i)/\nV j k l i jQ/\mM j i/\Below w.heap.size w j:=by
 have g:O (nV (qC w (tP w.heap.size)) (TJ w.heap.size 4 2) (TJ w.heap.size 5 2) (TJ w.heap.size 13 2) jQ/\mM (qC w (tP w.heap.size)) (TJ w.heap.size 13 2)/\Below w.heap.size w (qC w (tP w.heap.size))):=⟨aAO w,aSE w,PD _ w⟩;have f:(qC w (tP w.heap.size)).heap[w.heap.size]?=_:=Cq (tP w.heap.size) w 0 _ rfl;(have b:(qC w (tP w.heap.size)).cell? ⟨w.heap.size,0,none⟩=some (TJ w.heap.size 4 2):=cH f);(have c:(qC w (tP w.heap.size)).cell? ⟨w.heap.size,1,none⟩=some (TJ w.heap.size 5 2):=cH f);(have d:(qC w (tP w.heap.size)).cell? ⟨w.heap.size,2,none⟩=some (TJ w.heap.size 13 2):=cH f);have m:O (_/\_/\_):=⟨b,c,d⟩;clear f b c d
 go_enter Tryz.func38,Tryz.ntmps38
 go_wp2_with fail;change bodyPost _ _ _ _ _ (qC w (tP w.heap.size));obtain⟨b,c,d⟩:=m.o;generalize qC w (tP w.heap.size)=n at *;refine dP (v:=gU (TJ w.heap.size 4 2) (TJ w.heap.size 5 2) (TJ w.heap.size 13 2)) (by simp[results,Tryz.results38,go_sem,b,c,d]) rfl ⟨_,_,_,rfl,g.o.1,g.o.2.1,g.o.2.2⟩
def qL:List aQ:=[⟨0,[1,2]⟩,⟨0,[2,3]⟩,⟨1,[1,2]⟩,⟨1,[1,3]⟩,⟨1,[2,3]⟩]
theorem AG(y:World)(a b:Int):eT (y.alloc (.cells #[.int .i64 a, .int .i64 b] 3)) (.slice (some ⟨y.heap.size,0,none⟩) 2 2) [a,b]:=by
 refine⟨_,_,rfl, .inr ⟨_,0,rfl,fun i c=>?_⟩⟩
 match i,c with
 |0,_=>rw[cM (iC y _)];rfl
 |1,_=>rw[cM (iC y _)];rfl
theorem aQR(y:World)(b c d e f:aQ)(j k l m n:Value)(h0:eT y j b.args)(h1:eT y k c.args)(p:eT y l d.args)(q:eT y m e.args)(r:eT y n f.args):bS (y.alloc (.cells #[.int .i64 b.g,j, .int .i64 c.g,k, .int .i64 d.g,l, .int .i64 e.g,m, .int .i64 f.g,n] 72)) (.slice (some ⟨y.heap.size,0,none⟩) 5 5) [b,c,d,e,f]:=by
 refine⟨_,_,rfl,⟨aH _,fun h=>by cases h⟩, .inr ⟨_,0,rfl,fun i s=>?_⟩⟩
 match i,s with
 |0,_=>exact⟨cH (iC y _),j,cH (iC y _),bC h0 (eB _ _)⟩
 |1,_=>exact⟨cH (iC y _),k,cH (iC y _),bC h1 (eB _ _)⟩
 |2,_=>exact⟨cH (iC y _),l,cH (iC y _),bC p (eB _ _)⟩
 |3,_=>exact⟨cH (iC y _),m,cH (iC y _),bC q (eB _ _)⟩
 |4,_=>exact⟨cH (iC y _),n,cH (iC y _),bC r (eB _ _)⟩
theorem aLU(w:World):Calls Tryz.prog 41 #[] w fun e F=>∃v,e=.returned v/\bS F v qL/\Below w.heap.size w F:=by
 have s:O (∀(p:Int)(a:Option Addr)(n c:Nat)(w:World),Calls Tryz.prog 43 #[.int .i64 p, .slice a n c] w fun e F=>e=.returned (lT p (.slice a n c))/\Below w.heap.size w F):=MG
 go_enter Tryz.func41,Tryz.ntmps41
 go_wp2_with fail;have T:O _:=AG w 1 2;have D:O _:=eB w (.cells #[.int .i64 1, .int .i64 2] 3);generalize P:w.heap.size=g at *;generalize w.alloc (.cells #[.int .i64 1, .int .i64 2] 3)=w1 at *;refine Calls.mono (s.o _ _ _ _ _) ?_;rintro _ q ⟨rfl,Q⟩;have b:O _:=bC T.o Q;have G:O (Below g w q):=D.o.trans (Q.mono (by rw[<-P];rw[<-P]at D;exact D.o.size));clear Q T D;go_wp2_with fail;have U:O _:=AG q 2 3;have d:O _:=bC b.o (eB q (.cells #[.int .i64 2, .int .i64 3] 3));have H:O (Below g w (q.alloc (.cells #[.int .i64 2, .int .i64 3] 3))):=G.o.trans ((eB q _).mono (by have :=G.o.size;omega));clear b G;generalize a0:q.heap.size=X2 at *;generalize q.alloc (.cells #[.int .i64 2, .int .i64 3] 3)=w2 at *;refine Calls.mono (s.o _ _ _ _ _) ?_;rintro _ l ⟨rfl,E⟩;have b:O _:=bC d.o E;have j:O _:=bC U.o E;have I:O (Below g w l):=H.o.trans (E.mono (by have :=H.o.size;omega));clear E U d H;go_wp2_with fail;have V:O _:=AG l 1 2;have d:O _:=bC b.o (eB l (.cells #[.int .i64 1, .int .i64 2] 3));have k:O _:=bC j.o (eB l (.cells #[.int .i64 1, .int .i64 2] 3));have J:O (Below g w (l.alloc (.cells #[.int .i64 1, .int .i64 2] 3))):=I.o.trans ((eB l _).mono (by have :=I.o.size;omega));clear b j I;generalize a1:l.heap.size=X3 at *;generalize l.alloc (.cells #[.int .i64 1, .int .i64 2] 3)=w3 at *;refine Calls.mono (s.o _ _ _ _ _) ?_;rintro _ i ⟨rfl,C⟩;have b:O _:=bC d.o C;have j:O _:=bC k.o C;have u:O _:=bC V.o C;have K:O (Below g w i):=J.o.trans (C.mono (by have :=J.o.size;omega));clear C V d k J;go_wp2_with fail;have W:O _:=AG i 1 3;have d:O _:=bC b.o (eB i (.cells #[.int .i64 1, .int .i64 3] 3));have k:O _:=bC j.o (eB i (.cells #[.int .i64 1, .int .i64 3] 3));have x:O _:=bC u.o (eB i (.cells #[.int .i64 1, .int .i64 3] 3));have L:O (Below g w (i.alloc (.cells #[.int .i64 1, .int .i64 3] 3))):=K.o.trans ((eB i _).mono (by have :=K.o.size;omega));clear b j u K;generalize a2:i.heap.size=X4 at *;generalize i.alloc (.cells #[.int .i64 1, .int .i64 3] 3)=w4 at *;refine Calls.mono (s.o _ _ _ _ _) ?_;rintro _ f ⟨rfl,r⟩;have b:O _:=bC d.o r;have j:O _:=bC k.o r;have u:O _:=bC x.o r;have Y:O _:=bC W.o r;have M:O (Below g w f):=L.o.trans (r.mono (by have :=L.o.size;omega));clear r W d k x L;go_wp2_with fail;have X:O _:=AG f 2 3;have d:O _:=bC b.o (eB f (.cells #[.int .i64 2, .int .i64 3] 3));have k:O _:=bC j.o (eB f (.cells #[.int .i64 2, .int .i64 3] 3));have x:O _:=bC u.o (eB f (.cells #[.int .i64 2, .int .i64 3] 3));have Z:O _:=bC Y.o (eB f (.cells #[.int .i64 2, .int .i64 3] 3));have N:O (Below g w (f.alloc (.cells #[.int .i64 2, .int .i64 3] 3))):=M.o.trans ((eB f _).mono (by have :=M.o.size;omega));clear b j u Y M;generalize a3:f.heap.size=X5 at *;generalize f.alloc (.cells #[.int .i64 2, .int .i64 3] 3)=w5 at *;refine Calls.mono (s.o _ _ _ _ _) ?_;rintro _ R ⟨rfl,m⟩;have HR:O _:=aQR R ⟨0,[1,2]⟩ ⟨0,[2,3]⟩ ⟨1,[1,2]⟩ ⟨1,[1,3]⟩ ⟨1,[2,3]⟩ _ _ _ _ _ (bC d.o m) (bC k.o m) (bC x.o m) (bC Z.o m) (bC X.o m);have S:O (Below g w R):=N.o.trans (m.mono (by have :=N.o.size;omega));clear m X d k x Z N;go_wp2_with fail;go_ret;exact⟨_,rfl,HR.o,by rw[P];exact S.o.trans ((eB R _).mono (by have :=S.o.size;omega))⟩









abbrev EZ:=List (List Int)×Bool
end Go.Proofs.YtfljoehbbncooaaGreat

namespace Go.Proofs.YtfljoehbbncooaaGreat
open Go.RowKit
def YN(b:Array Oper)(wr:Nat->Bool)(d:Nat->Nat->Bool)(m:Nat)(o:Oper)(t:Nat):Bool:=o.after.toList.any fun e=>Region.binds .any e&&aRO b wr d m e.on&&((b[e.on]?).map fun c=>c.dst==some t).getD false
theorem aJR.of{R:World->World->Prop}{E:Nat->World->Prop}{d:Array Oper}{wr:Nat->Bool}{g:Nat->Nat->Bool}{T:Nat->Value->World->Prop}{i:Act}{w0:World}{m:Nat}{o:Oper}{a:Act}{w:World}(h:aJR R E d wr g T i w0 m o a w)(t:Nat)(f:YN d wr g m o t=true:=by kernel_rfl):T t (a.tmps.getD t undef) w:=by
 unfold YN at f;obtain⟨e,j,b⟩:=jW.mp f;rw[eI,eI]at b
 cases c:d[e.on]? with
 |none=>rw[c]at b;simp at b
 |some k=>
  rw[c,nU,qA]at b;exact h.has e (by simpa using j) b.1.1 b.1.2 k t c (by simpa using b.2)
theorem aJR.old{R:World->World->Prop}{E:Nat->World->Prop}{d:Array Oper}{wr:Nat->Bool}{f:Nat->Nat->Bool}{T:Nat->Value->World->Prop}{b:Act}{w0:World}{m:Nat}{o:Oper}{a:Act}{w:World}(h:aJR R E d wr f T b w0 m o a w)(t:Nat)(c:ZZ d t=true:=by kernel_rfl):a.tmps.getD t undef=b.tmps.getD t undef:=by refine h.still t fun e=>?_;unfold ZZ at c;simp[e]at c
theorem aZO.of{R:World->World->Prop}{E:Nat->World->Prop}{b:Array Oper}{wr:Nat->Bool}{d:Nat->Nat->Bool}{T:Nat->Value->World->Prop}{e:Act}{w0:World}{L:Nat}{a:Act}{w:World}(h:aZO R E b wr d T e w0 L a w)(i:Nat)(o:Oper)(t:Nat)(g:i<L)(j:b[i]?=some o)(f:o.dst=some t)(l:aNR b wr d i=true):T t (a.tmps.getD t undef) w:=by
 refine h.all i o t g j f fun k=>?_
 cases c:decide (k<b.size)with
 |true=>
  have :=fA.mp l k (lL.mpr (fJ c));simpa using this
 |false=>unfold SJ;rw[c];simp
section
variable {P:Program} {ops:Array Oper} {Q:Exit->Act->World->Prop}
theorem DP(R:World->World->Prop)(n:∀a b c,R a b->R b c->R a c)(m:∀w d,Below w.heap.size w d->R w d)(T:Nat->Value->World->Prop)(E:Nat->World->Prop)(L:Nat)(wr:Nat->Bool)(f:Nat->Nat->Bool){id:Nat}{e:Act}{w0:World}(l:L<ops.size)(D:xD ops L=true)(r:P.follows .mixedOrders=true)
 (p:xX ops e.tmps.size=true)
 (s:∀t v w d,Below w.heap.size w d->T t v w->T t v d)
 (u:∀i w d,Below w.heap.size w d->E i w->E i d)
 (x:∀i t v w d,wr i=true->f i t=true->R w d->T t v w->T t v d)
 (hop:AM (fun i o=>∀a w,aJR R E ops wr f T e w0 i o a w->(∀t,t∉(ops.toList.take L).filterMap (·.dst)->a.tmps.getD t undef=e.tmps.getD t undef)->if wr i=true then(Region.wanted o (yielded ops a.tmps)=true/\o.wp P a w (fun k d=>∃v,k=a.put o.dst v/\(∀t,o.dst=some t->T t v d)/\R w d/\(∀j,E j w->E j d)/\E i d) Q)else IU P ops Q T o a w) 0 (ops.toList.take L))
 (htail:∀a w,aZO R E ops wr f T e w0 L a w->(∀t,t∉(ops.toList.take L).filterMap (·.dst)->a.tmps.getD t undef=e.tmps.getD t undef)->wpOps P ops Q (List.range' L (ops.size-L)) a w):
 (Code.region id ops true).wp P Q e w0:=
 PG R n m T E L wr f (wK l) (fun _=>D) r p s u x (fun i o q C a w h hO=>by
  have g:=AM.get _ 0 hop i o (by rw[jA,if_pos q,fZ];exact C) a w (by rw[eP];exact h) hO;rw[eP]at g
  exact g) htail
end
theorem XD{P:Program}{o:Oper}{a:Act}{w w':World}{K:Act->World->Prop}{Q:Exit->Act->World->Prop}(hr:(execOp a.eval o).run P w=.ok .skip w')(b:K (a.put o.dst undef) w'):o.wp P a w K Q:=by unfold Oper.wp;rw[hr,Oper.upon_skip];exact b

end Go.Proofs.YtfljoehbbncooaaGreat

namespace Go.Proofs.YtfljoehbbncooaaGreat
open Go.RowKit
end Go.Proofs.YtfljoehbbncooaaGreat

namespace Go.Proofs.YtfljoehbbncooaaGreat
open Go.RowKit








end Go.Proofs.YtfljoehbbncooaaGreat
namespace Go.Proofs.YtfljoehbbncooaaGreat
open Go.RowKit Go.Maps
theorem aIS(w:World)(a b:Obj):((w.alloc a).alloc b).heap[w.heap.size]?=some a/\((w.alloc a).alloc b).heap[w.heap.size+1]?=some b:=by
 refine⟨?_,?_⟩
 ·show((w.heap.push _).push _)[w.heap.size]?=_;rw[iK,if_neg sI,iK,if_pos rfl]
 show((w.heap.push _).push _)[w.heap.size+1]?=_;rw[iK,if_pos sI]
theorem Df(w:World)(a b:Obj):Below w.heap.size w ((w.alloc a).alloc b):=((aG _ _).alloc (aH _) _).alloc sI _
end Go.Proofs.YtfljoehbbncooaaGreat
namespace Go.Proofs.YtfljoehbbncooaaGreat
def wR(l us:List aX):List aX:=us.foldl gY l
theorem YT{l m:List aX}(h:∀u,u∈l↔u∈m)(x:fK):eG l x=eG m x:=by rw[sL,iH,iH];exact⟨fun⟨u,b,c⟩=>⟨u,(h u).mp b,c⟩,fun⟨u,b,c⟩=>⟨u,(h u).mpr b,c⟩⟩
theorem aA6{l m:List aX}(h:∀u,u∈l↔u∈m)(u:aX):∀v,v∈gY l u↔v∈gY m u:=fun v=>by rw[xN,xN,YT h,h]
theorem EO:∀{us l:List aX},(us.map aX.id).Nodup->∀v,v∈wR l us↔v∈l\/(eG l v.id=false/\v∈us)
 |[],l,_,v=>by simp[wR]
 |u::us,l,hn,v=>by
  rw[jN,qY]at hn;show v∈wR (gY l u) us↔_;rw[EO hn.2,xN];have d:v∈us->v.id≠u.id:=fun j i=>hn.1 (by rw[<-i];exact nW j);have g:v.id≠u.id->eG (gY l u) v.id=eG l v.id:=fun d=>by
   rw[sL,iH,iH];constructor
   ·rintro⟨x,c,e⟩;rcases xN.mp c with c|⟨_,rfl⟩
    ·exact⟨x,c,e⟩
    exact absurd e.symm d
   rintro⟨x,c,e⟩;exact⟨x,xN.mpr (.inl c),e⟩
  rw[eA];constructor
  ·rintro((h|⟨h,rfl⟩)|⟨f,b⟩)
   ·exact .inl h
   ·exact .inr ⟨h, .inl rfl⟩
   exact .inr ⟨by rw[g (d b)]at f;exact f, .inr b⟩
  rintro(h|⟨h,rfl|b⟩)
  ·exact .inl (.inl h)
  ·exact .inl (.inr ⟨h,rfl⟩)
  exact .inr ⟨by rw[g (d b)];exact h,b⟩
theorem aA7{us d l:List aX}(c:us.Perm d)(b:(us.map aX.id).Nodup):∀v,v∈wR l us↔v∈wR l d:=fun v=>by rw[EO b,EO ((c.map aX.id).nodup_iff.mp b),c.mem_iff]
theorem rP.on{b h w:List aX}{u:aX}(d:rP b h w){c w':List aX}(e:rP (gY (h++w) u) c w'):rP (gY b u) c w':=
 e.congr (aA6 (fun v=>by rw[cW];exact d.parts.mem v) u)
theorem rP.len{b h w:List aX}(d:rP b h w)(g:(b.map aX.id).Nodup)(f:((h++w).map aX.id).Nodup):h.length+w.length=b.length:=by
 have i:((h++w).map aX.id).Perm (b.map aX.id):=(sB f g).mpr fun x=>by
  simp only[List.mem_map];constructor
  ·rintro⟨u,c,e⟩;exact⟨u,(d.parts.mem u).mp (cW.mp c),e⟩
  rintro⟨u,c,e⟩;exact⟨u,cW.mpr ((d.parts.mem u).mpr c),e⟩
 have :=i.length_eq;rw[aY,aY,aV]at this;exact this
theorem rP.nd{c h w:List aX}(b:rP c h w)(k:sM c):((h++w).map aX.id).Nodup:=by
 refine Ej b.rh b.rw_ fun u d=>?_;rcases hb:eG h u.id with _|_
 ·rfl
 obtain⟨v,f,e⟩:=iH.mp hb;have i:=(b.parts.mem v).mp (.inl f);have j:=(b.parts.mem u).mp (.inr d);have g:=k v u i j e;subst g;exact absurd ((b.parts.1 v).mp f).2 ((b.parts.2 v).mp d).2
theorem rP.okN{b h w:List aX}(c:rP b h w)(d:(b.map aX.id).Nodup)(e:∀u,u∈b->eV u=0)(f:b.length<=200):IJ h w:=
 c.ok (kT d) e (by rw[c.len d (c.nd (kT d))];exact f)
theorem aA8{l:List aX}{u:aX}(h:(l.map aX.id).Nodup)(b:eG l u.id=false):((l++[u]).map aX.id).Nodup:=by have :=zZ (u:=u) h;unfold gY at this;rw[if_neg (by rw[b];simp)]at this;exact this
end Go.Proofs.YtfljoehbbncooaaGreat
namespace Go.Proofs.YtfljoehbbncooaaGreat
open Go.RowKit
theorem EU{p:bK}{l o S:List aQ}{c:Int}(h:lE p l o c S)(f:c=0):bX p l o=0/\pR p l (some S):=by
 rcases h with⟨b,d,_⟩|⟨b,x,d,e,g⟩
 ·exact absurd (d.symm.trans f) b
 cases x with
 |none=>rw[f]at e;cases e
 |some T=>rw[g];exact⟨b,d⟩
theorem aJN{p:bK}{l o S:List aQ}{c:Int}(h:lE p l o c S)(e:¬c=0):S=[]:=by
 rcases h with⟨_,_,h⟩|⟨_,x,_,b,d⟩
 ·exact h
 cases x with
 |none=>exact d
 |some T=>exact absurd b e
theorem aPF{p:bK}{m:List aQ}(c:m.length<=60):∀{n:Nat}{S:List aQ},wT p m n (some S)->S.length<=60
 |0,S,h=>by unfold wT at h;injection h with h;subst h;exact c
 |n+1,S,h=>by
  obtain⟨a,_,b⟩:=h
  cases a with
  |none=>cases b
  |some T=>exact b.2.2.len
theorem uK{p:bK}{l o S:List aQ}{c:Int}(h:lE p l o c S):S.length<=60/\∀f,f∈S->f.args.length<=3:=by
 by_cases e:c=0
 ·obtain⟨j,d⟩:=EU h e;obtain⟨g,m,n,_⟩:=xP j;obtain⟨k,q⟩:=uJ g n;have i:=DR g m;exact⟨aPF (bP (OM l) k) d,fun f b=>uL i.ok ((vU i (zL q) d).right f b)⟩
 rw[aJN h e];exact⟨bL _,fun f b=>absurd b sI⟩
theorem IR{p:bK}{l o S:List aQ}{c:Int}(h:lE p l o c S):∀f,f∈S->gD f:=fun f b=>by have :=(uK h).2 f b;unfold gD;omega
end Go.Proofs.YtfljoehbbncooaaGreat
namespace Go.Proofs.YtfljoehbbncooaaGreat
def uX(p:bK)(l m puts takes:List aQ)(e:Int):Prop:=∃c b,lE p l [] c b/\
 ((¬c=0/\e=c)\/(c=0/\(60<puts.length\/60<takes.length)/\e=2)\/
  (c=0/\¬(60<puts.length\/60<takes.length)/\¬iJ p (puts++takes)=0/\e=iJ p (puts++takes))\/
  (c=0/\¬(60<puts.length\/60<takes.length)/\iJ p (puts++takes)=0/\((eZ m=b/\e=0)\/(¬eZ m=b/\e=4))))
def yS(l puts takes:List aQ):List aQ:=jS (eM l takes) puts
def DE(p:bK)(l m puts takes:List aQ)(e:Int)(G N C W:List aQ):Prop:=∃d,uX p l m puts takes d/\
 ((¬d=0/\e=d/\G=[]/\N=[]/\C=[]/\W=[])\/
  (d=0/\∃c b,lE p (yS l puts takes) [] c b/\((¬c=0/\e=c/\G=[]/\N=[]/\C=[]/\W=[])\/(c=0/\e=0/\G=yS l puts takes/\N=b/\C=eM b m/\W=eM m b))))
theorem aI6{p:bK}{l m puts takes:List aQ}(h:uX p l m puts takes 0):∃d,lE p l [] 0 d/\puts.length<=60/\takes.length<=60/\iJ p (puts++takes)=0/\eZ m=d:=by
 obtain⟨c,d,i,h|⟨_,_,h⟩|⟨_,_,f,e⟩|⟨g,f,e,b⟩⟩:=h
 ·exact absurd h.2.symm h.1
 ·cases h
 ·exact absurd e.symm f
 rcases b with⟨b,_⟩|⟨_,b⟩
 ·subst g;exact⟨d,i,oM,oM,e,b⟩
 cases b
theorem Aj{p:bK}{l m puts takes:List aQ}{e r:Int}(h:uX p l m puts takes e)(w:uX p l m puts takes r):e=r:=by
 obtain⟨c,G,x,D⟩:=h;obtain⟨F,H,C,E⟩:=w;obtain⟨rfl,rfl⟩:=wC x C
 rcases D with⟨a,b⟩|⟨a,b,d⟩|⟨a,b,d,f⟩|⟨a,b,d,f⟩<;>rcases E with⟨i,g⟩|⟨i,g,j⟩|⟨i,g,j,k⟩|⟨i,g,j,k⟩<;>first
  |exact b.trans g.symm
  |exact d.trans j.symm
  |exact f.trans k.symm
  |exact absurd i a
  |exact absurd a i
  |exact absurd b g
  |exact absurd g b
  |exact absurd d j
  |exact absurd j d
  |(rcases f with⟨n,s⟩|⟨n,s⟩<;>rcases k with⟨q,u⟩|⟨q,u⟩<;>first|exact s.trans u.symm|exact absurd n q|exact absurd q n)
theorem uE{l m:List aQ}{f:aQ}:f∈jS l m↔f∈l\/f∈m:=rH
theorem qM{l m:List aQ}{f:aQ}:f∈eM l m↔f∈l/\f∉m:=by
 unfold eM;rw[lM,kG];refine and_congr Iff.rfl ?_;cases h:mJ m f
 ·simp;intro b;rw[qD.mpr b]at h;cases h
 simp;exact qD.mp h
theorem aA4{a b:List aQ}(g:dD b):jS (eM a (eM a b)) (eM b a)=b:=by
 refine GI (kU _).1 g fun f=>?_;show f∈jS (eM a (eM a b)) (eM b a)↔f∈b;rw[uE,qM,qM,qM];constructor
 ·rintro(⟨c,d⟩|⟨c,_⟩)
  ·exact Classical.byContradiction fun h=>d ⟨c,h⟩
  exact c
 intro h;by_cases e:f∈a
 ·exact .inl ⟨e,fun d=>d.2 h⟩
 exact .inr ⟨h,e⟩
theorem EL{l m:List aQ}:(eM l m).length<=l.length:=bP (OM _) (nI _ _)
end Go.Proofs.YtfljoehbbncooaaGreat
namespace Go.Proofs.YtfljoehbbncooaaGreat
open Go.RowKit
theorem tJ{p:bK}{h w:List aX}{c D:Int}{R S x C:List aQ}(a:sG p h w c R S)(b:sG p h w D x C):c=D/\R=x/\S=C:=by
 rcases a with⟨f,i,j,k⟩|⟨f,i,j,k,E⟩|⟨f,i,T,j,k⟩
 ·rcases b with⟨d,e,l,g⟩|⟨d,_⟩|⟨d,_⟩
  ·exact⟨i.trans e.symm,j.trans l.symm,k.trans g.symm⟩
  ·exact absurd d f
  exact absurd d f
 ·rcases b with⟨d,_⟩|⟨d,e,l,g,F⟩|⟨_,e,_⟩
  ·exact absurd f d
  ·exact⟨j.trans l.symm,k.trans g.symm,E.trans F.symm⟩
  exact absurd e i
 rcases b with⟨d,_⟩|⟨_,e,_⟩|⟨d,e,G,l,g⟩
 ·exact absurd f d
 ·exact absurd i e
 obtain⟨rfl,rfl⟩:=wC j l;refine⟨rfl,?_⟩;rcases k with⟨m,n,q⟩|⟨m,n,q⟩
 ·rcases g with⟨_,s,u⟩|⟨r,_⟩
  ·exact⟨n.trans s.symm,q.trans u.symm⟩
  exact absurd r m
 rcases g with⟨r,_⟩|⟨_,s,u⟩
 ·exact absurd m r
 exact⟨n.trans s.symm,q.trans u.symm⟩
theorem aCA{l r:List aQ}(hr:dD r):yS l r l=r:=by refine GI (kU _).1 hr fun f=>?_;show f∈jS (eM l l) r↔f∈r;rw[uE,qM];exact⟨fun h=>h.elim (fun h=>absurd h.1 h.2) id, .inr⟩
theorem aKY(h:List aX):dD (aE h):=(kU _).1
theorem aKZ(p:bK)(h w:List aX):dD (dY p h w):=by
 unfold dY;refine List.Pairwise.filter _ ?_;unfold yI;split
 ·exact aKY h
 exact List.Pairwise.nil
theorem aHE{p:bK}{h w w':List aX}(h1:dN h w=0)(b:dN h w'=0):dY p h w=dY p h w':=by unfold dY;rw[zJ h1,zJ b]
theorem aHD{h w b w':List aX}{u:aX}(f:IJ h w)(e:rP (gY (h++w) u) b w'):∀v,v∈h->v∈b:=fun v g=>by have c:=(f.parts.has v).mp g;have d:∀x,x∈h++w->x∈gY (h++w) u:=fun x i=>xN.mpr (.inl i);exact(e.parts.has v).mpr ⟨d v c.1,c.2.mono d⟩
theorem aP6{l:List aX}(h:dI eF l=true):l.Nodup:=by have c:=uF h;unfold List.Nodup at c ⊢;rw[vL]at c;exact c.imp fun {a b} d e=>d (by rw[e])
theorem aKV{h w b w':List aX}{u:aX}(c:IJ h w)(f:rP (gY (h++w) u) b w')(g:b.length=h.length):b=h:=by
 have e:=aHD c f;refine MZ f.rh c.rh fun v=>⟨fun l=>?_,e v⟩;refine Classical.byContradiction fun j=>?_;have k:(v::h).Nodup:=qY.mpr ⟨j,aP6 c.rh⟩;have i:=sK (l₂:=b) k (fun x d=>by
  rcases eA.mp d with rfl|d
  ·exact l
  exact e x d)
 rw[nJ,g]at i;omega
structure JC (p:bK) (h w:List aX) (R S:List aQ):Prop where
 cp:dB p=0
 cd:dN h w=0
 r:R=dY p h w
 m:lE p R [] 0 S
theorem WF{p:bK}{l S:List aQ}(h:lE p l [] 0 S):bX p l []=0:=by
 rcases h with⟨b,c,_⟩|⟨b,_⟩
 ·exact absurd c.symm b
 exact b
theorem Pp{p:bK}{l S:List aQ}(h:lE p l [] 0 S):eZ S=S:=by
 rcases h with⟨b,c,_⟩|⟨b,x,c,e,g⟩
 ·exact absurd c.symm b
 obtain⟨d,j,k,_⟩:=xP b
 cases x with
 |none=>cases e
 |some y=>
  have m:S=y:=g;subst m;have i:=vU (DR d j) (zL (uJ d k).2) c;exact GI (kU _).1 i.up fun f=>lM
theorem Hk{p:bK}{h w:List aX}:∀f,f∈dY p h w->mX p f.g f.args=0:=fun f b=>by have :=(kG.mp b).2;simpa using this
theorem aB9{p:bK}{h w b w':List aX}{S:List aQ}{e:Int}{G N C W:List aQ}(k:JC p h w (dY p h w) S)(K:DE p (dY p h w) S (dY p b w') (dY p h w) e G N C W):
 ∃T,lE p (dY p b w') [] e T/\((¬e=0/\N=[]/\C=[]/\W=[])\/(e=0/\N=T/\C=eM T S/\W=eM S T)):=by
 obtain⟨e0,⟨c,a0,I,L⟩,E⟩:=K;obtain⟨rfl,rfl⟩:=wC I k.m;have D:=xP (WF k.m);have hl:=(uJ D.1 D.2.2.1).1;have Q:iJ p (dY p b w'++dY p h w)=0:=LM fun f i=>by
  rcases cW.mp i with i|i
  ·exact Hk f i
  exact Hk f i
 rcases L with⟨x,_⟩|⟨_,x,n⟩|⟨_,_,x,_⟩|⟨_,x,_,n⟩
 ·exact absurd rfl x
 ·have J:60<(dY p b w').length:=oM;(have u:bX p (dY p b w') []=2:=by unfold bX;(have P:pM p=0:=by have :=WF k.m;unfold bX at this;exact(yL this).1);(have M:lY p (dY p b w')=2:=by unfold lY;rw[if_pos J]);rw[P,M];rfl);rcases E with⟨d,l,y3,U,V,X⟩|⟨d,_⟩
  ·subst n;subst l;exact⟨[], .inl ⟨by rw[u];decide,u.symm,rfl⟩, .inl ⟨dE,U,V,X⟩⟩
  omega
 ·exact absurd Q x
 rcases n with⟨F,R⟩|⟨F,_⟩
 ·subst R;rcases E with⟨d,_⟩|⟨_,Z,H,d,l⟩
  ·exact absurd rfl d
  rw[aCA (aKZ p b w')]at d;refine⟨H,?_,?_⟩
  ·rcases l with⟨j,g,_⟩|⟨j,g,_⟩
   ·rw[g];exact d
   rw[g,<-j];exact d
  rcases l with⟨j,g,Y,q,r,s⟩|⟨j,g,Y,q,r,s⟩
  ·exact .inl ⟨by rw[g];exact j,q,r,s⟩
  exact .inr ⟨g,q,r,s⟩
 exact absurd (Pp k.m) F
structure WC (p:bK) (h w:List aX) (u:aX) (h1 w1:List aX) (T:List aQ):Prop where
 ad:iW h w u=0
 is:rP (gY (h++w) u) h1 w1
 m:lE p (dY p h1 w1) [] 0 T
def RZ(p:bK)(h w:List aX)(u:aX)(e:Int):Prop:=
 ¬e=0/\(e=iW h w u\/(iW h w u=0/\∃b c T,rP (gY (h++w) u) b c/\lE p (dY p b c) [] e T))
abbrev pX:=List (List aQ×List aQ)
def WD(T S:List aQ):List aQ×List aQ:=(eM T S,eM S T)
def xG(p:bK):List aX->List aX->List aQ->List aX->Int->List aX->List aX->List aQ->pX->Prop
 |h,w,S,[],e,d,f,b,c=>e=0/\d=h/\f=w/\b=S/\c=[]
 |h,w,S,u::l,e,d,f,b,c=>RZ p h w u e\/∃i j T g,WC p h w u i j T/\c=WD T S::g/\xG p i j T l e d f b g
theorem aDZ{p:bK}{h w:List aX}{u:aX}{h1 w1:List aX}{T:List aQ}{e:Int}(a:WC p h w u h1 w1 T)(b:RZ p h w u e):False:=by
 obtain⟨c,d|⟨_,j,k,i,f,g⟩⟩:=b
 ·exact c (d.trans a.ad)
 obtain⟨rfl,rfl⟩:=a.is.one f;exact c (wC g a.m).1
theorem aVN{p:bK}{h w:List aX}{u:aX}{h1 w1 d e:List aX}{T c:List aQ}(a:WC p h w u h1 w1 T)(b:WC p h w u d e c):h1=d/\w1=e/\T=c:=by obtain⟨rfl,rfl⟩:=a.is.one b.is;exact⟨rfl,rfl,(wC a.m b.m).2⟩
theorem aP4{p:bK}{h w:List aX}{u:aX}{e g:Int}(a:RZ p h w u e)(b:RZ p h w u g):e=g:=by
 obtain⟨i,d|⟨d,q,s,T,j,k⟩⟩:=a
 ·obtain⟨f,c|⟨c,_⟩⟩:=b
  ·exact d.trans c.symm
  exact absurd (d.trans c) i
 obtain⟨f,c|⟨c,r,x,n,l,m⟩⟩:=b
 ·exact absurd (c.trans d) f
 obtain⟨rfl,rfl⟩:=j.one l;exact(wC k m).1
theorem NR{p:bK}:∀{l:List aX}{h w:List aX}{S:List aQ}{e g:Int}{h1 w1 j k:List aX}{c d:List aQ}{c1 c2:pX},xG p h w S l e h1 w1 c c1->xG p h w S l g j k d c2->e=g/\(e=0->h1=j/\w1=k/\c=d/\c1=c2)
 |[],_,_,_,_,_,_,_,_,_,_,_,_,_,a,b=>by obtain⟨rfl,rfl,rfl,rfl,rfl⟩:=a;obtain⟨rfl,rfl,rfl,rfl,rfl⟩:=b;exact⟨rfl,fun _=>⟨rfl,rfl,rfl,rfl⟩⟩
 |u::l,h,w,S,e,g,h1,w1,j,k,c,d,c1,c2,a,b=>by
  rcases a with a|⟨N,P,L,M,m,s,x⟩
  ·rcases b with b|⟨J,K,r,C,f,n,q⟩
   ·exact⟨aP4 a b,fun i=>absurd i a.1⟩
   exact(aDZ f a).elim
  rcases b with b|⟨J,K,r,C,f,n,q⟩
  ·exact(aDZ m b).elim
  obtain⟨rfl,rfl,rfl⟩:=aVN m f;obtain⟨D,i⟩:=NR x q;refine⟨D,fun E=>?_⟩;obtain⟨F,G,H,I⟩:=i E;exact⟨F,G,H,by rw[s,n,I]⟩
def PU(p:bK)(h w:List aX)(S:List aQ)(l:List aX)(i:Nat)(h1 w1:List aX)(g:List aQ)(j:pX):Prop:=
 ∀e d f b c,xG p h1 w1 g (l.drop i) e d f b c->xG p h w S l e d f b (j++c)
theorem aHC(p:bK)(h w:List aX)(S:List aQ)(l:List aX):PU p h w S l 0 h w S []:=fun _ _ _ _ _ k=>k
theorem aKU{p:bK}{h w:List aX}{S:List aQ}{l:List aX}{i:Nat}{h1 w1 b c:List aX}{d T:List aQ}{f:pX}(n:i<l.length)(k:PU p h w S l i h1 w1 d f)(o:WC p h1 w1 l[i] b c T):PU p h w S l (i+1) b c T (f++[WD T d]):=fun e m q g j r=>by rw[fM];refine k e m q g _ ?_;rw[dA n];exact .inr ⟨b,c,T,j,o,rfl,r⟩
theorem aHB{p:bK}{h w:List aX}{S:List aQ}{l:List aX}{i:Nat}{h1 w1:List aX}{f:List aQ}{j:pX}{e:Int}(m:i<l.length)(k:PU p h w S l i h1 w1 f j)(o:RZ p h1 w1 l[i] e)(c d:List aX)(b:List aQ):∃g,xG p h w S l e c d b g:=
 ⟨_,k e c d b [] (by rw[dA m];exact .inl o)⟩
theorem aHA{p:bK}{h w:List aX}{S:List aQ}{l:List aX}{i:Nat}{h1 w1:List aX}{b:List aQ}{c:pX}(d:l.length<=i)(k:PU p h w S l i h1 w1 b c):xG p h w S l 0 h1 w1 b c:=by have :=k 0 h1 w1 b [] (by rw[List.drop_eq_nil_of_le d];exact⟨rfl,rfl,rfl,rfl,rfl⟩);rwa[iZ]at this
theorem LA{h w h1 w1:List aX}{u:aX}(o:dN h w=0)(b:iW h w u=0)(f:rP (gY (h++w) u) h1 w1):dN h1 w1=0:=by
 have ok:=lK.mp o;unfold iW at b;rw[if_neg (fun k=>k o)]at b;by_cases c:eV u=0
 ·rw[if_neg (fun k=>k c)]at b;have g:(gY (h++w) u).length<=200:=by
   by_cases e:200<(gY (h++w) u).length
   ·rw[if_pos e]at b;cases b
   omega
  refine lK.mpr (f.okN (zZ ok.nd) (fun v d=>?_) g);rcases xN.mp d with d|⟨_,rfl⟩
  ·exact ok.each v d
  exact c
 rw[if_pos c]at b;exact absurd b c
theorem aP5{p:bK}{l S:List aQ}(h:lE p l [] 0 S):dD S:=by have :=Pp h;rw[<-this];exact(kU _).1
def NS(S:List aQ)(c:List aQ×List aQ):List aQ:=jS (eM S c.2) c.1
theorem Pq{p:bK}{l T S:List aQ}(h:lE p l [] 0 T):NS S (WD T S)=T:=aA4 (aP5 h)
theorem Hj{p:bK}:∀{l:List aX}{h w:List aX}{R S:List aQ}{e:Int}{h1 w1:List aX}{c:List aQ}{b:pX},xG p h w S l e h1 w1 c b->e=0->lE p R [] 0 S->b.foldl NS S=c/\∀i,∃Q,lE p Q [] 0 ((b.take i).foldl NS S)
 |[],_,_,R,_,_,_,_,_,_,a,_,f=>by obtain⟨_,rfl,rfl,rfl,rfl⟩:=a;exact⟨rfl,fun i=>⟨R,by rw[List.take_nil];exact f⟩⟩
 |u::l,h,w,R,S,e,h1,w1,c,b,a,he,f=>by
  rcases a with a|⟨r,s,n,q,d,rfl,g⟩
  ·exact absurd he a.1
  obtain⟨j,k⟩:=Hj g he d.m;rw[List.foldl_cons,Pq d.m];refine⟨j,fun i=>?_⟩
  cases i with
  |zero=>exact⟨R,f⟩
  |succ i=>
   rw[JT,List.foldl_cons,Pq d.m];exact k i
theorem AF{p:bK}:∀{l:List aX}{h w:List aX}{S:List aQ}{e:Int}{h1 w1:List aX}{i:List aQ}{d:pX},xG p h w S l e h1 w1 i d->e=0->dN h w=0->∀b,rP b h w->rP (wR b l) h1 w1/\dN h1 w1=0/\d.length=l.length
 |[],_,_,_,_,_,_,_,_,a,_,f,b,g=>by obtain⟨_,rfl,rfl,rfl,rfl⟩:=a;exact⟨g,f,rfl⟩
 |u::l,h,w,S,e,h1,w1,i,d,a,he,f,b,g=>by
  rcases a with a|⟨s,x,q,r,c,rfl,j⟩
  ·exact absurd he a.1
  obtain⟨k,m,n⟩:=AF j he (LA f c.ad c.is) (gY b u) (g.on c.is);exact⟨k,m,by rw[nJ,nJ,n]⟩
theorem ZQ{p:bK}:∀{l:List aX}{h w:List aX}{S:List aQ}{e:Int}{h1 w1:List aX}{b:List aQ}{c:pX},xG p h w S l e h1 w1 b c->e=0->lE p (dY p h w) [] 0 S->lE p (dY p h1 w1) [] 0 b
 |[],_,_,_,_,_,_,_,_,a,_,d=>by obtain⟨_,rfl,rfl,rfl,rfl⟩:=a;exact d
 |u::l,h,w,S,e,h1,w1,b,c,a,he,d=>by
  rcases a with a|⟨k,n,i,j,f,rfl,g⟩
  ·exact absurd he a.1
  exact ZQ g he f.m
end Go.Proofs.YtfljoehbbncooaaGreat

namespace Go.Proofs.YtfljoehbbncooaaGreat
open Go.RowKit
theorem bAD(w:World):aZC 101 w:=by
 intro z f g d s i u x n p l m;have e:=(aG z.heap.size z).alloc (aH _) (.cells #[.int .i64 f.g, .slice d f.args.length i] 72);have k:=(aG (z.alloc (.cells #[.int .i64 f.g, .slice d f.args.length i] 72)).heap.size (z.alloc (.cells #[.int .i64 f.g, .slice d f.args.length i] 72))).alloc (aH _) (.cells #[.int .i64 g.g, .slice s g.args.length u] 72);have b:=e.trans (k.mono e.size);have c:O _:=b;have j:O _:=GH f g _ _ _ (bC n b) (bC p b) l m;clear n p l m e k b x
 go_enter Tryz.func101,Tryz.ntmps101
 go_upto_region 1 with fail;go_wp2_with fail;refine Calls.mono j.o ?_;rintro _ C ⟨rfl,q⟩;have r:O (Below z.heap.size z C):=c.o.trans (q.z.mono c.o.size);clear j q c;go_wp2_with fail;go_ret;exact⟨rfl,r.o⟩
theorem aHJ:∀args w,(callFunc 101 args).run Tryz.prog w=.ok (.enter 101 args) w:=oQ Tryz.func101 kR rfl
theorem aLC(p:bK)(l m puts takes:List aQ)(va vn vr vl vm vp vt:Value)(w:World)(G:nV w va vn vr p)(hF:lR p)(aw:mM w vr)(hV:bS w vl l)(aq:l.length<=9223372036854775807)(ao:∀f,f∈l->gD f)(hM:bS w vm m)(ba:m.length<=4398046511103)(b9:∀f,f∈m->f.args.length<=17592186044416)(hU:bS w vp puts)(bc:puts.length<=9223372036854775807)(bb:∀f,f∈puts->gD f)(hK:bS w vt takes)(b8:takes.length<=9223372036854775807)(b7:∀f,f∈takes->gD f):
 Calls Tryz.prog 63 #[gU va vn vr,vl,vm,vp,vt] w fun e w'=>∃c,e=.returned (.int .i64 c)/\uX p l m puts takes c/\Below w.heap.size w w':=by
 obtain⟨T,X,rfl,_⟩:=id G.ar;obtain⟨U,Y,rfl,_⟩:=id G.nm;obtain⟨L,N,rfl,_⟩:=id G.rl;obtain⟨al,cl,rfl,_⟩:=id hV;obtain⟨am,cm,rfl,_⟩:=id hM;obtain⟨ap,q,rfl,be,bk⟩:=id hU;obtain⟨at_,s,rfl,bf,bl⟩:=id hK;have D:=(aG w.heap.size w).alloc (aH _) (pB T X U Y L N p);have aD:O _:=bA w (pB T X U Y L N p);have E:O (Below w.heap.size w _):=D;have HP:O (nV w (.slice T p.x.length X) (.slice U p.r.length Y) (.slice L p.y.length N) p/\lR p/\mM w (.slice L p.y.length N)):=⟨G,hF,aw⟩;have HV:O (bS w (.slice al l.length cl) l/\l.length<=9223372036854775807/\∀f,f∈l->gD f):=⟨hV,aq,ao⟩;have S:O (bS w (.slice am m.length cm) m/\m.length<=4398046511103/\∀f,f∈m->f.args.length<=17592186044416):=⟨hM,ba,b9⟩;have HU:O (bS w (.slice ap puts.length q) puts/\puts.length<=9223372036854775807/\∀f,f∈puts->gD f):=⟨hU,bc,bb⟩;have HK:O (bS w (.slice at_ takes.length s) takes/\takes.length<=9223372036854775807/\∀f,f∈takes->gD f):=⟨hK,b8,b7⟩;have aT:O ((ap=none->q=0)/\(at_=none->s=0)):=⟨be.2,bf.2⟩;have HC:O _:=Kk p l _ _ _ _ _ (G.z D) hF (aw.z G.rl D) (bQ hV D) aq ao;clear G hF aw hV aq ao hM ba b9 hU bc bb hK b8 b7 D be bk bf bl
 go_enter Tryz.func63,Tryz.ntmps63
 go_upto_region 1 with fail;generalize w.alloc (pB T X U Y L N p)=i at *;(have b3:O (∀y,Below i.heap.size i y->y.cell? ⟨w.heap.size,0,none⟩=some (.slice T p.x.length X)/\y.cell? ⟨w.heap.size,1,none⟩=some (.slice U p.r.length Y)/\y.cell? ⟨w.heap.size,2,none⟩=some (.slice L p.y.length N)):=fun y hy=>by have h:=(hy.block _ (cV aD.o)).trans aD.o;exact⟨cH h,cH h,cH h⟩);obtain⟨c0,c1,c2⟩:=b3.o i (aG _ _);go_wp2_with fail;refine Calls.mono HC.o ?_;rintro _ j ⟨v2,c,Q,rfl,hR,ak,au⟩;have K:O _:=hR;have aN:O _:=ak;obtain⟨bn,cs,rfl,_⟩:=id ak;have ad:O (Below i.heap.size i j):=au;have a8:O (Below w.heap.size w j):=E.o.trans (au.mono E.o.size);clear c0 c1 c2 au HC hR ak;by_cases hc:c=0
 ·subst hc;by_cases M:60<puts.length\/60<takes.length
  ·have n:O (uX p l m puts takes 2):=⟨0,Q,K.o, .inr (.inl ⟨rfl,M,rfl⟩)⟩;by_cases V:60<puts.length
   ·have g1:decide (60<puts.length)=true:=aP V;have i1:decide ((60:Int)<(puts.length:Int))=true:=aP oM;clear M V;go_wp2_with fail;go_ret;exact⟨2,rfl,n.o,a8.o⟩
   have g1:decide (60<puts.length)=false:=aF V;have i1:decide ((60:Int)<(puts.length:Int))=false:=aF oM;have g2:decide (60<takes.length)=true:=aP (M.resolve_left V);have i2:decide ((60:Int)<(takes.length:Int))=true:=aP oM;clear M V;go_wp2_with fail;go_ret;exact⟨2,rfl,n.o,a8.o⟩
  have bp:puts.length<=60:=oM;have br:takes.length<=60:=oM;have g1:decide (60<puts.length)=false:=aF oM;have g2:decide (60<takes.length)=false:=aF oM;have i1:decide ((60:Int)<(puts.length:Int))=false:=aF oM;have i2:decide ((60:Int)<(takes.length:Int))=false:=aF oM;have HS:O _:=M;clear M;go_upto_region 6 with fail;have hx:=eB j (.cells #[.slice ap puts.length q, .slice at_ takes.length s] 30);have ay:=bA j (.cells #[.slice ap puts.length q, .slice at_ takes.length s] 30);have a3:O (Below i.heap.size i (j.alloc (.cells #[.slice ap puts.length q, .slice at_ takes.length s] 30))):=ad.o.trans (hx.mono ad.o.size);have ai:O (Below w.heap.size w (j.alloc (.cells #[.slice ap puts.length q, .slice at_ takes.length s] 30))):=E.o.trans (a3.o.mono E.o.size);have aO:O _:=bQ aN.o hx;(have aS:O (lD (j.alloc (.cells #[.slice ap puts.length q, .slice at_ takes.length s] 30)) ap puts):=by obtain⟨x1,x2,x3,_,x4⟩:=bQ HU.o.1 ai.o;injection x3 with e1 _ _;show lD _ _ _;rw[<-e1]at x4;exact x4);(have b1:O (lD (j.alloc (.cells #[.slice ap puts.length q, .slice at_ takes.length s] 30)) at_ takes):=by obtain⟨x1,x2,x3,_,x4⟩:=bQ HK.o.1 ai.o;injection x3 with e1 _ _;show lD _ _ _;rw[<-e1]at x4;exact x4);have aJ:O _:=Yj puts takes j.heap.size ap at_ q s _ ⟨aS.o,aT.o.1⟩ ⟨b1.o,aT.o.2⟩ (cH ay) (cH ay) oM oM HU.o.2.2 HK.o.2.2;clear hx ay aN ad a8 aS b1;go_wp2_with fail;generalize j.alloc (.cells #[.slice ap puts.length q, .slice at_ takes.length s] 30)=w3 at *;generalize j.heap.size=RB at *;refine Calls.mono aJ.o ?_;rintro _ u ⟨v4,rfl,an,av⟩;have af:O (bS u v4 (puts++takes)/\(puts++takes).length<=120/\∀f,f∈puts++takes->gD f):=⟨an,by rw[aV];omega,fun f hf=>(cW.mp hf).elim (HU.o.2.2 f) (HK.o.2.2 f)⟩;obtain⟨a4,c4,rfl,_,b4⟩:=id an;have az:O (lD u a4 (puts++takes)):=b4;have aC:O (Below i.heap.size i u):=a3.o.trans (av.mono a3.o.size);have bh:O _:=bQ aO.o av;obtain⟨d,ax⟩:∃d,d=puts++takes:=⟨_,rfl⟩;have ae:O (d=puts++takes):=ax;rw[<-ax]at af az ⊢;have bq:d.length<=120:=af.o.2.1;clear av aJ aO a3 ai an b4 ax;go_wp2_with fail;go_loopw [38] (fun iv wr=>∃k:Nat,k<=d.length/\iv=.int .i64 k/\O (iJ p d=iJ p (d.drop k))/\O (Below u.heap.size u wr)) (fun iv _=>d.length-(intOf iv).toNat);case atStart=>exact⟨0,bL _,rfl,rfl,aG _ _⟩
  case round=>
   obtain⟨C,bm⟩:∃C,C=wr:=⟨_,rfl⟩;subst bm;obtain⟨k,hk,rfl,R,J⟩:=hrel;have ab:O (Below i.heap.size i C):=aC.o.trans (J.o.mono aC.o.size);have aj:O (Below w.heap.size w C):=E.o.trans (ab.o.mono E.o.size);by_cases W:k<d.length
   ·obtain⟨b,bs,rfl,p0,fv,p1,b6⟩:=nM az.o k W;have q0:=aB J.o p0;have q1:=aB J.o p1;have bj:O (eT u fv (bF d k).args):=b6;obtain⟨ag,cg,rfl,_⟩:=b6;have bi:O (gD (bF d k)):=af.o.2.2 _ (lU d k W);have a7:O _:=GK p d k W;clear p0 p1;generalize bF d k=f at *;go_upto_region 9 with fail;have D:=(aG C.heap.size C).alloc (aH _) (.cells #[.int .i64 f.g, .slice ag f.args.length cg] 72);have ah:O _:=bA C (.cells #[.int .i64 f.g, .slice ag f.args.length cg] 72);have a6:O (Below u.heap.size u _):=J.o.trans (D.mono J.o.size);have ac:O (Below i.heap.size i _):=ab.o.trans (D.mono ab.o.size);clear q0 q1 D;generalize C.alloc (.cells #[.int .i64 f.g, .slice ag f.args.length cg] 72)=Z at *;generalize C.heap.size=TB at *;have aa:O (Below w.heap.size w Z):=E.o.trans (ac.o.mono E.o.size);obtain⟨c0,c1,c2⟩:=b3.o Z ac.o;(have f0:Z.cell? ⟨TB,0,none⟩=some (.int .i64 f.g):=cH ah.o);(have f1:Z.cell? ⟨TB,1,none⟩=some (.slice ag f.args.length cg):=cH ah.o);go_wp2_with fail;refine Calls.mono (RP p _ _ _ f.g f.args _ Z (nV.z HP.o.1 aa.o) HP.o.2.1 (bC bj.o a6.o) bi.o) ?_;rintro _ P ⟨rfl,H⟩;have bg:O (Below u.heap.size u P):=a6.o.trans (H.mono a6.o.size);have a9:O (Below w.heap.size w P):=aa.o.trans (H.mono aa.o.size);clear c0 c1 c2 f0 f1 H a6 ac ah aa;by_cases I:mX p f.g f.args=0
    ·(have ge:(mX p f.g f.args != 0)=false:=by simpa using I);(have F:O (iJ p d=iJ p (d.drop (k+1))):=by show _=_;rw[R.o,a7.o,if_neg (by simpa using I)]);clear I R a7;go_wp2_with fail;go_roundw;(case rel=>exact⟨k+1,W,gN,F.o,bg.o⟩);case measure=>exact mI
    (have ge:(mX p f.g f.args != 0)=true:=by simpa using I);(have F:O (iJ p d=mX p f.g f.args):=by show _=_;rw[R.o,a7.o,if_pos (by simpa using I)]);have n:O (uX p l m puts takes (mX p f.g f.args)):=by
     refine⟨0,Q,K.o, .inr (.inr (.inl ⟨rfl,HS.o,?_,?_⟩))⟩
     ·rw[<-ae.o,F.o];exact I
     rw[<-ae.o,F.o]
    clear I R a7;go_wp2_with fail;go_ret;exact⟨_,rfl,n.o,a9.o⟩
   have bo:decide (k<d.length)=false:=aF W;(have F:O (iJ p (puts++takes)=0):=by show _=_;rw[<-ae.o,R.o,bG oM];rfl);have b0:O _:=Xb m _ C (bQ S.o.1 aj.o) S.o.2.1 S.o.2.2;go_wp2_with fail;refine Calls.mono b0.o ?_;rintro _ P ⟨v5,rfl,b5,H⟩;have aR:O _:=b5.toV;obtain⟨a5,c5,rfl,_⟩:=id aR.o;have a9:O (Below w.heap.size w P):=aj.o.trans (H.mono aj.o.size);have aL:O _:=aOT 101 (eZ m) Q _ _ P aR.o (bQ (bQ bh.o J.o) H) (bP (OM m) (by have :=S.o.2.1;omega)) (fun f hf=>by have :=S.o.2.2 f (lM.mp hf);unfold gD;omega) (IR K.o) aHJ (bAD P);clear b5 H b0;go_wp2_with fail;refine Calls.mono aL.o ?_;rintro _ w6 ⟨t,rfl,ht,bd⟩;have b2:O (Below w.heap.size w w6):=a9.o.trans (bd.mono a9.o.size);have HT:O _:=ht;clear bd aL ht;cases t
   ·have n:O (uX p l m puts takes 4):=⟨0,Q,K.o, .inr (.inr (.inr ⟨rfl,HS.o,F.o, .inr ⟨fun e=>(by have :=HT.o.mpr e;cases this),rfl⟩⟩))⟩;go_wp2_with fail;go_ret;exact⟨_,rfl,n.o,b2.o⟩
   have n:O (uX p l m puts takes 0):=⟨0,Q,K.o, .inr (.inr (.inr ⟨rfl,HS.o,F.o, .inl ⟨HT.o.mp rfl,rfl⟩⟩))⟩;go_wp2_with fail;go_ret;exact⟨_,rfl,n.o,b2.o⟩
 (have g:(c != 0)=true:=by simpa using hc);have n:O (uX p l m puts takes c):=⟨c,Q,K.o, .inl ⟨hc,rfl⟩⟩;clear hc;go_wp2_with fail;go_ret;exact⟨_,rfl,n.o,a8.o⟩
structure Cl2 (ZB:Nat) (y z:World):Prop where
 eq:∀b o v,b≠ZB->y.cell? ⟨b,o,none⟩=some v->z.cell? ⟨b,o,none⟩=some v
 no:∀o v,y.cell? ⟨ZB,o,none⟩=some v->∃a n c,v=.slice a n c
theorem aHL{d:Nat}{y z:World}{e f:Option Addr}{m p c0 c1:Nat}{t:TypeId}(i:y.heap[d]?=some (.cells #[.slice e m c0, .slice f p c1] t))(l:∀k,¬k=d->z.heap[k]?=y.heap[k]?):Cl2 d y z:=by
 refine⟨fun b o v j c=>?_,fun o v c=>?_⟩
 ·(have g:z.cell? ⟨b,o,none⟩=y.cell? ⟨b,o,none⟩:=by unfold World.cell?;rw[l b j]);rw[g];exact c
 rw[cM i]at c
 match o,c with
 |0,c=>exact⟨_,_,_,(Option.some.inj c).symm⟩
 |1,c=>exact⟨_,_,_,(Option.some.inj c).symm⟩
 |n+2,c=>simp at c
theorem Cl2.ni{c:Nat}{y z:World}(h:Cl2 c y z){b o:Nat}{f:IntKind}{i:Int}(d:y.cell? ⟨b,o,none⟩=some (.int f i)):b≠c:=by rintro rfl;obtain⟨_,_,_,e⟩:=h.no _ _ d;cases e
theorem Cl2.ints{f:Nat}{y z:World}(h:Cl2 f y z){v:Value}{l:List Int}(j:eT y v l):eT z v l:=by
 obtain⟨g,cap,rfl,c⟩:=j;refine⟨g,cap,rfl,?_⟩;rcases c with c|⟨b,k,rfl,d⟩
 ·exact .inl c
 exact .inr ⟨b,k,rfl,fun i e=>h.eq _ _ _ (h.ni (d i e)) (d i e)⟩
theorem Cl2.facts{f:Nat}{y z:World}(h:Cl2 f y z){v:Value}{l:List aQ}(n:bS y v l):bS z v l:=by
 obtain⟨g,cap,rfl,d,e⟩:=n;refine⟨g,cap,rfl,d,?_⟩;rcases e with e|⟨b,p,rfl,k⟩
 ·exact .inl e
 refine .inr ⟨b,p,rfl,fun i m=>?_⟩;obtain⟨c,u,j,d⟩:=k i m;exact⟨h.eq _ _ _ (h.ni c) c,u,h.eq _ _ _ (h.ni c) j,h.ints d⟩
theorem aWK{l puts takes:List aQ}:(yS l puts takes).length<=l.length+puts.length:=by have b:=Ff (l:=eM l takes) (m:=puts);have c:=EL (l:=l) (m:=takes);show(jS _ _).length<=_;omega
theorem aDA(p:bK)(l m puts takes:List aQ)(va vn vr vl vm vp vt:Value)(w:World)(U:nV w va vn vr p)(hF:lR p)(b5:mM w vr)(hV:bS w vl l)(aT:l.length<=9223372036854775807)(aS:∀f,f∈l->gD f)(hM:bS w vm m)(aN:m.length<=4398046511103)(aL:∀f,f∈m->f.args.length<=17592186044416)(hU:bS w vp puts)(aR:puts.length<=9223372036854775807)(aO:∀f,f∈puts->gD f)(hK:bS w vt takes)(aJ:takes.length<=9223372036854775807)(aD:∀f,f∈takes->gD f):
 Calls Tryz.prog 44 #[gU va vn vr,vl,vm,vp,vt] w fun e w'=>∃vg vw vc vd c G N C D,e=.returned (.tuple #[vg,vw, .agg #[vc,vd], .int .i64 c])/\DE p l m puts takes c G N C D/\bS w' vg G/\bS w' vw N/\bS w' vc C/\bS w' vd D/\Below w.heap.size w w':=by
 obtain⟨K,Q,rfl,_⟩:=id U.ar;obtain⟨L,R,rfl,_⟩:=id U.nm;obtain⟨I,J,rfl,_⟩:=id U.rl;obtain⟨al,cl,rfl,_⟩:=id hV;obtain⟨am,cm,rfl,_⟩:=id hM;obtain⟨ap,cp,rfl,c9,c8⟩:=id hU;obtain⟨at_,ct,rfl,cc,cb⟩:=id hK;have b0:=(aG w.heap.size w).alloc (aH _) (pB K Q L R I J p);have hX:=bA w (pB K Q L R I J p);(have s1:(w.alloc (pB K Q L R I J p)).heap.size=w.heap.size+1:=by simp);have b1:=(aG (w.alloc (pB K Q L R I J p)).heap.size (w.alloc (pB K Q L R I J p))).alloc (aH _) (.cells #[.slice none 0 0, .slice none 0 0] 47);have b8:O _:=(b1.block _ (aK.mp hX).1).trans hX;have b2:=bA (w.alloc (pB K Q L R I J p)) (.cells #[.slice none 0 0, .slice none 0 0] 47);rw[s1]at b2;have bp:O _:=b2;have S:=b0.trans (b1.mono b0.size);have u:O (Below w.heap.size w _):=S;have HP:O (nV w (.slice K p.x.length Q) (.slice L p.r.length R) (.slice I p.y.length J) p/\lR p/\mM w (.slice I p.y.length J)):=⟨U,hF,b5⟩;have HV:O (bS w (.slice al l.length cl) l/\l.length<=9223372036854775807/\∀f,f∈l->gD f):=⟨hV,aT,aS⟩;have W:O (bS w (.slice am m.length cm) m/\m.length<=4398046511103/\∀f,f∈m->f.args.length<=17592186044416):=⟨hM,aN,aL⟩;have HU:O (bS w (.slice ap puts.length cp) puts/\puts.length<=9223372036854775807/\∀f,f∈puts->gD f):=⟨hU,aR,aO⟩;have HK:O (bS w (.slice at_ takes.length ct) takes/\takes.length<=9223372036854775807/\∀f,f∈takes->gD f):=⟨hK,aJ,aD⟩;have HC:O _:=aLC p l m puts takes _ _ _ _ _ _ _ _ (U.z S) hF (b5.z U.rl S) (bQ hV S) aT aS (bQ hM S) aN aL (bQ hU S) aR aO (bQ hK S) aJ aD;clear U hF b5 hV aT aS hM aN aL hU aR aO hK aJ aD S c9 c8 cc cb b0 hX s1 b1 b2
 go_enter Tryz.func44,Tryz.ntmps44
 go_upto_region 1 with fail;generalize (w.alloc (pB K Q L R I J p)).alloc (.cells #[.slice none 0 0, .slice none 0 0] 47)=i at *;(have bo:O (∀y,Below i.heap.size i y->y.cell? ⟨w.heap.size,0,none⟩=some (.slice K p.x.length Q)/\y.cell? ⟨w.heap.size,1,none⟩=some (.slice L p.r.length R)/\y.cell? ⟨w.heap.size,2,none⟩=some (.slice I p.y.length J)):=fun y hy=>by have h:=(hy.block _ (cV b8.o)).trans b8.o;exact⟨cH h,cH h,cH h⟩);have aw:O (∀y,Below i.heap.size i y->y.heap[w.heap.size+1]?=some (.cells #[.slice none 0 0, .slice none 0 0] 47)):=fun y hy=>(hy.block _ (cV bp.o)).trans bp.o;obtain⟨c0,c1,c2⟩:=bo.o i (aG _ _);go_wp2_with fail;refine Calls.mono HC.o ?_;rintro _ n ⟨X,rfl,hR,b3⟩;have HR:O (uX p l m puts takes X):=hR;have ab:O (Below i.heap.size i n):=b3;have ah:O (Below w.heap.size w n):=u.o.trans (b3.mono u.o.size);have bm:O _:=aw.o n ab.o;clear c0 c1 c2 b3 HC hR;by_cases he:X=0
 ·subst he;obtain⟨ck,b6,ci,cj,bu,ca⟩:=aI6 HR.o;have cd:O _:=b6;have ag:O _:=xP (EU b6 rfl).1;have bd:O _:=uJ ag.o.1 ag.o.2.2.1;have bi:O _:=RH ag.o.1;have ak:O (∀f,f∈puts++takes->f.args.length<=3):=fun f b=>uL bi.o ((GG ag.o.1).mp bu f b);have an:O (∀f,f∈l->f.args.length<=3):=fun f b=>uL bi.o (bd.o.2 f b);have cf:l.length<=60:=bd.o.1;have bg:O _:=QU l takes _ _ n (bQ HV.o.1 ah.o) (bQ HK.o.1 ah.o) oM oM (fun f b=>by have :=an.o f b;omega) (fun f b=>by have :=ak.o f (gE _ b);omega);clear b6 bu ca;go_wp2_with fail;refine Calls.mono bg.o ?_;rintro _ w3 ⟨v3,rfl,ax,bs⟩;have b9:O _:=ax;obtain⟨a3,c3,rfl,_⟩:=id ax;have ac:O (Below i.heap.size i w3):=ab.o.trans (bs.mono ab.o.size);have bk:O (Below w.heap.size w w3):=u.o.trans (ac.o.mono u.o.size);have cg:=EL (l:=l) (m:=takes);have bj:O _:=Lj (eM l takes) puts _ _ w3 b9.o (bQ HU.o.1 bk.o) oM oM (fun f b=>by have :=an.o f (qM.mp b).1;omega) (fun f b=>by have :=ak.o f (eX _ b);omega);have bN:O (∀f,f∈yS l puts takes->f.args.length<=3):=fun f b=>by
   rcases uE.mp b with h|h
   ·exact an.o f (qM.mp h).1
   exact ak.o f (eX _ h)
  have ce:=aWK (l:=l) (puts:=puts) (takes:=takes);clear ax bs bg ah bm ab;go_wp2_with fail;refine Calls.mono bj.o ?_;rintro _ w4 ⟨v4,rfl,bq,bt⟩;have ae:O (bS w4 v4 (yS l puts takes)):=bq;obtain⟨a4,c4,rfl,_⟩:=id ae.o;have Z:O (Below i.heap.size i w4):=ac.o.trans (bt.mono ac.o.size);have au:O (Below w.heap.size w w4):=u.o.trans (Z.o.mono u.o.size);have bh:O _:=Kk p (yS l puts takes) _ _ _ _ w4 (HP.o.1.z au.o) HP.o.2.1 (HP.o.2.2.z HP.o.1.rl au.o) ae.o oM (fun f b=>by have :=bN.o f b;unfold gD;omega);obtain⟨c0,c1,c2⟩:=bo.o w4 Z.o;clear bq bt bj b9 ac bk;go_wp2_with fail;refine Calls.mono bh.o ?_;rintro _ q ⟨v5,c,N,rfl,br,ay,b4⟩;have aq:O _:=br;have aj:O _:=ay;obtain⟨a5,c5,rfl,_⟩:=id ay;have bb:O _:=bQ ae.o b4;have a8:O (Below i.heap.size i q):=Z.o.trans (b4.mono Z.o.size);have av:O (Below w.heap.size w q):=u.o.trans (a8.o.mono u.o.size);have bn:O _:=aw.o q a8.o;clear c0 c1 c2 br ay b4 bh ae Z au;by_cases hc:c=0
  ·subst hc;have af:O _:=uK aq.o;have be:O _:=QU N m _ _ q aj.o (bQ W.o.1 av.o) (by have :=af.o.1;omega) W.o.2.1 (fun f b=>by have :=af.o.2 f b;omega) W.o.2.2;clear bn;go_wp2_with fail;refine Calls.mono be.o ?_;rintro _ w6 ⟨v6,rfl,az,ai⟩;have ba:O _:=az;obtain⟨E,F,rfl,_⟩:=id az;have ao:O _:=bQ aj.o ai;have bc:O _:=bQ bb.o ai;have ad:O (Below i.heap.size i w6):=a8.o.trans (ai.mono a8.o.size);have bl:O (Below w.heap.size w w6):=u.o.trans (ad.o.mono u.o.size);have bf:O _:=QU m N _ _ w6 (bQ W.o.1 bl.o) ao.o W.o.2.1 (by have :=af.o.1;omega) W.o.2.2 (fun f b=>by have :=af.o.2 f b;omega);clear az ai be aj bb a8 av;go_wp2_with fail;refine Calls.mono bf.o ?_;rintro _ s ⟨v7,rfl,aC,aa⟩;have bw:O _:=aC;obtain⟨M,P,rfl,_⟩:=id aC;have bv:O _:=bQ ba.o aa;have bU:O _:=bQ ao.o aa;have bz:O _:=bQ bc.o aa;have b7:O (Below i.heap.size i s):=ad.o.trans (aa.mono ad.o.size);have bW:O (Below w.heap.size w s):=u.o.trans (b7.o.mono u.o.size);have bZ:O (s.heap[w.heap.size+1]?=some (.cells #[.slice none 0 0, .slice none 0 0] 47)):=aw.o s b7.o;have Y:O (DE p l m puts takes 0 (yS l puts takes) N (eM N m) (eM m N)):=⟨0,HR.o, .inr ⟨rfl,0,N,aq.o, .inr ⟨rfl,rfl,rfl,rfl,rfl,rfl⟩⟩⟩;clear aC aa bf ba ao bc ad bl;have d:=bZ.o;(have z0:s.cell? ⟨w.heap.size+1,0,none⟩=some (.slice none 0 0):=cH d);have y0:=bM d 0;(have j:(s.setCell ⟨w.heap.size+1,0,none⟩ (.slice E (eM N m).length F)).heap[w.heap.size+1]?=some (.cells #[.slice E (eM N m).length F, .slice none 0 0] 47):=by rw[bD d];rfl);(have z1:(s.setCell ⟨w.heap.size+1,0,none⟩ (.slice E (eM N m).length F)).cell? ⟨w.heap.size+1,1,none⟩=some (.slice none 0 0):=cH j);have y1:=bM j 1;(have H:((s.setCell ⟨w.heap.size+1,0,none⟩ (.slice E (eM N m).length F)).setCell ⟨w.heap.size+1,1,none⟩ (.slice M (eM m N).length P)).heap[w.heap.size+1]?=some (.cells #[.slice E (eM N m).length F, .slice M (eM m N).length P] 47):=by rw[bD j];rfl);(have d0:((s.setCell ⟨w.heap.size+1,0,none⟩ (.slice E (eM N m).length F)).setCell ⟨w.heap.size+1,1,none⟩ (.slice M (eM m N).length P)).cell? ⟨w.heap.size+1,0,none⟩=some (.slice E (eM N m).length F):=cH H);(have d1:((s.setCell ⟨w.heap.size+1,0,none⟩ (.slice E (eM N m).length F)).setCell ⟨w.heap.size+1,1,none⟩ (.slice M (eM m N).length P)).cell? ⟨w.heap.size+1,1,none⟩=some (.slice M (eM m N).length P):=cH H);have a9:O (Below w.heap.size w ((s.setCell ⟨w.heap.size+1,0,none⟩ (.slice E (eM N m).length F)).setCell ⟨w.heap.size+1,1,none⟩ (.slice M (eM m N).length P))):=(bW.o.setCell (p:=⟨w.heap.size+1,0,none⟩) (tC _) (.slice E (eM N m).length F)).setCell (p:=⟨w.heap.size+1,1,none⟩) (tC _) (.slice M (eM m N).length P);have V:O (Cl2 (w.heap.size+1) s ((s.setCell ⟨w.heap.size+1,0,none⟩ (.slice E (eM N m).length F)).setCell ⟨w.heap.size+1,1,none⟩ (.slice M (eM m N).length P))):=aHL d (fun k T=>by rw[eC T,eC T]);clear d j H;go_wp2_with fail;refine dP (v:=.tuple #[.slice a4 (yS l puts takes).length c4, .slice a5 N.length c5, .agg #[.slice E (eM N m).length F, .slice M (eM m N).length P], .int .i64 0]) (by simp[results,Tryz.results44,go_sem,d0,d1]) rfl ?_;exact⟨_,_,_,_,_,_,_,_,_,rfl,Y.o,V.o.facts bz.o,V.o.facts bU.o,V.o.facts bv.o,V.o.facts bw.o,a9.o⟩
  (have g:(c != 0)=true:=by simpa using hc);have Y:O (DE p l m puts takes c [] [] [] []):=⟨0,HR.o, .inr ⟨rfl,c,N,aq.o, .inl ⟨hc,rfl,rfl,rfl,rfl,rfl⟩⟩⟩;clear hc;have d:=bn.o;(have z0:q.cell? ⟨w.heap.size+1,0,none⟩=some (.slice none 0 0):=cH d);have y0:=bM d 0;(have j:(q.setCell ⟨w.heap.size+1,0,none⟩ (.slice none 0 0)).heap[w.heap.size+1]?=some (.cells #[.slice none 0 0, .slice none 0 0] 47):=by rw[bD d];rfl);(have z1:(q.setCell ⟨w.heap.size+1,0,none⟩ (.slice none 0 0)).cell? ⟨w.heap.size+1,1,none⟩=some (.slice none 0 0):=cH j);have y1:=bM j 1;(have H:((q.setCell ⟨w.heap.size+1,0,none⟩ (.slice none 0 0)).setCell ⟨w.heap.size+1,1,none⟩ (.slice none 0 0)).heap[w.heap.size+1]?=some (.cells #[.slice none 0 0, .slice none 0 0] 47):=by rw[bD j];rfl);(have d0:((q.setCell ⟨w.heap.size+1,0,none⟩ (.slice none 0 0)).setCell ⟨w.heap.size+1,1,none⟩ (.slice none 0 0)).cell? ⟨w.heap.size+1,0,none⟩=some (.slice none 0 0):=cH H);(have d1:((q.setCell ⟨w.heap.size+1,0,none⟩ (.slice none 0 0)).setCell ⟨w.heap.size+1,1,none⟩ (.slice none 0 0)).cell? ⟨w.heap.size+1,1,none⟩=some (.slice none 0 0):=cH H);have a9:O (Below w.heap.size w ((q.setCell ⟨w.heap.size+1,0,none⟩ (.slice none 0 0)).setCell ⟨w.heap.size+1,1,none⟩ (.slice none 0 0))):=(av.o.setCell (p:=⟨w.heap.size+1,0,none⟩) (tC _) (.slice none 0 0)).setCell (p:=⟨w.heap.size+1,1,none⟩) (tC _) (.slice none 0 0);have V:O (Cl2 (w.heap.size+1) q ((q.setCell ⟨w.heap.size+1,0,none⟩ (.slice none 0 0)).setCell ⟨w.heap.size+1,1,none⟩ (.slice none 0 0))):=aHL d (fun k T=>by rw[eC T,eC T]);clear d j H;go_wp2_with fail;refine dP (v:=.tuple #[.slice none 0 0, .slice none 0 0, .agg #[.slice none 0 0, .slice none 0 0], .int .i64 c]) (by simp[results,Tryz.results44,go_sem,d0,d1]) rfl ?_;exact⟨_,_,_,_,_,[],[],[],[],rfl,Y.o,⟨none,0,rfl,⟨aH _,fun _=>rfl⟩, .inl rfl⟩,⟨none,0,rfl,⟨aH _,fun _=>rfl⟩, .inl rfl⟩,⟨none,0,rfl,⟨aH _,fun _=>rfl⟩, .inl rfl⟩,⟨none,0,rfl,⟨aH _,fun _=>rfl⟩, .inl rfl⟩,a9.o⟩
 (have g:(X != 0)=true:=by simpa using he);have Y:O (DE p l m puts takes X [] [] [] []):=⟨X,HR.o, .inl ⟨he,rfl,rfl,rfl,rfl,rfl⟩⟩;clear he;have d:=bm.o;(have z0:n.cell? ⟨w.heap.size+1,0,none⟩=some (.slice none 0 0):=cH d);have y0:=bM d 0;(have j:(n.setCell ⟨w.heap.size+1,0,none⟩ (.slice none 0 0)).heap[w.heap.size+1]?=some (.cells #[.slice none 0 0, .slice none 0 0] 47):=by rw[bD d];rfl);(have z1:(n.setCell ⟨w.heap.size+1,0,none⟩ (.slice none 0 0)).cell? ⟨w.heap.size+1,1,none⟩=some (.slice none 0 0):=cH j);have y1:=bM j 1;(have H:((n.setCell ⟨w.heap.size+1,0,none⟩ (.slice none 0 0)).setCell ⟨w.heap.size+1,1,none⟩ (.slice none 0 0)).heap[w.heap.size+1]?=some (.cells #[.slice none 0 0, .slice none 0 0] 47):=by rw[bD j];rfl);(have d0:((n.setCell ⟨w.heap.size+1,0,none⟩ (.slice none 0 0)).setCell ⟨w.heap.size+1,1,none⟩ (.slice none 0 0)).cell? ⟨w.heap.size+1,0,none⟩=some (.slice none 0 0):=cH H);(have d1:((n.setCell ⟨w.heap.size+1,0,none⟩ (.slice none 0 0)).setCell ⟨w.heap.size+1,1,none⟩ (.slice none 0 0)).cell? ⟨w.heap.size+1,1,none⟩=some (.slice none 0 0):=cH H);have a9:O (Below w.heap.size w ((n.setCell ⟨w.heap.size+1,0,none⟩ (.slice none 0 0)).setCell ⟨w.heap.size+1,1,none⟩ (.slice none 0 0))):=(ah.o.setCell (p:=⟨w.heap.size+1,0,none⟩) (tC _) (.slice none 0 0)).setCell (p:=⟨w.heap.size+1,1,none⟩) (tC _) (.slice none 0 0);have V:O (Cl2 (w.heap.size+1) n ((n.setCell ⟨w.heap.size+1,0,none⟩ (.slice none 0 0)).setCell ⟨w.heap.size+1,1,none⟩ (.slice none 0 0))):=aHL d (fun k T=>by rw[eC T,eC T]);clear d j H;go_wp2_with fail;refine dP (v:=.tuple #[.slice none 0 0, .slice none 0 0, .agg #[.slice none 0 0, .slice none 0 0], .int .i64 X]) (by simp[results,Tryz.results44,go_sem,d0,d1]) rfl ?_;exact⟨_,_,_,_,_,[],[],[],[],rfl,Y.o,⟨none,0,rfl,⟨aH _,fun _=>rfl⟩, .inl rfl⟩,⟨none,0,rfl,⟨aH _,fun _=>rfl⟩, .inl rfl⟩,⟨none,0,rfl,⟨aH _,fun _=>rfl⟩, .inl rfl⟩,⟨none,0,rfl,⟨aH _,fun _=>rfl⟩, .inl rfl⟩,a9.o⟩
def aO1(v:Value):Prop:=∃a n c,v=.slice a n c
theorem aAN{g:Nat}{w:World}{b:Array Value}{t:TypeId}{c:Nat×Nat}(h:w.heap[g]?=some (.cells b t c))(d:∀v,v∈b.toList->aO1 v):MA g w:=fun o v e=>by rw[cell_of_row w g o b t c h]at e;refine d v ?_;rw[<-fZ]at e;exact mB e
theorem aTY{z:Array Value}(f:∀v,v∈z.toList->aO1 v)(n:Nat):∀v,v∈(Builtin.zeroCells z n).toList->aO1 v:=fun v c=>by unfold Builtin.zeroCells at c;rw[Array.toList_map]at c;obtain⟨i,b,rfl⟩:=cJ.mp c;(have b:i<n*z.size:=by simpa using b);(have e:0<z.size:=Nat.pos_of_ne_zero fun h=>by rw[h,Nat.mul_zero]at b;exact absurd b (yR _));have d:=Nat.mod_lt i e;rw[getElem!_pos z (i% z.size) d];exact f _ (Array.getElem_mem_toList d)
theorem aCX{P:Program}(w:World)(base:Nat)(t C e:TypeId)(i:TypeInfo)(z:Value)(size I:Nat)(ht:P.underlying t=some (.slice e))(E:P.info? e=some i)(N:i.zero=some z)
 (S:i.size=size) (hby:i.bytes=I) (a4:z.cells.size=size) (a2:0<size) (T:∀v,v∈z.cells.toList->aO1 v)
 (v:Value) (n:Nat) (xs:List Value) (G:w.ownsRow base e size v n xs) (a1:∀k,v.ownBlock=some k->MA k w)
 (a:Addr) (m c:Nat) (d:List Value) (x:d.length=m*size) (F:∀j u,d[j]?=some u->w.cell? (a.add j)=some u) (h1:∀u∈d,u.oneCell'=true) (M:∀u∈d,aO1 u)
 (hm:0<m) (h63:n+m<=maxLen) (J:(n+m)*I<=140737488355328) (X:base<=w.heap.size):
 ∃D q,(Builtin.append_ #[t,t] C #[v, .slice (some a) m c]).run P w=.ok D q/\q.ownsRow base e size D (n+m) (xs++d)/\w.grownBy q v.ownBlock/\(∀k,D.ownBlock=some k->MA k q):=by
 obtain⟨D,q,H,U,V,_⟩:=run_append_own (P:=P) w base t C e i z size I ht E N S hby a4 a2 v n xs G a m c d x F h1 h63 J X;refine⟨D,q,H,U,V,?_⟩;subst S;subst hby;(have a8:n+m<=9223372036854775807:=by simp only[maxLen]at h63;omega);rcases G.2 with⟨rfl,rfl⟩|⟨g,cap,p,rfl,a5,L,a7,a6,Y,a3⟩
 ·have l:=run_append_nil (P:=P) w t C e i z ht E N a m c d x F hm oM (by have W:=J;simp only[Nat.zero_add]at W;omega);rw[H]at l;injection l with r s;subst r s;intro k f;simp only[Value.ownBlock,Option.some.injEq]at f;subst f;refine aAN (bA w.drew _) fun u b=>?_;rw[Array.toList_append]at b;rcases cW.mp b with b|b
  ·exact M u (by simpa using b)
  exact aTY T _ u b
 (have K:∀u,u∈p.toList->aO1 u:=fun u b=>by obtain⟨j,hj⟩:=FW.mp b;have Q:=a1 g rfl j u;rw[cell_of_row w g j p e (0,0) L]at Q;exact Q (by rw[<-fZ];exact hj));by_cases R:n+m<=cap
 ·(have Z:n*i.size+d.length<=p.size:=by rw[x,Y,<-OH];exact Nat.mul_le_mul_right _ R);have l:=run_append_room (P:=P) w t C e i ht E g n cap p L a m c d x F h1 R Z;rw[H]at l;injection l with r s;subst r s;intro k f;simp only[Value.ownBlock,Option.some.injEq]at f;subst f;refine aAN (setRow_heap w g p _ e _ L) fun u b=>?_;have b:u∈p.toList.take (n*i.size)++d++p.toList.drop (n*i.size+d.length):=b;rcases cW.mp b with b|b
  ·rcases cW.mp b with b|b
   ·exact K u (mC b)
   exact M u b
  exact K u (uV b)
 have a0:∀j u,xs[j]?=some u->w.cell? ((⟨g,0,none⟩:Addr).add j)=some u:=G.cells (g:=g) rfl;have l:=run_append_grow (P:=P) w t C e i z ht E N ⟨g,0,none⟩ n cap xs G.1 a0 a m c d x F oM oM (growslice_fits oM J);rw[H]at l;injection l with r s;subst r s;intro k f;simp only[Value.ownBlock,Option.some.injEq]at f;subst f;refine aAN (bA w.drew _) fun u b=>?_;rw[Array.toList_append,Array.toList_append]at b;rcases cW.mp b with b|b
 ·rcases cW.mp b with b|b
  ·rw[<-a3]at b;exact K u (mC (by simpa using b))
  exact M u (by simpa using b)
 exact aTY T _ u b
abbrev Cx:=(Value×Value)×(List aQ×List aQ)
def FK(x:Cx):List Value:=[x.1.1,x.1.2]
structure aZE (w:World) (x:Cx):Prop where
 c:bS w x.1.1 x.2.1
 w:bS w x.1.2 x.2.2
abbrev bL0(w:World)(B:Nat)(v:Value)(q:List Cx):=w.ownsRow B 47 2 v q.length (q.map FK).flatten
def Nj(B:Nat)(w:World)(v:Value)(b:pX):Prop:=∃q:List Cx,q.map (·.2)=b/\bL0 w B v q/\(∀k,v.ownBlock=some k->MA k w)/\∀x,x∈q->aZE w x
theorem aZE.kn{w w':World}{x:Cx}(h:aZE w x)(k:Kn w w'):aZE w' x:=⟨k.facts h.c,k.facts h.w⟩
theorem aZE.sl{w:World}{x:Cx}(h:aZE w x):∀u,u∈FK x->aO1 u:=fun u e=>by
 obtain⟨a,c,f,_⟩:=h.c;obtain⟨b,d,g,_⟩:=h.w;unfold FK at e;rw[f,g]at e;rcases eA.mp e with rfl|e
 ·exact⟨_,_,_,rfl⟩
 rcases eA.mp e with rfl|e
 ·exact⟨_,_,_,rfl⟩
 cases e
theorem aTD(B:Nat)(w:World):Nj B w (.slice none 0 0) []:=⟨[],rfl,eS _ _ _ _,(fun k h=>by cases h),(fun _ h=>by cases h)⟩
theorem Nj.sl{B:Nat}{w:World}{v:Value}{b:pX}(h:Nj B w v b):∃a c,v=.slice a b.length c:=by obtain⟨q,rfl,d,_⟩:=h;rw[aY];exact bR d
theorem Nj.keep{B:Nat}{w w':World}{v:Value}{f:pX}(h:Nj B w v f)(k:Kn w w')(i:∀g,B<=g->g<w.heap.size->v.ownBlock=some g->w'.heap[g]?=w.heap[g]?):Nj B w' v f:=by
 obtain⟨q,e,c,m,n⟩:=h;have d:=c.lt;refine⟨q,e,⟨c.1,?_⟩,fun g b o u s=>?_,fun x C=>(n x C).kn k⟩
 ·rcases c.2 with r|⟨g,cap,l,rfl,j,p,D⟩
  ·exact .inl r
  exact .inr ⟨g,cap,l,rfl,j,(i g j (d g rfl).2 rfl).trans p,D⟩
 have :=i g (d g b).1 (d g b).2 b;exact m g b o u (by rw[<-EC this];exact s)
theorem Nj.z{B:Nat}{w w':World}{v:Value}{b:pX}(h:Nj B w v b)(c:Below w.heap.size w w'):Nj B w' v b:=h.keep (Kn.z c) fun g _ d _=>c.block g d
theorem Nj.vk{B b:Nat}{w w':World}{v:Value}{c:pX}(h:Nj B w v c)(d:Vk b w w')(f:MA b w)(j:b<B):Nj B w' v c:=h.keep (d.cl f).kn fun g i e _=>d.block g e oM
theorem Nj.le{B b:Nat}{w:World}{v:Value}{c:pX}(h:Nj B w v c)(k:b<=B):Nj b w v c:=by
 obtain⟨q,e,d,i,j⟩:=h;refine⟨q,e,⟨d.1,?_⟩,i,j⟩;rcases d.2 with m|⟨g,cap,f,n,l,p⟩
 ·exact .inl m
 exact .inr ⟨g,cap,f,n,bP k l,p⟩
theorem aV5:(Tryz.prog.info? 47).map (fun i=>(i.zero,i.size,i.bytes))=some (some (.agg #[.slice none 0 0, .slice none 0 0]),2,48):=kR
theorem aC5{w:World}{J:Array Oper}{rest:List Oper}{o:Oper}{a:Act}{Q:Exit->Act->World->Prop}(V:o.guard=none)(s x:Operand)
 (Z:o.op=.call {callee:=.builtin .append,args:=#[s,x],argTypes:=#[34,34]}) (B:Nat) (R:B<=w.heap.size) (v:Value) (m:pX) (hs:a.eval s=v)
 (a0:Nj B w v m) (g:Nat) (f i:Value) (C D:List aQ) (hx:a.eval x=.slice (some ⟨g,0,none⟩) 1 1) (hg:w.heap[g]?=some (.cells #[f,i] 47)) (S:bS w f C) (T:bS w i D)
 (r:m.length+1<=4194304)
 (h:∀l c,Nj B c l (m++[(C,D)])->w.grownBy c v.ownBlock->Kn w c->wpList Tryz.prog J Q rest (a.put o.dst l) c):wpList Tryz.prog J Q (o::rest) a w:=by
 obtain⟨i0,W,a1,a2,a3⟩:=jY aV5;obtain⟨q,rfl,M,G,N⟩:=a0;have F:aZE w ((f,i),(C,D)):=⟨S,T⟩;(have Y:∀j u,(FK ((f,i),(C,D)))[j]?=some u->w.cell? ((⟨g,0,none⟩:Addr).add j)=some u:=fun j u H=>by rw[Addr.add_lit,eP,cM hg];unfold FK at H;simpa using H);rw[aY]at r;obtain⟨l,c,hr,k1,I,k3⟩:=aCX (P:=Tryz.prog) w B 34 o.type 47 i0 _ 2 48 Tryz.underlying34 W a1 a2 a3 rfl dE (fun u d=>by
  have d:u∈[Value.slice none 0 0,Value.slice none 0 0]:=d;simp at d
  exact⟨_,_,_,d⟩) v q.length _ M G ⟨g,0,none⟩ 1 1 (FK ((f,i),(C,D))) rfl Y (fun u d=>by obtain⟨_,_,_,rfl⟩:=F.sl u d;rfl) F.sl dE (by unfold maxLen;omega) oM R
 (have E:Kn w c:=fun b r o u e=>by(have X:some b≠v.ownBlock:=fun K=>by obtain⟨p,n,hp⟩:=r;obtain⟨_,_,_,L⟩:=G b K.symm p _ hp;cases L);exact I.cell e X);refine wpList_plain V fun _ U=>?_;unfold Oper.wp execOp;simp only[Z,resolve,invoke,builtin,Sem.run_bind,Sem.run_pure,Result.andThen_ok,List.map_toArray,List.map_cons,List.map_nil,hs,hx,hr];refine U _ _ (h l c ⟨q++[((f,i),(C,D))],by simp,?_,k3,fun y k=>?_⟩ I E)
 ·show World.ownsRow _ _ _ _ _ _ _;rw[aV,dC,iL];simpa using k1
 rcases cW.mp k with k|k
 ·exact(N y k).kn E
 rw[cP.mp k];exact F.kn E
end Go.Proofs.YtfljoehbbncooaaGreat
namespace Go.Proofs.YtfljoehbbncooaaGreat
open Go.RowKit Go.Maps
theorem Cl.cap{q:Nat}{y z:World}(c:Cl q y z){vr:Value}{l:List cA}(h:mM y vr)(s:EV y vr l):mM z vr:=by intro b w n cap j k i v u;obtain⟨C,E,m,r⟩:=s;rw[j]at m;injection m with e f F;subst e f;obtain⟨D,G,g,x,_,_,⟨H,p,_⟩,_⟩:=AH r k i;injection g with g;injection g with e f;subst e f;have d:=c.eq _ _ _ (c.ni x) p;rw[u]at d;injection d with d;subst d;exact h b w l.length cap j k i _ p
structure VPt (p:bK) (hq wq:List Uv) (R S:List aQ) (hv wv va vn vr vR vO:Value) (w:World):Prop where
 V:iI w hv hq
 W:iI w wv wq
 ok:∀x,x∈hq++wq->gM w x
 P:nV w va vn vr p
 cap:mM w vr
 FR:bS w vR R
 FS:bS w vO S
theorem VPt.cl{F:Nat}{p:bK}{b g:List Uv}{R S:List aQ}{d i va vn vr f e:Value}{w z:World}(h:VPt p b g R S d i va vn vr f e w)(c:Cl F w z):VPt p b g R S d i va vn vr f e z:=
 ⟨h.V.kn c.kn,h.W.kn c.kn,fun x j=>(h.ok x j).kn c.kn,c.prog h.P,c.cap h.cap h.P.rl,c.factsV h.FR,c.factsV h.FS⟩
theorem VPt.z{p:bK}{b g:List Uv}{R S:List aQ}{d i va vn vr f e:Value}{w z:World}(h:VPt p b g R S d i va vn vr f e w)(c:Below w.heap.size w z):VPt p b g R S d i va vn vr f e z:=
 ⟨h.V.kc (Kc.z c),h.W.kc (Kc.z c),fun x j=>(h.ok x j).z c,h.P.z c,h.cap.z h.P.rl c,bQ h.FR c,bQ h.FS c⟩
structure VSt (p:bK) (VB:Nat) (hq wq:List Uv) (R S:List aQ) (hv wv va vn vr vR vO:Value) (w:World):Prop where
 box:w.heap[VB]?=some (JJ hv wv va vn vr vR vO)
 pt:VPt p hq wq R S hv wv va vn vr vR vO w
def AdV(E:Int)(d:List aX)(W:World)(v1 e:Value):Prop:=∃b c,iI W v1 b/\iI W e c/\(∀x,x∈b++c->gM W x)/\(E=0->rP d (bV b) (bV c))
theorem AdV.z{E:Int}{d:List aX}{W c:World}{v1 e:Value}(h:AdV E d W v1 e)(b:Below W.heap.size W c):AdV E d c v1 e:=by obtain⟨f,g,i,j,k,l⟩:=h;exact⟨f,g,i.kc (Kc.z b),j.kc (Kc.z b),fun x m=>(k x m).z b,l⟩
def AdP(E:Int)(i:List aX)(W:World)(v:Value):Prop:=∃b d f c e g,v=.agg #[.slice b d f, .slice c e g]/\AdV E i W (.slice b d f) (.slice c e g)
theorem AdP.z{E:Int}{c:List aX}{W b:World}{v:Value}(h:AdP E c W v)(g:Below W.heap.size W b):AdP E c b v:=by obtain⟨d,i,k,f,j,l,e,h⟩:=h;exact⟨d,i,k,f,j,l,e,h.z g⟩
def AdT(E:Int)(b:List aX)(W:World)(v:Value):Prop:=∃r,v=.tuple #[r, .int .i64 E]/\AdP E b W r
theorem AdT.z{E:Int}{c:List aX}{W b:World}{v:Value}(h:AdT E c W v)(d:Below W.heap.size W b):AdT E c b v:=by obtain⟨r,e,h⟩:=h;exact⟨r,e,h.z d⟩
def ApN(p:bK)(R:List aQ)(W:World)(v:Value):Prop:=∃a n k,v=.slice a n k/\∃c T,lE p R [] c T/\(c=0->bS W (.slice a n k) T)
def ApC(p:bK)(R S:List aQ)(W:World)(v:Value):Prop:=∃a n k b e d,v=.agg #[.slice a n k, .slice b e d]/\∃c T,lE p R [] c T/\(c=0->bS W (.slice a n k) (eM T S)/\bS W (.slice b e d) (eM S T))
def ApE(p:bK)(R:List aQ)(v:Value):Prop:=∃c T,v=.int .i64 c/\lE p R [] c T
def ApT(p:bK)(R S:List aQ)(W:World)(v:Value):Prop:=∃e d b c,v=.tuple #[e,d,b,c]/\ApN p R W d/\ApC p R S W b/\ApE p R c
theorem ApN.z{p:bK}{R:List aQ}{W b:World}{v:Value}(h:ApN p R W v)(g:Below W.heap.size W b):ApN p R b v:=by obtain⟨a,n,k,e,c,T,d,f⟩:=h;exact⟨a,n,k,e,c,T,d,fun i=>bQ (f i) g⟩
theorem ApC.z{p:bK}{R S:List aQ}{W b:World}{v:Value}(h:ApC p R S W v)(f:Below W.heap.size W b):ApC p R S b v:=by obtain⟨a,n,k,i,m,l,e,c,T,j,d⟩:=h;exact⟨a,n,k,i,m,l,e,c,T,j,fun g=>⟨bQ (d g).1 f,bQ (d g).2 f⟩⟩
theorem ApT.z{p:bK}{R S:List aQ}{W b:World}{v:Value}(h:ApT p R S W v)(c:Below W.heap.size W b):ApT p R S b v:=by obtain⟨k,l,i,j,e,d,f,g⟩:=h;exact⟨k,l,i,j,e,d.z c,f.z c,g⟩
theorem bD8(b c:List Uv)(d g:Value)(x:Uv)(w:World)(C:iI w d b)(I:iI w g c)(D:b.length<=4611686018427387903/\c.length<=4611686018427387903)(E:∀x,x∈b++c->gM w x)(F:gM w x):
 Calls Tryz.prog 51 #[mU d g,mA x] w fun e f=>∃r,e=.returned (.tuple #[r, .int .i64 (iW (bV b) (bV c) x.u)])/\AdP (iW (bV b) (bV c) x.u) (gY (bV b++bV c) x.u) f r/\Below w.heap.size w f:=by
 refine(Dz b c d g x w C I D E F).mono ?_;rintro e f ⟨J,K,k,l,rfl,i,j,p,q,_,s⟩;obtain⟨m,G,rfl,_⟩:=id i;obtain⟨n,H,rfl,_⟩:=id j;exact⟨_,rfl,⟨m,_,G,n,_,H,rfl,k,l,i,j,p,q⟩,s⟩
theorem aVW{p:bK}{h w0 h1 w1:List aX}{S:List aQ}(s:JC p h w0 (dY p h w0) S)(l:(∀f,f∈dY p h w0->gD f)/\(dY p h w0).length<=2097152)(Q:(∀f,f∈dY p h1 w1->gD f)/\(dY p h1 w1).length<=2097152)(va vn vr b i j:Value)(w:World)(M:nV w va vn vr p)(K:lR p)(U:mM w vr)(n:bS w b (dY p h w0))(L:bS w i S)(R:bS w j (dY p h1 w1)):
 Calls Tryz.prog 44 #[gU va vn vr,b,i,j,b] w fun e k=>∃r,e=.returned r/\ApT p (dY p h1 w1) S k r/\Below w.heap.size w k:=by
 have W:=uK s.m;refine(aDA p _ S _ _ va vn vr b i j b w M K U n oM l.1 L oM (fun f V=>by have :=W.2 f V;omega) R oM Q.1 n oM l.1).mono ?_;rintro e k ⟨vg,vw,vc,vd,c,G,N,C,D,rfl,P,k1,u,E,F,X⟩;obtain⟨T,g,q⟩:=aB9 s P;obtain⟨H,Y,rfl,_⟩:=id u;obtain⟨I,Z,rfl,_⟩:=id E;obtain⟨J,s3,rfl,_⟩:=id F;refine⟨_,rfl,⟨vg,_,_,_,rfl,⟨H,_,Y,rfl,c,T,g,fun d=>?_⟩,⟨I,_,Z,J,_,s3,rfl,c,T,g,fun d=>?_⟩,⟨c,T,rfl,g⟩⟩,X⟩
 ·rcases q with⟨x,_⟩|⟨_,rfl,_,_⟩
  ·exact absurd d x
  exact u
 rcases q with⟨x,_⟩|⟨_,_,rfl,rfl⟩
 ·exact absurd d x
 exact⟨E,F⟩
theorem bAC:(Tryz.prog.info? 47).map (·.size)=some 2:=kR
theorem aMH{w:World}{b:Nat}{u v:Value}(h:w.heap[b]?=some (.cells #[u,v] 47)):(loadVar 47 ⟨b,0,none⟩).run Tryz.prog w=.ok (.agg #[u,v]) w:=by
 have :=run_loadVar_mid (P:=Tryz.prog) w b 0 47 [u,v] _ (fun j v c=>by
  rw[eP,cM h]
  simpa using c) Tryz.underlying47 rfl bAC
 simpa using this
theorem XE{c:Func}{t u:Tmp}(h:c.results=#[.cell t 47, .tmp u]){tmps:Array Value}{w:World}{b:Nat}{x y:Value}(ht:tmps.getD t undef=.pointer (some ⟨b,0,none⟩))(e:w.heap[b]?=some (.cells #[x,y] 47)):
 (results c tmps).run Tryz.prog w=.ok (.tuple #[.agg #[x,y],tmps.getD u undef]) w:=by
 have d:=aMH e;(have f:tmps[t]?.getD undef=.pointer (some ⟨b,0,none⟩):=by simpa using ht);simp[results,h,f,asAddr,d]
theorem aSN(b F:Nat)(w:World)(u v:Value)(h:¬F<w.heap.size\/F=b):Vk b w (SR w F u v):=⟨rfl,rfl,rfl,by simp[SR],fun k c d=>CM (by rintro rfl;rcases h with h|h;exact h c;exact d h)⟩
theorem aIU{b F:Nat}{w y:World}(k:Vk b w y)(u v:Value)(h:w.heap.size<=F):Vk b w (SR y F u v):=⟨k.os,k.tape,k.output,by simpa[SR]using k.size,fun j c d=>(CM oM).trans (k.block j c d)⟩
theorem aIR{F:Nat}{d f:Option Addr}{k g l i:Nat}{u v:Value}{t:TypeId}{z:World}(h:z.heap[F]?=some (.cells #[.slice d k g, .slice f l i] t)):Cl F z (SR z F u v):=⟨fun b o x j e=>by rw[EC (CM j)];exact e,fun o x c=>by
 rw[cM h]at c
 match o with
 |0=>cases c;exact⟨_,_,_,rfl⟩
 |1=>cases c;exact⟨_,_,_,rfl⟩
 |_+2=>cases c⟩
theorem bIM{y:World}{b:Nat}{g e va vn vr d c:Value}(u v:Value)(h:y.heap[b]?=some (JJ g e va vn vr d c)):(SR y b u v).heap[b]?=some (JJ u v va vn vr d c):=by unfold SR;(have f:(y.setCell ⟨b,0,none⟩ u).heap[b]?=some (JJ u e va vn vr d c):=by rw[bD h];rfl);rw[bD f];rfl
structure Kv (VB CB:Nat) (w w':World):Prop where
 kn:Kn w w'
 os:w'.os=w.os
 tape:w'.tape=w.tape
 output:w'.output=w.output
 size:w.heap.size<=w'.heap.size
 block:∀k,k<w.heap.size->k≠VB->k≠CB->w'.heap[k]?=w.heap[k]?
theorem Kv.trans{d CB:Nat}{a b c:World}(h:Kv d CB a b)(k:Kv d CB b c):Kv d CB a c:=
 ⟨h.kn.trans k.kn,k.os.trans h.os,k.tape.trans h.tape,k.output.trans h.output,bP h.size k.size,fun j e f g=>(k.block j (dS e h.size) f g).trans (h.block j e f g)⟩
theorem Kv.of_below{c CB:Nat}{a b:World}(h:Below a.heap.size a b):Kv c CB a b:=
 have v:Vk c a b:=Vk.of_below h
 ⟨Kn.z h,v.os,v.tape,v.output,v.size,fun j d e _=>v.block j d e⟩
theorem Kv.of_vk{c CB:Nat}{a b:World}(v:Vk c a b)(s:MA c a):Kv c CB a b:=⟨(v.cl s).kn,v.os,v.tape,v.output,v.size,fun j d e _=>v.block j d e⟩
theorem Kv.vk{c:Nat}{a b:World}(h:Kv c c a b):Vk c a b:=⟨h.os,h.tape,h.output,h.size,fun j e d=>h.block j e d d⟩
theorem Kv.vkN{c CB:Nat}{w a b:World}(v:Vk c w a)(h:Kv c CB a b)(f:w.heap.size<=CB):Vk c w b:=⟨h.os.trans v.os,h.tape.trans v.tape,h.output.trans v.output,bP v.size h.size,fun j d e=>(h.block j (dS d v.size) e oM).trans (v.block j d e)⟩
theorem AdV.kn{E:Int}{c:List aX}{W b:World}{v1 d:Value}(h:AdV E c W v1 d)(k:Kn W b):AdV E c b v1 d:=by obtain⟨e,f,g,i,j,l⟩:=h;exact⟨e,f,g.kn k,i.kn k,fun x m=>(j x m).kn k,l⟩
theorem AdP.kn{E:Int}{c:List aX}{W b:World}{v:Value}(h:AdP E c W v)(k:Kn W b):AdP E c b v:=by obtain⟨d,g,j,f,i,l,e,h⟩:=h;exact⟨d,g,j,f,i,l,e,h.kn k⟩
theorem AdT.kn{E:Int}{c:List aX}{W b:World}{v:Value}(h:AdT E c W v)(k:Kn W b):AdT E c b v:=by obtain⟨r,e,h⟩:=h;exact⟨r,e,h.kn k⟩
theorem ApN.kn{p:bK}{R:List aQ}{W b:World}{v:Value}(h:ApN p R W v)(k:Kn W b):ApN p R b v:=by obtain⟨a,n,c,e,c0,T,d,f⟩:=h;exact⟨a,n,c,e,c0,T,d,fun g=>k.facts (f g)⟩
theorem ApC.kn{p:bK}{R S:List aQ}{W b:World}{v:Value}(h:ApC p R S W v)(k:Kn W b):ApC p R S b v:=by obtain⟨a,n,c,g,l,i,e,c0,T,j,d⟩:=h;exact⟨a,n,c,g,l,i,e,c0,T,j,fun f=>⟨k.facts (d f).1,k.facts (d f).2⟩⟩
theorem ApT.kn{p:bK}{R S:List aQ}{W b:World}{v:Value}(h:ApT p R S W v)(k:Kn W b):ApT p R S b v:=by obtain⟨j,l,g,i,e,c,d,f⟩:=h;exact⟨j,l,g,i,e,c.kn k,d.kn k,f⟩
def AdE(i:Nat)(va vn vr l k:Value)(E:Int)(j:List aX)(_:Nat)(w:World):Prop:=∃b d f c e g,w.heap[i]?=some (JJ (.slice b d f) (.slice c e g) va vn vr l k)/\AdV E j w (.slice b d f) (.slice c e g)
theorem AdE.z{b:Nat}{va vn vr g f:Value}{E:Int}{c:List aX}{i:Nat}{w w':World}(e:Below w.heap.size w w')(h:AdE b va vn vr g f E c i w):AdE b va vn vr g f E c i w':=by obtain⟨j,m,p,k,n,q,d,l⟩:=h;exact⟨j,m,p,k,n,q,(e.block _ (cV d)).trans d,l.z e⟩
theorem aJR.wro{R:World->World->Prop}{E:Nat->World->Prop}{i:Array Oper}{wr:Nat->Bool}{k:Nat->Nat->Bool}{T:Nat->Value->World->Prop}{c:Act}{w0:World}{m:Nat}{o:Oper}{a:Act}{w:World}(h:aJR R E i wr k T c w0 m o a w)(j:Nat)(g:(o.after.toList.any fun e=>Region.binds .any e&&e.on==j&&wr e.on)=true):E j w:=by obtain⟨e,d,b⟩:=jW.mp g;rw[eI,eI]at b;(have f:e.on=j:=by simpa using b.1.2);rw[<-f];exact h.wrote e (by simpa using d) b.1.1 b.2
theorem Kv.of_two{b CB:Nat}{w:World}{c d:Option Addr}{l e m f:Nat}{u v:Value}{t:TypeId}(h:w.heap[CB]?=some (.cells #[.slice c l e, .slice d m f] t)):Kv b CB w (SR w CB u v):=
 have k:Vk CB w (SR w CB u v):=aSN CB CB w u v (.inr rfl)
 ⟨(aIR h).kn,k.os,k.tape,k.output,k.size,fun j g _ i=>k.block j g i⟩
def DmE(e CB:Nat)(f i va vn vr g:Value)(p:bK)(R S:List aQ)(j:Nat)(w:World):Prop:=
 if j=23 then(∃a n k,w.heap[e]?=some (JJ f i va vn vr g (.slice a n k))/\ApN p R w (.slice a n k))/\∃l m q r s u,w.heap[CB]?=some (.cells #[.slice l m q, .slice r s u] 47)
 else∃a n k b d c,w.heap[CB]?=some (.cells #[.slice a n k, .slice b d c] 47)/\ApC p R S w (.agg #[.slice a n k, .slice b d c])
section
variable {VB CB:Nat} {hv wv va vn vr vR:Value} {p:bK} {R S:List aQ} {w w':World}
theorem DmE.z{j:Nat}(c:Below w.heap.size w w')(h:DmE VB CB hv wv va vn vr vR p R S j w):DmE VB CB hv wv va vn vr vR p R S j w':=by
 unfold DmE at h ⊢;split at h
 ·rename_i e;rw[if_pos e];obtain⟨⟨a,n,k,b,d⟩,m,q,r,s,u,x,f⟩:=h;exact⟨⟨a,n,k,(c.block _ (cV b)).trans b,d.z c⟩,m,q,r,s,u,x,(c.block _ (cV f)).trans f⟩
 rename_i e;rw[if_neg e];obtain⟨a,n,k,g,l,i,b,d⟩:=h;exact⟨a,n,k,g,l,i,(c.block _ (cV b)).trans b,d.z c⟩
theorem DmE.box(h:DmE VB CB hv wv va vn vr vR p R S 23 w):∃b c d e f g,w.heap[CB]?=some (.cells #[.slice b c d, .slice e f g] 47):=by unfold DmE at h;rw[if_pos rfl]at h;exact h.2
theorem DmE.vw(h:DmE VB CB hv wv va vn vr vR p R S 23 w):∃a n k,w.heap[VB]?=some (JJ hv wv va vn vr vR (.slice a n k))/\ApN p R w (.slice a n k):=by unfold DmE at h;rw[if_pos rfl]at h;exact h.1
theorem DmE.ch(h:DmE VB CB hv wv va vn vr vR p R S 24 w):∃a n k b d c,w.heap[CB]?=some (.cells #[.slice a n k, .slice b d c] 47)/\ApC p R S w (.agg #[.slice a n k, .slice b d c]):=by unfold DmE at h;rw[if_neg dE]at h;exact h
theorem DmE.w23{b:Option Addr}{nO c:Nat}{x E:Option Addr}{C D F G:Nat}(r:Kv VB CB w w')(m:w'.heap[VB]?=some (JJ hv wv va vn vr vR (.slice b nO c)))(l:ApN p R w' (.slice b nO c))(i:w'.heap[CB]?=some (.cells #[.slice x C D, .slice E F G] 47))
 (q:∀o,w.heap[CB]?=some o->w'.heap[CB]?=some o):∀j,DmE VB CB hv wv va vn vr vR p R S j w\/j=23->DmE VB CB hv wv va vn vr vR p R S j w':=by
 intro j h;by_cases e:j=23
 ·subst e;unfold DmE;rw[if_pos rfl];exact⟨⟨b,nO,c,m,l⟩,_,_,_,_,_,_,i⟩
 have h:=h.resolve_right e;unfold DmE at h ⊢;rw[if_neg e]at h ⊢;obtain⟨a,n,k,d,u,s,f,g⟩:=h;exact⟨a,n,k,d,u,s,q _ f,g.kn r.kn⟩
theorem DmE.w24{b c:Option Addr}{i f l g:Nat}{u v:Value}(C:CB≠VB)(x:Kv VB CB w (SR w CB u v))(r:DmE VB CB hv wv va vn vr vR p R S 23 w)(d:(SR w CB u v).heap[CB]?=some (.cells #[.slice b i f, .slice c l g] 47))(s:ApC p R S (SR w CB u v) (.agg #[.slice b i f, .slice c l g])):
 ∀j,DmE VB CB hv wv va vn vr vR p R S j (SR w CB u v):=by
 intro j;unfold DmE;by_cases e:j=23
 ·rw[if_pos e];obtain⟨a,n,k,m,q⟩:=r.vw;exact⟨⟨a,n,k,(CM (Ne.symm C)).trans m,q.kn x.kn⟩,_,_,_,_,_,_,d⟩
 rw[if_neg e];exact⟨_,_,_,_,_,_,d,s⟩
end
def dlW(i:Nat):Bool:=i==12
def dmW(i:Nat):Bool:=i==23||i==24
end Go.Proofs.YtfljoehbbncooaaGreat
