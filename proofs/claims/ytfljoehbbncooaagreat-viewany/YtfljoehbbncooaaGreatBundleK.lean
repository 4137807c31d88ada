/- Own texts, one behind the other (part 11). -/
import Derived.Test.YtfljoehbbncooaaGreatBundleJ
import Derived.Test.YtfljoehbbncooaaGreatRows
import Derived.Deep.RegionWith
import Derived.Deep.Cut
import Derived.Laws.IdiomStrings
import Derived.Laws.BitsAllLaws
import Derived.Laws.Strings2
import Derived.Lib.BufferMore
import Derived.Laws.EntriesVeiled
set_option maxRecDepth 100000
set_option maxHeartbeats 8000000
namespace Go.Proofs.YtfljoehbbncooaaGreat
open Go.RowKit Go.Maps
def dlT(c:Nat)(f g:Value)(E:Int)(e:List aX)(i:Nat)(b:Value)(d:World):Prop:=
 match i with
 |21=>b=.pointer (some ⟨c,0,none⟩)
 |22=>b=.pointer (some ⟨c,0,none⟩)
 |23=>b=.pointer (some ⟨c,0,none⟩)
 |24=>b=.pointer (some ⟨c,0,none⟩)
 |25=>b=f
 |26=>b=g
 |27=>AdT E e d b
 |20=>AdT E e d b
 |28=>AdP E e d b
 |29=>b=.int .i64 E
 |30=>b=.pointer (some ⟨c,0,none⟩)
 |31=>b=.pointer (some ⟨c,0,none⟩)
 |_=>True
theorem bAL(d:Nat)(b c:Value)(E:Int)(f:List aX)(i:Nat)(j:Value)(W e:World)(g:Below W.heap.size W e)(h:dlT d b c E f i j W):dlT d b c E f i j e:=by revert h;unfold dlT;split<;>(intro h;first|exact h|exact AdT.z h g|exact AdP.z h g)
theorem bHI(d:Nat)(b c:Value)(E:Int)(f:List aX)(i:Nat)(j:Value)(W e:World)(g:Kn W e)(h:dlT d b c E f i j W):dlT d b c E f i j e:=by revert h;unfold dlT;split<;>(intro h;first|exact h|exact AdT.kn h g|exact AdP.kn h g)
def dmT(c:Nat)(i e g f:Value)(p:bK)(R S:List aQ)(j:Nat)(b:Value)(d:World):Prop:=
 match j with
 |52=>b=.pointer (some ⟨c,0,none⟩)
 |53=>b=.pointer (some ⟨c,0,none⟩)
 |54=>b=.pointer (some ⟨c,0,none⟩)
 |55=>b=.pointer (some ⟨c,2,none⟩)
 |56=>b=i
 |57=>b=e
 |58=>b=.pointer (some ⟨c,0,none⟩)
 |59=>b=.pointer (some ⟨c,0,none⟩)
 |60=>b=.pointer (some ⟨c,6,none⟩)
 |61=>b=g
 |62=>b=.pointer (some ⟨c,0,none⟩)
 |63=>b=.pointer (some ⟨c,0,none⟩)
 |64=>b=.pointer (some ⟨c,5,none⟩)
 |65=>b=f
 |66=>b=e
 |67=>ApT p R S d b
 |51=>ApT p R S d b
 |69=>ApN p R d b
 |70=>ApC p R S d b
 |71=>ApE p R b
 |72=>b=.pointer (some ⟨c,0,none⟩)
 |73=>b=.pointer (some ⟨c,6,none⟩)
 |_=>True
theorem bAM(f:Nat)(e i d c:Value)(p:bK)(R S:List aQ)(j:Nat)(k:Value)(W g:World)(b:Below W.heap.size W g)(h:dmT f e i d c p R S j k W):dmT f e i d c p R S j k g:=by revert h;unfold dmT;split<;>(intro h;first|exact h|exact ApT.z h b|exact ApN.z h b|exact ApC.z h b)
theorem bHK(f:Nat)(e i d c:Value)(p:bK)(R S:List aQ)(j:Nat)(k:Value)(W g:World)(b:Kn W g)(h:dmT f e i d c p R S j k W):dmT f e i d c p R S j k g:=by revert h;unfold dmT;split<;>(intro h;first|exact h|exact ApT.kn h b|exact ApN.kn h b|exact ApC.kn h b)
theorem aLO(p:bK)(d:Nat)(g q:List Uv)(S:List aQ)(hv wv va vn vr vR vO:Value)(x:Uv)(w:World)(hF:lR p)(ab:VSt p d g q (dY p (bV g) (bV q)) S hv wv va vn vr vR vO w)(bw:JC p (bV g) (bV q) (dY p (bV g) (bV q)) S)(hx:gM w x)(cp:(∀f,f∈dY p (bV g) (bV q)->gD f)/\(dY p (bV g) (bV q)).length<=2097152):
 Calls Tryz.prog 21 #[.pointer (some ⟨d,0,none⟩),mA x] w fun e w'=>∃a n k D E k2 c,e=.returned (.tuple #[.agg #[.slice a n k, .slice D E k2], .int .i64 c])/\Vk d w w'/\MA d w'/\
  ((RZ p (bV g) (bV q) x.u c)\/
   (c=0/\∃da dj di dh aT b5 T,VSt p d aT b5 (dY p (bV aT) (bV b5)) T da dj va vn vr di dh w'/\WC p (bV g) (bV q) x.u (bV aT) (bV b5) T/\bS w' (.slice a n k) (eM T S)/\bS w' (.slice D E k2) (eM S T)/\(∀f,f∈dY p (bV aT) (bV b5)->gD f)/\(dY p (bV aT) (bV b5)).length<=2097152)):=by
 have ao:O _:=bw;have cg:O _:=cp;have bm:O (VPt p g q (dY p (bV g) (bV q)) S hv wv va vn vr vR vO w):=ab.pt;obtain⟨ct,⟨ah,ch,rfl,_⟩,⟨aw,cw,rfl,_⟩,_,hP,_,⟨K,L,rfl,_⟩,⟨U,X,rfl,_⟩⟩:=ab;obtain⟨G,I,rfl,_⟩:=id hP.ar;obtain⟨H,J,rfl,_⟩:=id hP.nm;obtain⟨D,E,rfl,_⟩:=id hP.rl;have d5:O (gM w x):=hx;(have cU:O (g.length<=4611686018427387903/\q.length<=4611686018427387903):=by have :=(lK.mp bw.cd).few;rw[eH,eH]at this;exact⟨oM,oM⟩);obtain⟨b1,m1,k1,b2,m2,k2,b3,m3,k3,x1,x2,x3⟩:=hx.forms;(have ci:O (mA x=.agg #[.int .i64 x.u.id.a, .int .i64 x.u.id.n, .slice b1 m1 k1, .slice b2 m2 k2, .slice b3 m3 k3]):=by show _=_;unfold mA;rw[x1,x2,x3]);have ae:O (w.heap[d]?=some (JJ (.slice ah g.length ch) (.slice aw q.length cw) (.slice G p.x.length I) (.slice H p.r.length J) (.slice D p.y.length E) (.slice K (dY p (bV g) (bV q)).length L) (.slice U S.length X))):=ct;clear hP ct hx bw cp;have ca:O (∃F,F=iW (bV g) (bV q) x.u):=⟨_,rfl⟩;obtain⟨F,c9⟩:=ca.o;have af:O (F=iW (bV g) (bV q) x.u):=c9;obtain⟨AL,bZ⟩:∃AL,AL=gY (bV g++bV q) x.u:=⟨_,rfl⟩;have bW:O (AL=gY (bV g++bV q) x.u):=bZ;obtain⟨R,bn⟩:∃R,R=dY p (bV g) (bV q):=⟨_,rfl⟩;have HR:O (R=dY p (bV g) (bV q)):=bn;rw[<-bn]at ae bm;clear c9 bZ bn ca;have au:O _:=aIS w (.cells #[.int .i64 x.u.id.a, .int .i64 x.u.id.n, .slice b1 m1 k1, .slice b2 m2 k2, .slice b3 m3 k3] 42) (.cells #[.slice none 0 0, .slice none 0 0] 47);have b6:O _:=Df w (.cells #[.int .i64 x.u.id.a, .int .i64 x.u.id.n, .slice b1 m1 k1, .slice b2 m2 k2, .slice b3 m3 k3] 42) (.cells #[.slice none 0 0, .slice none 0 0] 47);rw[ci.o]
 go_enter Tryz.func21,Tryz.ntmps21
 go_upto_region 1 with fail;generalize (w.alloc (.cells #[.int .i64 x.u.id.a, .int .i64 x.u.id.n, .slice b1 m1 k1, .slice b2 m2 k2, .slice b3 m3 k3] 42)).alloc (.cells #[.slice none 0 0, .slice none 0 0] 47)=w0 at *;have bp:O (w0.heap[d]?=some (JJ (.slice ah g.length ch) (.slice aw q.length cw) (.slice G p.x.length I) (.slice H p.r.length J) (.slice D p.y.length E) (.slice K R.length L) (.slice U S.length X))):=(b6.o.block _ (cV ae.o)).trans ae.o;(have c0:w0.cell? ⟨d,0,none⟩=some (.slice ah g.length ch):=cH bp.o);(have c5:w0.cell? ⟨d,5,none⟩=some (.slice K R.length L):=cH bp.o);have cT:∀a b,Below a.heap.size a b->Below a.heap.size a b.drew:=fun _ _ h=>h.drew;have cc:Below w0.heap.size w0 w0:=aG _ _;go_region_held3 (fun yy=>yy.cell? ⟨d,0,none⟩=some (.slice ah g.length ch)/\yy.cell? ⟨d,5,none⟩=some (.slice K R.length L)/\Below w0.heap.size w0 yy) (go_keep) (fail);have hd:Below w0.heap.size w0 w0.drew:=cc.drew;generalize w0.drew=w1 at *;have am:O (Below w.heap.size w w1):=b6.o.trans (hd.mono b6.o.size);have aj:O (w1.heap[d]?=some (JJ (.slice ah g.length ch) (.slice aw q.length cw) (.slice G p.x.length I) (.slice H p.r.length J) (.slice D p.y.length E) (.slice K R.length L) (.slice U S.length X))):=(am.o.block _ (cV ae.o)).trans ae.o;have ag:O (w1.heap[w.heap.size]?=some (.cells #[.int .i64 x.u.id.a, .int .i64 x.u.id.n, .slice b1 m1 k1, .slice b2 m2 k2, .slice b3 m3 k3] 42)):=(hd.block _ (cV au.o.1)).trans au.o.1;have bq:O (w1.heap[w.heap.size+1]?=some (.cells #[.slice none 0 0, .slice none 0 0] 47)):=(hd.block _ (cV au.o.2)).trans au.o.2;clear c0 c5 cT cc hd bp au b6
 have HX:O (∀z,Below w1.heap.size w1 z->z.cell? ⟨d,0,none⟩=some (.slice ah g.length ch)/\z.cell? ⟨d,1,none⟩=some (.slice aw q.length cw)/\z.cell? ⟨w.heap.size,0,none⟩=some (.int .i64 x.u.id.a)/\z.cell? ⟨w.heap.size,1,none⟩=some (.int .i64 x.u.id.n)/\z.cell? ⟨w.heap.size,2,none⟩=some (.slice b1 m1 k1)/\z.cell? ⟨w.heap.size,3,none⟩=some (.slice b2 m2 k2)/\z.cell? ⟨w.heap.size,4,none⟩=some (.slice b3 m3 k3)):=fun z hz=>
  ⟨aB hz (cH aj.o),aB hz (cH aj.o),aB hz (cH ag.o),aB hz (cH ag.o),aB hz (cH ag.o),aB hz (cH ag.o),aB hz (cH ag.o)⟩
 (have bU:O (∀z,Below w1.heap.size w1 z->Calls Tryz.prog 51 #[mU (.slice ah g.length ch) (.slice aw q.length cw), .agg #[.int .i64 x.u.id.a, .int .i64 x.u.id.n, .slice b1 m1 k1, .slice b2 m2 k2, .slice b3 m3 k3]] z fun e w'=>∃r,e=.returned (.tuple #[r, .int .i64 F])/\AdP F AL w' r/\Below z.heap.size z w'):=fun z hz=>by have hb:=am.o.trans (hz.mono am.o.size);have hp:=bm.o.z hb;rw[<-ci.o,af.o,bW.o];exact bD8 g q _ _ x z hp.V hp.W cU.o hp.ok (d5.o.z hb));go_upto_region 3 with fail;refine DP (Kv d d) (fun _ _ _ h k=>h.trans k) (fun _ _ h=>Kv.of_below h) (dlT d (mU (.slice ah g.length ch) (.slice aw q.length cw)) (.agg #[.int .i64 x.u.id.a, .int .i64 x.u.id.n, .slice b1 m1 k1, .slice b2 m2 k2, .slice b3 m3 k3]) F AL) (AdE d (.slice G p.x.length I) (.slice H p.r.length J) (.slice D p.y.length E) (.slice K R.length L) (.slice U S.length X) F AL) 13 dlW (fun _ _=>true) dE kR kR kR (bAL _ _ _ _ _) (fun _ _ _ hb h=>AdE.z hb h) (fun _ t v w w' _ _ hk h=>bHI _ _ _ _ _ t v w w' hk.kn h) ?hop ?hend
 case hop=>
  refine AM.cons (fun a y h hO=>by rw[if_neg dE];have e0:a.eval (.tmp 0)=(.pointer (some ⟨d,0,none⟩):Value):=h.old 0;exact iQ (.pointer (some ⟨d,0,none⟩))) ?_;refine AM.cons (fun a y h hO=>by rw[if_neg dE];have e0:a.eval (.tmp 0)=(.pointer (some ⟨d,0,none⟩):Value):=h.old 0;exact iQ (.pointer (some ⟨d,0,none⟩))) ?_;refine AM.cons (fun a y h hO=>by rw[if_neg dE];have dq:a.eval (.tmp 22)=(.pointer (some ⟨d,0,none⟩):Value):=h.of 22;exact iQ (.pointer (some ⟨d,0,none⟩))) ?_;refine AM.cons (fun a y h hO=>by rw[if_neg dE];have dr:a.eval (.tmp 23)=(.pointer (some ⟨d,0,none⟩):Value):=h.of 23;exact iQ (.pointer (some ⟨d,0,none⟩))) ?_;refine AM.cons (fun a y h hO=>by rw[if_neg dE];have ds:a.eval (.tmp 24)=(.pointer (some ⟨d,0,none⟩):Value):=h.of 24;obtain⟨r0,r1,M,Y,s2,s3,s4⟩:=HX.o y (h.pre kR);exact iQ (mU (.slice ah g.length ch) (.slice aw q.length cw))) ?_;refine AM.cons (fun a y h hO=>by rw[if_neg dE];have e3:a.eval (.tmp 3)=(.pointer (some ⟨w.heap.size,0,none⟩):Value):=h.old 3;obtain⟨r0,r1,M,Y,s2,s3,s4⟩:=HX.o y (h.pre kR);exact iQ (.agg #[.int .i64 x.u.id.a, .int .i64 x.u.id.n, .slice b1 m1 k1, .slice b2 m2 k2, .slice b3 m3 k3])) ?_;refine AM.cons (fun a y h hO=>?_) ?_
  ·rw[if_neg dE];have dt:a.eval (.tmp 25)=((mU (.slice ah g.length ch) (.slice aw q.length cw)):Value):=h.of 25;have du:a.eval (.tmp 26)=((.agg #[.int .i64 x.u.id.a, .int .i64 x.u.id.n, .slice b1 m1 k1, .slice b2 m2 k2, .slice b3 m3 k3]):Value):=h.of 26;refine fI (f:=51) (args:=#[mU (.slice ah g.length ch) (.slice aw q.length cw), .agg #[.int .i64 x.u.id.a, .int .i64 x.u.id.n, .slice b1 m1 k1, .slice b2 m2 k2, .slice b3 m3 k3]]) (bI rfl) ?_ ?_
   ·have ec:=kZ a;have ef:=AO a;generalize a.eval=ev at *;clear h hO;go_simp
   refine Calls.mono (bU.o y (h.pre kR)) ?_;rintro _ y2 ⟨r,rfl,l,bv⟩;exact⟨_,rfl,fun t ht=>by cases ht;exact⟨r,rfl,l⟩,bv⟩
  refine AM.cons (fun a y h hO=>by rw[if_neg dE];have db:AdT F AL y (a.eval (.tmp 27)):=h.of 27;obtain⟨r9,e9,h9⟩:=db;refine dG (v:=.tuple #[r9, .int .i64 F]) (w':=y) (bI rfl) ?_ (fun t ht=>by cases ht;exact⟨r9,rfl,h9⟩) (aG _ _);have ec:=kZ a;generalize a.eval=ev at *;clear h hO;go_simp) ?_;refine AM.cons (fun a y h hO=>by rw[if_neg dE];have bN:AdT F AL y (a.eval (.tmp 20)):=h.of 20;obtain⟨r9,e9,h9⟩:=bN;refine dG (v:=r9) (w':=y) (bI rfl) ?_ (fun t ht=>by cases ht;exact h9) (aG _ _);have ec:=kZ a;generalize a.eval=ev at *;clear h hO;go_simp) ?_;refine AM.cons (fun a y h hO=>by rw[if_neg dE];have bN:AdT F AL y (a.eval (.tmp 20)):=h.of 20;obtain⟨r9,e9,h9⟩:=bN;exact iQ (.int .i64 F)) ?_;refine AM.cons (fun a y h hO=>by rw[if_neg dE];have dp:a.eval (.tmp 21)=(.pointer (some ⟨d,0,none⟩):Value):=h.of 21;exact iQ (.pointer (some ⟨d,0,none⟩))) ?_;refine AM.cons (fun a y h hO=>by rw[if_neg dE];have dw:a.eval (.tmp 30)=(.pointer (some ⟨d,0,none⟩):Value):=h.of 30;exact iQ (.pointer (some ⟨d,0,none⟩))) ?_;refine AM.cons (fun a y h hO=>by rw[if_pos dE];have dx:a.eval (.tmp 31)=(.pointer (some ⟨d,0,none⟩):Value):=h.of 31;have dc:AdP F AL y (a.eval (.tmp 28)):=h.of 28;obtain⟨Q,l0,M,g1,l1,Y,dv,az⟩:=dc;have hp:=h.pre kR;have a3:y.heap[d]?=some (JJ (.slice ah g.length ch) (.slice aw q.length cw) (.slice G p.x.length I) (.slice H p.r.length J) (.slice D p.y.length E) (.slice K R.length L) (.slice U S.length X)):=(hp.block _ (cV aj.o)).trans aj.o;(have z0:y.cell? ⟨d,0,none⟩=some (.slice ah g.length ch):=cH a3);(have z1:(y.setCell ⟨d,0,none⟩ (.slice Q l0 M)).cell? ⟨d,1,none⟩=some (.slice aw q.length cw):=by(have l:(y.setCell ⟨d,0,none⟩ (.slice Q l0 M)).heap[d]?=some (JJ (.slice Q l0 M) (.slice aw q.length cw) (.slice G p.x.length I) (.slice H p.r.length J) (.slice D p.y.length E) (.slice K R.length L) (.slice U S.length X)):=by rw[bD a3];rfl);rw[cM l];rfl);have y0:=bM a3 0;(have y1:(y.setCell ⟨d,0,none⟩ (.slice Q l0 M)).frozen? ⟨d,1,none⟩=false:=by rw[fW];exact bM a3 1);have hk:Kv d d y (SR y d (.slice Q l0 M) (.slice g1 l1 Y)):=Kv.of_vk (aSN d d y _ _ (.inr rfl)) (OD a3);have hE:∀j,AdE d (.slice G p.x.length I) (.slice H p.r.length J) (.slice D p.y.length E) (.slice K R.length L) (.slice U S.length X) F AL j (SR y d (.slice Q l0 M) (.slice g1 l1 Y)):=fun _=>⟨_,_,_,_,_,_,bIM _ _ a3,az.kn hk.kn⟩;refine⟨bI rfl,XD (w':=SR y d (.slice Q l0 M) (.slice g1 l1 Y)) ?_ ⟨undef,rfl,fun t ht=>(by cases ht),hk,fun j _=>hE j,hE _⟩⟩;unfold SR;have ec:=kZ a;generalize a.eval=ev at *;clear h hO hE hk az hp a3;go_simp) ?_;exact AM.nil
 rintro⟨N,df⟩ y hI _;have d6:Act.eval ⟨N,df⟩ (.tmp 29)=(.int .i64 F:Value):=hI.of 9 _ 29 dE rfl rfl kR;obtain⟨Q,l0,M,g1,l1,Y,a3,az⟩:=hI.wrote 12 dE rfl;have aJ:Vk d w1 y:=hI.z.vk;have b4:N.size=76:=hI.size;show wpOps Tryz.prog _ _ [13] _ _;rw[lH];refine xF (v:=.int .i64 F) (w':=y) rfl (bI rfl) ?_ ?_
 ·show Sem.run Tryz.prog (execOp (Act.eval ⟨N,df⟩) _) _=_;generalize Act.eval ⟨N,df⟩=ev at *;clear hI;go_simp
 (have ab:∀t,t∉[21,22,23,24,25,26,27,20,28,29,30,31,8]->(N.setIfInBounds 8 (.int .i64 F)).getD t undef=_:=fun t ht=>by have hA:t≠8:=fun e=>ht (by rw[e];decide);exact(jM (a:=⟨N,df⟩) hA).trans (hI.still t (fun h=>ht (by revert h;simp))));have h8:(N.setIfInBounds 8 (.int .i64 F)).getD 8 undef=.int .i64 F:=jV (a:=⟨N,df⟩) (by show 8<N.size;omega);obtain rfl:df=[]:=hI.defers;(have b0:(N.setIfInBounds 8 (.int .i64 F)).size=76:=by simp[b4]);have c4:O _:=az;have cj:O _:=a3;have a7:O _:=aJ;clear hI az d6 b4 a3 aJ;show Exit.then _ _ Exit.normal ⟨N.setIfInBounds 8 (.int .i64 F),[]⟩ _;generalize N.setIfInBounds 8 (.int .i64 F)=bT at *;obtain⟨fQ,hQ,ac⟩:=oR [21,22,23,24,25,26,27,20,28,29,30,31,8] bT _ (b0.trans rF) ab;clear b0 ab;simp only[List.foldl_cons,List.foldl_nil,(hQ 8).trans h8]at ac;clear h8 hQ;simp only[List.setIfInBounds_toArray,List.set_cons_zero,List.set_cons_succ]at ac;subst ac;have c6:O (Cl d w1 y):=a7.o.cl (OD aj.o);have ak:O (y.heap[d]?=some (JJ (.slice Q l0 M) (.slice g1 l1 Y) (.slice G p.x.length I) (.slice H p.r.length J) (.slice D p.y.length E) (.slice K R.length L) (.slice U S.length X))):=cj.o;have ai:O (d<w.heap.size):=cV ae.o;have aa:O (y.heap[w.heap.size+1]?=some (.cells #[.slice none 0 0, .slice none 0 0] 47)):=(a7.o.block _ (cV bq.o) (by have :=ai.o;omega)).trans bq.o;have bi:O (Vk d w y):=(Vk.of_below am.o).trans a7.o;have bk:O (VPt p g q R S (.slice ah g.length ch) (.slice aw q.length cw) (.slice G p.x.length I) (.slice H p.r.length J) (.slice D p.y.length E) (.slice K R.length L) (.slice U S.length X) y):=(bm.o.z am.o).cl c6.o;obtain⟨s,C,cE,cF,cG,cK⟩:=c4.o;have a4:O (iI y (.slice Q l0 M) s/\iI y (.slice g1 l1 Y) C/\(∀x,x∈s++C->gM y x)):=⟨cE,cF,cG⟩;have cL:O (F=0->rP AL (bV s) (bV C)):=cK;clear cE cF cG cK c4 cj c6 HX bU aj ag bq a7;generalize y=y2 at *;(have q0:y2.cell? ⟨w.heap.size+1,0,none⟩=some (.slice none 0 0):=cH aa.o);(have q1:y2.cell? ⟨w.heap.size+1,1,none⟩=some (.slice none 0 0):=cH aa.o);have f0:∀k,y2.frozen? ⟨w.heap.size+1,k,none⟩=false:=fun k=>bM aa.o k;by_cases he:F=0;rotate_left
 ·have HE:O (¬F=0):=he;(have ep:(F != 0)=true:=by simpa using he);clear he;go_wp2_with fail;refine dP (XE rfl rfl (DB (u:=.slice none 0 0) (v:=.slice none 0 0) aa.o)) rfl ?_;exact⟨none,0,0,none,0,0,F,rfl,aIU bi.o _ _ (tC _),OD ((CM (by have :=ai.o;omega)).trans ak.o), .inl ⟨HE.o, .inl af.o⟩⟩
 subst he;obtain⟨dk,dm,e0,_⟩:=id a4.o.1;injection e0 with _ e0 _;subst e0;obtain⟨dl,dn,e1,_⟩:=id a4.o.2.1;injection e1 with _ e1 _;subst e1;(have aq:O (rP (gY (bV g++bV q) x.u) (bV s) (bV C)):=by rw[<-bW.o];exact cL.o rfl);have bf:O (dN (bV s) (bV C)=0):=LA ao.o.cd af.o.symm aq.o;(have d0:y2.cell? ⟨d,0,none⟩=some (.slice Q s.length M):=cH ak.o);by_cases bz:s.length=g.length
 ·have HQ:O (bV s=bV g):=aKV (lK.mp ao.o.cd) aq.o (by rw[eH,eH,bz]);(have cy:((s.length:Int)==(g.length:Int))=true:=by rw[bz];exact beq_self_eq_true _);go_wp2_with fail;refine dP (XE rfl rfl (DB (u:=.slice none 0 0) (v:=.slice none 0 0) aa.o)) rfl ?_;have al:O ((SR y2 (w.heap.size+1) (.slice none 0 0) (.slice none 0 0)).heap[d]?=some (JJ (.slice Q s.length M) (.slice g1 C.length Y) (.slice G p.x.length I) (.slice H p.r.length J) (.slice D p.y.length E) (.slice K R.length L) (.slice U S.length X))):=(CM (by have :=ai.o;omega)).trans ak.o;have a6:O (Cl (w.heap.size+1) y2 (SR y2 (w.heap.size+1) (.slice none 0 0) (.slice none 0 0))):=aIR aa.o;(have bo:O (dY p (bV s) (bV C)=R):=by show _=_;rw[HR.o,HQ.o];exact aHE (HQ.o▸bf.o) ao.o.cd);(have cf:eM S S=[]:=List.eq_nil_iff_forall_not_mem.mpr fun f hf=>by have :=qM.mp hf;exact this.2 this.1);refine⟨none,0,0,none,0,0,0,rfl,aIU bi.o _ _ (tC _),OD al.o, .inr ⟨rfl,_,_,_,_,s,C,S,⟨al.o,?_⟩,⟨af.o.symm,aq.o,?_⟩,?_,?_,?_⟩⟩
  ·rw[bo.o];have l:=bk.o.cl a6.o;exact⟨a4.o.1.kn a6.o.kn,a4.o.2.1.kn a6.o.kn,fun x hx=>(a4.o.2.2 x hx).kn a6.o.kn,l.P,l.cap,l.FR,l.FS⟩
  ·rw[bo.o,HR.o];exact ao.o.m
  ·rw[cf];exact⟨none,0,rfl,⟨aH _,fun _=>rfl⟩, .inl rfl⟩
  ·rw[cf];exact⟨none,0,rfl,⟨aH _,fun _=>rfl⟩, .inl rfl⟩
  rw[bo.o,HR.o];exact cg.o
 (have cy:((s.length:Int)==(g.length:Int))=false:=by rw[gT];omega);have ce:O _:=aMJ d p s C _ _ _ _ _ _ _ y2 ak.o (OD ak.o) a4.o.1 a4.o.2.1 (by
  have :=(lK.mp bf.o).few;rw[eH,eH]at this
  exact⟨oM,oM⟩) a4.o.2.2 bk.o.P hF
 clear bz;go_upto_region 9 with(refine Calls.mono ce.o ?_;rintro e Z ⟨vN,rfl,cs,bc,cu,cx,bd⟩;rw[bf.o]);obtain⟨i,bu⟩:∃i,i=dY p (bV s) (bV C):=⟨_,rfl⟩;have av:O (i=dY p (bV s) (bV C)):=bu;rw[<-bu]at bc;obtain⟨aN,cN,rfl,_⟩:=id bc;have b7:O (Cl d y2 Z):=bd.cl (OD ak.o);have bj:O (Vk d w Z):=bi.o.trans bd;have ax:O (Z.heap[d]?=some (JJ (.slice Q s.length M) (.slice g1 C.length Y) (.slice G p.x.length I) (.slice H p.r.length J) (.slice D p.y.length E) (.slice aN i.length cN) (.slice U S.length X))):=cs;have bh:O (bS Z (.slice aN i.length cN) i):=bc;have cb:O ((∀f,f∈dY p (bV s) (bV C)->gD f)/\(dY p (bV s) (bV C)).length<=2097152):=⟨cu,cx⟩;have br:O (Z.heap[w.heap.size+1]?=some (.cells #[.slice none 0 0, .slice none 0 0] 47)):=(bd.block _ (cV aa.o) (by have :=ai.o;omega)).trans aa.o;clear cs bc cu cx bd bu ce d0 q0 q1 f0 cy;(have bl:O (VPt p s C R S (.slice Q s.length M) (.slice g1 C.length Y) (.slice G p.x.length I) (.slice H p.r.length J) (.slice D p.y.length E) (.slice K R.length L) (.slice U S.length X) Z):=by have l:=bk.o.cl b7.o;exact⟨a4.o.1.kn b7.o.kn,a4.o.2.1.kn b7.o.kn,fun x hx=>(a4.o.2.2 x hx).kn b7.o.kn,l.P,l.cap,l.FR,l.FS⟩);have b8:O ((Z.alloc (.cells #[.slice none 0 0, .slice none 0 0] 47)).heap[Z.heap.size]?=some (.cells #[.slice none 0 0, .slice none 0 0] 47)):=bA Z _;have a8:O (Below Z.heap.size Z (Z.alloc (.cells #[.slice none 0 0, .slice none 0 0] 47))):=eB Z _;go_upto_region 12 with fail;generalize Z.alloc (.cells #[.slice none 0 0, .slice none 0 0] 47)=y4 at *;obtain⟨CB,bt⟩:∃CB,CB=Z.heap.size:=⟨_,rfl⟩;have an:O (CB=Z.heap.size):=bt;rw[<-bt]at b8 ⊢;clear bt;have a9:O (y4.heap[d]?=some (JJ (.slice Q s.length M) (.slice g1 C.length Y) (.slice G p.x.length I) (.slice H p.r.length J) (.slice D p.y.length E) (.slice aN i.length cN) (.slice U S.length X))):=(a8.o.block _ (cV ax.o)).trans ax.o
 have HY:O (∀z,Below y4.heap.size y4 z->z.cell? ⟨d,2,none⟩=some (.slice G p.x.length I)/\z.cell? ⟨d,3,none⟩=some (.slice H p.r.length J)/\z.cell? ⟨d,4,none⟩=some (.slice D p.y.length E)/\z.cell? ⟨d,5,none⟩=some (.slice aN i.length cN)/\z.cell? ⟨d,6,none⟩=some (.slice U S.length X)):=fun z hz=>
  ⟨aB hz (cH a9.o),aB hz (cH a9.o),aB hz (cH a9.o),aB hz (cH a9.o),aB hz (cH a9.o)⟩
 (have c3:O (∀z,Below y4.heap.size y4 z->Calls Tryz.prog 44 #[gU (.slice G p.x.length I) (.slice H p.r.length J) (.slice D p.y.length E), .slice K R.length L, .slice U S.length X, .slice aN i.length cN, .slice K R.length L] z fun e w'=>∃r,e=.returned r/\ApT p i S w' r/\Below z.heap.size z w'):=fun z hz=>by have hb:=a8.o.trans (hz.mono a8.o.size);have hp:=bl.o.z hb;have cv:=bQ bh.o hb;(have l:bS z (.slice K R.length L) (dY p (bV g) (bV q)):=by have :=hp.FR;rw[HR.o]at this ⊢;exact this);(have h2:bS z (.slice aN i.length cN) (dY p (bV s) (bV C)):=by rw[av.o]at cv ⊢;exact cv);have h3:=aVW (h:=bV g) (w0:=bV q) (h1:=bV s) (w1:=bV C) ao.o cg.o cb.o _ _ _ _ _ _ z hp.P hF hp.cap l hp.FS h2;rw[<-av.o]at h3;exact h3);(have bg:O (CB≠d):=by have l:=cV ax.o;have h2:=an.o;show _≠_;omega);refine DP (Kv d CB) (fun _ _ _ h k=>h.trans k) (fun _ _ h=>Kv.of_below h) (dmT d (gU (.slice G p.x.length I) (.slice H p.r.length J) (.slice D p.y.length E)) (.slice K R.length L) (.slice U S.length X) (.slice aN i.length cN) p i S) (DmE d CB (.slice Q s.length M) (.slice g1 C.length Y) (.slice G p.x.length I) (.slice H p.r.length J) (.slice D p.y.length E) (.slice aN i.length cN) p i S) 25 dmW (fun _ _=>true) dE kR kR kR (bAM _ _ _ _ _ _ _ _) (fun _ _ _ hb h=>DmE.z hb h) (fun _ t v w w' _ _ hk h=>bHK _ _ _ _ _ _ _ _ t v w w' hk.kn h) ?hop2 ?hend2
 case hop2=>
  refine AM.cons (fun a y h hO=>by rw[if_neg dE];have e0:a.eval (.tmp 0)=(.pointer (some ⟨d,0,none⟩):Value):=h.old 0;exact iQ (.pointer (some ⟨d,0,none⟩))) ?_;refine AM.cons (fun a y h hO=>by rw[if_neg dE];have e0:a.eval (.tmp 0)=(.pointer (some ⟨d,0,none⟩):Value):=h.old 0;exact iQ (.pointer (some ⟨d,0,none⟩))) ?_;refine AM.cons (fun a y h hO=>by rw[if_neg dE];have dz:a.eval (.tmp 53)=(.pointer (some ⟨d,0,none⟩):Value):=h.of 53;exact iQ (.pointer (some ⟨d,0,none⟩))) ?_;refine AM.cons (fun a y h hO=>by rw[if_neg dE];have e4:a.eval (.tmp 54)=(.pointer (some ⟨d,0,none⟩):Value):=h.of 54;exact iQ (.pointer (some ⟨d,2,none⟩))) ?_;refine AM.cons (fun a y h hO=>by rw[if_neg dE];have e5:a.eval (.tmp 55)=(.pointer (some ⟨d,2,none⟩):Value):=h.of 55;obtain⟨r2,r3,r4,r5,r6⟩:=HY.o y (h.pre kR);exact iQ (gU (.slice G p.x.length I) (.slice H p.r.length J) (.slice D p.y.length E))) ?_;refine AM.cons (fun a y h hO=>by rw[if_neg dE];have e7:a.eval (.tmp 7)=(.slice K R.length L:Value):=h.old 7;exact iQ (.slice K R.length L)) ?_;refine AM.cons (fun a y h hO=>by rw[if_neg dE];have e0:a.eval (.tmp 0)=(.pointer (some ⟨d,0,none⟩):Value):=h.old 0;exact iQ (.pointer (some ⟨d,0,none⟩))) ?_;refine AM.cons (fun a y h hO=>by rw[if_neg dE];have ea:a.eval (.tmp 58)=(.pointer (some ⟨d,0,none⟩):Value):=h.of 58;exact iQ (.pointer (some ⟨d,0,none⟩))) ?_;refine AM.cons (fun a y h hO=>by rw[if_neg dE];have eb:a.eval (.tmp 59)=(.pointer (some ⟨d,0,none⟩):Value):=h.of 59;exact iQ (.pointer (some ⟨d,6,none⟩))) ?_;refine AM.cons (fun a y h hO=>by rw[if_neg dE];have ed:a.eval (.tmp 60)=(.pointer (some ⟨d,6,none⟩):Value):=h.of 60;obtain⟨r2,r3,r4,r5,r6⟩:=HY.o y (h.pre kR);exact iQ (.slice U S.length X)) ?_;refine AM.cons (fun a y h hO=>by rw[if_neg dE];have e0:a.eval (.tmp 0)=(.pointer (some ⟨d,0,none⟩):Value):=h.old 0;exact iQ (.pointer (some ⟨d,0,none⟩))) ?_;refine AM.cons (fun a y h hO=>by rw[if_neg dE];have eg:a.eval (.tmp 62)=(.pointer (some ⟨d,0,none⟩):Value):=h.of 62;exact iQ (.pointer (some ⟨d,0,none⟩))) ?_;refine AM.cons (fun a y h hO=>by rw[if_neg dE];have eh:a.eval (.tmp 63)=(.pointer (some ⟨d,0,none⟩):Value):=h.of 63;exact iQ (.pointer (some ⟨d,5,none⟩))) ?_;refine AM.cons (fun a y h hO=>by rw[if_neg dE];have ei:a.eval (.tmp 64)=(.pointer (some ⟨d,5,none⟩):Value):=h.of 64;obtain⟨r2,r3,r4,r5,r6⟩:=HY.o y (h.pre kR);exact iQ (.slice aN i.length cN)) ?_;refine AM.cons (fun a y h hO=>by rw[if_neg dE];have e7:a.eval (.tmp 7)=(.slice K R.length L:Value):=h.old 7;exact iQ (.slice K R.length L)) ?_;refine AM.cons (fun a y h hO=>?_) ?_
  ·rw[if_neg dE];have e6:a.eval (.tmp 56)=((gU (.slice G p.x.length I) (.slice H p.r.length J) (.slice D p.y.length E)):Value):=h.of 56;have e8:a.eval (.tmp 57)=((.slice K R.length L):Value):=h.of 57;have ee:a.eval (.tmp 61)=((.slice U S.length X):Value):=h.of 61;have ej:a.eval (.tmp 65)=((.slice aN i.length cN):Value):=h.of 65;have ek:a.eval (.tmp 66)=((.slice K R.length L):Value):=h.of 66;refine fI (f:=44) (args:=#[gU (.slice G p.x.length I) (.slice H p.r.length J) (.slice D p.y.length E), .slice K R.length L, .slice U S.length X, .slice aN i.length cN, .slice K R.length L]) (bI rfl) ?_ ?_
   ·have ec:=kZ a;have ef:=AO a;generalize a.eval=ev at *;clear h hO;go_simp
   refine Calls.mono (c3.o y (h.pre kR)) ?_;rintro _ y2 ⟨r,rfl,l,bv⟩;exact⟨_,rfl,fun t ht=>by cases ht;exact l,bv⟩
  refine AM.cons (fun a y h hO=>by rw[if_neg dE];have dd:ApT p i S y (a.eval (.tmp 67)):=h.of 67;obtain⟨vg,vn,vc,ve,e9,h9⟩:=dd;refine dG (v:=.tuple #[vg,vn,vc,ve]) (w':=y) (bI rfl) ?_ (fun t ht=>by cases ht;exact⟨_,_,_,_,rfl,h9⟩) (aG _ _);have ec:=kZ a;generalize a.eval=ev at *;clear h hO;go_simp) ?_;refine AM.cons (fun a y h hO=>by rw[if_neg dE];have ad:ApT p i S y (a.eval (.tmp 51)):=h.of 51;obtain⟨vg,vn,vc,ve,e9,h9⟩:=ad;refine dG (v:=vg) (w':=y) (bI rfl) ?_ (fun t ht=>by cases ht;exact trivial) (aG _ _);have ec:=kZ a;generalize a.eval=ev at *;clear h hO;go_simp) ?_;refine AM.cons (fun a y h hO=>by rw[if_neg dE];have ad:ApT p i S y (a.eval (.tmp 51)):=h.of 51;obtain⟨vg,vn,vc,ve,e9,h9⟩:=ad;refine dG (v:=vn) (w':=y) (bI rfl) ?_ (fun t ht=>by cases ht;exact h9.1) (aG _ _);have ec:=kZ a;generalize a.eval=ev at *;clear h hO;go_simp) ?_;refine AM.cons (fun a y h hO=>by rw[if_neg dE];have ad:ApT p i S y (a.eval (.tmp 51)):=h.of 51;obtain⟨vg,vn,vc,ve,e9,h9⟩:=ad;refine dG (v:=vc) (w':=y) (bI rfl) ?_ (fun t ht=>by cases ht;exact h9.2.1) (aG _ _);have ec:=kZ a;generalize a.eval=ev at *;clear h hO;go_simp) ?_;refine AM.cons (fun a y h hO=>by rw[if_neg dE];have ad:ApT p i S y (a.eval (.tmp 51)):=h.of 51;obtain⟨vg,vn,vc,ve,e9,h9⟩:=ad;refine dG (v:=ve) (w':=y) (bI rfl) ?_ (fun t ht=>by cases ht;exact h9.2.2) (aG _ _);have ec:=kZ a;generalize a.eval=ev at *;clear h hO;go_simp) ?_;refine AM.cons (fun a y h hO=>by rw[if_neg dE];have dy:a.eval (.tmp 52)=(.pointer (some ⟨d,0,none⟩):Value):=h.of 52;exact iQ (.pointer (some ⟨d,0,none⟩))) ?_;refine AM.cons (fun a y h hO=>by rw[if_neg dE];have en:a.eval (.tmp 72)=(.pointer (some ⟨d,0,none⟩):Value):=h.of 72;exact iQ (.pointer (some ⟨d,6,none⟩))) ?_;refine AM.cons (fun a y h hO=>by rw[if_pos dE];have eo:a.eval (.tmp 73)=(.pointer (some ⟨d,6,none⟩):Value):=h.of 73;have de:ApN p i y (a.eval (.tmp 69)):=h.of 69;obtain⟨aO,nO,kO,el,ba⟩:=de;have ba:ApN p i y (.slice aO nO kO):=⟨aO,nO,kO,rfl,ba⟩;have hp:=h.pre kR;have a3:y.heap[d]?=some (JJ (.slice Q s.length M) (.slice g1 C.length Y) (.slice G p.x.length I) (.slice H p.r.length J) (.slice D p.y.length E) (.slice aN i.length cN) (.slice U S.length X)):=(hp.block _ (cV a9.o)).trans a9.o;have a5:y.heap[CB]?=some (.cells #[.slice none 0 0, .slice none 0 0] 47):=(hp.block _ (cV b8.o)).trans b8.o;(have z6:y.cell? ⟨d,6,none⟩=some (.slice U S.length X):=cH a3);have y6:=bM a3 6;(have cq:(y.setCell ⟨d,6,none⟩ (.slice aO nO kO)).heap[d]?=some (JJ (.slice Q s.length M) (.slice g1 C.length Y) (.slice G p.x.length I) (.slice H p.r.length J) (.slice D p.y.length E) (.slice aN i.length cN) (.slice aO nO kO)):=by rw[bD a3];rfl);have be:=Vk.set d 6 y (.slice aO nO kO);have hk:Kv d CB y (y.setCell ⟨d,6,none⟩ (.slice aO nO kO)):=Kv.of_vk be (OD a3);have ck:=(be.block CB (cV a5) bg.o).trans a5;have hE:∀j,DmE d CB (.slice Q s.length M) (.slice g1 C.length Y) (.slice G p.x.length I) (.slice H p.r.length J) (.slice D p.y.length E) (.slice aN i.length cN) p i S j y\/j=23->DmE d CB (.slice Q s.length M) (.slice g1 C.length Y) (.slice G p.x.length I) (.slice H p.r.length J) (.slice D p.y.length E) (.slice aN i.length cN) p i S j (y.setCell ⟨d,6,none⟩ (.slice aO nO kO)):=DmE.w23 hk cq (ba.kn hk.kn) ck (fun _ hc=>(be.block CB (cV hc) bg.o).trans hc);refine⟨bI rfl,XD (w':=y.setCell ⟨d,6,none⟩ (.slice aO nO kO)) ?_ ⟨undef,rfl,fun t ht=>(by cases ht),hk,fun j hj=>hE j (.inl hj),hE _ (.inr rfl)⟩⟩;have ec:=kZ a;generalize a.eval=ev at *;clear h hO hE hk ba hp a3 a5 cq be ck;go_simp) ?_;refine AM.cons (fun a y h hO=>by rw[if_pos dE];have e9:a.eval (.tmp 9)=(.pointer (some ⟨CB,0,none⟩):Value):=h.old 9;have dg:ApC p i S y (a.eval (.tmp 70)):=h.of 70;obtain⟨aC,nC,kC,aD,nD,kD,em,b9⟩:=dg;have b9:ApC p i S y (.agg #[.slice aC nC kC, .slice aD nD kD]):=⟨aC,nC,kC,aD,nD,kD,rfl,b9⟩;have bs:=h.wro 23 kR;obtain⟨x1,x2,x3,y1,y2,Z,a5⟩:=bs.box;(have z0:y.cell? ⟨CB,0,none⟩=some (.slice x1 x2 x3):=cH a5);(have z1:(y.setCell ⟨CB,0,none⟩ (.slice aC nC kC)).cell? ⟨CB,1,none⟩=some (.slice y1 y2 Z):=by(have l:(y.setCell ⟨CB,0,none⟩ (.slice aC nC kC)).heap[CB]?=some (.cells #[.slice aC nC kC, .slice y1 y2 Z] 47):=by rw[bD a5];rfl);rw[cM l];rfl);have y0:=bM a5 0;(have y1:(y.setCell ⟨CB,0,none⟩ (.slice aC nC kC)).frozen? ⟨CB,1,none⟩=false:=by rw[fW];exact bM a5 1);have hk:Kv d CB y (SR y CB (.slice aC nC kC) (.slice aD nD kD)):=Kv.of_two a5;have hE:∀j,DmE d CB (.slice Q s.length M) (.slice g1 C.length Y) (.slice G p.x.length I) (.slice H p.r.length J) (.slice D p.y.length E) (.slice aN i.length cN) p i S j (SR y CB (.slice aC nC kC) (.slice aD nD kD)):=DmE.w24 bg.o hk bs (DB a5) (b9.kn hk.kn);refine⟨bI rfl,XD (w':=SR y CB (.slice aC nC kC) (.slice aD nD kD)) ?_ ⟨undef,rfl,fun t ht=>(by cases ht),hk,fun j _=>hE j,hE _⟩⟩;unfold SR;have ec:=kZ a;generalize a.eval=ev at *;clear h hO hE hk b9 bs a5;go_simp) ?_;exact AM.nil
 rintro⟨N,df⟩ y hI _;obtain⟨c,T,d7,hm⟩:ApE p i (Act.eval ⟨N,df⟩ (.tmp 71)):=hI.of 20 _ 71 dE rfl rfl kR;obtain⟨aO,nO,kO,cr,co⟩:=(hI.wrote 23 dE rfl).vw;obtain⟨aC,nC,kC,aD,nD,kD,cm,cn⟩:=(hI.wrote 24 dE rfl).ch;have aJ:Kv d CB y4 y:=hI.z;have b4:N.size=76:=hI.size;show wpOps Tryz.prog _ _ [25] _ _;rw[lH];refine xF (v:=.int .i64 c) (w':=y) rfl (bI rfl) ?_ ?_
 ·show Sem.run Tryz.prog (execOp (Act.eval ⟨N,df⟩) _) _=_;generalize Act.eval ⟨N,df⟩=ev at *;clear hI;go_simp
 (have ab:∀t,t∉[52,53,54,55,56,57,58,59,60,61,62,63,64,65,66,67,51,68,69,70,71,72,73,8]->(N.setIfInBounds 8 (.int .i64 c)).getD t undef=_:=fun t ht=>by have hA:t≠8:=fun e=>ht (by rw[e];decide);exact(jM (a:=⟨N,df⟩) hA).trans (hI.still t (fun h=>ht (by revert h;simp))));(have h8:(N.setIfInBounds 8 (.int .i64 c)).getD 8 undef=.int .i64 c:=jV (a:=⟨N,df⟩) (by show 8<N.size;omega);obtain rfl:df=[]:=hI.defers;(have b0:(N.setIfInBounds 8 (.int .i64 c)).size=76:=by simp[b4]);have HM:O (lE p i [] c T):=hm;have d4:O _:=cr;have d1:O _:=co;have c7:O _:=cm;have cO:O _:=cn;have a7:O (Kv d CB y4 y):=aJ;clear hI hm cr co cm cn aJ d7 b4;show Exit.then _ _ Exit.normal ⟨N.setIfInBounds 8 (.int .i64 c),[]⟩ _;generalize N.setIfInBounds 8 (.int .i64 c)=bT at *;obtain⟨fQ,hQ,ac⟩:=oR [52,53,54,55,56,57,58,59,60,61,62,63,64,65,66,67,51,68,69,70,71,72,73,8] bT _ (b0.trans rF) ab;clear b0 ab;simp only[List.foldl_cons,List.foldl_nil,(hQ 8).trans h8]at ac;clear h8 hQ;simp only[List.setIfInBounds_toArray,List.set_cons_zero,List.set_cons_succ]at ac;subst ac;have d3:O (Vk d w y):=Kv.vkN (bj.o.trans (Vk.of_below a8.o)) a7.o (by have l:=bj.o.size;have h2:=an.o;omega);have c8:O (Cl d Z y):=(Kv.vkN (Vk.of_below a8.o) a7.o (by have h2:=an.o;omega)).cl (OD ax.o);have ay:O (y.heap[w.heap.size+1]?=some (.cells #[.slice none 0 0, .slice none 0 0] 47)):=by have l:=cV br.o;have h2:=an.o;have h3:=ai.o;have h4:=a8.o.size;exact(a7.o.block _ oM oM oM).trans ((a8.o.block _ l).trans br.o));(have d2:O (VPt p s C i S (.slice Q s.length M) (.slice g1 C.length Y) (.slice G p.x.length I) (.slice H p.r.length J) (.slice D p.y.length E) (.slice aN i.length cN) (.slice U S.length X) y):=by have l:=bl.o.cl c8.o;exact⟨l.V,l.W,l.ok,l.P,l.cap,c8.o.factsV bh.o,l.FS⟩);clear HY c3 a9 b8 a7 ax br bh a8 an bl bj;generalize y=y5 at *;(have q0:y5.cell? ⟨CB,0,none⟩=some (.slice aC nC kC):=cH c7.o);(have q1:y5.cell? ⟨CB,1,none⟩=some (.slice aD nD kD):=cH c7.o);(have r0:y5.cell? ⟨w.heap.size+1,0,none⟩=some (.slice none 0 0):=cH ay.o);(have r1:y5.cell? ⟨w.heap.size+1,1,none⟩=some (.slice none 0 0):=cH ay.o);have f0:∀k,y5.frozen? ⟨w.heap.size+1,k,none⟩=false:=fun k=>bM ay.o k;go_wp2_with fail;refine dP (XE rfl rfl (DB (u:=.slice aC nC kC) (v:=.slice aD nD kD) ay.o)) rfl ?_;have al:O ((SR y5 (w.heap.size+1) (.slice aC nC kC) (.slice aD nD kD)).heap[d]?=some (JJ (.slice Q s.length M) (.slice g1 C.length Y) (.slice G p.x.length I) (.slice H p.r.length J) (.slice D p.y.length E) (.slice aN i.length cN) (.slice aO nO kO))):=(CM (by have :=ai.o;omega)).trans d4.o;have a6:O (Cl (w.heap.size+1) y5 (SR y5 (w.heap.size+1) (.slice aC nC kC) (.slice aD nD kD))):=aIR ay.o;refine⟨aC,nC,kC,aD,nD,kD,c,rfl,aIU d3.o _ _ (tC _),OD al.o,?_⟩;by_cases hc:c=0
 ·subst hc;obtain⟨_,_,_,e1,c1,T1,d8,bb⟩:=d1.o;injection e1 with i1 i2 i3;subst i1 i2 i3;obtain⟨_,_,_,_,_,_,e2,c2,T2,d9,aL⟩:=cO.o;injection e2 with e2;simp only[Array.mk.injEq,List.cons.injEq,Value.slice.injEq,and_true]at e2;obtain⟨⟨i1,i2,i3⟩,i4,i5,i6⟩:=e2;subst i1 i2 i3 i4 i5 i6;have cz:=wC d8 HM.o;have cD:=wC d9 HM.o;replace bb:=bb cz.1;rw[cz.2]at bb;replace aL:=aL cD.1;rw[cD.2]at aL;refine .inr ⟨rfl,_,_,_,_,s,C,T,⟨al.o,?_⟩,⟨af.o.symm,aq.o,?_⟩,?_,?_,cb.o⟩
  ·rw[<-av.o];have l:=d2.o.cl a6.o;exact⟨l.V,l.W,l.ok,l.P,l.cap,l.FR,a6.o.factsV bb⟩
  ·rw[<-av.o];exact HM.o
  ·exact a6.o.factsV aL.1
  exact a6.o.factsV aL.2
 exact .inl ⟨hc, .inr ⟨af.o.symm,bV s,bV C,T,aq.o,by rw[<-av.o];exact HM.o⟩⟩
end Go.Proofs.YtfljoehbbncooaaGreat
namespace Go.Proofs.YtfljoehbbncooaaGreat
open Go.RowKit
def NQ(p:bK)(h w l:List aX)(c:Int):Prop:=
 ¬c=0/\((∃R S,sG p h w c R S)\/∃S,sG p h w 0 (dY p h w) S/\((200<l.length/\c=2)\/(l.length<=200/\∃e f b d,xG p h w S l c e f b d)))
def DK(p:bK)(h w l:List aX)(c:Int)(h1 w1:List aX)(b:pX):Prop:=
 (NQ p h w l c/\h1=[]/\w1=[]/\b=[])\/(c=0/\∃S d,sG p h w 0 (dY p h w) S/\l.length<=200/\xG p h w S l 0 h1 w1 d b)
theorem CG{p:bK}{h w:List aX}{R S:List aQ}(a:sG p h w 0 R S):dB p=0/\dN h w=0/\R=dY p h w/\lE p (dY p h w) [] 0 S:=by
 rcases a with⟨b,c,_⟩|⟨_,b,c,_⟩|⟨b,c,T,d,e⟩
 ·exact absurd c.symm b
 ·exact absurd c.symm b
 rcases e with⟨x,_⟩|⟨_,f,g⟩
 ·exact absurd rfl x
 subst g;exact⟨b,c,f,d⟩
theorem aKW{p:bK}{h w:List aX}{S:List aQ}(a:JC p h w (dY p h w) S):sG p h w 0 (dY p h w) S:=.inr (.inr ⟨a.cp,a.cd,S,a.m, .inr ⟨rfl,rfl,rfl⟩⟩)
theorem aKX{p:bK}{h w:List aX}{R S:List aQ}(a:sG p h w 0 R S):JC p h w R S:=by obtain⟨c,d,b,e⟩:=CG a;exact⟨c,d,b,by rw[b];exact e⟩
theorem Xq{p:bK}{h w l:List aX}{c:Int}{S g:List aQ}{h1 w1:List aX}{j:pX}(a:NQ p h w l c)(b:sG p h w 0 (dY p h w) S)(m:l.length<=200)(i:xG p h w S l 0 h1 w1 g j):False:=by
 obtain⟨e,⟨R,T,d⟩|⟨T,d,⟨f,_⟩|⟨_,q,r,k,n,f⟩⟩⟩:=a
 ·exact e (tJ d b).1
 ·omega
 obtain⟨_,_,rfl⟩:=tJ d b;exact e (NR f i).1
theorem aK0{p:bK}{h w l:List aX}{c k:Int}(a:NQ p h w l c)(b:NQ p h w l k):c=k:=by
 obtain⟨n,⟨R,T,e⟩|⟨T,e,u⟩⟩:=a
 ·obtain⟨i,⟨m,f,d⟩|⟨f,d,g⟩⟩:=b
  ·exact(tJ e d).1
  exact absurd (tJ e d).1 n
 obtain⟨i,⟨m,f,d⟩|⟨f,d,g⟩⟩:=b
 ·exact absurd (tJ d e).1 i
 obtain⟨_,_,rfl⟩:=tJ e d;rcases u with⟨q,rfl⟩|⟨q,F,H,x,D,r⟩
 ·rcases g with⟨_,rfl⟩|⟨j,_⟩
  ·rfl
  omega
 rcases g with⟨j,_⟩|⟨j,G,I,C,E,s⟩
 ·omega
 exact(NR r s).1
theorem aK2{p:bK}{h w l:List aX}{c j:Int}{h1 w1 n q:List aX}{k m:pX}(a:DK p h w l c h1 w1 k)(b:DK p h w l j n q m):c=j/\h1=n/\w1=q/\k=m:=by
 rcases a with⟨e,rfl,rfl,rfl⟩|⟨rfl,S,D,e,s,g⟩
 ·rcases b with⟨d,rfl,rfl,rfl⟩|⟨rfl,T,r,d,i,f⟩
  ·exact⟨aK0 e d,rfl,rfl,rfl⟩
  exact(Xq e d i f).elim
 rcases b with⟨d,rfl,rfl,rfl⟩|⟨rfl,T,r,d,i,f⟩
 ·exact(Xq d e s g).elim
 obtain⟨_,_,rfl⟩:=tJ e d;obtain⟨u,x,_,C⟩:=(NR g f).2 rfl;exact⟨rfl,u,x,C⟩
def aNI(b f n c e i j g k o l:Nat)(X Y:Value)(m:Nat)(d:Value)(_:World):Prop:=
 match m with
 |17=>d=.slice (some ⟨b,f,none⟩) n c
 |18=>d=.int .i64 k
 |19=>d=.pointer (some ⟨b,o,none⟩)
 |20=>d=X
 |21=>d=.slice (some ⟨e,i,none⟩) j g
 |22=>d=.int .i64 k
 |23=>d=.pointer (some ⟨e,l,none⟩)
 |24=>d=Y
 |25=>d=.bool true
 |26=>d=.bool false
 |_=>True
theorem aR7(b f n c e i j g k o l:Nat)(X Y:Value)(m:Nat)(p:Value)(W d:World)(_:Below W.heap.size W d)(h:aNI b f n c e i j g k o l X Y m p W):aNI b f n c e i j g k o l X Y m p d:=by revert h;unfold aNI;split<;>(intro h;first|exact h)
theorem GM(q r:List Uv)(vq vr:Value)(w:World)(hV:iI w vq q)(hR:iI w vr r)(he:bV q=bV r)(hq:q.length<=1000)(a9:∀x,x∈q->gM w x)(aa:∀x,x∈r->gM w x):
 Calls Tryz.prog 42 #[vq,vr] w fun e w'=>e=.returned (.bool true)/\Below w.heap.size w w':=by
 have HO:O (∀x,x∈q->gM w x):=a9;have ah:O (∀x,x∈r->gM w x):=aa;(have HE:O (∀k,k<q.length->(jL q k).u=(jL r k).u):=fun k hk=>by have m:=congrArg (fun l=>l[k]?) he;(have ak:k<r.length:=by have :=congrArg List.length he;rw[eH,eH]at this;omega);simpa[bV,jL,hk,ak]using m);(have hl:q.length=r.length:=by have :=congrArg List.length he;rwa[eH,eH]at this);obtain⟨ao,cap,rfl,_,hA⟩:=hV;obtain⟨ai,I,rfl,_,a5⟩:=hR;have HA:O (xU w ao q):=hA;have af:O (xU w ai r):=a5;clear a9 aa hA a5 he;(have g0:((q.length:Int)==(r.length:Int))=true:=by rw[hl];simp);(have g1:(q.length==r.length)=true:=by rw[hl];simp);have g3:(q.length:Int)=(r.length:Int):=by rw[hl]
 go_enter Tryz.func42,Tryz.ntmps42
 go_wp2_with fail;go_loopw [5] (fun iv wr=>∃k:Nat,k<=q.length/\iv=.int .i64 k/\O (Below w.heap.size w wr)) (fun iv _=>q.length-(intOf iv).toNat);case atStart=>exact⟨0,bL _,rfl,aG _ _⟩
 case round=>
  obtain⟨k,hk,rfl,i⟩:=hrel;by_cases n:k<q.length
  ·have g2:decide (k<q.length)=true:=aP n;have a8:k<r.length:=oM;obtain⟨b,d,rfl,p0,p1,p2,p3,p4⟩:=tS (HA.o.kc (Kc.z i.o)) k n;obtain⟨j,g,rfl,s0,s1,s2,s3,s4⟩:=tS (af.o.kc (Kc.z i.o)) k a8;have hx:=(HO.o _ (mG q k n)).z i.o;have hy:=(ah.o _ (mG r k a8)).z i.o;have ad:=HE.o k n;(have a4:O (∀z,Below wr.heap.size wr z->Calls Tryz.prog 62 #[mA (jL q k),mA (jL r k)] z fun e w'=>e=.returned (.bool true)/\Below z.heap.size z w'):=fun z c=>by have m:=hx.z c;have h2:=hy.z c;refine(Wx (jL q k).u (jL r k).u _ _ _ _ _ _ z m.p m.s m.t h2.p h2.s h2.t m.f h2.f m.l).mono ?_;rintro e w' ⟨t,rfl,ht,hb⟩;exact⟨by rw[ht.mpr ad],hb⟩);have HU:O (∀z,Below wr.heap.size wr z->TI z b (d+k*5) (jL q k)/\TI z j (g+k*5) (jL r k)):=fun z c=>⟨⟨aB c p0,aB c p1,aB c p2,aB c p3,aB c p4⟩,⟨aB c s0,aB c s1,aB c s2,aB c s3,aB c s4⟩⟩;obtain⟨C,U,J,D,V,K,E,W,L,e1,e2,e3⟩:=hx.forms;obtain⟨F,Q,M,G,R,N,H,S,P,e4,e5,e6⟩:=hy.forms;clear p0 p1 p2 p3 p4 s0 s1 s2 s3 s4 hx hy ad;generalize jL q k=x at *;generalize jL r k=y at *;obtain⟨⟨⟨X,Y⟩,ps,az,ts⟩,vp,vs,vt⟩:=x;obtain⟨⟨⟨Z,vn⟩,ay,aC,aD⟩,aJ,aL,aN⟩:=y;dsimp only at *;subst e1 e2 e3 e4 e5 e6;go_upto_region 6 with fail;refine kB (aNI b d q.length cap j g r.length I k (d+k*5) (g+k*5) (.agg #[.int .i64 X, .int .i64 Y, .slice C U J, .slice D V K, .slice E W L]) (.agg #[.int .i64 Z, .int .i64 vn, .slice F Q M, .slice G R N, .slice H S P])) kR kR (aR7 _ _ _ _ _ _ _ _ _ _ _ _ _) ?hop6 ?hend6
   case hop6=>
    refine oC (fun a y h=>by have e0:a.eval (.tmp 0)=(.slice (some ⟨b,d,none⟩) q.length cap:Value):=h.old 0;exact iQ (.slice (some ⟨b,d,none⟩) q.length cap)) ?_;refine oC (fun a y h=>by have e5:a.eval (.tmp 5)=(.int .i64 k:Value):=h.old 5;exact iQ (.int .i64 k)) ?_;refine oC (fun a y h=>by have al:a.eval (.tmp 17)=(.slice (some ⟨b,d,none⟩) q.length cap:Value):=h.of 17;have am:a.eval (.tmp 18)=(.int .i64 k:Value):=h.of 18;exact iQ (.pointer (some ⟨b,d+k*5,none⟩))) ?_;refine oC (fun a y h=>by have an:a.eval (.tmp 19)=(.pointer (some ⟨b,d+k*5,none⟩):Value):=h.of 19;obtain⟨⟨u0,u1,u2,u3,u4⟩,_⟩:=HU.o y h.z;exact iQ (.agg #[.int .i64 X, .int .i64 Y, .slice C U J, .slice D V K, .slice E W L])) ?_;refine oC (fun a y h=>by have e1:a.eval (.tmp 1)=(.slice (some ⟨j,g,none⟩) r.length I:Value):=h.old 1;exact iQ (.slice (some ⟨j,g,none⟩) r.length I)) ?_;refine oC (fun a y h=>by have e5:a.eval (.tmp 5)=(.int .i64 k:Value):=h.old 5;exact iQ (.int .i64 k)) ?_;refine oC (fun a y h=>by have ar:a.eval (.tmp 21)=(.slice (some ⟨j,g,none⟩) r.length I:Value):=h.of 21;have au:a.eval (.tmp 22)=(.int .i64 k:Value):=h.of 22;exact iQ (.pointer (some ⟨j,g+k*5,none⟩))) ?_;refine oC (fun a y h=>by have av:a.eval (.tmp 23)=(.pointer (some ⟨j,g+k*5,none⟩):Value):=h.of 23;obtain⟨_,⟨u0,u1,u2,u3,u4⟩⟩:=HU.o y h.z;exact iQ (.agg #[.int .i64 Z, .int .i64 vn, .slice F Q M, .slice G R N, .slice H S P])) ?_;refine oC (fun a y h=>?_) ?_
    ·have aq:a.eval (.tmp 20)=(.agg #[.int .i64 X, .int .i64 Y, .slice C U J, .slice D V K, .slice E W L]:Value):=h.of 20;have aw:a.eval (.tmp 24)=(.agg #[.int .i64 Z, .int .i64 vn, .slice F Q M, .slice G R N, .slice H S P]:Value):=h.of 24;refine fI (f:=62) (args:=#[.agg #[.int .i64 X, .int .i64 Y, .slice C U J, .slice D V K, .slice E W L], .agg #[.int .i64 Z, .int .i64 vn, .slice F Q M, .slice G R N, .slice H S P]]) (bI rfl) ?_ ?_
     ·have ec:=kZ a;have ef:=AO a;generalize a.eval=ev at *;clear h;go_simp
     refine(a4.o y h.z).mono ?_;rintro e w' ⟨rfl,hb⟩;exact⟨_,rfl,fun t ht=>by cases ht;exact rfl,hb⟩
    refine oC (fun a y h=>by have ax:a.eval (.tmp 25)=(.bool true:Value):=h.of 25;exact iQ (.bool false)) ?_;exact OI.nil
   rintro⟨tm,df⟩ wE a7 aj ac ab a6;have ae:tm.getD 26 undef=.bool false:=tW (T:=aNI b d q.length cap j g r.length I k (d+k*5) (g+k*5) (.agg #[.int .i64 X, .int .i64 Y, .slice C U J, .slice D V K, .slice E W L]) (.agg #[.int .i64 Z, .int .i64 vn, .slice F Q M, .slice G R N, .slice H S P])) (w:=wE) (a:=⟨tm,df⟩) (t:=26) a6 kR;obtain rfl:df=[]:=aj;clear a6;obtain⟨fQ,hQ,a0⟩:=oR [17,18,19,20,21,22,23,24,25,26] tm _ ac ab;clear ac ab;simp only[List.foldl_cons,List.foldl_nil,(hQ 26).trans ae]at a0;clear ae hQ;simp only[List.setIfInBounds_toArray,List.set_cons_zero,List.set_cons_succ]at a0;subst a0;have ag:O (Below w.heap.size w wE):=i.o.trans (a7.mono i.o.size);clear a7 HU i a4;go_wp2_with fail;go_roundw;(case rel=>exact⟨k+1,n,gN,ag.o⟩);case measure=>exact mI
  have g2:decide (k<q.length)=false:=aF n;go_wp2_with fail;go_ret;exact⟨rfl,i.o⟩
theorem CA(b c j k:List Uv)(H K I L:Value)(w:World)(h1:iI w H b)(Q:iI w K c)(R:iI w I j)(S:iI w L k)(N:bV b=bV j)(P:bV c=bV k)(U:b.length<=1000/\c.length<=1000)
 (o1:∀x,x∈b++c->gM w x) (o2:∀x,x∈j++k->gM w x):
 Calls Tryz.prog 19 #[mU H K,mU I L] w fun e r=>e=.returned (.bool true)/\Below w.heap.size w r:=by
 have Y:O (∀z,Below w.heap.size w z->Calls Tryz.prog 42 #[H,I] z fun e r=>e=.returned (.bool true)/\Below z.heap.size z r):=fun z d=>GM b j _ _ z (h1.kc (Kc.z d)) (R.kc (Kc.z d)) N U.1 (fun x l=>(o1 x (eX _ l)).z d) (fun x l=>(o2 x (eX _ l)).z d);have Z:O (∀z,Below w.heap.size w z->Calls Tryz.prog 42 #[K,L] z fun e r=>e=.returned (.bool true)/\Below z.heap.size z r):=fun z d=>GM c k _ _ z (Q.kc (Kc.z d)) (S.kc (Kc.z d)) P U.2 (fun x l=>(o1 x (gE _ l)).z d) (fun x l=>(o2 x (gE _ l)).z d);obtain⟨f,ch,rfl,_⟩:=h1;obtain⟨g,i,rfl,_⟩:=Q;obtain⟨m,p,rfl,_⟩:=R;obtain⟨n,q,rfl,_⟩:=S;clear o1 o2 N P;have D:Below w.heap.size w (w.alloc (.cells #[.slice f b.length ch, .slice g c.length i] 29)):=(aG _ _).alloc (aH _) _;have F:=iC w (.cells #[.slice f b.length ch, .slice g c.length i] 29);have E:Below (w.alloc (.cells #[.slice f b.length ch, .slice g c.length i] 29)).heap.size (w.alloc (.cells #[.slice f b.length ch, .slice g c.length i] 29)) ((w.alloc (.cells #[.slice f b.length ch, .slice g c.length i] 29)).alloc (.cells #[.slice m j.length p, .slice n k.length q] 29)):=(aG _ _).alloc (aH _) _;have s:=iC (w.alloc (.cells #[.slice f b.length ch, .slice g c.length i] 29)) (.cells #[.slice m j.length p, .slice n k.length q] 29);rw[qB]at s;have u:O (Below w.heap.size w ((w.alloc (.cells #[.slice f b.length ch, .slice g c.length i] 29)).alloc (.cells #[.slice m j.length p, .slice n k.length q] 29))):=D.trans (E.mono D.size);have G:=(E.block _ (aK.1 F).1).trans F;clear D E F
 go_enter Tryz.func19,Tryz.ntmps19
 go_upto_region 1 with fail;generalize (w.alloc (.cells #[.slice f b.length ch, .slice g c.length i] 29)).alloc (.cells #[.slice m j.length p, .slice n k.length q] 29)=J at *;(have M:O (∀z,Below J.heap.size J z->(z.cell? ⟨w.heap.size,0,none⟩=some (.slice f b.length ch)/\z.cell? ⟨w.heap.size,1,none⟩=some (.slice g c.length i))/\z.cell? ⟨w.heap.size+1,0,none⟩=some (.slice m j.length p)/\z.cell? ⟨w.heap.size+1,1,none⟩=some (.slice n k.length q)):=fun z d=>by have W:=(d.block _ (aK.1 G).1).trans G;have V:=(d.block _ (aK.1 s).1).trans s;exact⟨⟨cH W,cH W⟩,cH V,cH V⟩);clear s G;obtain⟨⟨c0,c1⟩,c2,c3⟩:=M.o J (aG _ _);go_wp2_with(first|((with_reducible refine Calls.mono (Y.o _ u.o) ?_);rintro e X ⟨rfl,T⟩;obtain⟨⟨t0,t1⟩,t2,t3⟩:=M.o X T;have C:O (Below w.heap.size w X):=u.o.trans (T.mono u.o.size))|((with_reducible refine Calls.mono (Z.o _ C.o) ?_);rintro e w4 ⟨rfl,a0⟩));go_ret;exact⟨rfl,C.o.trans (a0.mono C.o.size)⟩

end Go.Proofs.YtfljoehbbncooaaGreat
namespace Go.Proofs.YtfljoehbbncooaaGreat
open Go.RowKit
end Go.Proofs.YtfljoehbbncooaaGreat
namespace Go.Proofs.YtfljoehbbncooaaGreat
open Go.RowKit
end Go.Proofs.YtfljoehbbncooaaGreat
namespace Go.Proofs.YtfljoehbbncooaaGreat
open Go.RowKit
end Go.Proofs.YtfljoehbbncooaaGreat
namespace Go.Proofs.YtfljoehbbncooaaGreat
open Go.RowKit
theorem bEZ{z:World}{b k o:Nat}{x:Obj}{a:Array Value}{t:TypeId}{g:Nat×Nat}(d:z.heap[b]?=some x)(i:z.heap[k]?=some (.cells a t g))(ht:∀c f,x≠.cells c t f)(u:Value):(z.setCell ⟨k,o,none⟩ u).heap[b]?=some x:=by
 rw[heap_setCell_other z ⟨k,o,none⟩ b u (fun e=>?_)]
 ·exact d
 subst e;rw[i]at d;exact ht a g (Option.some.inj d).symm
end Go.Proofs.YtfljoehbbncooaaGreat
namespace Go.Proofs.YtfljoehbbncooaaGreat
open Go.RowKit
end Go.Proofs.YtfljoehbbncooaaGreat
namespace Go.Proofs.YtfljoehbbncooaaGreat
open Go.RowKit
def QJ(B:Nat)(w:World)(q:List Fv):Prop:=∀p,p∈q->w.ownsRow B 3 1 p.2 p.1.args.length (p.1.args.map (Value.int .i64))/\p.1.args.length<=255
theorem QJ.type{B:Nat}{w w':World}{q:List Fv}(h:QJ B w q)(c:∀(k:Nat)(a:Array Value),w.heap[k]?=some (.cells a 3)->w'.heap[k]?=some (.cells a 3)):QJ B w' q:=fun p b=>⟨pY (h p b).1 c,(h p b).2⟩
end Go.Proofs.YtfljoehbbncooaaGreat
namespace Go.Proofs.YtfljoehbbncooaaGreat
open Go.RowKit
def KD(z z':World):Prop:=∀(k:Nat)(a:Array Value)(t:TypeId),t≠42->t≠42->z.heap[k]?=some (.cells a t)->z'.heap[k]?=some (.cells a t)
theorem KD.trans{a b c:World}(h:KD a b)(k:KD b c):KD a c:=fun i x t d e f=>k i x t d e (h i x t d e f)
theorem KD.own{z b:World}(h:KD z b){B e c n:Nat}{v:Value}{xs:List Value}(g:z.ownsRow B e c v n xs)(h1:e≠42)(d:e≠42):b.ownsRow B e c v n xs:=pY g (fun k a f=>h k a e h1 d f)
theorem KD.args{z b:World}(h:KD z b){B:Nat}{q:List Fv}(d:QJ B z q):QJ B b q:=d.type (fun k a c=>h k a 3 dE dE c)
theorem KD.set{z:World}{U o:Nat}{a:Array Value}{b:Nat×Nat}(d:z.heap[U]?=some (.cells a 42 b))(u:Value):KD z (z.setCell ⟨U,o,none⟩ u):=fun _ _ t _ c e=>bEZ e d (fun _ _ h=>by injection h with _ h _;exact c h) u
abbrev PH:Array Value:=#[.int .i64 0, .int .i64 0, .slice none 0 0, .slice none 0 0, .slice none 0 0]
abbrev Yv(z:World)(T:Nat)(v0 v1 b c d:Value):World:=((((z.setCell ⟨T,0,none⟩ v0).setCell ⟨T,1,none⟩ v1).setCell ⟨T,2,none⟩ b).setCell ⟨T,3,none⟩ c).setCell ⟨T,4,none⟩ d
theorem aLT{z:World}{T:Nat}{m n p q r:Value}(k:z.heap[T]?=some (.cells #[m,n,p,q,r] 42))(v0 v1 b c d:Value):
 (Yv z T v0 v1 b c d).heap[T]?=some (.cells #[v0,v1,b,c,d] 42)/\KD z (Yv z T v0 v1 b c d):=by
 have e:=bD (i:=0) k v0;have f:=bD (i:=1) e v1;have g:=bD (i:=2) f b;have j:=bD (i:=3) g c;have l:=bD (i:=4) j d;refine⟨l,(((((KD.set k v0).trans (KD.set e v1)).trans (KD.set f b)).trans (KD.set g c)).trans (KD.set j d))⟩
end Go.Proofs.YtfljoehbbncooaaGreat
namespace Go.Proofs.YtfljoehbbncooaaGreat
open Go.RowKit
theorem bGC{α:Type}(f:α->List Value)(b:∀x,(f x).length=2):∀(l:List α)(i:Nat)(h:i<l.length)(j:Nat),j<2->((l.map f).flatten)[i*2+j]?=(f l[i])[j]?
 |x::l,0,h,j,hj=>by rw[jN,qG,BR,eP,lB (by rw[b];exact hj)];rfl
 |x::l,i+1,h,j,hj=>by rw[jN,qG,kS (by rw[b];omega),b];have e:(i+1)*2+j-2=i*2+j:=oM;rw[e,bGC f b l i (by simpa using h) j hj];rfl
theorem bE2{w:World}{B:Nat}{v:Value}{q:List Fv}(h:w.ownsRow B 72 2 v q.length (q.map eO).flatten)(j:QJ B w q):bS w v (q.map (·.1)):=by
 rcases lJ h with⟨rfl,d⟩|⟨g,cap,rfl⟩
 ·have :q=[]:=dQ d;subst this;exact⟨none,0,rfl,⟨aH _,fun _=>rfl⟩, .inl rfl⟩
 obtain⟨p,r,n,k,b⟩:=xL h;injection n with e u f;subst e f;refine⟨_,cap,by rw[aY],⟨by rw[aY];exact k,fun h=>by cases h⟩,?_⟩;rcases b with d|⟨s,m,b⟩
 ·exact .inl (by rw[dQ d];rfl)
 cases m;refine .inr ⟨g,0,rfl,fun i c=>?_⟩;rw[aY]at c;(have l:bF (q.map (·.1)) i=q[i].1:=by simp[bF,c]);have a:=bGC eO (fun _=>rfl) q i c;rw[eP,l];exact⟨(b (i*2) oM).trans (a 0 dE),q[i].2,(b (i*2+1) oM).trans (a 1 dE),tY (j _ (fG c)).1⟩
def UpV(w:World)(u:aX)(b c d:Value):Prop:=uI w b u.ps/\bS w c u.says/\uI w d u.ts/\(∀f,f∈u.says->gD f)/\(u.ps.length<=255/\u.says.length<=255/\u.ts.length<=255)
theorem Yw{w z:World}(h:Below w.heap.size w z){v0 v1 c d e:Value}:Below w.heap.size w (Yv z w.heap.size v0 v1 c d e):=by have s:∀{y:World}(i:Nat)(v:Value),Below w.heap.size w y->Below w.heap.size w (y.setCell ⟨w.heap.size,i,none⟩ v):=fun i v b=>b.setCell (aH _) v;exact s 4 _ (s 3 _ (s 2 _ (s 1 _ (s 0 _ h))))
end Go.Proofs.YtfljoehbbncooaaGreat
namespace Go.Proofs.YtfljoehbbncooaaGreat
open Go.RowKit
def eN:aX:=⟨⟨0,1⟩,[],[⟨0,[1,2]⟩,⟨0,[2,3]⟩],[]⟩
def dH:aX:=⟨⟨1,1⟩,[⟨0,1⟩],[⟨0,[4,5]⟩],[⟨0,1⟩]⟩
theorem SL(w:World)(b:Array Value)(e c n B:Nat)(f:B<=w.heap.size)(d:b.size=n*c)(g:n<=maxLen):(w.alloc (.cells b e)).ownsRow B e c (.slice (some ⟨w.heap.size,0,none⟩) n n) n b.toList:=
 ⟨by rw[vM,d], .inr ⟨w.heap.size,n,b,rfl,f,bA w _,aH _,g,d,by rw[<-d,<-vM,nK]⟩⟩
theorem aRR(w:World):Calls Tryz.prog 45 #[] w fun e g=>∃(q:List Fv)(v:Value),e=.returned v/\q.map (·.1)=eN.says/\g.ownsRow w.heap.size 72 2 v q.length (q.map eO).flatten/\QJ w.heap.size g q/\Below w.heap.size w g:=by
 have E:O (∀(p:Int)(a:Option Addr)(n c:Nat)(w:World),Calls Tryz.prog 43 #[.int .i64 p, .slice a n c] w fun e g=>e=.returned (lT p (.slice a n c))/\Below w.heap.size w g):=MG
 go_enter Tryz.func45,Tryz.ntmps45
 go_wp2_with fail;have C:O _:=SL w #[.int .i64 1, .int .i64 2] 3 1 2 w.heap.size (aH _) rfl (by unfold maxLen;omega);have i:O _:=eB w (.cells #[.int .i64 1, .int .i64 2] 3);generalize f:w.heap.size=b at *;generalize w.alloc (.cells #[.int .i64 1, .int .i64 2] 3)=M at *;refine Calls.mono (E.o _ _ _ _ _) ?_;rintro _ d ⟨rfl,s⟩;have F:O _:=bO C.o s;have j:O (Below b w d):=i.o.trans (s.mono (by rw[<-f];rw[<-f]at i;exact i.o.size));clear s C i;go_wp2_with fail;have D:O _:=SL d #[.int .i64 2, .int .i64 3] 3 1 2 b (by have :=j.o.size;omega) rfl (by unfold maxLen;omega);have G:O _:=bO F.o (eB d (.cells #[.int .i64 2, .int .i64 3] 3));have r:O (Below b w (d.alloc (.cells #[.int .i64 2, .int .i64 3] 3))):=j.o.trans ((eB d _).mono (by have :=j.o.size;omega));clear F j;generalize L:d.heap.size=l at *;generalize d.alloc (.cells #[.int .i64 2, .int .i64 3] 3)=N at *;refine Calls.mono (E.o _ _ _ _ _) ?_;rintro _ x ⟨rfl,m⟩;have k:O (Below b w x):=r.o.trans (m.mono (by have :=r.o.size;omega));have I:O _:=SL x #[.int .i64 0, .slice (some ⟨b,0,none⟩) 2 2, .int .i64 0, .slice (some ⟨l,0,none⟩) 2 2] 72 2 2 b (by have :=k.o.size;omega) rfl (by unfold maxLen;omega);have nb:=eB x (.cells #[.int .i64 0, .slice (some ⟨b,0,none⟩) 2 2, .int .i64 0, .slice (some ⟨l,0,none⟩) 2 2] 72);have J:O _:=bO (bO G.o m) nb;have K:O _:=bO (bO D.o m) nb;have H:O _:=k.o.trans (nb.mono (by have :=k.o.size;omega));clear m D G r nb k;go_wp2_with fail;go_ret;exact⟨[(⟨0,[1,2]⟩, .slice (some ⟨b,0,none⟩) 2 2),(⟨0,[2,3]⟩, .slice (some ⟨l,0,none⟩) 2 2)],_,rfl,rfl,by rw[f];exact I.o,by
  rw[f];intro p u;rcases eA.mp u with rfl|u
  ·exact⟨J.o,(by decide:2<=255)⟩
  obtain rfl:p=(⟨0,[2,3]⟩, .slice (some ⟨l,0,none⟩) 2 2):=by simpa using u
  exact⟨K.o,(by decide:2<=255)⟩,by rw[f];exact H.o⟩
theorem UpV.own{w:World}{B:Nat}{x:fK}{ps ts:List fK}{q:List Fv}{d e g:Value}(b:w.ownsRow B 39 2 d ps.length (ps.map oG).flatten)(k:w.ownsRow B 72 2 e q.length (q.map eO).flatten)(c:QJ B w q)(ht:w.ownsRow B 39 2 g ts.length (ts.map oG).flatten)(j:ps.length<=255/\q.length<=255/\ts.length<=255):UpV w ⟨x,ps,q.map (·.1),ts⟩ d e g:=by
 refine⟨YE b,bE2 k c,YE ht,fun f i=>?_,?_⟩
 ·obtain⟨p,b,rfl⟩:=cJ.mp i;exact bP (c p b).2 dE
 dsimp only;rw[aY];exact j
theorem aEE(w:World):Calls Tryz.prog 39 #[] w fun e M=>∃J K L,e=.returned (Ab eN J K L)/\UpV M eN J K L/\Below w.heap.size w M:=by
 have F:=bA w (.cells PH 42);have E:=eB w (.cells PH 42)
 go_enter Tryz.func39,Tryz.ntmps39
 go_upto_region 1 with fail;generalize w.alloc (.cells PH 42)=g at *;have j:O (g.heap[w.heap.size]?=some (.cells PH 42)):=F;have i:O (Below w.heap.size w g):=E;have HP:O _:=aRR g;clear F E;go_wp2_with fail;refine Calls.mono HP.o ?_;rintro e y ⟨q,v,rfl,I,l,H,k⟩;obtain⟨c,cap,rfl⟩:=bR l;have b:O (y.heap[w.heap.size]?=some (.cells PH 42)):=(k.block _ (aK.1 j.o).1).trans j.o;have P:O (Below w.heap.size w y):=i.o.trans (k.mono i.o.size);have D:O _:=I;have R:O _:=l;have N:O (QJ g.heap.size y q):=H;clear I l H k j i HP;(have n:y.cell? ⟨w.heap.size,0,none⟩=some (.int .i64 0):=cH b.o);(have p:y.cell? ⟨w.heap.size,1,none⟩=some (.int .i64 0):=cH b.o);(have r:y.cell? ⟨w.heap.size,2,none⟩=some (.slice none 0 0):=cH b.o);(have s:y.cell? ⟨w.heap.size,3,none⟩=some (.slice none 0 0):=cH b.o);(have u:y.cell? ⟨w.heap.size,4,none⟩=some (.slice none 0 0):=cH b.o);have T:y.frozen? ⟨w.heap.size,0,none⟩=false:=bM b.o 0;have U:y.frozen? ⟨w.heap.size,1,none⟩=false:=bM b.o 1;have V:y.frozen? ⟨w.heap.size,2,none⟩=false:=bM b.o 2;have W:y.frozen? ⟨w.heap.size,3,none⟩=false:=bM b.o 3;have X:y.frozen? ⟨w.heap.size,4,none⟩=false:=bM b.o 4;have C:O _:=aLT b.o (.int .i64 0) (.int .i64 1) (.slice none 0 0) (.slice c q.length cap) (.slice none 0 0);have Q:O (Below w.heap.size w (Yv y w.heap.size (.int .i64 0) (.int .i64 1) (.slice none 0 0) (.slice c q.length cap) (.slice none 0 0))):=Yw P.o;go_wp2_with fail;clear n p r s u T U V W X;obtain⟨d,m⟩:=C.o;(have Y:q.length<=255:=by have :=congrArg List.length D.o;rw[aY]at this;rw[this];decide);have G:=UpV.own (x:=⟨0,1⟩) (ps:=[]) (ts:=[]) (eS _ _ _ _) (m.own R.o dE dE) (m.args N.o) (eS _ _ _ _) ⟨dE,Y,dE⟩;(have S:(⟨⟨0,1⟩,[],q.map (·.1),[]⟩:aX)=eN:=by rw[D.o];rfl);rw[S]at G;change bodyPost _ _ _ _ _ (Yv _ _ _ _ _ _ _);clear C m;generalize Yv y w.heap.size (.int .i64 0) (.int .i64 1) (.slice none 0 0) (.slice c q.length cap) (.slice none 0 0)=f at *;(have n:f.cell? ⟨w.heap.size,0,none⟩=some (.int .i64 0):=cH d);(have p:f.cell? ⟨w.heap.size,1,none⟩=some (.int .i64 1):=cH d);(have r:f.cell? ⟨w.heap.size,2,none⟩=some (.slice none 0 0):=cH d);(have s:f.cell? ⟨w.heap.size,3,none⟩=some (.slice c q.length cap):=cH d);(have u:f.cell? ⟨w.heap.size,4,none⟩=some (.slice none 0 0):=cH d);exact dP (v:=.agg #[.int .i64 0, .int .i64 1, .slice none 0 0, .slice c q.length cap, .slice none 0 0]) (by simp[results,Tryz.results39,go_sem,n,p,r,s,u]) rfl ⟨_,_,_,rfl,G,Q.o⟩
theorem aXU{w:World}{B:Nat}{c d va e:Value}(b:w.ownsRow B 39 2 c 1 [.int .i64 0, .int .i64 1])(i:w.ownsRow B 72 2 d 1 [.int .i64 0,va])(f:w.ownsRow B 3 1 va 2 [.int .i64 4, .int .i64 5])(ht:w.ownsRow B 39 2 e 1 [.int .i64 0, .int .i64 1]):UpV w dH c d e:=by(have g:QJ B w [(⟨0,[4,5]⟩,va)]:=by intro p b;(obtain rfl:p=(⟨0,[4,5]⟩,va):=by simpa using b);exact⟨f,(by decide:2<=255)⟩);exact UpV.own (x:=⟨1,1⟩) (ps:=[⟨0,1⟩]) (ts:=[⟨0,1⟩]) (q:=[(⟨0,[4,5]⟩,va)]) b i g ht ⟨dE,(by decide:1<=255),dE⟩
theorem aAJ(w:World):Calls Tryz.prog 40 #[] w fun e s=>∃vp vs vt,e=.returned (Ab dH vp vs vt)/\UpV s dH vp vs vt/\Below w.heap.size w s:=by
 have a2:O (∀(p:Int)(a:Option Addr)(n c:Nat)(w:World),Calls Tryz.prog 43 #[.int .i64 p, .slice a n c] w fun e s=>e=.returned (lT p (.slice a n c))/\Below w.heap.size w s):=MG;have W:=bA w (.cells PH 42);have V:=eB w (.cells PH 42)
 go_enter Tryz.func40,Tryz.ntmps40
 go_upto_region 1 with fail;generalize w.alloc (.cells PH 42)=b at *;have D:O (b.heap[w.heap.size]?=some (.cells PH 42)):=W;have C:O (Below w.heap.size w b):=V;have R:O _:=SL b #[.int .i64 0, .int .i64 1] 39 2 1 b.heap.size (aH _) rfl (by unfold maxLen;omega);have f:=eB b (.cells #[.int .i64 0, .int .i64 1] 39);have u:O _:=SL (b.alloc (.cells #[.int .i64 0, .int .i64 1] 39)) #[.int .i64 4, .int .i64 5] 3 1 2 b.heap.size f.size rfl (by unfold maxLen;omega);have g:=eB (b.alloc (.cells #[.int .i64 0, .int .i64 1] 39)) (.cells #[.int .i64 4, .int .i64 5] 3);have S:O _:=bO R.o g;have x:O _:=f.trans (g.mono f.size);(have Z:(b.alloc (.cells #[.int .i64 0, .int .i64 1] 39)).heap.size=b.heap.size+1:=by simp);rw[Z]at u;clear W V f g R Z;go_wp2_with fail;generalize (b.alloc (.cells #[.int .i64 0, .int .i64 1] 39)).alloc (.cells #[.int .i64 4, .int .i64 5] 3)=w3 at *;refine Calls.mono (a2.o _ _ _ _ _) ?_;rintro _ y ⟨rfl,r⟩;have m:O _:=x.o.trans (r.mono x.o.size);have a0:=m.o.size;have a3:O _:=bO S.o r;have a1:O _:=bO u.o r;have d:O (y.heap[w.heap.size]?=some (.cells PH 42)):=(m.o.block _ (aK.1 D.o).1).trans D.o;have P:O (Below w.heap.size w y):=C.o.trans (m.o.mono C.o.size);have T:O (b.heap.size<=y.heap.size):=a0;have Q:O _:=aLT d.o (.int .i64 1) (.int .i64 1) (.slice (some ⟨b.heap.size,0,none⟩) 1 1) (.slice (some ⟨y.heap.size,0,none⟩) 1 1) (.slice (some ⟨y.heap.size+1,0,none⟩) 1 1);have N:O (Below w.heap.size w (Yv y w.heap.size (.int .i64 1) (.int .i64 1) (.slice (some ⟨b.heap.size,0,none⟩) 1 1) (.slice (some ⟨y.heap.size,0,none⟩) 1 1) (.slice (some ⟨y.heap.size+1,0,none⟩) 1 1))):=Yw P.o;(have U:O ((Yv y w.heap.size (.int .i64 1) (.int .i64 1) (.slice (some ⟨b.heap.size,0,none⟩) 1 1) (.slice (some ⟨y.heap.size,0,none⟩) 1 1) (.slice (some ⟨y.heap.size+1,0,none⟩) 1 1)).heap.size=y.heap.size):=by show _=_;simp[Yv,World.setCell]);clear r m x S u a0 D C P;(have I:y.cell? ⟨w.heap.size,0,none⟩=some (.int .i64 0):=cH d.o);have f0:y.frozen? ⟨w.heap.size,0,none⟩=false:=bM d.o 0;(have J:y.cell? ⟨w.heap.size,1,none⟩=some (.int .i64 0):=cH d.o);have f1:y.frozen? ⟨w.heap.size,1,none⟩=false:=bM d.o 1;(have K:y.cell? ⟨w.heap.size,2,none⟩=some (.slice none 0 0):=cH d.o);have f2:y.frozen? ⟨w.heap.size,2,none⟩=false:=bM d.o 2;(have L:y.cell? ⟨w.heap.size,3,none⟩=some (.slice none 0 0):=cH d.o);have f3:y.frozen? ⟨w.heap.size,3,none⟩=false:=bM d.o 3;(have M:y.cell? ⟨w.heap.size,4,none⟩=some (.slice none 0 0):=cH d.o);have f4:y.frozen? ⟨w.heap.size,4,none⟩=false:=bM d.o 4;have a4:w.heap.size<y.heap.size:=(aK.1 d.o).1;go_wp2_with fail;clear I J K L M f0 f1 f2 f3 f4;obtain⟨k1,H⟩:=Q.o;have Y:=H.own a3.o dE dE;have X:=H.own a1.o dE dE;have i:=U.o;have q:=N.o;change bodyPost _ _ _ _ _ ((World.alloc (Yv y w.heap.size (.int .i64 1) (.int .i64 1) (.slice (some ⟨b.heap.size,0,none⟩) 1 1) (.slice (some ⟨y.heap.size,0,none⟩) 1 1) (.slice (some ⟨y.heap.size+1,0,none⟩) 1 1)) (.cells #[.int .i64 0, .slice (some ⟨b.heap.size+1,0,none⟩) 2 2] 72)).alloc (.cells #[.int .i64 0, .int .i64 1] 39));clear Q H U N;generalize (Yv y w.heap.size (.int .i64 1) (.int .i64 1) (.slice (some ⟨b.heap.size,0,none⟩) 1 1) (.slice (some ⟨y.heap.size,0,none⟩) 1 1) (.slice (some ⟨y.heap.size+1,0,none⟩) 1 1))=j at *;have G:=SL j #[.int .i64 0, .slice (some ⟨b.heap.size+1,0,none⟩) 2 2] 72 2 1 b.heap.size (by rw[i];exact T.o) rfl (by unfold maxLen;omega);have f:=eB j (.cells #[.int .i64 0, .slice (some ⟨b.heap.size+1,0,none⟩) 2 2] 72);have F:=SL (j.alloc (.cells #[.int .i64 0, .slice (some ⟨b.heap.size+1,0,none⟩) 2 2] 72)) #[.int .i64 0, .int .i64 1] 39 2 1 b.heap.size (bP (by rw[i];exact T.o) f.size) rfl (by unfold maxLen;omega);have g:=eB (j.alloc (.cells #[.int .i64 0, .slice (some ⟨b.heap.size+1,0,none⟩) 2 2] 72)) (.cells #[.int .i64 0, .int .i64 1] 39);(have E:(j.alloc (.cells #[.int .i64 0, .slice (some ⟨b.heap.size+1,0,none⟩) 2 2] 72)).heap.size=y.heap.size+1:=by rw[<-i];simp);rw[E]at F;rw[i]at G;have hU:=aXU (bO (bO Y f) g) (bO G g) (bO (bO X f) g) F;have hB:=(q.trans (f.mono q.size)).trans (g.mono (bP q.size f.size));have k:=((g.block _ (by rw[E];omega)).trans (f.block w.heap.size (by rw[i];omega))).trans k1;clear f g G F Y X E i q k1;generalize (j.alloc (.cells #[.int .i64 0, .slice (some ⟨b.heap.size+1,0,none⟩) 2 2] 72)).alloc (.cells #[.int .i64 0, .int .i64 1] 39)=l at *;(have I:l.cell? ⟨w.heap.size,0,none⟩=some (.int .i64 1):=cH k);(have J:l.cell? ⟨w.heap.size,1,none⟩=some (.int .i64 1):=cH k);(have K:l.cell? ⟨w.heap.size,2,none⟩=some (.slice (some ⟨b.heap.size,0,none⟩) 1 1):=cH k);(have L:l.cell? ⟨w.heap.size,3,none⟩=some (.slice (some ⟨y.heap.size,0,none⟩) 1 1):=cH k);(have M:l.cell? ⟨w.heap.size,4,none⟩=some (.slice (some ⟨y.heap.size+1,0,none⟩) 1 1):=cH k);exact dP (v:=.agg #[(.int .i64 1),(.int .i64 1),(.slice (some ⟨b.heap.size,0,none⟩) 1 1),(.slice (some ⟨y.heap.size,0,none⟩) 1 1),(.slice (some ⟨y.heap.size+1,0,none⟩) 1 1)]) (by simp[results,Tryz.results40,go_sem,I,J,K,L,M]) rfl ⟨_,_,_,rfl,hU,hB⟩
end Go.Proofs.YtfljoehbbncooaaGreat
namespace Go.Proofs.YtfljoehbbncooaaGreat
theorem sN{u a b:aX}:u∈[a,b]↔u=a\/u=b:=by simp
theorem aFB:aE [eN,dH]=[⟨0,[4,5]⟩]:=by(have h:rG [eN,dH]=[⟨0,[4,5]⟩]:=by rfl);unfold aE;rw[h];rfl
theorem XN:eV eN=0:=dE
theorem XO:eV dH=0:=dE
theorem Ud:IJ [] []:=⟨by decide,(fun u b=>by cases b),rfl,rfl,(fun u b=>by cases b),⟨fun u=>⟨(fun h=>by cases h),(fun h=>by cases h.1)⟩,fun u=>⟨(fun h=>by cases h),(fun h=>by cases h.1)⟩⟩⟩
end Go.Proofs.YtfljoehbbncooaaGreat
namespace Go.Proofs.YtfljoehbbncooaaGreat
open Go.RowKit
theorem UpV.ok{w:World}{u:aX}{b c d:Value}(h:UpV w u b c d):gM w ⟨u,b,c,d⟩:=⟨h.1,h.2.1,h.2.2.1,h.2.2.2.1,by have :=h.2.2.2.2;dsimp only;omega⟩

theorem UpV.z{w w':World}{u:aX}{c d e:Value}(h:UpV w u c d e)(b:Below w.heap.size w w'):UpV w' u c d e:=⟨iO h.1 b,bQ h.2.1 b,iO h.2.2.1 b,h.2.2.2.1,h.2.2.2.2⟩
def Up1(u:aX)(w:World)(v:Value):Prop:=∃b i e c j f d k g,v=.agg #[.int .i64 u.id.a, .int .i64 u.id.n, .slice b i e, .slice c j f, .slice d k g]/\UpV w u (.slice b i e) (.slice c j f) (.slice d k g)
theorem Up1.z{u:aX}{w w':World}{v:Value}(h:Up1 u w v)(j:Below w.heap.size w w'):Up1 u w' v:=by obtain⟨b,k,f,c,l,g,d,m,i,e,h⟩:=h;exact⟨b,k,f,c,l,g,d,m,i,e,h.z j⟩
theorem aIW{u:aX}{w:World}{b c d:Value}(h:UpV w u b c d):Up1 u w (Ab u b c d):=by obtain⟨e,i,rfl,_⟩:=id h.1;obtain⟨f,j,rfl,_⟩:=id h.2.1;obtain⟨g,k,rfl,_⟩:=id h.2.2.1;exact⟨e,_,i,f,_,j,g,_,k,rfl,h⟩
def aVM(w:World)(v:Value):Prop:=∃a,v=.slice a 2 2/\∃b c,iI w (.slice a 2 2) [b,c]/\gM w b/\gM w c/\b.u=eN/\c.u=dH
theorem aVM.z{w w':World}{v:Value}(h:aVM w v)(b:Below w.heap.size w w'):aVM w' v:=by obtain⟨a,e,c,d,f,g,i,j,k⟩:=h;exact⟨a,e,c,d,f.kc (Kc.z b),g.z b,i.z b,j,k⟩
def aJH(w:World)(v:Value):Prop:=∃a,v=.slice a 2 2/\eT w (.slice a 2 2) [4,5]
theorem aJH.z{w w':World}{v:Value}(h:aJH w v)(b:Below w.heap.size w w'):aJH w' v:=by obtain⟨a,e,h⟩:=h;exact⟨a,e,bC h b⟩
def Fc1(w:World)(v:Value):Prop:=∃a,v=.agg #[.int .i64 0, .slice a 2 2]/\eT w (.slice a 2 2) [4,5]
theorem Fc1.z{w w':World}{v:Value}(h:Fc1 w v)(b:Below w.heap.size w w'):Fc1 w' v:=by obtain⟨a,e,h⟩:=h;exact⟨a,e,bC h b⟩
theorem bCC{y:World}{k l m n p q:Option Addr}{c d e f g j r s u w x C:Nat}(E:UpV y eN (.slice k c r) (.slice l d s) (.slice m e u))(F:UpV y dH (.slice n f w) (.slice p g x) (.slice q j C)):
 aVM (y.alloc (.cells #[.int .i64 0, .int .i64 1, .slice k c r, .slice l d s, .slice m e u, .int .i64 1, .int .i64 1, .slice n f w, .slice p g x, .slice q j C] 42)) (.slice (some ⟨y.heap.size,0,none⟩) 2 2):=by
 have D:=eB y (.cells #[.int .i64 0, .int .i64 1, .slice k c r, .slice l d s, .slice m e u, .int .i64 1, .int .i64 1, .slice n f w, .slice p g x, .slice q j C] 42);have b:=bA y (.cells #[.int .i64 0, .int .i64 1, .slice k c r, .slice l d s, .slice m e u, .int .i64 1, .int .i64 1, .slice n f w, .slice p g x, .slice q j C] 42);refine⟨_,rfl,⟨eN,_,_,_⟩,⟨dH,_,_,_⟩,⟨_,_,rfl,⟨aH _,(fun h=>by cases h)⟩, .inr ⟨_,0,rfl,fun i G=>?_⟩⟩,(E.z D).ok,(F.z D).ok,rfl,rfl⟩
 match i,G with
 |0,_=>exact⟨cH b,cH b,cH b,cH b,cH b⟩
 |1,_=>exact⟨cH b,cH b,cH b,cH b,cH b⟩
theorem aMA(y:World):aJH (y.alloc (.cells #[.int .i64 4, .int .i64 5] 3)) (.slice (some ⟨y.heap.size,0,none⟩) 2 2):=by
 have b:=bA y (.cells #[.int .i64 4, .int .i64 5] 3);refine⟨_,rfl,⟨_,_,rfl, .inr ⟨_,0,rfl,fun i c=>?_⟩⟩⟩
 match i,c with
 |0,_=>rw[cM b];rfl
 |1,_=>rw[cM b];rfl


end Go.Proofs.YtfljoehbbncooaaGreat

namespace Go.Proofs.YtfljoehbbncooaaGreat
open Go.RowKit


def CpV(l:List aX)(w:World)(v:Value):Prop:=∃R,iI w v R/\(∀x,x∈R->gM w x)/\bV R=l
theorem CpV.kn{l:List aX}{w w':World}{v:Value}(h:CpV l w v)(k:Kn w w'):CpV l w' v:=by obtain⟨R,b,c,d⟩:=h;exact⟨R,b.kn k,fun x e=>(c x e).kn k,d⟩
def CpU(l:List aX)(w:World)(v:Value):Prop:=∃a n c,v=.slice a n c/\CpV l w (.slice a n c)
theorem CpU.z{l:List aX}{w w':World}{v:Value}(h:CpU l w v)(b:Below w.heap.size w w'):CpU l w' v:=by obtain⟨a,n,c,e,h⟩:=h;exact⟨a,n,c,e,h.kn (Kn.z b)⟩
theorem bAJ{q R:List Uv}{w w':World}{v:Value}(h1:mT w' w.heap.size v R)(b:bV R=bV q)(d:∀x,x∈R->Bq w.heap.size w' x):CpU (bV q) w' v:=by obtain⟨a,c,rfl⟩:=bR h1;exact⟨a,_,c,rfl,R,vE h1,fun x e=>(d x e).ok,b⟩
def CpR(l m:List aX)(w:World)(v:Value):Prop:=∃b f d c g e,v=.agg #[.slice b f d, .slice c g e]/\CpV l w (.slice b f d)/\CpV m w (.slice c g e)
theorem CpR.z{l m:List aX}{w w':World}{v:Value}(h:CpR l m w v)(b:Below w.heap.size w w'):CpR l m w' v:=by obtain⟨c,i,f,d,j,g,e,h,k⟩:=h;exact⟨c,i,f,d,j,g,e,h.kn (Kn.z b),k.kn (Kn.z b)⟩
def cpT(X:Nat)(f:Option Addr)(j ch:Nat)(g:Option Addr)(k i:Nat)(d e:List aX)(l:Nat)(b:Value)(c:World):Prop:=
 match l with
 |3=>b=.pointer (some ⟨X,0,none⟩)
 |4=>b=.slice f j ch
 |5=>CpU d c b
 |6=>b=.pointer (some ⟨X,1,none⟩)
 |7=>b=.slice g k i
 |8=>CpU e c b
 |9=>CpR d e c b
 |_=>True
theorem bAI(X:Nat)(c:Option Addr)(j ch:Nat)(d:Option Addr)(k e:Nat)(g i:List aX)(l:Nat)(m:Value)(W b:World)(f:Below W.heap.size W b)(h:cpT X c j ch d k e g i l m W):cpT X c j ch d k e g i l m b:=by revert h;unfold cpT;split<;>(intro h;first|exact h|exact CpU.z h f|exact CpR.z h f)
theorem aI7(b c:List Uv)(hv wv:Value)(w:World)(hV:iI w hv b)(wV:iI w wv c)(hl:b.length<=1000/\c.length<=1000)(M:∀y,y∈b++c->gM w y/\Few y.u):
 Calls Tryz.prog 22 #[mU hv wv] w fun e n=>∃v,e=.returned v/\CpR (bV b) (bV c) n v/\Below w.heap.size w n:=by
 obtain⟨g,ch,rfl,a8,a7⟩:=id hV;obtain⟨i,j,rfl,a9,aa⟩:=id wV;clear a8 a7 a9 aa;have b0:=bA w (.cells #[.slice g b.length ch, .slice i c.length j] 29);have V:=eB w (.cells #[.slice g b.length ch, .slice i c.length j] 29);have U:=bA (w.alloc (.cells #[.slice g b.length ch, .slice i c.length j] 29)) (.cells #[.slice none 0 0, .slice none 0 0] 29);have W:=eB (w.alloc (.cells #[.slice g b.length ch, .slice i c.length j] 29)) (.cells #[.slice none 0 0, .slice none 0 0] 29);(have a1:(w.alloc (.cells #[.slice g b.length ch, .slice i c.length j] 29)).heap.size=w.heap.size+1:=by simp);rw[a1]at U
 go_enter Tryz.func22,Tryz.ntmps22
 go_upto_region 1 with fail;have T:=(W.block _ (by rw[a1];exact Sz _)).trans b0;have F:=V.trans (W.mono V.size);generalize (w.alloc (.cells #[.slice g b.length ch, .slice i c.length j] 29)).alloc (.cells #[.slice none 0 0, .slice none 0 0] 29)=D at *;have S:O (∀z,Below D.heap.size D z->z.cell? ⟨w.heap.size,0,none⟩=some (.slice g b.length ch)/\z.cell? ⟨w.heap.size,1,none⟩=some (.slice i c.length j)):=fun z H=>⟨aB H (cH T),aB H (cH T)⟩;have a4:O (Below w.heap.size w D):=F;have Q:O (D.heap[w.heap.size+1]?=some (.cells #[.slice none 0 0, .slice none 0 0] 29)):=U;(have a2:O (∀z,Below D.heap.size D z->Calls Tryz.prog 52 #[.slice g b.length ch] z fun e n=>∃(R:List Uv)(N:Value),e=.returned N/\mT n z.heap.size N R/\bV R=bV b/\(∀x,x∈R->Bq z.heap.size n x)/\Below z.heap.size z n):=fun z H=>by have C:=F.trans (H.mono F.size);exact Ak b _ z (hV.kc (Kc.z C)) (fun x E=>(M x (eX _ E)).1.z C) (fun x E=>(M x (eX _ E)).2) hl.1);(have a3:O (∀z,Below D.heap.size D z->Calls Tryz.prog 52 #[.slice i c.length j] z fun e n=>∃(R:List Uv)(N:Value),e=.returned N/\mT n z.heap.size N R/\bV R=bV c/\(∀x,x∈R->Bq z.heap.size n x)/\Below z.heap.size z n):=fun z H=>by have C:=F.trans (H.mono F.size);exact Ak c _ z (wV.kc (Kc.z C)) (fun x E=>(M x (gE _ E)).1.z C) (fun x E=>(M x (gE _ E)).2) hl.2);clear b0 V U W a1 T F hV wV M hl;refine TF (cpT w.heap.size g b.length ch i c.length j (bV b) (bV c)) 7 dE kR kR kR (bAI _ _ _ _ _ _ _ _ _) ?hop ?hend
 case hop=>
  refine oC (fun a y h d=>by have e1:a.eval (.tmp 1)=(.pointer (some ⟨w.heap.size,0,none⟩):Value):=h.old 1;refine ZW (v:=.pointer (some ⟨w.heap.size,0,none⟩)) ?_;have ec:=kZ a;generalize a.eval=ev at *;clear h d;go_simp) ?_;refine oC (fun a y h d=>by have e3:a.eval (.tmp 3)=(.pointer (some ⟨w.heap.size,0,none⟩):Value):=h.of 3;obtain⟨x0,x1⟩:=S.o y h.z;refine ZW (v:=.slice g b.length ch) ?_;have ec:=kZ a;generalize a.eval=ev at *;clear h d;go_simp) ?_;refine oC (fun a y h d=>?_) ?_
  ·have e4:a.eval (.tmp 4)=(.slice g b.length ch:Value):=h.of 4;refine fI (f:=52) (args:=#[.slice g b.length ch]) (bI rfl) ?_ ?_
   ·have ec:=kZ a;have ef:=AO a;generalize a.eval=ev at *;clear h d;go_simp
   refine Calls.mono (a2.o y h.z) ?_;rintro _ y2 ⟨R,v,rfl,X,J,Y,a0⟩;exact⟨_,rfl,fun t ht=>by cases ht;exact bAJ X J Y,a0⟩
  refine oC (fun a y h d=>by have e1:a.eval (.tmp 1)=(.pointer (some ⟨w.heap.size,0,none⟩):Value):=h.old 1;refine ZW (v:=.pointer (some ⟨w.heap.size,1,none⟩)) ?_;have ec:=kZ a;generalize a.eval=ev at *;clear h d;go_simp) ?_;refine oC (fun a y h d=>by have e6:a.eval (.tmp 6)=(.pointer (some ⟨w.heap.size,1,none⟩):Value):=h.of 6;obtain⟨x0,x1⟩:=S.o y h.z;refine ZW (v:=.slice i c.length j) ?_;have ec:=kZ a;generalize a.eval=ev at *;clear h d;go_simp) ?_;refine oC (fun a y h d=>?_) ?_
  ·have e7:a.eval (.tmp 7)=(.slice i c.length j:Value):=h.of 7;refine fI (f:=52) (args:=#[.slice i c.length j]) (bI rfl) ?_ ?_
   ·have ec:=kZ a;have ef:=AO a;generalize a.eval=ev at *;clear h d;go_simp
   refine Calls.mono (a3.o y h.z) ?_;rintro _ y2 ⟨R,v,rfl,X,J,Y,a0⟩;exact⟨_,rfl,fun t ht=>by cases ht;exact bAJ X J Y,a0⟩
  refine oC (fun a y h d=>by have t5:CpU (bV b) y (a.eval (.tmp 5)):=h.of 5;have t8:CpU (bV c) y (a.eval (.tmp 8)):=h.of 8;obtain⟨k,l,m,e5,K⟩:=t5;obtain⟨p,q,r,e8,L⟩:=t8;refine dG (v:=.agg #[.slice k l m, .slice p q r]) (w':=y) (bI rfl) ?_ (fun t ht=>by cases ht;exact⟨_,_,_,_,_,_,rfl,K,L⟩) (aG _ _);have ec:=kZ a;generalize a.eval=ev at *;clear h d;go_simp) ?_;exact OI.nil
 rintro⟨I,P⟩ y s _;obtain⟨k,l,m,p,q,r,e9,K,L⟩:CpR (bV b) (bV c) y (Act.eval ⟨I,P⟩ (.tmp 9)):=s.all 6 _ 9 dE rfl rfl;have e2:Act.eval ⟨I,P⟩ (.tmp 2)=(.pointer (some ⟨w.heap.size+1,0,none⟩):Value):=s.still 2 dE;have G:=(s.z.block _ (aK.1 Q.o).1).trans Q.o;(have z0:y.cell? ⟨w.heap.size+1,0,none⟩=some (.slice none 0 0):=cH G);have y0:=bM G 0;(have k1:(y.setCell ⟨w.heap.size+1,0,none⟩ (.slice k l m)).heap[w.heap.size+1]?=some (.cells #[.slice k l m, .slice none 0 0] 29):=by rw[bD G];rfl);(have z1:(y.setCell ⟨w.heap.size+1,0,none⟩ (.slice k l m)).cell? ⟨w.heap.size+1,1,none⟩=some (.slice none 0 0):=cH k1);have y1:=bM k1 1;show wpOps Tryz.prog _ _ [7] _ _;rw[lH];refine LG rfl (bI rfl) rfl (w':=SR y (w.heap.size+1) (.slice k l m) (.slice p q r)) ?_ ?_
 ·unfold SR;generalize Act.eval ⟨I,P⟩=ev at *;clear s K L;go_simp
 have C:=bB9 (u:=.slice k l m) (v:=.slice p q r) G;have H5:O _:=K.kn C;have H8:O _:=L.kn C;have hh:=DB (u:=.slice k l m) (v:=.slice p q r) G;have HB:O (Below w.heap.size w (SR y (w.heap.size+1) (.slice k l m) (.slice p q r))):=aX6 (a4.o.trans (s.z.mono a4.o.size)) (tC _) _ _;have J:I.getD 2 undef=.pointer (some ⟨w.heap.size+1,0,none⟩):=e2;have a6:=s.size;have a5:=s.still;obtain rfl:P=[]:=s.defers;clear s K L C z0 y0 k1 z1 y1 G e9 e2 S a2 a3 Q;generalize SR y (w.heap.size+1) (.slice k l m) (.slice p q r)=y3 at *;(have t0:y3.cell? ⟨w.heap.size+1,0,none⟩=some (.slice k l m):=cH hh);(have t1:y3.cell? ⟨w.heap.size+1,1,none⟩=some (.slice p q r):=cH hh);clear J;show Exit.then _ _ Exit.normal ⟨I,[]⟩ y3;obtain⟨fQ,hQ,Z⟩:=oR [3,4,5,6,7,8,9] I _ a6 a5;clear a6 a5;simp only[List.foldl_cons,List.foldl_nil]at Z;clear hQ;simp only[List.setIfInBounds_toArray,List.set_cons_zero,List.set_cons_succ]at Z;subst Z;go_wp2_with fail;exact dP (v:=.agg #[.slice k l m, .slice p q r]) (by simp[results,Tryz.results22,go_sem,t0,t1]) rfl ⟨_,rfl,⟨_,_,_,_,_,_,rfl,H5.o,H8.o⟩,HB.o⟩
end Go.Proofs.YtfljoehbbncooaaGreat
namespace Go.Proofs.YtfljoehbbncooaaGreat
open Go.RowKit Go.Maps
theorem aCB{p:bK}{h w:List aX}{f:aQ}(d:f∈dY p h w):∃u,u∈h/\f∈u.says:=by
 have b:=(kG.mp d).1;unfold yI at b;split at b
 ·unfold aE at b;have c:=lM.mp b;unfold rG at c;obtain⟨u,g,e⟩:=jX.mp c;exact⟨u,(kG.mp g).1,e⟩
 cases b
theorem aXP{w:World}{p:bK}{b c:List Uv}(g:∀x,x∈b++c->gM w x):∀f,f∈dY p (bV b) (bV c)->gD f:=fun f d=>by obtain⟨u,i,e⟩:=aCB d;obtain⟨x,j,rfl⟩:=cJ.mp i;exact(g x (eX _ j)).f f e
theorem aXQ{p:bK}{h w:List aX}{S:List aQ}(c:JC p h w (dY p h w) S):(dY p h w).length<=60:=by have b:=xP (WF c.m);exact(uJ b.1 b.2.2.1).1
theorem bBS:(Tryz.prog.info? 29).map (·.size)=some 2:=kR
theorem aMI{w:World}{b:Nat}{u v:Value}(h:w.heap[b]?=some (.cells #[u,v] 29)):(loadVar 29 ⟨b,0,none⟩).run Tryz.prog w=.ok (.agg #[u,v]) w:=by
 have :=run_loadVar_mid (P:=Tryz.prog) w b 0 29 [u,v] _ (fun j v c=>by
  rw[eP,cM h]
  simpa using c) Tryz.underlying29 rfl bBS
 simpa using this
theorem OC{c:Func}{t u s:Tmp}(h:c.results=#[.cell t 29, .tmp u, .tmp s]){tmps:Array Value}{w:World}{b:Nat}{x y:Value}(ht:tmps.getD t undef=.pointer (some ⟨b,0,none⟩))(e:w.heap[b]?=some (.cells #[x,y] 29)):
 (results c tmps).run Tryz.prog w=.ok (.tuple #[.agg #[x,y],tmps.getD u undef,tmps.getD s undef]) w:=by
 have d:=aMI e;(have f:tmps[t]?.getD undef=.pointer (some ⟨b,0,none⟩):=by simpa using ht);simp[results,h,f,asAddr,d]
theorem aK9{N d:Nat}{a b c:World}(h:Below N a b)(k:Vk d b c)(e:N<=d)(g:N<=b.heap.size):Below N a c:=
 h.trans ⟨k.os,k.tape,k.output,k.size,fun j f=>k.block j oM oM⟩
theorem bAE{B:Nat}{w w':World}{v:Value}{d:pX}(h:Nj B w v d)(g:w.grownBy w' v.ownBlock):∃F,B<=F/\Cl F w w':=by
 obtain⟨q,_,f,i,_⟩:=h
 cases c:v.ownBlock with
 |none=>
  refine⟨B+w.heap.size,Sy _ _,fun b o x _ e=>g.cell e (by rw[c];simp),fun o x e=>?_⟩;have :=jR _ _ e;dsimp only at this;omega
 |some k=>
  exact⟨k,(f.lt k c).1,fun b o x j e=>g.cell e (by rw[c];simpa using j),fun o x e=>i k c o x e⟩
theorem bBR{B b:Nat}{w:World}{v:Value}{c:pX}(h:Nj B w v c)(f:b<B):some b≠v.ownBlock:=fun e=>by obtain⟨q,_,d,_⟩:=h;have :=(d.lt b e.symm).1;omega
theorem bEE(w:World):CpR [] [] w (.agg #[.slice none 0 0, .slice none 0 0]):=⟨_,_,_,_,_,_,rfl,⟨[],xZ w,(fun _ h=>by cases h),rfl⟩,⟨[],xZ w,(fun _ h=>by cases h),rfl⟩⟩
structure DvI (p:bK) (hq wq lq:List Uv) (S:List aQ) (w:World) (VB:Nat) (va vn vr:Value) (i:Nat) (y:World) (vc:Value) (hq' wq':List Uv) (S':List aQ) (hv' wv' vR' vO':Value) (cs:pX):Prop where
 le:i<=lq.length
 st:VSt p VB hq' wq' (dY p (bV hq') (bV wq')) S' hv' wv' va vn vr vR' vO' y
 inv:JC p (bV hq') (bV wq') (dY p (bV hq') (bV wq')) S'
 co:PU p (bV hq) (bV wq) S (bV lq) i (bV hq') (bV wq') S' cs
 len:cs.length=i
 ch:Nj (VB+1) y vc cs
 bl:Below w.heap.size w y
 rb:y.heap[w.heap.size+1+1]?=some (.cells #[.slice none 0 0, .slice none 0 0] 29)
theorem VSt.z{p:bK}{b:Nat}{d i:List Uv}{R S:List aQ}{e j va vn vr g f:Value}{w z:World}(h:VSt p b d i R S e j va vn vr g f w)(c:Below w.heap.size w z):VSt p b d i R S e j va vn vr g f z:=⟨(c.block _ (cV h.box)).trans h.box,h.pt.z c⟩
theorem VSt.sb{p:bK}{c:Nat}{e j:List Uv}{R S:List aQ}{f k va vn vr i g:Value}{w:World}(h:VSt p c e j R S f k va vn vr i g w):MA c w:=by obtain⟨d,b⟩:=h;obtain⟨_,_,rfl,_⟩:=id b.V;obtain⟨_,_,rfl,_⟩:=id b.W;obtain⟨_,_,rfl,_⟩:=id b.P.ar;obtain⟨_,_,rfl,_⟩:=id b.P.nm;obtain⟨_,_,rfl,_⟩:=id b.P.rl;obtain⟨_,_,rfl,_⟩:=id b.FR;obtain⟨_,_,rfl,_⟩:=id b.FS;exact OD d
theorem DvI.alloc{p:bK}{f q k:List Uv}{S:List aQ}{w:World}{d:Nat}{va vn vr:Value}{i:Nat}{y:World}{n:Value}{g r:List Uv}{c:List aQ}{j s m l:Value}{e:pX}(h:DvI p f q k S w d va vn vr i y n g r c j s m l e)(o:Obj):DvI p f q k S w d va vn vr i (y.alloc o) n g r c j s m l e:=
 have b:Below y.heap.size y (y.alloc o):=eB y o
 ⟨h.le,h.st.z b,h.inv,h.co,h.len,h.ch.z b,h.bl.trans (b.mono h.bl.size),(b.block _ (cV h.rb)).trans h.rb⟩
theorem aTV{b:List Uv}{i:Nat}(c:i<b.length)(e:i<(bV b).length):(bV b)[i]=(jL b i).u:=by(have d:(bV b)[i]?=some (jL b i).u:=by show(b.map (·.u))[i]?=_;rw[dW,aM c];simp[jL,c]);rw[aM e]at d;injection d
theorem DvI.on{p:bK}{G R c:List Uv}{S:List aQ}{w:World}{b:Nat}{va vn vr:Value}{i:Nat}{y z:World}{C Q:Value}{H U l n:List Uv}{r T:List aQ}{a2 a5 a4 a3 L V P N:Value}{f:pX}
 (h:DvI p G R c S w b va vn vr i y C H U r a2 a5 a4 a3 f) (s:i<c.length) (hN:w.heap.size+3<=b) {d:World} (x:Vk b y d) {e:World} (g:Below d.heap.size d e) (M:VSt p b l n (dY p (bV l) (bV n)) T L V va vn vr P N d)
 (o:WC p (bV H) (bV U) (jL c i).u (bV l) (bV n) T) (j:Nj (b+1) e C f) (hg:e.grownBy z C.ownBlock) (Z:Nj (b+1) z Q (f++[WD T r])):DvI p G R c S w b va vn vr (i+1) z Q l n T L V P N (f++[WD T r]):=by
 have a6:=cV M.box;have a7:=g.size;have X:=h.bl.size;have D:Below w.heap.size w d:=aK9 h.bl x oM X;have E:Below w.heap.size w e:=D.trans (g.mono D.size);obtain⟨F,hF,Y⟩:=bAE j hg;have J:=M.z g;have I:e.heap[w.heap.size+1+1]?=some (.cells #[.slice none 0 0, .slice none 0 0] 29):=(g.block _ (by have :=cV h.rb;have :=x.size;omega)).trans ((x.block _ (cV h.rb) oM).trans h.rb);(have K:i<(bV c).length:=by rw[eH];exact s);have a1:=aTV s K;refine⟨s,⟨(hg.block b oM (bBR j oM)).trans J.box,J.pt.cl Y⟩,⟨h.inv.cp,LA h.inv.cd o.ad o.is,rfl,o.m⟩,?_,?_,Z,E.grown hg E.size (fun k a0=>?_),(hg.block _ (cV I) (bBR j oM)).trans I⟩
 ·exact aKU K h.co (by rw[a1];exact o)
 ·rw[aV,h.len];rfl
 obtain⟨q,_,W,_⟩:=j;have :=(W.lt k a0).1;omega
theorem TQ(p:bK)(f g d:List Uv)(hv wv lv va vn vr:Value)(w:World)(hP:nV w va vn vr p)(hF:lR p)(bk:mM w vr)(hV:iI w hv f)(wV:iI w wv g)(lV:iI w lv d)(hl:f.length<=4611686018427387903/\g.length<=4611686018427387903)(d6:d.length<=4611686018427387903)(bn:∀x,x∈f++g->gM w x)(cr:∀x,x∈d->gM w x):
 Calls Tryz.prog 7 #[gU va vn vr,mU hv wv,lv] w fun e w'=>∃vx vc c X l s,e=.returned (.tuple #[vx,vc, .int .i64 c])/\DK p (bV f) (bV g) (bV d) c X l s/\CpR X l w' vx/\Nj w.heap.size w' vc s/\Below w.heap.size w w':=by
 have HO:O (∀z,Below w.heap.size w z->Calls Tryz.prog 20 #[gU va vn vr,mU hv wv] z fun e w'=>∃a3 a4 az aJ aL vR vO c R S,e=.returned (.tuple #[vwV a3 a4 az aJ aL vR vO, .int .i64 c])/\sG p (bV f) (bV g) c R S/\bS w' vR R/\bS w' vO S/\(Sl a3/\Sl a4/\Sl az/\Sl aJ/\Sl aL)/\(c=0->a3=hv/\a4=wv/\az=va/\aJ=vn/\aL=vr)/\Below z.heap.size z w'):=fun z m=>aAB p f g hv wv va vn vr z (hP.z m) hF (bk.z hP.rl m) (hV.kc (Kc.z m)) (wV.kc (Kc.z m)) hl (fun x F=>(bn x F).z m);have ce:O (∀z R S vR vO,Below w.heap.size w z->bS z vR R->bS z vO S->VPt p f g R S hv wv va vn vr vR vO z):=fun z R S vR vO m X h2=>⟨hV.kc (Kc.z m),wV.kc (Kc.z m),fun x F=>(bn x F).z m,hP.z m,bk.z hP.rl m,X,h2⟩;have cG:O (∀z,Below w.heap.size w z->iI z lv d/\∀x,x∈d->gM z x):=fun z m=>⟨lV.kc (Kc.z m),fun x F=>(cr x F).z m⟩;have cF:O (lR p):=hF;obtain⟨a0,n0,rfl,_⟩:=id hP.ar;obtain⟨a1,n1,rfl,_⟩:=id hP.nm;obtain⟨a2,n2,rfl,_⟩:=id hP.rl;obtain⟨ah,ch,rfl,_,_⟩:=hV;obtain⟨aw,cw,rfl,_,_⟩:=wV;obtain⟨al,cl,rfl,_,_⟩:=lV;clear bn cr hP hF bk hl;have bZ:O (∀A B C:Obj,(((w.alloc A).alloc B).alloc C).heap[w.heap.size]?=some A/\(((w.alloc A).alloc B).alloc C).heap[w.heap.size+1]?=some B/\(((w.alloc A).alloc B).alloc C).heap[w.heap.size+1+1]?=some C/\Below w.heap.size w (((w.alloc A).alloc B).alloc C)/\(((w.alloc A).alloc B).alloc C).heap.size=w.heap.size+1+1+1):=fun A B C=>by
  refine⟨?_,?_,?_,(((aG _ _).alloc (aH _) _).alloc sI _).alloc sO _,by simp⟩
  ·show(((w.heap.push A).push B).push C)[w.heap.size]?=_;rw[iK,if_neg sO,iK,if_neg sI,iK,if_pos rfl]
  ·show(((w.heap.push A).push B).push C)[w.heap.size+1]?=_;rw[iK,if_neg sI,iK,if_pos sI]
  show(((w.heap.push A).push B).push C)[w.heap.size+1+1]?=_;rw[iK,if_pos sI]
 obtain⟨ct,cu,cv,cx,cy⟩:=bZ.o (pB a0 n0 a1 n1 a2 n2 p) (.cells #[.slice ah f.length ch, .slice aw g.length cw] 29) (.cells #[.slice none 0 0, .slice none 0 0] 29);have au:O _:=ct;have b9:O _:=cu;have ba:O _:=cv;have ao:O _:=cx;have c6:O _:=cy;clear ct cu cv cx cy bZ
 go_enter Tryz.func7,Tryz.ntmps7
 go_upto_region 1 with fail;generalize ((w.alloc (pB a0 n0 a1 n1 a2 n2 p)).alloc (.cells #[.slice ah f.length ch, .slice aw g.length cw] 29)).alloc (.cells #[.slice none 0 0, .slice none 0 0] 29)=w0 at *;(have c0:w0.cell? ⟨w.heap.size,0,none⟩=some (.slice a0 p.x.length n0):=cH au.o);(have c1:w0.cell? ⟨w.heap.size,1,none⟩=some (.slice a1 p.r.length n1):=cH au.o);(have c2:w0.cell? ⟨w.heap.size,2,none⟩=some (.slice a2 p.y.length n2):=cH au.o);(have c3:w0.cell? ⟨w.heap.size+1,0,none⟩=some (.slice ah f.length ch):=cH b9.o);(have c4:w0.cell? ⟨w.heap.size+1,1,none⟩=some (.slice aw g.length cw):=cH b9.o);go_wp2_with fail;refine Calls.mono (HO.o _ ao.o) ?_;rintro e l ⟨a3,a4,az,aJ,aL,vR,vO,c,R,S,rfl,hR,bq,bp,⟨⟨b0,m0,k0,rfl⟩,⟨b1,m1,k1,rfl⟩,⟨b2,m2,k2,rfl⟩,⟨b3,m3,k3,rfl⟩,⟨b4,m4,k4,rfl⟩⟩,h0,hb⟩;obtain⟨b5,k5,rfl,_,_⟩:=id bq;obtain⟨b6,k6,rfl,_,_⟩:=id bp;have HR:O _:=hR;have H0:O _:=h0;have cf:O (bS l (.slice b5 R.length k5) R):=bq;have cb:O (bS l (.slice b6 S.length k6) S):=bp;have aO:O (Below w.heap.size w l):=ao.o.trans (hb.mono ao.o.size);have be:O (l.heap[w.heap.size+1+1]?=some (.cells #[.slice none 0 0, .slice none 0 0] 29)):=(hb.block _ (cV ba.o)).trans ba.o;(have c7:O (w.heap.size+3<=l.heap.size):=by have X:=hb.size;have h2:=c6.o;show _<=_;omega);clear hR bq bp hb HO c0 c1 c2 c3 c4 h0 au b9 ba c6 ao;unfold vwV;have bh:O ((l.alloc (.cells #[.slice b0 m0 k0, .slice b1 m1 k1, .slice b2 m2 k2, .slice b3 m3 k3, .slice b4 m4 k4, .slice b5 R.length k5, .slice b6 S.length k6] 58)).heap[l.heap.size]?=some (.cells #[.slice b0 m0 k0, .slice b1 m1 k1, .slice b2 m2 k2, .slice b3 m3 k3, .slice b4 m4 k4, .slice b5 R.length k5, .slice b6 S.length k6] 58)):=bA l _;have aa:O (Below l.heap.size l (l.alloc (.cells #[.slice b0 m0 k0, .slice b1 m1 k1, .slice b2 m2 k2, .slice b3 m3 k3, .slice b4 m4 k4, .slice b5 R.length k5, .slice b6 S.length k6] 58))):=eB l _;go_upto_region 2 with fail;generalize l.alloc (.cells #[.slice b0 m0 k0, .slice b1 m1 k1, .slice b2 m2 k2, .slice b3 m3 k3, .slice b4 m4 k4, .slice b5 R.length k5, .slice b6 S.length k6] 58)=H at *;have U:O (H.heap[w.heap.size+1+1]?=some (.cells #[.slice none 0 0, .slice none 0 0] 29)):=(aa.o.block _ (cV be.o)).trans be.o;have ae:O (Below w.heap.size w H):=aO.o.trans (aa.o.mono aO.o.size);have bd:O (bS H (.slice b5 R.length k5) R/\bS H (.slice b6 S.length k6) S):=⟨bQ cf.o aa.o,bQ cb.o aa.o⟩;obtain⟨q,bj⟩:∃q,q=l.heap.size:=⟨_,rfl⟩;(have am:O (w.heap.size+3<=q):=by rw[bj];exact c7.o);rw[<-bj]at bh ⊢;clear bj cf cb be aO aa c7
 have af:O (∀(z:World)(c:Int),Below w.heap.size w z->NQ p (bV f) (bV g) (bV d) c->DK p (bV f) (bV g) (bV d) c [] [] []/\CpR [] [] (SR z (w.heap.size+1+1) (.slice none 0 0) (.slice none 0 0)) (.agg #[.slice none 0 0, .slice none 0 0])/\Nj w.heap.size (SR z (w.heap.size+1+1) (.slice none 0 0) (.slice none 0 0)) (.slice none 0 0) []/\Below w.heap.size w (SR z (w.heap.size+1+1) (.slice none 0 0) (.slice none 0 0))):=fun z c m G=>
  ⟨.inl ⟨G,rfl,rfl,rfl⟩,bEE _,aTD _ _,(m.setCell (p:=⟨w.heap.size+1+1,0,none⟩) (by show w.heap.size<=w.heap.size+1+1;omega) _).setCell (p:=⟨w.heap.size+1+1,1,none⟩) (by show w.heap.size<=w.heap.size+1+1;omega) _⟩
 by_cases G:c=0;rotate_left
 ·(have cT:(c != 0)=true:=by simpa using G);have HV:O (NQ p (bV f) (bV g) (bV d) c):=⟨G, .inl ⟨R,S,HR.o⟩⟩;(have q0:H.cell? ⟨w.heap.size+1+1,0,none⟩=some (.slice none 0 0):=cH U.o);(have q1:H.cell? ⟨w.heap.size+1+1,1,none⟩=some (.slice none 0 0):=cH U.o);have f0:∀k,H.frozen? ⟨w.heap.size+1+1,k,none⟩=false:=fun k=>bM U.o k;clear G;go_wp2_with fail;refine dP (OC rfl rfl (DB (u:=.slice none 0 0) (v:=.slice none 0 0) U.o)) rfl ?_;exact⟨_,_,_,[],[],[],rfl,af.o _ _ ae.o HV.o⟩
 subst G;obtain⟨e0,e1,e2,e3,e4⟩:=H0.o rfl;cases e0;cases e1;cases e2;cases e3;cases e4;have HZ:O _:=CG HR.o;have cO:=HZ.o.2.2.1;have bU:O (JC p (bV f) (bV g) R S):=aKX HR.o;have bc:O (sG p (bV f) (bV g) 0 R S):=HR.o;clear H0 HR HZ;subst cO;by_cases bm:200<d.length
 ·have HV:O (NQ p (bV f) (bV g) (bV d) 2):=⟨dE, .inr ⟨S,bc.o, .inl ⟨by rw[eH];exact bm,rfl⟩⟩⟩;(have q0:H.cell? ⟨w.heap.size+1+1,0,none⟩=some (.slice none 0 0):=cH U.o);(have q1:H.cell? ⟨w.heap.size+1+1,1,none⟩=some (.slice none 0 0):=cH U.o);have f0:∀k,H.frozen? ⟨w.heap.size+1+1,k,none⟩=false:=fun k=>bM U.o k;have cN:decide ((200:Int)<(d.length:Int))=true:=aP oM;clear bm;go_wp2_with fail;refine dP (OC rfl rfl (DB (u:=.slice none 0 0) (v:=.slice none 0 0) U.o)) rfl ?_;exact⟨_,_,_,[],[],[],rfl,af.o _ _ ae.o HV.o⟩
 have cN:decide ((200:Int)<(d.length:Int))=false:=aF oM;have b8:O (d.length<=200):=by show _<=_;omega
 have aT:O (DvI p f g d S w q (.slice a0 p.x.length n0) (.slice a1 p.r.length n1) (.slice a2 p.y.length n2) 0 H (.slice none 0 0) f g S (.slice ah f.length ch) (.slice aw g.length cw) (.slice b5 (dY p (bV f) (bV g)).length k5) (.slice b6 S.length k6) []):=
  ⟨bL _,⟨bh.o,ce.o H _ _ _ _ ae.o bd.o.1 bd.o.2⟩,bU.o,aHC _ _ _ _ _,rfl,aTD _ _,ae.o,U.o⟩
 clear bm bh ce ae bd U bU;go_upto_region 8 with fail;go_loopw [11,32] (fun vc iv wr=>∃(k:Nat)(Y Z:List Uv)(E:List aQ)(s:pX)(a3 a4 bt bs:Value),iv=.int .i64 k/\DvI p f g d S w q (.slice a0 p.x.length n0) (.slice a1 p.r.length n1) (.slice a2 p.y.length n2) k wr vc Y Z E a3 a4 bt bs s) (fun _ iv _=>d.length-(intOf iv).toNat);case atStart=>exact⟨0,_,_,_,_,_,_,_,_,rfl,aT.o⟩
 case round=>
  obtain⟨k,Y,Z,E,s,a3,a4,bt,bs,rfl,hI⟩:=hrel;have i:O _:=hI;obtain⟨ac,cc,rfl⟩:=hI.ch.sl;clear hI;by_cases a7:k<d.length
  ·obtain⟨d5,cq⟩:=cG.o wr i.o.bl;obtain⟨_,_,e9,_,cj⟩:=d5;cases e9;obtain⟨b,d7,rfl,c0,c1,c2,c3,c4⟩:=tS cj k a7;have F:=cq _ (mG d k a7);have c8:O (∃x,x=jL d k):=⟨_,rfl⟩;obtain⟨x,br⟩:=c8.o;have bi:O (x=jL d k):=br;rw[<-br]at c0 c1 c2 c3 c4 F;obtain⟨K,l1,d1,L,l2,d2,g4,l4,d4,e1,e2,e3⟩:=F.forms;rw[e1]at c2;rw[e2]at c3;rw[e3]at c4;(have c9:O (mA x=.agg #[.int .i64 x.u.id.a, .int .i64 x.u.id.n, .slice K l1 d1, .slice L l2 d2, .slice g4 l4 d4]):=by show _=_;simp[mA,e1,e2,e3]);have HX:O (gM wr x):=F;clear cj F cq c8 br e1 e2 e3;have a6:O ((wr.alloc (.cells #[.int .i64 x.u.id.a, .int .i64 x.u.id.n, .slice K l1 d1, .slice L l2 d2, .slice g4 l4 d4] 42)).heap[wr.heap.size]?=some (.cells #[.int .i64 x.u.id.a, .int .i64 x.u.id.n, .slice K l1 d1, .slice L l2 d2, .slice g4 l4 d4] 42)):=bA wr _;have bu:O (Below wr.heap.size wr (wr.alloc (.cells #[.int .i64 x.u.id.a, .int .i64 x.u.id.n, .slice K l1 d1, .slice L l2 d2, .slice g4 l4 d4] 42))):=eB wr _;have D:O _:=i.o.alloc (.cells #[.int .i64 x.u.id.a, .int .i64 x.u.id.n, .slice K l1 d1, .slice L l2 d2, .slice g4 l4 d4] 42);go_upto_region 10 with fail;generalize wr.alloc (.cells #[.int .i64 x.u.id.a, .int .i64 x.u.id.n, .slice K l1 d1, .slice L l2 d2, .slice g4 l4 d4] 42)=w5 at *;have hd:=aLO p q Y Z E a3 a4 _ _ _ bt bs x w5 cF.o D.o.st D.o.inv (HX.o.z bu.o) ⟨aXP D.o.st.pt.ok,by have :=aXQ D.o.inv;omega⟩;rw[c9.o]at hd;have bT:O _:=hd;clear hd c0 c1 c2 c3 c4;(have q0:w5.cell? ⟨wr.heap.size,0,none⟩=some (.int .i64 x.u.id.a):=cH a6.o);(have q1:w5.cell? ⟨wr.heap.size,1,none⟩=some (.int .i64 x.u.id.n):=cH a6.o);(have q2:w5.cell? ⟨wr.heap.size,2,none⟩=some (.slice K l1 d1):=cH a6.o);(have q3:w5.cell? ⟨wr.heap.size,3,none⟩=some (.slice L l2 d2):=cH a6.o);(have q4:w5.cell? ⟨wr.heap.size,4,none⟩=some (.slice g4 l4 d4):=cH a6.o);go_wp2_with fail;refine Calls.mono bT.o ?_;rintro e z ⟨I,P,M,J,Q,N,cE,rfl,an,cU,cm⟩;have ca:O (Vk q w5 z):=an;have aR:O _:=cm;have bf:O (z.heap[w.heap.size+1+1]?=some (.cells #[.slice none 0 0, .slice none 0 0] 29)):=(an.block _ (cV D.o.rb) (by have :=am.o;omega)).trans D.o.rb;have ad:O (Below w.heap.size w z):=aK9 D.o.bl an (by have :=am.o;omega) D.o.bl.size;have aS:O (Nj (q+1) z (.slice ac s.length cc) s):=D.o.ch.vk an D.o.st.sb (Sz _);clear an cU cm bT q0 q1 q2 q3 q4 a6;have bb:O ((z.alloc (.cells #[.slice I P M, .slice J Q N] 47)).heap[z.heap.size]?=some (.cells #[.slice I P M, .slice J Q N] 47)):=bA z _;have a5:O (Below z.heap.size z (z.alloc (.cells #[.slice I P M, .slice J Q N] 47))):=eB z _;go_upto_region 11 with fail;generalize z.alloc (.cells #[.slice I P M, .slice J Q N] 47)=j at *;have bv:O (Below w.heap.size w j):=ad.o.trans (a5.o.mono ad.o.size);have aj:O (j.heap[w.heap.size+1+1]?=some (.cells #[.slice none 0 0, .slice none 0 0] 29)):=(a5.o.block _ (cV bf.o)).trans bf.o;by_cases G:cE=0;rotate_left
   ·(have cT:(cE != 0)=true:=by simpa using G);(have bo:k<(bV d).length:=by rw[eH];exact a7);have HV:O (NQ p (bV f) (bV g) (bV d) cE):=by
     have hd:RZ p (bV Y) (bV Z) (bV d)[k] cE:=by
      rw[aTV a7 bo,<-bi.o];rcases aR.o with h|⟨h,_⟩
      ·exact h
      exact absurd h G
     obtain⟨c2,h2⟩:=aHB bo i.o.co hd [] [] [];exact⟨G, .inr ⟨S,bc.o, .inr ⟨by rw[eH];exact b8.o,_,_,_,_,h2⟩⟩⟩
    (have q0:j.cell? ⟨w.heap.size+1+1,0,none⟩=some (.slice none 0 0):=cH aj.o);(have q1:j.cell? ⟨w.heap.size+1+1,1,none⟩=some (.slice none 0 0):=cH aj.o);have f0:∀k,j.frozen? ⟨w.heap.size+1+1,k,none⟩=false:=fun k=>bM aj.o k;clear G bo;go_wp2_with fail;refine dP (OC rfl rfl (DB (u:=.slice none 0 0) (v:=.slice none 0 0) aj.o)) rfl ?_;exact⟨_,_,_,[],[],[],rfl,af.o _ _ bv.o HV.o⟩
   subst G;have bz:O (∃av aN ay ax a8 a9 T,VSt p q a8 a9 (dY p (bV a8) (bV a9)) T av aN (.slice a0 p.x.length n0) (.slice a1 p.r.length n1) (.slice a2 p.y.length n2) ay ax z/\WC p (bV Y) (bV Z) x.u (bV a8) (bV a9) T/\bS z (.slice I P M) (eM T E)/\bS z (.slice J Q N) (eM E T)):=by
    rcases aR.o with h|⟨_,X,h2,h3,h4,h5,h6,T,h7,h8,h9,cL,_⟩
    ·exact absurd rfl h.1
    exact⟨X,h2,h3,h4,h5,h6,T,h7,h8,h9,cL⟩
   obtain⟨av,aN,ay,ax,a8,a9,T,k1,k2,k3,k4⟩:=bz.o;have bg:O _:=k1;have c5:O _:=k2;have b7:O (bS j (.slice I P M) (eM T E)/\bS j (.slice J Q N) (eM E T)):=⟨bQ k3 a5.o,bQ k4 a5.o⟩;clear k1 k2 k3 k4 aR bz;(have q0:j.cell? ⟨z.heap.size,0,none⟩=some (.slice I P M):=cH bb.o);(have q1:j.cell? ⟨z.heap.size,1,none⟩=some (.slice J Q N):=cH bb.o);have bW:O ((j.alloc (.cells #[.slice I P M, .slice J Q N] 47)).heap[j.heap.size]?=some (.cells #[.slice I P M, .slice J Q N] 47)):=bA j _;have aq:O (Below j.heap.size j (j.alloc (.cells #[.slice I P M, .slice J Q N] 47))):=eB j _;have ab:O (Below z.heap.size z (j.alloc (.cells #[.slice I P M, .slice J Q N] 47))):=a5.o.trans (aq.o.mono a5.o.size);have cR:q<z.heap.size:=cV bg.o.box;have d3:=ab.o.size;go_upto_region 13 with fail;go_wp2_with(at_builtin;refine aC5 rfl (.tmp 45) (.tmp 47) rfl (q+1) oM _ s rfl (aS.o.z ab.o) j.heap.size _ _ (eM T E) (eM E T) rfl bW.o (bQ b7.o.1 aq.o) (bQ b7.o.2 aq.o) (by have :=b8.o;have :=D.o.len;omega) ?_);intro v' w' ck cp cS;have cK:O (DvI p f g d S w q (.slice a0 p.x.length n0) (.slice a1 p.r.length n1) (.slice a2 p.y.length n2) (k+1) w' v' a8 a9 T av aN ay ax (s++[WD T E])):=D.o.on a7 am.o ca.o ab.o bg.o (by rw[<-bi.o];exact c5.o) (aS.o.z ab.o) cp ck;clear ck cp cS d3 cR ab aq bW b7 c5 bg aj bv a5 bb aS ad bf ca D bu HX c9 bi i aT af q0 q1;go_wp2_with fail;go_roundw;(case rel=>exact⟨k+1,a8,a9,T,s++[WD T E],av,aN,ay,ax,gN,cK.o⟩);case measure=>exact mI
  have cD:O (xG p (bV f) (bV g) S (bV d) 0 (bV Y) (bV Z) E s):=aHA (by rw[eH];omega) i.o.co;obtain⟨ag,cg,rfl,_⟩:=id i.o.st.pt.V;obtain⟨ai,ci,rfl,_⟩:=id i.o.st.pt.W;have ho:=lK.mp i.o.inv.cd;have cn:=ho.few;rw[eH,eH]at cn;have bw:O _:=aI7 Y Z _ _ wr i.o.st.pt.V i.o.st.pt.W ⟨oM,oM⟩ (fun x F=>⟨i.o.st.pt.ok x F,JO (ho.each x.u (by
   rcases cW.mp F with h|h
   ·exact eX _ (nW h)
   exact gE _ (nW h)))⟩)
  clear ho cn;(have q0:wr.cell? ⟨q,0,none⟩=some (.slice ag Y.length cg):=cH i.o.st.box);(have q1:wr.cell? ⟨q,1,none⟩=some (.slice ai Z.length ci):=cH i.o.st.box);have d0:decide (k<d.length)=false:=aF a7;have d1:decide ((k:Int)<(d.length:Int))=false:=aF oM;go_wp2_with fail;refine Calls.mono bw.o ?_;rintro e z ⟨v,rfl,⟨x1,m1,K,x2,m2,L,rfl,X,h2⟩,hb⟩;have ak:O (z.heap[w.heap.size+1+1]?=some (.cells #[.slice none 0 0, .slice none 0 0] 29)):=(hb.block _ (cV i.o.rb)).trans i.o.rb;have bN:O (CpV (bV Y) z (.slice x1 m1 K)/\CpV (bV Z) z (.slice x2 m2 L)):=⟨X,h2⟩;have cz:O (Nj (q+1) z (.slice ac s.length cc) s):=i.o.ch.z hb;have ad:O (Below w.heap.size w z):=i.o.bl.trans (hb.mono i.o.bl.size);clear X h2 hb bw q0 q1 i aT af d0 d1;(have r0:z.cell? ⟨w.heap.size+1+1,0,none⟩=some (.slice none 0 0):=cH ak.o);(have r1:z.cell? ⟨w.heap.size+1+1,1,none⟩=some (.slice none 0 0):=cH ak.o);have f0:∀k,z.frozen? ⟨w.heap.size+1+1,k,none⟩=false:=fun k=>bM ak.o k;go_wp2_with fail;refine dP (OC rfl rfl (DB (u:=.slice x1 m1 K) (v:=.slice x2 m2 L) ak.o)) rfl ?_;have hk:=(aIR (u:=.slice x1 m1 K) (v:=.slice x2 m2 L) ak.o);refine⟨_,_,0,bV Y,bV Z,s,rfl, .inr ⟨rfl,S,E,bc.o,by rw[eH];exact b8.o,cD.o⟩,⟨_,_,_,_,_,_,rfl,bN.o.1.kn hk.kn,bN.o.2.kn hk.kn⟩,(cz.o.vk (aSN _ _ _ _ _ (.inr rfl)) hk.no (by have :=am.o;omega)).le (by have :=am.o;omega),(ad.o.setCell (p:=⟨w.heap.size+1+1,0,none⟩) (by show w.heap.size<=w.heap.size+1+1;omega) _).setCell (p:=⟨w.heap.size+1+1,1,none⟩) (by show w.heap.size<=w.heap.size+1+1;omega) _⟩
end Go.Proofs.YtfljoehbbncooaaGreat
namespace Go.Proofs.YtfljoehbbncooaaGreat
open Go.RowKit
def sZ:List aQ:=[⟨0,[1,2]⟩,⟨0,[2,3]⟩]
theorem aAC:∀f,f∈sZ->gD f:=by intro f b;simp only[sZ,List.mem_cons,List.not_mem_nil,or_false]at b;rcases b with rfl|rfl<;>exact(by decide:(2:Nat)<=9223372036854775807)
theorem LO:dB jQ=0:=kR
theorem aFQ(o:List aQ)(h:lY jQ o=0):bX jQ sZ o=0:=by unfold bX;rw[h];kernel_rfl
def kJ:cA:=dX jQ.y 0
def gB:cA:=dX jQ.y 1
theorem oK{r:cA}(h:r∈jQ.y):r=kJ\/r=gB:=by
 rcases eA.mp h with h|h
 ·exact .inl h
 rcases eA.mp h with h|h
 ·exact .inr h
 cases h
theorem Vf:kJ∈jQ.y:=dL
theorem aZK:gB∈jQ.y:=bY _ dL
theorem IQ:kY jQ kJ.g=0:=kR
theorem PR:kY jQ gB.g=0:=kR
def Fb:List aQ:=[⟨0,[1,2]⟩,⟨0,[2,3]⟩,⟨1,[1,2]⟩,⟨1,[2,3]⟩]
theorem aFR:eZ sZ=sZ:=kR
theorem aPA:jS sZ (cZ sZ kJ)=Fb:=kR
theorem aO5:jS Fb (cZ Fb gB)=qL:=kR
theorem aO6:cZ qL kJ=[⟨1,[1,2]⟩,⟨1,[2,3]⟩]:=kR
theorem aO7:cZ qL gB=[⟨1,[1,3]⟩]:=kR
theorem aO8:(kF qL kJ).length=2:=kR
theorem aO9:(kF qL gB).length=1:=kR
theorem aBF:kL jQ 0 sZ qL:=by have b:=kL.step kL.refl (AQ (p:=jQ) (T:=sZ) Vf IQ);rw[aPA]at b;have c:=kL.step b (AQ (p:=jQ) (T:=Fb) aZK PR);rw[aO5]at c;exact c
theorem aBE:pR jQ sZ (some qL):=by
 have e:jQ.x.length=2:=rfl;unfold pR;rw[e,aFR];refine⟨some qL,⟨some sZ,rfl,?_⟩,?_⟩
 ·refine⟨aBF,fun r d _ f b=>?_,dE,fun r d _=>?_⟩
  ·rcases oK d with rfl|rfl
   ·rw[aO6]at b;rcases eA.mp b with rfl|b
    ·exact bY _ (bY _ dL)
    rcases eA.mp b with rfl|b
    ·exact bY _ (bY _ (bY _ (bY _ dL)))
    cases b
   rw[aO7]at b;rcases eA.mp b with rfl|b
   ·exact bY _ (bY _ (bY _ dL))
   cases b
  rcases oK d with rfl|rfl
  ·rw[aO8];decide
  rw[aO9];decide
 refine⟨kL.refl,fun r d c=>?_,dE,fun r d c=>?_⟩
 ·rcases oK d with rfl|rfl
  ·rw[IQ]at c;cases c
  rw[PR]at c;cases c
 rcases oK d with rfl|rfl
 ·rw[IQ]at c;cases c
 rw[PR]at c;cases c
theorem QT{o:List aQ}(h:lY jQ o=0):lE jQ sZ o 0 qL:=.inr ⟨aFQ o h,some qL,aBE,rfl,rfl⟩
theorem aJM:eZ qL=qL:=kR
theorem aXH(w:World):Calls Tryz.prog 45 #[] w fun e g=>∃v,e=.returned v/\bS g v sZ/\Below w.heap.size w g:=by
 have x:O (∀(p:Int)(a:Option Addr)(n c:Nat)(w:World),Calls Tryz.prog 43 #[.int .i64 p, .slice a n c] w fun e g=>e=.returned (lT p (.slice a n c))/\Below w.heap.size w g):=MG
 go_enter Tryz.func45,Tryz.ntmps45
 go_wp2_with fail;have s:O _:=AG w 1 2;have d:O _:=eB w (.cells #[.int .i64 1, .int .i64 2] 3);generalize l:w.heap.size=k at *;generalize w.alloc (.cells #[.int .i64 1, .int .i64 2] 3)=H at *;refine Calls.mono (x.o _ _ _ _ _) ?_;rintro _ b ⟨rfl,m⟩;have C:O _:=bC s.o m;have i:O (Below k w b):=d.o.trans (m.mono (by rw[<-l];rw[<-l]at d;exact d.o.size));clear m s d;go_wp2_with fail;have u:O _:=AG b 2 3;have D:O _:=bC C.o (eB b (.cells #[.int .i64 2, .int .i64 3] 3));have j:O (Below k w (b.alloc (.cells #[.int .i64 2, .int .i64 3] 3))):=i.o.trans ((eB b _).mono (by have :=i.o.size;omega));clear C i;generalize G:b.heap.size=F at *;generalize b.alloc (.cells #[.int .i64 2, .int .i64 3] 3)=I at *;refine Calls.mono (x.o _ _ _ _ _) ?_;rintro _ q ⟨rfl,f⟩;have E:O _:=Ym q ⟨0,[1,2]⟩ ⟨0,[2,3]⟩ _ _ (bC D.o f) (bC u.o f);have r:O (Below k w q):=j.o.trans (f.mono (by have :=j.o.size;omega));clear f u D j;go_wp2_with fail;go_ret;exact⟨_,rfl,E.o,by rw[l];exact r.o.trans ((eB q _).mono (by have :=r.o.size;omega))⟩
theorem aQS{w:World}{b off n cap:Nat}{l:List aQ}(h:bS w (.slice (some ⟨b,off,none⟩) n cap) l)(i j c:Nat)(H:i+j<=l.length)(u:j<=c):bS w (.slice (some ⟨b,off+i*2,none⟩) j c) ((l.drop i).take j):=by obtain⟨C,E,x,_,r⟩:=h;injection x with g F G;subst g;(have e:((l.drop i).take j).length=j:=by rw[dV,xJ];omega);refine⟨some ⟨b,off+i*2,none⟩,c,by rw[e],⟨by rw[e];exact u,fun h=>by cases h⟩, .inr ⟨b,off+i*2,rfl,fun k f=>?_⟩⟩;rw[e]at f;obtain⟨D,I,d,s⟩:=nM r (i+k) oM;injection d with d;injection d with m p;subst m p;(have q:bF ((l.drop i).take j) k=bF l (i+k):=by unfold bF;rw[aI,jA,if_pos f,Dk,aI]);rw[q,show off+i*2+k*2=off+(i+k)*2 by omega];exact s
def yJ:List aQ:=[⟨0,[4,5]⟩,⟨1,[4,5]⟩]
theorem aPH:eZ ([⟨0,[4,5]⟩]:List aQ)=[⟨0,[4,5]⟩]:=kR
theorem aUN:jS ([⟨0,[4,5]⟩]:List aQ) (cZ [⟨0,[4,5]⟩] kJ)=yJ:=kR
theorem aUO:cZ yJ kJ=[⟨1,[4,5]⟩]:=kR
theorem aUP:cZ yJ gB=[]:=kR
theorem aUQ:(kF yJ kJ).length=1:=kR
theorem aUR:(kF yJ gB).length=0:=kR
theorem aPB:eZ ([]:List aQ)=[]:=kR
theorem aUD:cZ [] kJ=[]:=kR
theorem aUE:cZ [] gB=[]:=kR
theorem aUF:(kF [] kJ).length=0:=kR
theorem aUG:(kF [] gB).length=0:=kR
theorem aS3{S:List aQ}(e:S.length<=60):tD jQ 1 S (some S):=by
 have d:∀r,r∈jQ.y->kY jQ r.g=1->False:=fun r c b=>by
  rcases oK c with rfl|rfl
  ·rw[IQ]at b;cases b
  rw[PR]at b;cases b
 exact⟨kL.refl,fun r c b=>(d r c b).elim,e,fun r c b=>(d r c b).elim⟩
theorem aFY:pR jQ [⟨0,[4,5]⟩] (some yJ):=by
 have e:jQ.x.length=2:=rfl;unfold pR;rw[e,aPH];refine⟨some yJ,⟨some [⟨0,[4,5]⟩],rfl,?_⟩,aS3 dE⟩;refine⟨?_,fun r c _ f b=>?_,dE,fun r c _=>?_⟩
 ·have d:=kL.step kL.refl (AQ (p:=jQ) (T:=[⟨0,[4,5]⟩]) Vf IQ);rw[aUN]at d;exact d
 ·rcases oK c with rfl|rfl
  ·rw[aUO]at b;rw[cP.mp b];exact bY _ dL
  rw[aUP]at b;cases b
 rcases oK c with rfl|rfl
 ·rw[aUQ];decide
 rw[aUR];decide
theorem aFO:pR jQ [] (some []):=by
 have d:jQ.x.length=2:=rfl;unfold pR;rw[d,aPB];refine⟨some [],⟨some [],rfl,?_⟩,aS3 dE⟩;refine⟨kL.refl,fun r c _ f b=>?_,dE,fun r c _=>?_⟩
 ·rcases oK c with rfl|rfl
  ·rw[aUD]at b;cases b
  rw[aUE]at b;cases b
 rcases oK c with rfl|rfl
 ·rw[aUF];decide
 rw[aUG];decide
theorem Vh:lE jQ [⟨0,[4,5]⟩] [] 0 yJ:=.inr ⟨by kernel_rfl,some yJ,aFY,rfl,rfl⟩
theorem Vd:lE jQ [] [] 0 []:=.inr ⟨by kernel_rfl,some [],aFO,rfl,rfl⟩
theorem Ub:rP (gY ([]++[]) dH) [] [dH]:=by have c:gY ([]++[]) dH=[dH]:=rfl;rw[c];have d:¬rM [dH] ⟨0,1⟩:=fun h=>absurd h.has dE;have b:¬rM [dH] dH.id:=fun h=>d (rM.under (kT dE) sI h ⟨0,1⟩ dE);exact⟨⟨fun u=>⟨(fun h=>by cases h),(fun h=>by rw[cP.mp h.1]at h;exact absurd h.2 b)⟩,fun u=>⟨(fun h=>⟨h,by rw[cP.mp h];exact b⟩),(fun h=>h.1)⟩⟩,rfl,rfl⟩
theorem Uc:rP (gY ([]++[dH]) eN) [eN,dH] []:=by
 have i:gY ([]++[dH]) eN=[dH,eN]:=rfl;rw[i];have d:rM [dH,eN] eN.id:=.mk eN sI (fun x c=>by cases c);have g:rM [dH,eN] dH.id:=.mk dH sI (fun x c=>by
  (have j:x=⟨0,1⟩:=by simpa[qT,dH]using c);rw[j]
  exact d)
 have e:∀u,u∈[dH,eN]->rM [dH,eN] u.id:=fun u b=>by
  rcases sN.mp b with rfl|rfl
  ·exact g
  exact d
 refine⟨⟨fun u=>?_,fun u=>?_⟩,dE,rfl⟩
 ·rw[sN];constructor
  ·intro b;have f:u∈[dH,eN]:=sN.mpr b.symm;exact⟨f,e u f⟩
  intro b;exact(sN.mp b.1).symm
 constructor
 ·intro b;cases b
 intro b;exact absurd (e u b.1) b.2
theorem KW:dN [] []=0:=lK.mpr Ud
theorem aDC:iW [] [] dH=0:=by unfold iW;rw[if_neg (by rw[KW];simp),if_neg (by rw[XO];simp)];rfl
theorem Kf:dN [] [dH]=0:=LA KW aDC Ub
theorem aDD:iW [] [dH] eN=0:=by unfold iW;rw[if_neg (by rw[Kf];simp),if_neg (by rw[XN];simp)];rfl
theorem aT4:dN [eN,dH] []=0:=LA Kf aDD Uc
theorem aOR:rP (gY ([]++[]) eN) [eN] []:=by have d:gY ([]++[]) eN=[eN]:=rfl;rw[d];have c:rM [eN] eN.id:=.mk eN sI (fun x f=>by cases f);(have b:∀u,u∈[eN]->rM [eN] u.id:=fun u e=>by rw[cP.mp e];exact c);exact⟨⟨fun u=>⟨(fun h=>⟨h,b u h⟩),(fun h=>h.1)⟩,fun u=>⟨(fun h=>by cases h),(fun h=>absurd (b u h.1) h.2)⟩⟩,rfl,rfl⟩
theorem aT3:iW [] [] eN=0:=by unfold iW;rw[if_neg (by rw[KW];simp),if_neg (by rw[XN];simp)];rfl
theorem Ed:dN [eN] []=0:=LA KW aT3 aOR
theorem aD0{w:List aX}(h:dN [] w=0):dY jQ [] w=[]:=by unfold dY;rw[zJ h];rfl
theorem aVO:dY jQ [eN,dH] []=[⟨0,[4,5]⟩]:=by unfold dY;rw[zJ aT4,aFB];kernel_rfl
theorem WG:dY jQ [eN] []=sZ:=by unfold dY;rw[zJ Ed];kernel_rfl
theorem aKS:sG jQ [eN] [] 0 sZ qL:=by refine .inr (.inr ⟨LO,Ed,qL,?_, .inr ⟨rfl,WG.symm,rfl⟩⟩);rw[WG];exact QT kR
theorem aP3:DK jQ [] [] [dH,eN] 0 [eN,dH] [] [([],[]),(yJ,[])]:=by
 refine .inr ⟨rfl,[],yJ, .inr (.inr ⟨LO,KW,[],?_, .inr ⟨rfl,rfl,rfl⟩⟩),dE, .inr ⟨[],[dH],[],[(yJ,[])],⟨aDC,Ub,?_⟩,?_, .inr ⟨[eN,dH],[],yJ,[],⟨aDD,Uc,?_⟩,?_,rfl,rfl,rfl,rfl,rfl⟩⟩⟩
 ·rw[aD0 KW];exact Vd
 ·rw[aD0 Kf];exact Vd
 ·kernel_rfl
 ·rw[aVO];exact Vh
 kernel_rfl
theorem bGB:∀(q:List Cx)(i:Nat)(b:i<q.length),((q.map FK).flatten)[i*2]?=some q[i].1.1/\((q.map FK).flatten)[i*2+1]?=some q[i].1.2
 |[],i,b=>by cases b
 |a::r,0,_=>⟨rfl,rfl⟩
 |a::r,i+1,b=>by have h:=bGB r i (by simpa using b);have c:(i+1)*2=i*2+1+1:=oM;rw[c];show(a.1.1::a.1.2::(r.map FK).flatten)[i*2+1+1]?=_/\(a.1.1::a.1.2::(r.map FK).flatten)[i*2+1+1+1]?=_;rw[CS,CS,CS,CS];exact h
theorem aQG{B:Nat}{w:World}{v:Value}{b:pX}(h:Nj B w v b)(i:Nat)(j:i<b.length):∃g cap n p,v=.slice (some ⟨g,0,none⟩) b.length cap/\w.cell? ⟨g,i*2,none⟩=some n/\w.cell? ⟨g,i*2+1,none⟩=some p/\bS w n b[i].1/\bS w p b[i].2:=by
 obtain⟨q,rfl,d,C,u⟩:=h;(have k:i<q.length:=by rw[aY]at j;exact j);rcases id d.2 with⟨rfl,D⟩|⟨g,cap,x,rfl,_⟩
 ·omega
 have f:=d.cells (g:=g) rfl;obtain⟨r,s⟩:=bGB q i k;have l:=f _ _ r;have m:=f _ _ s;rw[Addr.add_lit,eP]at l m;have e:=u q[i] (fG k);rw[List.getElem_map];exact⟨g,cap,_,_,by rw[aY],l,m,e.c,e.w⟩
def FaN(l:List aQ)(w:World)(v:Value):Prop:=∃a n c,v=.slice a n c/\bS w (.slice a n c) l
theorem FaN.z{l:List aQ}{w w':World}{v:Value}(h:FaN l w v)(b:Below w.heap.size w w'):FaN l w' v:=by obtain⟨a,n,c,e,h⟩:=h;exact⟨a,n,c,e,bQ h b⟩
theorem bHN{l:List aQ}{w:World}{v:Value}(h:bS w v l):FaN l w v:=by obtain⟨a,c,rfl,_⟩:=id h;exact⟨a,_,c,rfl,h⟩
def bDK(w:World)(v:Value):Prop:=∃a,v=.agg #[.int .i64 1, .slice a 2 2]/\eT w (.slice a 2 2) [4,5]
theorem bDK.z{w w':World}{v:Value}(h:bDK w v)(b:Below w.heap.size w w'):bDK w' v:=by obtain⟨a,e,h⟩:=h;exact⟨a,e,bC h b⟩
def Fa2(w:World)(v:Value):Prop:=∃a,v=.slice a 2 2/\bS w (.slice a 2 2) yJ
theorem Fa2.z{w w':World}{v:Value}(h:Fa2 w v)(b:Below w.heap.size w w'):Fa2 w' v:=by obtain⟨a,e,h⟩:=h;exact⟨a,e,bQ h b⟩
theorem bEG{y:World}{c d:Option Addr}(h:eT y (.slice c 2 2) [4,5])(f:eT y (.slice d 2 2) [4,5]):Fa2 (y.alloc (.cells #[.int .i64 0, .slice c 2 2, .int .i64 1, .slice d 2 2] 72)) (.slice (some ⟨y.heap.size,0,none⟩) 2 2):=by
 have e:=eB y (.cells #[.int .i64 0, .slice c 2 2, .int .i64 1, .slice d 2 2] 72);have b:=bA y (.cells #[.int .i64 0, .slice c 2 2, .int .i64 1, .slice d 2 2] 72);refine⟨_,rfl,⟨_,_,rfl,⟨aH _,(fun h=>by cases h)⟩, .inr ⟨_,0,rfl,fun i g=>?_⟩⟩⟩
 match i,g with
 |0,_=>exact⟨cH b,_,cH b,bC h e⟩
 |1,_=>exact⟨cH b,_,cH b,bC f e⟩
theorem SQ{l:List aQ}{v u:Value}{w:World}(k:bS w v l)(j:bS w u l)(m:l.length<=9223372036854775807)(b:∀f,f∈l->gD f):Calls Tryz.prog 15 #[v,u] w fun e c=>e=.returned (.bool true)/\Below w.heap.size w c:=
 (ZL l l v u w k j m b b).mono fun e c ⟨t,d,g,i⟩=>⟨by rw[d,g.mpr rfl],i⟩
theorem aTF{w:World}{a:Option Addr}{n c:Nat}{l:List aX}(h:CpV l w (.slice a n c)):n=l.length:=by obtain⟨R,⟨_,_,e,_⟩,_,rfl⟩:=h;injection e with _ e _;rw[e,eH]
theorem Ic{w:World}{v:Value}{l:List aQ}(h:bS w v l){n:Nat}(e:l.length=n):∃a c,v=.slice a n c:=by obtain⟨a,c,rfl,_⟩:=h;exact⟨a,c,by rw[e]⟩
theorem aX7{y:World}{u v:aX}{k l m p q r:Option Addr}{c d e f g j s w x C D E:Nat}(G:UpV y u (.slice k c s) (.slice l d w) (.slice m e x))(H:UpV y v (.slice p f C) (.slice q g D) (.slice r j E)):
 ∃R Q,iI (y.alloc (.cells #[.int .i64 u.id.a, .int .i64 u.id.n, .slice k c s, .slice l d w, .slice m e x, .int .i64 v.id.a, .int .i64 v.id.n, .slice p f C, .slice q g D, .slice r j E] 42)) (.slice (some ⟨y.heap.size,0,none⟩) 2 2) [R,Q]/\
  gM (y.alloc (.cells #[.int .i64 u.id.a, .int .i64 u.id.n, .slice k c s, .slice l d w, .slice m e x, .int .i64 v.id.a, .int .i64 v.id.n, .slice p f C, .slice q g D, .slice r j E] 42)) R/\
  gM (y.alloc (.cells #[.int .i64 u.id.a, .int .i64 u.id.n, .slice k c s, .slice l d w, .slice m e x, .int .i64 v.id.a, .int .i64 v.id.n, .slice p f C, .slice q g D, .slice r j E] 42)) Q/\R.u=u/\Q.u=v:=by
 have F:=eB y (.cells #[.int .i64 u.id.a, .int .i64 u.id.n, .slice k c s, .slice l d w, .slice m e x, .int .i64 v.id.a, .int .i64 v.id.n, .slice p f C, .slice q g D, .slice r j E] 42);have b:=bA y (.cells #[.int .i64 u.id.a, .int .i64 u.id.n, .slice k c s, .slice l d w, .slice m e x, .int .i64 v.id.a, .int .i64 v.id.n, .slice p f C, .slice q g D, .slice r j E] 42);refine⟨⟨u,_,_,_⟩,⟨v,_,_,_⟩,⟨_,_,rfl,⟨aH _,(fun h=>by cases h)⟩, .inr ⟨_,0,rfl,fun i I=>?_⟩⟩,(G.z F).ok,(H.z F).ok,rfl,rfl⟩
 match i,I with
 |0,_=>exact⟨cH b,cH b,cH b,cH b,cH b⟩
 |1,_=>exact⟨cH b,cH b,cH b,cH b,cH b⟩
theorem aLS(w:World):Calls Tryz.prog 39 #[] w fun e m=>∃b j f c k g d l i,e=.returned (.agg #[.int .i64 eN.id.a, .int .i64 eN.id.n, .slice b j f, .slice c k g, .slice d l i])/\UpV m eN (.slice b j f) (.slice c k g) (.slice d l i)/\Below w.heap.size w m:=
 (aEE w).mono fun _ _ ⟨_,_,_,e,h,r⟩=>by obtain⟨b,j,f,c,k,g,d,l,i,p,q⟩:=aIW h;exact⟨b,j,f,c,k,g,d,l,i,by rw[e,p],q,r⟩
theorem aSB(w:World):Calls Tryz.prog 40 #[] w fun e m=>∃b j f c k g d l i,e=.returned (.agg #[.int .i64 dH.id.a, .int .i64 dH.id.n, .slice b j f, .slice c k g, .slice d l i])/\UpV m dH (.slice b j f) (.slice c k g) (.slice d l i)/\Below w.heap.size w m:=
 (aAJ w).mono fun _ _ ⟨_,_,_,e,h,r⟩=>by obtain⟨b,j,f,c,k,g,d,l,i,p,q⟩:=aIW h;exact⟨b,j,f,c,k,g,d,l,i,by rw[e,p],q,r⟩
theorem bCB{y:World}{u:aX}{f g j:Option Addr}{c d e k l m:Nat}(p:UpV y u (.slice f c k) (.slice g d l) (.slice j e m)):
 ∃R,iI (y.alloc (.cells #[.int .i64 u.id.a, .int .i64 u.id.n, .slice f c k, .slice g d l, .slice j e m] 42)) (.slice (some ⟨y.heap.size,0,none⟩) 1 1) [R]/\gM (y.alloc (.cells #[.int .i64 u.id.a, .int .i64 u.id.n, .slice f c k, .slice g d l, .slice j e m] 42)) R/\R.u=u:=by
 have q:=eB y (.cells #[.int .i64 u.id.a, .int .i64 u.id.n, .slice f c k, .slice g d l, .slice j e m] 42);have b:=bA y (.cells #[.int .i64 u.id.a, .int .i64 u.id.n, .slice f c k, .slice g d l, .slice j e m] 42);refine⟨⟨u,_,_,_⟩,⟨_,_,rfl,⟨aH _,(fun h=>by cases h)⟩, .inr ⟨_,0,rfl,fun i r=>?_⟩⟩,(p.z q).ok,rfl⟩
 match i,r with
 |0,_=>exact⟨cH b,cH b,cH b,cH b,cH b⟩
def vbT(X G:Nat)(e:Option Addr)(g:Nat)(f:Option Addr)(i d:Nat)(j:Option Addr)(n:Nat)(k:Option Addr)(p:Nat)(l:Option Addr)(q:Nat)(m:Option Addr)(r:Nat)(s:Nat)(b:Value)(c:World):Prop:=
 match s with
 |24=>b=.int .i64 0
 |25=>b=.bool true
 |26=>b=.bool true
 |27=>b=.int .i64 0
 |28=>b=.bool true
 |29=>b=.bool true
 |30=>b=.bool true
 |31=>b=.slice e 5 g
 |32=>FaN qL c b
 |33=>b=.bool true
 |34=>b=.bool true
 |35=>b=.bool true
 |36=>b=.pointer (some ⟨X,0,none⟩)
 |37=>b=.slice f 2 i
 |38=>Up1 eN c b
 |39=>Up1 dH c b
 |40=>aVM c b
 |41=>b=.bool true
 |42=>b=.bool true
 |43=>b=.bool true
 |44=>b=.slice (some ⟨G,0,none⟩) 2 d
 |45=>b=.int .i64 2
 |46=>b=.bool true
 |47=>b=.bool true
 |48=>b=.bool true
 |49=>b=.slice (some ⟨G,0,none⟩) 2 d
 |50=>b=.pointer (some ⟨G,0,none⟩)
 |51=>b=.pointer (some ⟨G,0,none⟩)
 |52=>b=.slice j 0 n
 |53=>b=.int .i64 0
 |54=>b=.slice (some ⟨G,0,none⟩) 2 d
 |55=>b=.pointer (some ⟨G,0,none⟩)
 |56=>b=.pointer (some ⟨G,1,none⟩)
 |57=>b=.slice k 0 p
 |58=>b=.int .i64 0
 |59=>b=.int .i64 0
 |60=>b=.bool true
 |61=>b=.bool true
 |62=>b=.bool true
 |63=>b=.slice (some ⟨G,0,none⟩) 2 d
 |64=>b=.pointer (some ⟨G,2,none⟩)
 |65=>b=.pointer (some ⟨G,2,none⟩)
 |66=>b=.slice l 2 q
 |67=>aJH c b
 |68=>Fc1 c b
 |69=>aJH c b
 |70=>bDK c b
 |71=>Fa2 c b
 |72=>b=.bool true
 |73=>b=.bool true
 |74=>b=.bool true
 |75=>b=.slice (some ⟨G,0,none⟩) 2 d
 |76=>b=.pointer (some ⟨G,2,none⟩)
 |77=>b=.pointer (some ⟨G,3,none⟩)
 |78=>b=.slice m 0 r
 |79=>b=.int .i64 0
 |80=>b=.bool true
 |81=>b=.bool true
 |0=>b=.bool true
 |_=>True
theorem bCH(X G:Nat)(d:Option Addr)(g:Nat)(e:Option Addr)(i f:Nat)(j:Option Addr)(n:Nat)(k:Option Addr)(p:Nat)(l:Option Addr)(q:Nat)(m:Option Addr)(r:Nat)(s:Nat)(u:Value)(W c:World)(b:Below W.heap.size W c)(h:vbT X G d g e i f j n k p l q m r s u W):vbT X G d g e i f j n k p l q m r s u c:=by revert h;unfold vbT;split<;>(intro h;first|exact h|exact Up1.z h b|exact aVM.z h b|exact aJH.z h b|exact Fc1.z h b|exact bDK.z h b|exact Fa2.z h b|exact FaN.z h b)
theorem Ad(w:World):Calls Tryz.prog 12 #[] w fun e Y=>e=.returned (.bool true)/\Below w.heap.size w Y:=by
 go_enter Tryz.func12,Tryz.ntmps12
 go_wp2_with fail;refine Calls.mono (Mv w) ?_;rintro e w1 ⟨ua,un,ur,rfl,aa,au,ac⟩;go_wp2_with fail;refine Calls.mono (aLS w1) ?_;rintro e Z ⟨g1,l1,k1,g2,l2,k2,g3,l3,k3,rfl,ax,b⟩;have al:O _:=bCB ax;have N:O (nV Z ua un ur jQ/\mM Z ur/\Below w.heap.size w Z):=⟨aa.z b,au.z aa.rl b,ac.trans (b.mono ac.size)⟩;have a3:O (Below Z.heap.size Z (Z.alloc (.cells #[.int .i64 eN.id.a, .int .i64 eN.id.n, .slice g1 l1 k1, .slice g2 l2 k2, .slice g3 l3 k3] 42))):=eB Z _;clear ax aa au ac b;go_wp2_with fail;obtain⟨l,r1,r2,r3⟩:=al.o;refine Calls.mono (Vm jQ [l] [] _ _ ua un ur _ (N.o.1.z a3.o) Cz (N.o.2.1.z N.o.1.rl a3.o) r1 (xZ _) ⟨by show 1<=4611686018427387903;omega,dE⟩ (fun x j=>by
  rw[iZ,cP]at j
  rw[j];exact r2)) ?_
 rintro e w3 ⟨vO,c,Rr,S,rfl,hR,ag,aC⟩;(have hu:bV [l]=[eN]:=by show [l.u]=_;rw[r3]);rw[hu]at hR;obtain⟨rfl,rfl,rfl⟩:=tJ hR aKS;obtain⟨K,L,rfl⟩:=Ic (n:=5) ag rfl;have ah:O (bS w3 (.slice K 5 L) qL):=ag;have a6:O (Below w.heap.size w w3):=N.o.2.2.trans ((a3.o.mono N.o.2.2.size).trans (aC.mono (bP N.o.2.2.size a3.o.size)));clear hR ag aC hu r1 r2 r3 al N a3;go_wp2_with fail;refine Calls.mono (Mv w3) ?_;rintro e w4 ⟨vb,vm,vl,rfl,ab,av,ad⟩;go_wp2_with fail;refine Calls.mono (aSB w4) ?_;rintro e w5 ⟨g1,l1,k1,g2,l2,k2,g3,l3,k3,rfl,ay,ae⟩;go_wp2_with fail;refine Calls.mono (aLS w5) ?_;rintro e M ⟨h1,m1,j1,h2,m2,j2,h3,m3,j3,rfl,az,af⟩;have an:O _:=aX7 (ay.z af) az;have a8:Below w4.heap.size w4 M:=ae.trans (af.mono ae.size);have P:O (nV M vb vm vl jQ/\mM M vl/\Below w3.heap.size w3 M):=⟨ab.z a8,av.z ab.rl a8,ad.trans (a8.mono ad.size)⟩;have a4:O (Below M.heap.size M (M.alloc (.cells #[.int .i64 dH.id.a, .int .i64 dH.id.n, .slice g1 l1 k1, .slice g2 l2 k2, .slice g3 l3 k3, .int .i64 eN.id.a, .int .i64 eN.id.n, .slice h1 m1 j1, .slice h2 m2 j2, .slice h3 m3 j3] 42))):=eB M _;clear ay az ab av ad ae af a8;go_wp2_with fail;obtain⟨l,J,r1,r2,r3,r4,r5⟩:=an.o;refine Calls.mono (TQ jQ [] [] [l,J] _ _ _ vb vm vl _ (P.o.1.z a4.o) Cz (P.o.2.1.z P.o.1.rl a4.o) (xZ _) (xZ _) r1 dE (by show 2<=4611686018427387903;omega) (fun x j=>by cases j) (fun x j=>by
  (have j:x=l\/x=J:=by simpa using j);rcases j with rfl|rfl
  ·exact r2
  exact r3)) ?_
 rintro e d ⟨vx,vc,c,hh,hw,cs,rfl,W,⟨m,n1,p,b2,X,d2,rfl,b3,b4⟩,hH,aD⟩;(have hu:bV [l,J]=[dH,eN]:=by show [l.u,J.u]=_;rw[r4,r5]);rw[hu]at W;obtain⟨rfl,rfl,rfl,rfl⟩:=aK2 W aP3;obtain⟨G,g,v0,v1,rfl,x0,x1,f0,f1⟩:=aQG hH 0 dE;obtain⟨G',bg,v2,v3,e9,x2,x3,f2,f3⟩:=aQG hH 1 dE;cases e9;obtain⟨R,a0,rfl⟩:=Ic (n:=0) f0 rfl;obtain⟨U,a1,rfl⟩:=Ic (n:=0) f1 rfl;obtain⟨D,H,rfl⟩:=Ic (n:=2) f2 rfl;obtain⟨q,a2,rfl⟩:=Ic (n:=0) f3 rfl;obtain⟨Q,E,F,s⟩:=b3;(have aL:Q.length=2:=by rw[<-eH,s];rfl);have b6:n1=2:=aTF ⟨Q,E,F,s⟩;subst b6;have HQ:O (iI d (.slice m 2 p) Q/\(∀x,x∈Q->gM d x)/\bV Q=[eN,dH]):=⟨E,F,s⟩;have ak:O (Q.length=2):=aL;have ai:O (bS d (.slice D 2 H) yJ):=f2;have a5:O (d.cell? ⟨G,0,none⟩=some (.slice R 0 a0)/\d.cell? ⟨G,1,none⟩=some (.slice U 0 a1)/\d.cell? ⟨G,2,none⟩=some (.slice D 2 H)/\d.cell? ⟨G,3,none⟩=some (.slice q 0 a2)):=⟨x0,x1,x2,x3⟩;have a7:O (Below w3.heap.size w3 d):=P.o.2.2.trans ((a4.o.mono P.o.2.2.size).trans (aD.mono (bP P.o.2.2.size a4.o.size)));have aj:O ((d.alloc (.cells #[.slice m 2 p, .slice b2 X d2] 29)).heap[d.heap.size]?=some (.cells #[.slice m 2 p, .slice b2 X d2] 29)):=bA d _;have C:O (Below d.heap.size d (d.alloc (.cells #[.slice m 2 p, .slice b2 X d2] 29))):=eB d _;clear W b4 hH aD hu f0 f1 f2 f3 E F s aL x0 x1 x2 x3 r1 r2 r3 r4 r5 an P a4;go_upto_region 3 with fail;generalize d.alloc (.cells #[.slice m 2 p, .slice b2 X d2] 29)=I at *;have ao:O (Below w.heap.size w I):=a6.o.trans ((a7.o.mono a6.o.size).trans (C.o.mono (bP a6.o.size a7.o.size)))
 have HC:O (∀z,Below I.heap.size I z->z.cell? ⟨d.heap.size,0,none⟩=some (.slice m 2 p)/\z.cell? ⟨G,0,none⟩=some (.slice R 0 a0)/\z.cell? ⟨G,1,none⟩=some (.slice U 0 a1)/\z.cell? ⟨G,2,none⟩=some (.slice D 2 H)/\z.cell? ⟨G,3,none⟩=some (.slice q 0 a2)):=fun z r=>
  ⟨aB r (cH aj.o),aB r (aB C.o a5.o.1),aB r (aB C.o a5.o.2.1),aB r (aB C.o a5.o.2.2.1),aB r (aB C.o a5.o.2.2.2)⟩
 have aS:O (∀z v,Below I.heap.size I z->bS z v qL->Calls Tryz.prog 15 #[.slice K 5 L,v] z fun e Y=>e=.returned (.bool true)/\Below z.heap.size z Y):=fun z v r hv=>
  SQ (bQ (bQ (bQ ah.o a7.o) C.o) r) hv dE (IR (QT (o:=[]) kR))
 have aT:O (∀z v,Below I.heap.size I z->bS z v yJ->Calls Tryz.prog 15 #[.slice D 2 H,v] z fun e Y=>e=.returned (.bool true)/\Below z.heap.size z Y):=fun z v r hv=>
  SQ (bQ (bQ ai.o C.o) r) hv dE (IR Vh)
 have b0:O (∀z v,Below I.heap.size I z->(∃l J,iI z v [l,J]/\gM z l/\gM z J/\l.u=eN/\J.u=dH)->Calls Tryz.prog 42 #[.slice m 2 p,v] z fun e Y=>e=.returned (.bool true)/\Below z.heap.size z Y):=fun z v r hv=>by
  obtain⟨Q1,Q2,E,F,s,q4,q5⟩:=hv;have hb:=C.o.trans (r.mono C.o.size);refine GM Q [Q1,Q2] _ _ z (HQ.o.1.kc (Kc.z hb)) E ?_ (by rw[ak.o];decide) (fun x j=>(HQ.o.2.1 x j).z hb) ?_
  ·rw[HQ.o.2.2];show _=[Q1.u,Q2.u];rw[q4,q5]
  intro x j;(have j:x=Q1\/x=Q2:=by simpa using j);rcases j with rfl|rfl
  ·exact F
  exact s
 clear ai HQ a5 a7 aj C ah a6 ak;refine kB (vbT d.heap.size G K L m p g R a0 U a1 D H q a2) kR kR (bCH _ _ _ _ _ _ _ _ _ _ _ _ _ _ _) ?hop ?hend
 case hop=>
  refine oC (fun a y h=>by have U:a.eval (.tmp 2)=(.int .i64 0:Value):=h.old 2;exact iQ (.int .i64 0)) ?_;refine oC (fun a y h=>by have bh:a.eval (.tmp 24)=(.int .i64 0:Value):=h.of 24;exact iQ (.bool true)) ?_;refine oC (fun a y h=>by have bi:a.eval (.tmp 25)=(.bool true:Value):=h.of 25;exact iQ (.bool true)) ?_;refine oC (fun a y h=>by have e5:a.eval (.tmp 5)=(.int .i64 0:Value):=h.old 5;refine dG (v:=.int .i64 0) (w':=y) (wG (h.of 26)) ?_ tR (aG _ _);have ec:=kZ a;generalize a.eval=ev at *;clear h;go_simp) ?_;refine oC (fun a y h=>by have bk:a.eval (.tmp 27)=(.int .i64 0:Value):=h.of 27;refine dG (v:=.bool true) (w':=y) (wG (h.of 26)) ?_ tR (aG _ _);have ec:=kZ a;generalize a.eval=ev at *;clear h;go_simp) ?_;refine oC (fun a y h=>by have bj:a.eval (.tmp 26)=(.bool true:Value):=h.of 26;have bl:a.eval (.tmp 28)=(.bool true:Value):=h.of 28;exact iQ (.bool true)) ?_;refine oC (fun a y h=>by have bm:a.eval (.tmp 29)=(.bool true:Value):=h.of 29;exact iQ (.bool true)) ?_;refine oC (fun a y h=>by have R:a.eval (.tmp 1)=(.slice K 5 L:Value):=h.old 1;refine dG (v:=.slice K 5 L) (w':=y) (wG (h.of 30)) ?_ tR (aG _ _);have ec:=kZ a;generalize a.eval=ev at *;clear h;go_simp) ?_;refine oC (fun a y h=>?_) ?_
  ·refine fI (f:=41) (args:=#[]) (wG (h.of 30)) ?_ ?_
   ·have ec:=kZ a;have V:=AO a;generalize a.eval=ev at *;clear h;go_simp
   refine Calls.mono (aLU y) ?_;rintro _ y9 ⟨v,rfl,hF,b⟩;exact⟨_,rfl,fun t ht=>by cases ht;exact bHN hF,b⟩
  refine oC (fun a y h=>?_) ?_
  ·have bo:a.eval (.tmp 31)=(.slice K 5 L:Value):=h.of 31;have b7:FaN qL y (a.eval (.tmp 32)):=h.of 32;obtain⟨E,F,s,bp,hF⟩:=b7;refine fI (f:=15) (args:=#[.slice K 5 L, .slice E F s]) (wG (h.of 30)) ?_ ?_
   ·have ec:=kZ a;have V:=AO a;generalize a.eval=ev at *;clear h;go_simp
   refine Calls.mono (aS.o y _ h.z hF) ?_;rintro _ y9 ⟨rfl,b⟩;exact⟨_,rfl,fun t ht=>by cases ht;exact rfl,b⟩
  refine oC (fun a y h=>by have bn:a.eval (.tmp 30)=(.bool true:Value):=h.of 30;have bq:a.eval (.tmp 33)=(.bool true:Value):=h.of 33;exact iQ (.bool true)) ?_;refine oC (fun a y h=>by have br:a.eval (.tmp 34)=(.bool true:Value):=h.of 34;exact iQ (.bool true)) ?_;refine oC (fun a y h=>by have D:a.eval (.tmp 3)=(.pointer (some ⟨d.heap.size,0,none⟩):Value):=h.old 3;refine dG (v:=.pointer (some ⟨d.heap.size,0,none⟩)) (w':=y) (wG (h.of 35)) ?_ tR (aG _ _);have ec:=kZ a;generalize a.eval=ev at *;clear h;go_simp) ?_;refine oC (fun a y h=>by have bt:a.eval (.tmp 36)=(.pointer (some ⟨d.heap.size,0,none⟩):Value):=h.of 36;obtain⟨x0,y0,y1,y2,y3⟩:=HC.o y h.z;refine dG (v:=.slice m 2 p) (w':=y) (wG (h.of 35)) ?_ tR (aG _ _);have ec:=kZ a;generalize a.eval=ev at *;clear h;go_simp) ?_;refine oC (fun a y h=>?_) ?_
  ·refine fI (f:=39) (args:=#[]) (wG (h.of 35)) ?_ ?_
   ·have ec:=kZ a;have V:=AO a;generalize a.eval=ev at *;clear h;go_simp
   refine Calls.mono (aEE y) ?_;rintro _ y9 ⟨vp,vs,vt,rfl,i,b⟩;exact⟨_,rfl,fun t ht=>by cases ht;exact aIW i,b⟩
  refine oC (fun a y h=>?_) ?_
  ·refine fI (f:=40) (args:=#[]) (wG (h.of 35)) ?_ ?_
   ·have ec:=kZ a;have V:=AO a;generalize a.eval=ev at *;clear h;go_simp
   refine Calls.mono (aAJ y) ?_;rintro _ y9 ⟨vp,vs,vt,rfl,i,b⟩;exact⟨_,rfl,fun t ht=>by cases ht;exact aIW i,b⟩
  refine oC (fun a y h=>by have b8:Up1 eN y (a.eval (.tmp 38)):=h.of 38;have b9:Up1 dH y (a.eval (.tmp 39)):=h.of 39;obtain⟨k,n1,E,p2,X,F,p3,n3,s,aq,i⟩:=b8;obtain⟨p4,n4,q4,p5,n5,q5,p6,n6,q6,ar,W⟩:=b9;replace aq:a.eval (.tmp 38)=.agg #[.int .i64 0, .int .i64 1, .slice k n1 E, .slice p2 X F, .slice p3 n3 s]:=aq;replace ar:a.eval (.tmp 39)=.agg #[.int .i64 1, .int .i64 1, .slice p4 n4 q4, .slice p5 n5 q5, .slice p6 n6 q6]:=ar;refine dG (v:=.slice (some ⟨y.heap.size,0,none⟩) 2 2) (w':=y.alloc (.cells #[.int .i64 0, .int .i64 1, .slice k n1 E, .slice p2 X F, .slice p3 n3 s, .int .i64 1, .int .i64 1, .slice p4 n4 q4, .slice p5 n5 q5, .slice p6 n6 q6] 42)) (wG (h.of 35)) ?_ (fun t ht=>by cases ht;exact bCC i W) ((aG _ _).alloc (aH _) _);have ec:=kZ a;generalize a.eval=ev at *;clear h;go_simp) ?_;refine oC (fun a y h=>?_) ?_
  ·have bu:a.eval (.tmp 37)=(.slice m 2 p:Value):=h.of 37;have ba:aVM y (a.eval (.tmp 40)):=h.of 40;obtain⟨k,bv,i⟩:=ba;refine fI (f:=42) (args:=#[.slice m 2 p, .slice k 2 2]) (wG (h.of 35)) ?_ ?_
   ·have ec:=kZ a;have V:=AO a;generalize a.eval=ev at *;clear h;go_simp
   refine Calls.mono (b0.o y (.slice k 2 2) h.z i) ?_;rintro _ y9 ⟨rfl,b⟩;exact⟨_,rfl,fun t ht=>by cases ht;exact rfl,b⟩
  refine oC (fun a y h=>by have bs:a.eval (.tmp 35)=(.bool true:Value):=h.of 35;have bw:a.eval (.tmp 41)=(.bool true:Value):=h.of 41;exact iQ (.bool true)) ?_;refine oC (fun a y h=>by have bz:a.eval (.tmp 42)=(.bool true:Value):=h.of 42;exact iQ (.bool true)) ?_;refine oC (fun a y h=>by have q:a.eval (.tmp 4)=(.slice (some ⟨G,0,none⟩) 2 g:Value):=h.old 4;refine dG (v:=.slice (some ⟨G,0,none⟩) 2 g) (w':=y) (wG (h.of 43)) ?_ tR (aG _ _);have ec:=kZ a;generalize a.eval=ev at *;clear h;go_simp) ?_;refine oC (fun a y h=>by have bT:a.eval (.tmp 44)=(.slice (some ⟨G,0,none⟩) 2 g:Value):=h.of 44;refine dG (v:=.int .i64 2) (w':=y) (wG (h.of 43)) ?_ tR (aG _ _);have ec:=kZ a;generalize a.eval=ev at *;clear h;go_simp) ?_;refine oC (fun a y h=>by have bU:a.eval (.tmp 45)=(.int .i64 2:Value):=h.of 45;refine dG (v:=.bool true) (w':=y) (wG (h.of 43)) ?_ tR (aG _ _);have ec:=kZ a;generalize a.eval=ev at *;clear h;go_simp) ?_;refine oC (fun a y h=>by have bN:a.eval (.tmp 43)=(.bool true:Value):=h.of 43;have bW:a.eval (.tmp 46)=(.bool true:Value):=h.of 46;exact iQ (.bool true)) ?_;refine oC (fun a y h=>by have bZ:a.eval (.tmp 47)=(.bool true:Value):=h.of 47;exact iQ (.bool true)) ?_;refine oC (fun a y h=>by have q:a.eval (.tmp 4)=(.slice (some ⟨G,0,none⟩) 2 g:Value):=h.old 4;refine dG (v:=.slice (some ⟨G,0,none⟩) 2 g) (w':=y) (wG (h.of 48)) ?_ tR (aG _ _);have ec:=kZ a;generalize a.eval=ev at *;clear h;go_simp) ?_;refine oC (fun a y h=>by have c2:a.eval (.tmp 49)=(.slice (some ⟨G,0,none⟩) 2 g:Value):=h.of 49;refine dG (v:=.pointer (some ⟨G,0,none⟩)) (w':=y) (wG (h.of 48)) ?_ tR (aG _ _);have ec:=kZ a;generalize a.eval=ev at *;clear h;go_simp) ?_;refine oC (fun a y h=>by have c3:a.eval (.tmp 50)=(.pointer (some ⟨G,0,none⟩):Value):=h.of 50;refine dG (v:=.pointer (some ⟨G,0,none⟩)) (w':=y) (wG (h.of 48)) ?_ tR (aG _ _);have ec:=kZ a;generalize a.eval=ev at *;clear h;go_simp) ?_;refine oC (fun a y h=>by have c4:a.eval (.tmp 51)=(.pointer (some ⟨G,0,none⟩):Value):=h.of 51;obtain⟨x0,y0,y1,y2,y3⟩:=HC.o y h.z;refine dG (v:=.slice R 0 a0) (w':=y) (wG (h.of 48)) ?_ tR (aG _ _);have ec:=kZ a;generalize a.eval=ev at *;clear h;go_simp) ?_;refine oC (fun a y h=>by have c5:a.eval (.tmp 52)=(.slice R 0 a0:Value):=h.of 52;refine dG (v:=.int .i64 0) (w':=y) (wG (h.of 48)) ?_ tR (aG _ _);have ec:=kZ a;generalize a.eval=ev at *;clear h;go_simp) ?_;refine oC (fun a y h=>by have q:a.eval (.tmp 4)=(.slice (some ⟨G,0,none⟩) 2 g:Value):=h.old 4;refine dG (v:=.slice (some ⟨G,0,none⟩) 2 g) (w':=y) (wG (h.of 48)) ?_ tR (aG _ _);have ec:=kZ a;generalize a.eval=ev at *;clear h;go_simp) ?_;refine oC (fun a y h=>by have c7:a.eval (.tmp 54)=(.slice (some ⟨G,0,none⟩) 2 g:Value):=h.of 54;refine dG (v:=.pointer (some ⟨G,0,none⟩)) (w':=y) (wG (h.of 48)) ?_ tR (aG _ _);have ec:=kZ a;generalize a.eval=ev at *;clear h;go_simp) ?_;refine oC (fun a y h=>by have c8:a.eval (.tmp 55)=(.pointer (some ⟨G,0,none⟩):Value):=h.of 55;refine dG (v:=.pointer (some ⟨G,1,none⟩)) (w':=y) (wG (h.of 48)) ?_ tR (aG _ _);have ec:=kZ a;generalize a.eval=ev at *;clear h;go_simp) ?_;refine oC (fun a y h=>by have c9:a.eval (.tmp 56)=(.pointer (some ⟨G,1,none⟩):Value):=h.of 56;obtain⟨x0,y0,y1,y2,y3⟩:=HC.o y h.z;refine dG (v:=.slice U 0 a1) (w':=y) (wG (h.of 48)) ?_ tR (aG _ _);have ec:=kZ a;generalize a.eval=ev at *;clear h;go_simp) ?_;refine oC (fun a y h=>by have ca:a.eval (.tmp 57)=(.slice U 0 a1:Value):=h.of 57;refine dG (v:=.int .i64 0) (w':=y) (wG (h.of 48)) ?_ tR (aG _ _);have ec:=kZ a;generalize a.eval=ev at *;clear h;go_simp) ?_;refine oC (fun a y h=>by have c6:a.eval (.tmp 53)=(.int .i64 0:Value):=h.of 53;have cb:a.eval (.tmp 58)=(.int .i64 0:Value):=h.of 58;refine dG (v:=.int .i64 0) (w':=y) (wG (h.of 48)) ?_ tR (aG _ _);have ec:=kZ a;generalize a.eval=ev at *;clear h;go_simp;rfl) ?_;refine oC (fun a y h=>by have cd:a.eval (.tmp 59)=(.int .i64 0:Value):=h.of 59;refine dG (v:=.bool true) (w':=y) (wG (h.of 48)) ?_ tR (aG _ _);have ec:=kZ a;generalize a.eval=ev at *;clear h;go_simp) ?_;refine oC (fun a y h=>by have c1:a.eval (.tmp 48)=(.bool true:Value):=h.of 48;have ce:a.eval (.tmp 60)=(.bool true:Value):=h.of 60;exact iQ (.bool true)) ?_;refine oC (fun a y h=>by have cf:a.eval (.tmp 61)=(.bool true:Value):=h.of 61;exact iQ (.bool true)) ?_;refine oC (fun a y h=>by have q:a.eval (.tmp 4)=(.slice (some ⟨G,0,none⟩) 2 g:Value):=h.old 4;refine dG (v:=.slice (some ⟨G,0,none⟩) 2 g) (w':=y) (wG (h.of 62)) ?_ tR (aG _ _);have ec:=kZ a;generalize a.eval=ev at *;clear h;go_simp) ?_;refine oC (fun a y h=>by have ci:a.eval (.tmp 63)=(.slice (some ⟨G,0,none⟩) 2 g:Value):=h.of 63;refine dG (v:=.pointer (some ⟨G,2,none⟩)) (w':=y) (wG (h.of 62)) ?_ tR (aG _ _);have ec:=kZ a;generalize a.eval=ev at *;clear h;go_simp) ?_;refine oC (fun a y h=>by have cj:a.eval (.tmp 64)=(.pointer (some ⟨G,2,none⟩):Value):=h.of 64;refine dG (v:=.pointer (some ⟨G,2,none⟩)) (w':=y) (wG (h.of 62)) ?_ tR (aG _ _);have ec:=kZ a;generalize a.eval=ev at *;clear h;go_simp) ?_;refine oC (fun a y h=>by have ck:a.eval (.tmp 65)=(.pointer (some ⟨G,2,none⟩):Value):=h.of 65;obtain⟨x0,y0,y1,y2,y3⟩:=HC.o y h.z;refine dG (v:=.slice D 2 H) (w':=y) (wG (h.of 62)) ?_ tR (aG _ _);have ec:=kZ a;generalize a.eval=ev at *;clear h;go_simp) ?_;refine oC (fun a y h=>by refine dG (v:=.slice (some ⟨y.heap.size,0,none⟩) 2 2) (w':=y.alloc (.cells #[.int .i64 4, .int .i64 5] 3)) (wG (h.of 62)) ?_ (fun t ht=>by cases ht;exact aMA y) ((aG _ _).alloc (aH _) _);have ec:=kZ a;generalize a.eval=ev at *;clear h;go_simp) ?_;refine oC (fun a y h=>?_) ?_
  ·have bb:aJH y (a.eval (.tmp 67)):=h.of 67;obtain⟨k,co,i⟩:=bb;refine fI (f:=43) (args:=#[.int .i64 0, .slice k 2 2]) (wG (h.of 62)) ?_ ?_
   ·have ec:=kZ a;have V:=AO a;generalize a.eval=ev at *;clear h;go_simp
   refine Calls.mono (MG _ _ _ _ y) ?_;rintro _ y9 ⟨rfl,b⟩;exact⟨_,rfl,fun t ht=>by cases ht;exact⟨_,rfl,bC i b⟩,b⟩
  refine oC (fun a y h=>by refine dG (v:=.slice (some ⟨y.heap.size,0,none⟩) 2 2) (w':=y.alloc (.cells #[.int .i64 4, .int .i64 5] 3)) (wG (h.of 62)) ?_ (fun t ht=>by cases ht;exact aMA y) ((aG _ _).alloc (aH _) _);have ec:=kZ a;generalize a.eval=ev at *;clear h;go_simp) ?_;refine oC (fun a y h=>?_) ?_
  ·have bd:aJH y (a.eval (.tmp 69)):=h.of 69;obtain⟨k,cq,i⟩:=bd;refine fI (f:=43) (args:=#[.int .i64 1, .slice k 2 2]) (wG (h.of 62)) ?_ ?_
   ·have ec:=kZ a;have V:=AO a;generalize a.eval=ev at *;clear h;go_simp
   refine Calls.mono (MG _ _ _ _ y) ?_;rintro _ y9 ⟨rfl,b⟩;exact⟨_,rfl,fun t ht=>by cases ht;exact⟨_,rfl,bC i b⟩,b⟩
  refine oC (fun a y h=>by have bc:Fc1 y (a.eval (.tmp 68)):=h.of 68;have be:bDK y (a.eval (.tmp 70)):=h.of 70;obtain⟨k,cp,i⟩:=bc;obtain⟨p2,cr,W⟩:=be;refine dG (v:=.slice (some ⟨y.heap.size,0,none⟩) 2 2) (w':=y.alloc (.cells #[.int .i64 0, .slice k 2 2, .int .i64 1, .slice p2 2 2] 72)) (wG (h.of 62)) ?_ (fun t ht=>by cases ht;exact bEG i W) ((aG _ _).alloc (aH _) _);have ec:=kZ a;generalize a.eval=ev at *;clear h;go_simp) ?_;refine oC (fun a y h=>?_) ?_
  ·have cn:a.eval (.tmp 66)=(.slice D 2 H:Value):=h.of 66;have bf:Fa2 y (a.eval (.tmp 71)):=h.of 71;obtain⟨k,ct,i⟩:=bf;refine fI (f:=15) (args:=#[.slice D 2 H, .slice k 2 2]) (wG (h.of 62)) ?_ ?_
   ·have ec:=kZ a;have V:=AO a;generalize a.eval=ev at *;clear h;go_simp
   refine Calls.mono (aT.o y _ h.z i) ?_;rintro _ y9 ⟨rfl,b⟩;exact⟨_,rfl,fun t ht=>by cases ht;exact rfl,b⟩
  refine oC (fun a y h=>by have cg:a.eval (.tmp 62)=(.bool true:Value):=h.of 62;have cu:a.eval (.tmp 72)=(.bool true:Value):=h.of 72;exact iQ (.bool true)) ?_;refine oC (fun a y h=>by have cv:a.eval (.tmp 73)=(.bool true:Value):=h.of 73;exact iQ (.bool true)) ?_;refine oC (fun a y h=>by have q:a.eval (.tmp 4)=(.slice (some ⟨G,0,none⟩) 2 g:Value):=h.old 4;refine dG (v:=.slice (some ⟨G,0,none⟩) 2 g) (w':=y) (wG (h.of 74)) ?_ tR (aG _ _);have ec:=kZ a;generalize a.eval=ev at *;clear h;go_simp) ?_;refine oC (fun a y h=>by have cx:a.eval (.tmp 75)=(.slice (some ⟨G,0,none⟩) 2 g:Value):=h.of 75;refine dG (v:=.pointer (some ⟨G,2,none⟩)) (w':=y) (wG (h.of 74)) ?_ tR (aG _ _);have ec:=kZ a;generalize a.eval=ev at *;clear h;go_simp) ?_;refine oC (fun a y h=>by have cy:a.eval (.tmp 76)=(.pointer (some ⟨G,2,none⟩):Value):=h.of 76;refine dG (v:=.pointer (some ⟨G,3,none⟩)) (w':=y) (wG (h.of 74)) ?_ tR (aG _ _);have ec:=kZ a;generalize a.eval=ev at *;clear h;go_simp) ?_;refine oC (fun a y h=>by have cz:a.eval (.tmp 77)=(.pointer (some ⟨G,3,none⟩):Value):=h.of 77;obtain⟨x0,y0,y1,y2,y3⟩:=HC.o y h.z;refine dG (v:=.slice q 0 a2) (w':=y) (wG (h.of 74)) ?_ tR (aG _ _);have ec:=kZ a;generalize a.eval=ev at *;clear h;go_simp) ?_;refine oC (fun a y h=>by have cD:a.eval (.tmp 78)=(.slice q 0 a2:Value):=h.of 78;refine dG (v:=.int .i64 0) (w':=y) (wG (h.of 74)) ?_ tR (aG _ _);have ec:=kZ a;generalize a.eval=ev at *;clear h;go_simp) ?_;refine oC (fun a y h=>by have cE:a.eval (.tmp 79)=(.int .i64 0:Value):=h.of 79;refine dG (v:=.bool true) (w':=y) (wG (h.of 74)) ?_ tR (aG _ _);have ec:=kZ a;generalize a.eval=ev at *;clear h;go_simp) ?_;refine oC (fun a y h=>by have cw:a.eval (.tmp 74)=(.bool true:Value):=h.of 74;have cF:a.eval (.tmp 80)=(.bool true:Value):=h.of 80;exact iQ (.bool true)) ?_;refine oC (fun a y h=>by have cG:a.eval (.tmp 81)=(.bool true:Value):=h.of 81;exact iQ (.bool true)) ?_;exact OI.nil
 case hend=>rintro⟨tm,df⟩ wE aJ b5 aO aN aw;have k0:tm.getD 0 undef=(.bool true:Value):=tW (T:=vbT d.heap.size G K L m p g R a0 U a1 D H q a2) (w:=wE) (a:=⟨tm,df⟩) (t:=0) aw kR;obtain rfl:df=[]:=b5;have aR:O (Below w.heap.size w wE):=ao.o.trans (aJ.mono ao.o.size);obtain⟨fQ,hQ,a9⟩:=oR [24,25,26,27,28,29,30,31,32,33,34,35,36,37,38,39,40,41,42,43,44,45,46,47,48,49,50,51,52,53,54,55,56,57,58,59,60,61,62,63,64,65,66,67,68,69,70,71,72,73,74,75,76,77,78,79,80,81,0] tm _ aO aN;clear aO aN aw aJ;simp only[List.foldl_cons,List.foldl_nil,(hQ 0).trans k0]at a9;clear k0 hQ;simp only[List.setIfInBounds_toArray,List.set_cons_zero,List.set_cons_succ]at a9;subst a9;go_wp2_with fail;go_ret;exact⟨rfl,aR.o⟩
structure aTB (c:List aQ×List aQ):Prop where
 l:c.1.length<=60/\c.2.length<=60
 f:∀f,f∈c.1\/f∈c.2->f.args.length<=3
theorem aKT{T S:List aQ}(d:T.length<=60/\∀f,f∈T->f.args.length<=3)(c:S.length<=60/\∀f,f∈S->f.args.length<=3):aTB (WD T S):=by
 have e:∀(A B:List aQ) f,f∈eM A B->f∈A:=fun A B f h=>(qM.mp h).1;refine⟨⟨?_,?_⟩,fun f b=>?_⟩
 ·exact bP EL d.1
 ·exact bP EL c.1
 rcases b with b|b
 ·exact d.2 f (e _ _ f b)
 exact c.2 f (e _ _ f b)
theorem Pm{p:bK}:∀{l:List aX}{h w:List aX}{R S:List aQ}{e:Int}{h1 w1:List aX}{f:List aQ}{d:pX},xG p h w S l e h1 w1 f d->e=0->lE p R [] 0 S->∀c,c∈d->aTB c
 |[],_,_,R,_,_,_,_,_,_,a,_,i=>by obtain⟨_,rfl,rfl,rfl,rfl⟩:=a;intro c b;cases b
 |u::l,h,w,R,S,e,h1,w1,f,d,a,he,i=>by
  rcases a with a|⟨q,r,k,n,g,rfl,j⟩
  ·exact absurd he a.1
  intro c b;rcases eA.mp b with rfl|b
  ·exact aKT (uK g.m) (uK i)
  exact Pm j he g.m c b
theorem Hm{p:bK}{h w:List aX}{l:List aX}{S b:List aQ}{h1 w1:List aX}{e:pX}(o:sG p h w 0 (dY p h w) S)(d:xG p h w S l 0 h1 w1 b e):sG p h1 w1 0 (dY p h1 w1) b:=by obtain⟨f,c,_,g⟩:=CG o;exact aKW ⟨f,(AF d rfl c _ (lK.mp c).is).2.1,rfl,ZQ d rfl g⟩
end Go.Proofs.YtfljoehbbncooaaGreat
