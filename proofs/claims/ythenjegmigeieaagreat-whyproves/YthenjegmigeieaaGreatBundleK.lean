/- Own texts, one behind the other (part 11). -/
import Derived.Test.YthenjegmigeieaaGreatBundleJ
import Derived.Test.YthenjegmigeieaaGreatRows
import Derived.ProofKit
import Derived.Deep.Slices
import Derived.Deep.Strs
set_option maxRecDepth 100000
set_option maxHeartbeats 8000000
namespace Go.Proofs.YthenjegmigeieaaGreat
open Go.RowKit
def tU(p:bC)(l:List aN):Int:=if 60<l.length then 2 else aU (fun f:aN=>iL p f.z f.args) l
def aK0(g i k:Nat)(b:Int)(e f d:Value):Nat->Value
 |16=>e
 |17=>f
 |18=>.int .i64 (k:Nat)
 |19=>.pointer (some ⟨g,i+k*2,none⟩)
 |20=>d
 |21=>.int .i64 b
 |6=>.int .i64 b
 |_=>.bool false
theorem NY(p:bC)(facts:List aN)(va vn vr vf:Value)(w:World)(I:iU w va vn vr p)(hF:jK p)(hV:dA w vf facts)(av:facts.length<=9223372036854775807)(a6:∀f,f∈facts->fW f):
 Calls Tryz.prog 32 #[eN va vn vr,vf] w fun e W=>e=.returned (.int .i64 (tU p facts))/\Below w.heap.size w W:=by
 obtain⟨d,j,rfl,_⟩:=id I.ar;obtain⟨l,r,rfl,_⟩:=id I.nm;obtain⟨n,s,rfl,_⟩:=id I.rl;obtain⟨af,G,rfl,_,a5⟩:=id hV;have bT:=dD w (pB d j l r n s p);have Z:O _:=aR w (pB d j l r n s p);have Y:O _:=bT;have X:O (dM w (.slice d p.g.length j) p.g/\p.g.length<=9223372036854775807):=⟨I.ar,hF.ar⟩;have ac:O _:=a5;have ad:O _:=a6;clear I hF hV a5 a6 bT;by_cases C:60<facts.length
 ·have ag:decide ((60:Int)<(facts.length:Int))=true:=aQ oM;have ah:decide (60<facts.length)=true:=aQ C;have M:O _:=C;clear C
  go_enter Tryz.func32,Tryz.ntmps32
  go_wp2_with fail;go_ret;(have E:O (tU p facts=2):=by show _=_;unfold tU;rw[if_pos M.o]);exact⟨by rw[E.o];rfl,Y.o⟩
 have ag:decide ((60:Int)<(facts.length:Int))=false:=aJ oM;have ah:decide (60<facts.length)=false:=aJ C;have M:O _:=C;have ax:facts.length<=60:=oM;clear C
 go_enter Tryz.func32,Tryz.ntmps32
 go_upto_region 1 with fail;generalize w.alloc (pB d j l r n s p)=w1 at *;generalize aj:w.heap.size=PB at *;go_wp2_with fail;go_loopw [5] (fun iv wr=>∃k:Nat,k<=facts.length/\iv=.int .i64 k/\O (aU (fun f:aN=>iL p f.z f.args) facts=aU (fun f:aN=>iL p f.z f.args) (facts.drop k))/\O (Below w.heap.size w wr/\Below w1.heap.size w1 wr)) (fun iv _=>facts.length-(intOf iv).toNat);case atStart=>exact⟨0,bG _,rfl,by show _=_;rw[gJ],by rw[aj];exact Y.o,aH _ _⟩
 case round=>
  obtain⟨k,hk,rfl,HK,K⟩:=hrel;have v:O (Below w.heap.size w wr):=K.o.1;have N:=(K.o.2.block _ (bP Z.o)).trans Z.o;(have c0:wr.cell? ⟨PB,0,none⟩=some (.slice d p.g.length j):=cH N);(have c1:wr.cell? ⟨PB,1,none⟩=some (.slice l p.q.length r):=cH N);(have c2:wr.cell? ⟨PB,2,none⟩=some (.slice n p.m.length s):=cH N);clear N;by_cases J:k<facts.length
  ·obtain⟨x,y,rfl,f0,fv,f1,Q⟩:=qJ ac.o k J;have a9:=mT facts k J;have p0:=aB v.o f0;have p1:=aB v.o f1;have a4:O _:=yT J;(have a3:O (∀b,Below wr.heap.size wr b->Calls Tryz.prog 43 #[eN (.slice d p.g.length j) (.slice l p.q.length r) (.slice n p.m.length s),kS (aZ facts k).z fv] b fun e W=>e=.returned (.int .i64 (iL p (aZ facts k).z (aZ facts k).args))/\Below b.heap.size b W):=fun b hb=>by have a8:Below w.heap.size w b:=v.o.trans (hb.mono v.o.size);exact RN p _ _ _ _ _ fv b (aM X.o.1 a8) X.o.2 (aM Q a8) (ad.o _ a9));obtain⟨F,H,rfl,_⟩:=id Q;clear f0 f1 Q a9;generalize aZ facts k=ff at *;obtain⟨B,A⟩:=ff;dsimp only at *;obtain⟨i,L⟩:∃i,O (iL p B A=i):=⟨_,rfl⟩;rw[L.o]at a3;go_upto_region 6 with fail;refine nF (fun S V _=>V=aK0 x y k i (eN (.slice d p.g.length j) (.slice l p.q.length r) (.slice n p.m.length s)) (.slice (some ⟨x,y,none⟩) facts.length G) (kS B (.slice F A.length H)) S) kR kR (fun _ _ _ _ _ h=>h) ?hop ?hend
   case hop=>
    refine oC (fun a b h=>by have e2:a.eval (.tmp 2)=(.pointer (some ⟨PB,0,none⟩):Value):=h.old 2;have x0:=aB h.u c0;have x1:=aB h.u c1;have x2:=aB h.u c2;exact jC (eN (.slice d p.g.length j) (.slice l p.q.length r) (.slice n p.m.length s))) ?_;refine oC (fun a b h=>by have e1:a.eval (.tmp 1)=(.slice (some ⟨x,y,none⟩) facts.length G:Value):=h.old 1;exact jC (.slice (some ⟨x,y,none⟩) facts.length G)) ?_;refine oC (fun a b h=>by have e5:a.eval (.tmp 5)=(.int .i64 (k:Nat):Value):=h.old 5;exact jC (.int .i64 (k:Nat))) ?_;refine oC (fun a b h=>by have an:a.eval (.tmp 17)=(.slice (some ⟨x,y,none⟩) facts.length G:Value):=h.of 17;have ao:a.eval (.tmp 18)=(.int .i64 (k:Nat):Value):=h.of 18;exact jC (.pointer (some ⟨x,y+k*2,none⟩))) ?_;refine oC (fun a b h=>by have ap:a.eval (.tmp 19)=(.pointer (some ⟨x,y+k*2,none⟩):Value):=h.of 19;have x0:=aB h.u p0;have x1:=aB h.u p1;exact jC (kS B (.slice F A.length H))) ?_;refine oC (fun a b h=>?_) ?_
    ·have am:a.eval (.tmp 16)=(eN (.slice d p.g.length j) (.slice l p.q.length r) (.slice n p.m.length s):Value):=h.of 16;have aq:a.eval (.tmp 20)=(kS B (.slice F A.length H):Value):=h.of 20;refine iC (f:=43) (args:=#[eN (.slice d p.g.length j) (.slice l p.q.length r) (.slice n p.m.length s),kS B (.slice F A.length H)]) (bF rfl) ?_ ?_
     ·have ec:=qM a;have ef:=IM a;generalize a.eval=ev at *;clear h;go_simp
     refine Calls.mono (a3.o b h.u) ?_;rintro _ y2 ⟨rfl,ak⟩;exact⟨_,rfl,fun t ht=>by cases ht;exact rfl,ak⟩
    refine oC (fun a b h=>by have au:a.eval (.tmp 21)=(.int .i64 i:Value):=h.of 21;exact jC (.int .i64 i)) ?_;exact JL.nil
   case hend=>
    rintro⟨U,df⟩ wE R al aa ab a7;have h6:U.getD 6 undef=.int .i64 i:=zG (T:=fun S V _=>V=aK0 x y k i (eN (.slice d p.g.length j) (.slice l p.q.length r) (.slice n p.m.length s)) (.slice (some ⟨x,y,none⟩) facts.length G) (kS B (.slice F A.length H)) S) (w:=wE) (a:=⟨U,df⟩) (t:=6) a7 kR;obtain rfl:df=[]:=al;obtain⟨fQ,hQ,P⟩:=pQ [16,17,18,19,20,21,6] U _ aa ab;clear aa ab a7;simp only[List.foldl_cons,List.foldl_nil,(hQ 6).trans h6]at P;clear h6 hQ;simp only[List.setIfInBounds_toArray,List.set_cons_zero,List.set_cons_succ]at P;subst P;by_cases D:i=0
    ·(have ge:(i != 0)=false:=by simpa using D);(have ae:O (aU (fun f:aN=>iL p f.z f.args) facts=aU (fun f:aN=>iL p f.z f.args) (facts.drop (k+1))):=by show _=_;rw[HK.o,a4.o];show(if iL p B A=0 then _ else _)=_;rw[L.o,if_pos D]);clear D;go_wp2_with fail;go_roundw;(case rel=>exact⟨k+1,J,gN,ae.o,v.o.trans (R.mono v.o.size),K.o.2.trans (R.mono K.o.2.size)⟩);case measure=>exact mI
    (have ge:(i != 0)=true:=by simpa using D);(have E:O (tU p facts=i):=by show _=_;unfold tU;rw[if_neg M.o,HK.o,a4.o];show(if iL p B A=0 then _ else _)=_;rw[L.o,if_neg D];exact L.o);clear D;go_wp2_with fail;go_ret;exact⟨by rw[E.o];rfl,v.o.trans (R.mono v.o.size)⟩
  have aw:decide (k<facts.length)=false:=aJ J;(have E:O (tU p facts=0):=by show _=_;unfold tU;rw[if_neg M.o,HK.o,bD oM];rfl);go_wp2_with fail;go_ret;exact⟨by rw[E.o];rfl,v.o⟩
theorem GG{α:Type}{f g:α->Int}:∀{l:List α},(∀x,x∈l->f x=g x)->aU f l=aU g l
 |[],_=>rfl
 |x::r,h=>by show(if f x=0 then aU f r else f x)=(if g x=0 then aU g r else g x);rw[h x dC,GG (fun y b=>h y (bO _ b))]
theorem aH9(l:List aN)(v:Value)(w:World)(k:dA w v l)(s:l.length<=4398046511103)(r:∀f,f∈l->fW f):
 Calls Tryz.prog 35 #[v] w fun e d=>∃b,e=.returned b/\aHG w d b (dR l)/\Below w.heap.size w d:=
 (YD (fun _=>True) l v w w (fun _ _ _ _ _ _ _ _=>trivial) (aH _ _) k s r).mono fun _ _ ⟨b,n,⟨q,g,i,j⟩,m⟩=>⟨b,n,⟨q,g,i,fun p x=>(j p x).1⟩,m⟩
theorem Zm(l m:List aN)(v u:Value)(w:World)(hV:dA w v l)(J:dA w u m)(hl:l.length<=4398046511103)(hm:m.length<=4398046511103)(D:∀f,f∈l->fW f)(hg:∀f,f∈m->fW f):
 Calls Tryz.prog 48 #[v,u] w fun e w'=>∃v',e=.returned v'/\dA w' v' (rA l m)/\Below w.heap.size w w':=by
 obtain⟨i0,hi,ak,al,am⟩:=iT vK;have HU:O (dA w u m):=J;obtain⟨ao,an,rfl,_,hA⟩:=hV;obtain⟨bo,ap,rfl,_,_⟩:=id J;have HA:O (lJ w ao l):=hA;have G:O ((∀f,f∈l->fW f)/\∀f,f∈m->fW f):=⟨D,hg⟩;obtain⟨P,hP⟩:∃P:aN->Bool,P=fun x=> !jZ m x:=⟨_,rfl⟩;have X:O (P=fun x=> !jZ m x):=hP;clear hA D hg J hP
 go_enter Tryz.func48,Tryz.ntmps48
 go_wp2_with fail;go_loopw [5,6] (fun vs i wr=>∃(k:Nat)(q:List Fv),k<=l.length/\i=.int .i64 k/\wr.ownsRow w.heap.size 55 2 vs q.length (q.map dW).flatten/\q.map (·.1)=(l.take k).filter P/\(∀p,p∈q->DN w p)/\Below w.heap.size w wr/\q.length<=k) (fun _ i _=>l.length-(intOf i).toNat);case atStart=>exact⟨0,[],bG _,rfl,eD _ _ _ _,rfl,fun _ d=>absurd d sI,aH _ _,aE _⟩
 case round=>
  obtain⟨F,aj⟩:∃F,F=wr:=⟨_,rfl⟩;subst aj;obtain⟨k,q,hk,rfl,B,a7,a8,g,ar⟩:=hrel;have s:O _:=a7;have A:O _:=a8;clear a7 a8;obtain⟨ac,ae,rfl⟩:=bJ B;by_cases M:k<l.length
  ·obtain⟨b,a9,rfl,Q,fv,R,a2⟩:=qJ HA.o k M;have a5:=mT l k M;(have y:O ((l.take (k+1)).filter P=(l.take k).filter P++if P (aZ l k)then [aZ l k] else []):=by show _=_;rw[eI,CX l k M,lC];simp only[Option.toList_some,List.filter_cons,List.filter_nil]);have U:O (dM w fv (aZ l k).args):=a2;have S:O (fW (aZ l k)):=G.o.1 _ a5;(have Y:O (P (aZ l k)= !jZ m (aZ l k)):=by show _=_;rw[X.o]);obtain⟨j,n,rfl,_⟩:=a2;have a0:=aB g Q;have a1:=aB g R;have W:O (w.cell? ⟨b,a9+k*2,none⟩=some (.int .i64 (aZ l k).z)/\w.cell? ⟨b,a9+k*2+1,none⟩=some (.slice j (aZ l k).args.length n)):=⟨Q,R⟩;clear Q R a5;generalize aZ l k=f at *;have T:O _:=AP m f _ _ F (bR HU.o g) (aM U.o g) oM G.o.2 S.o;go_wp2_with fail;refine Calls.mono T.o ?_;rintro e w1 ⟨rfl,K⟩;have E:=bI B K;have r:=g.trans (K.mono g.size);clear B g K T a0 a1;cases hh:jZ m f
   ·(have d:P f=true:=by rw[Y.o,hh];rfl);rw[d,if_pos rfl]at y;(have H:O ((q++[(f,Value.slice j f.args.length n)]).map (·.1)=(l.take (k+1)).filter P):=by show _=_;rw[y.o,<-s.o];simp);have aa:O (∀p,p∈q++[(f,Value.slice j f.args.length n)]->DN w p):=by
     intro p d;rcases dP.mp d with d|d
     ·exact A.o p d
     (obtain rfl:p=(f,Value.slice j f.args.length n):=by simpa using d);exact⟨U.o,S.o⟩
    clear y s A d;have b0:=aB r W.o.1;have b1:=aB r W.o.2;have aq:=r.size;go_wp2_with(at_builtin;refine fX _ rfl _ _ 27 rfl w.heap.size 55 i0 _ 2 32 Tryz.underlying27 hi ak al am rfl dE _ _ _ rfl (E.alloc _) ⟨w1.heap.size,0,none⟩ 1 1 (dW (f, .slice j f.args.length n)) rfl rfl ?c1 ?c2 ?c3 ?c4 ?c5 ?_);(case c1=>exact Wx w1 _ _ 55);(case c2=>intro u hu;simp[dW]at hu;rcases hu with rfl|rfl<;>rfl);(case c3=>unfold maxLen;omega);(case c4=>omega);(case c5=>simp;omega);intro au w4 N a4 _;obtain⟨ab,ad,rfl⟩:=bJ N;have ah:Below w.heap.size w w4:=(r.alloc r.size _).grown a4 sO (fun k hk=>(E.lt k hk).1);(have ai:w4.ownsRow w.heap.size 55 2 (.slice ab (q.length+1) ad) (q++[(f,Value.slice j f.args.length n)]).length ((q++[(f,Value.slice j f.args.length n)]).map dW).flatten:=by rw[bA,cB,fZ];simpa using N);clear N a4 E r b0 b1;go_wp2_with fail;go_roundw;(case rel=>exact⟨k+1,_,oM,gN,ai,H.o,aa.o,ah,by rw[bA];simp;omega⟩);case measure=>exact mI
   (have d:P f=false:=by rw[Y.o,hh];rfl);rw[d,if_neg sI]at y;(have H:O (q.map (·.1)=(l.take (k+1)).filter P):=by show _=_;rw[y.o,s.o];simp);clear y s d;go_wp2_with fail;go_roundw;(case rel=>exact⟨k+1,q,oM,gN,E,H.o,A.o,r,oM⟩);case measure=>exact mI
  (have Z:O (q.map (·.1)=l.filter P):=by show _=_;rw[s.o,dU oM]);(have C:O (dA F (.slice ac q.length ae) (l.filter P)/\(l.filter P).length<=4398046511103/\∀f,f∈l.filter P->fW f):=by refine⟨?_,by have :=wZ P l;omega,fun f D=>G.o.1 f (mX.mp D).1⟩;rw[<-Z.o];exact AL B A.o g);(have V:O (dR (l.filter P)=rA l m):=by show _=_;rw[X.o];rfl);clear s Z B A;go_wp2_with fail;refine Calls.mono (aH9 (l.filter P) _ _ C.o.1 C.o.2.1 C.o.2.2) ?_;rintro e w3 ⟨v3,rfl,I,L⟩;obtain⟨q3,_,a6,_⟩:=id I;obtain⟨a3,c3,rfl⟩:=bJ a6;(have HS:O (dA w3 (.slice a3 q3.length c3) (rA l m)):=by rw[<-V.o];exact I.toV L);have ag:=g.trans (L.mono g.size);clear a6 I L C V;go_wp2_with fail;go_ret;exact⟨_,rfl,HS.o,ag⟩
theorem aDT(l m:List aN)(v u:Value)(w:World)(i:dA w v l)(g:dA w u m)(k:l.length<=1048576)(n:m.length<=1048576)(j:∀f,f∈l->fW f)(hg:∀f,f∈m->fW f):
 Calls Tryz.prog 48 #[v,u] w fun e d=>∃b,e=.returned b/\dA d b (rA l m)/\Below w.heap.size w d:=
 Zm l m v u w i g oM oM j hg
theorem Eh{p:bC}{l:List aN}(b:dJ p=0):kM p l=tU p l:=by
 unfold kM tU kK;split
 ·rfl
 refine GG fun f _=>?_;unfold nP iD;rw[if_pos b]
theorem aDN(p:bC):kM p []=0:=rfl
theorem ZO(a:Int):iD a 0=a:=by unfold iD;split<;>simp_all
theorem SZ(p:bC)(l:List aN):aX p l []=iD (oQ p) (kM p l):=by unfold aX;rw[aDN,ZO]
section
variable {p:bC} {S:List aN} {i:Nat}
theorem vM(p:bC)(i:Nat):gV p (i:Int)=aW p.m i:=by unfold gV;rw[fJ]
theorem UN(e:sC p)(d:jL p S)(b:S.length<=60)(f:i<p.m.length):tI p (i:Int) S:=⟨e,by omega,by omega,b,d.right⟩
theorem Ty(f:sC p)(b:jL p S)(d:S.length<=60)(e:i<p.m.length):uA S (aW p.m i)=decide ((gP S (aW p.m i)).length<=2000):=by have h:=(TF (UN f b d e)).length_eq;rw[vM,CK b.up]at h;unfold uA;rw[CK b.up,h]
theorem UO(e:sC p)(b:jL p S)(f:S.length<=60)(d:i<p.m.length)(g:uA S (aW p.m i)=true):mP (aW p.m i) (pC S (aW p.m i))=bS S (aW p.m i):=by have h:=TF (UN e b f d);rw[vM,CK b.up]at h;have j:=e.c _ (pS d);unfold pC;rw[if_pos g,CK b.up];exact(zP _ (AS (yX (gC j b.right) (kW b.up)))).trans (zP _ h.symm)
end
def vV(p:bC)(k:Int)(S:List aN)(i:Nat)(H:List aN):Prop:=∀f,f∈H↔∃j,j<i/\oE p (aW p.m j).z=k/\f∈bS S (aW p.m j)
def KR(p:bC)(k:Int)(S:List aN)(i:Nat):Prop:=∀j,j<i->oE p (aW p.m j).z=k->(gP S (aW p.m j)).length<=2000
theorem Ep(p:bC)(k:Int)(S:List aN):vV p k S 0 []:=fun _=>⟨fun h=>absurd h sI,fun⟨j,b,_⟩=>absurd b (nZ j)⟩
theorem Ev{p:bC}{k:Int}{S H:List aN}{i:Nat}(h:vV p k S i H)(l:oE p (aW p.m i).z=k):vV p k S (i+1) (H++bS S (aW p.m i)):=fun f=>by
 rw[dP,h f];constructor
 ·rintro(⟨j,e,b,d⟩|b)
  ·exact⟨j,oM,b,d⟩
  exact⟨i,oM,l,b⟩
 rintro⟨j,e,b,d⟩;by_cases g:j<i
 ·exact .inl ⟨j,g,b,d⟩
 obtain rfl:j=i:=oM;exact .inr d
theorem Lx{p:bC}{k:Int}{S H:List aN}{i:Nat}(h:vV p k S i H)(l:¬oE p (aW p.m i).z=k):vV p k S (i+1) H:=fun f=>by
 rw[h f];constructor
 ·rintro⟨j,e,b,d⟩;exact⟨j,oM,b,d⟩
 rintro⟨j,e,b,d⟩;by_cases g:j<i
 ·exact⟨j,g,b,d⟩
 obtain rfl:j=i:=oM;exact absurd b l
theorem Yp{p:bC}{k:Int}{S:List aN}{i:Nat}(h:KR p k S i)(e:(gP S (aW p.m i)).length<=2000):KR p k S (i+1):=fun j f d=>by
 by_cases b:j<i
 ·exact h j b d
 obtain rfl:j=i:=oM;exact e
theorem aDO{p:bC}{k:Int}{S:List aN}{i:Nat}(h:KR p k S i)(e:¬oE p (aW p.m i).z=k):KR p k S (i+1):=fun j f b=>by
 by_cases d:j<i
 ·exact h j d b
 obtain rfl:j=i:=oM;exact absurd b e
theorem BJ{l m:List aN}{f:aN}:f∈rA l m↔f∈l/\f∉m:=by
 unfold rA;rw[iK,mX];refine and_congr Iff.rfl ?_;cases h:jZ m f
 ·simp;intro b;rw[lD.mpr b]at h;cases h
 simp;exact lD.mp h
theorem XW{L:List aN}(h:L.Nodup):(dR L).length=L.length:=((DA (kW (kV L).1) h).mpr fun _=>iK).length_eq
section
variable {p:bC} {k:Int} {S H:List aN}
theorem Zh(h:vV p k S p.m.length H):OA p k S (mO S (rA H S)):=by
 refine⟨fun f d=>sR.mpr (.inl d),fun f d=>?_,(kV _).1⟩;rcases sR.mp d with b|b
 ·exact .inl b
 obtain⟨j,g,i,e⟩:=(h f).mp (BJ.mp b).1;exact .inr ⟨_,pS g,i,e⟩
theorem aHV(d:vN S):(mO S (rA H S)).length=S.length+(rA H S).length:=by unfold mO;rw[XW,bA];rw[XQ];refine⟨kW d,kW (kV _).1,fun a f b g e=>?_⟩;subst e;exact(BJ.mp g).2 f
theorem Mb(q:vN S){m:List aN}(v:jR p k m S)(n:S.length<=60)(h:vV p k S p.m.length H)(b:KR p k S p.m.length)(w:(mO S (rA H S)).length=S.length):rD p k m (some (mO S (rA H S))):=by
 have e:mO S (rA H S)=S:=OH q (kV _).1 (fun f b=>sR.mpr (.inl b)) oM;rw[e];refine⟨v,fun r j g f s=>?_,n,fun r j g=>?_⟩
 ·obtain⟨i,d,rfl⟩:=yQ j;refine Classical.byContradiction fun l=>l ?_;rw[<-e];exact sR.mpr (.inr (BJ.mpr ⟨(h f).mpr ⟨i,d,g,s⟩,l⟩))
 obtain⟨i,d,rfl⟩:=yQ j;exact b i d g
end
theorem Dz(p:bC)(l:List aN)(va vn vr Z:Value)(w:World)(i:iU w va vn vr p)(J:jK p)(K:dA w Z l)(V:l.length<=9223372036854775807)(U:∀f,f∈l->fW f):
 Calls Tryz.prog 31 #[eN va vn vr,Z] w fun e w'=>e=.returned (.int .i64 (aX p l []))/\Below w.heap.size w w':=by
 obtain⟨n,z,rfl,_⟩:=id i.ar;obtain⟨r,A,rfl,_⟩:=id i.nm;obtain⟨s,B,rfl,_⟩:=id i.rl;obtain⟨al,cl,rfl,_⟩:=id K;have I:=(aH w.heap.size w).alloc (aE _) (pB n z r A s B p);have N:O _:=aR w (pB n z r A s B p);have C:O (Below w.heap.size w _):=I;have HP:O (iU w (.slice n p.g.length z) (.slice r p.q.length A) (.slice s p.m.length B) p/\jK p):=⟨i,J⟩;have HV:O (dA w (.slice al l.length cl) l/\l.length<=9223372036854775807/\∀f,f∈l->fW f):=⟨K,V,U⟩;have P:O _:=KQ p _ _ _ _ (i.u I) J;clear i J K V U I
 go_enter Tryz.func31,Tryz.ntmps31
 go_upto_region 1 with fail;generalize w.alloc (pB n z r A s B p)=d at *;(have H:O (∀y,Below d.heap.size d y->y.cell? ⟨w.heap.size,0,none⟩=some (.slice n p.g.length z)/\y.cell? ⟨w.heap.size,1,none⟩=some (.slice r p.q.length A)/\y.cell? ⟨w.heap.size,2,none⟩=some (.slice s p.m.length B)):=fun y hy=>by have h:=(hy.block _ (bP N.o)).trans N.o;exact⟨cH h,cH h,cH h⟩);obtain⟨c0,v,x⟩:=H.o d (aH _ _);go_wp2_with fail;refine Calls.mono P.o ?_;rintro _ D ⟨rfl,L⟩;have F:O (Below d.heap.size d D):=L;have S:O (Below w.heap.size w D):=C.o.trans (L.mono C.o.size);clear c0 v x L P;by_cases b:dJ p=0
 ·have Q:O _:=UJ p _ _ _ D (HP.o.1.u S.o) b;have G:O _:=b;obtain⟨c0,v,x⟩:=H.o D F.o;rw[b];clear b;go_wp2_with fail;refine Calls.mono Q.o ?_;rintro _ E ⟨v3,l3,rfl,T,_,W⟩;have M:O (Below d.heap.size d E):=F.o.trans (W.mono F.o.size);have k:O (Below w.heap.size w E):=C.o.trans (M.o.mono C.o.size);obtain⟨a3,c3,rfl,_⟩:=id T;clear c0 v x W Q T;cases Y:uW p
  ·(have j:O (aX p l []=4):=by show _=_;rw[SZ];unfold oQ;rw[if_pos G.o,Y];rfl);go_wp2_with fail;go_ret;exact⟨by rw[j.o];rfl,k.o⟩
  (have j:O (aX p l []=tU p l):=by show _=_;rw[SZ,Eh G.o];unfold oQ;rw[if_pos G.o,Y];rfl);have R:O _:=NY p l _ _ _ _ E (HP.o.1.u k.o) HP.o.2 (bR HV.o.1 k.o) HV.o.2.1 HV.o.2.2;obtain⟨c0,v,x⟩:=H.o E M.o;go_wp2_with fail;refine Calls.mono R.o ?_;rintro _ w4 ⟨rfl,X⟩;have a4:O (Below w.heap.size w w4):=k.o.trans (X.mono k.o.size);clear X R c0 v x;go_wp2_with fail;go_ret;exact⟨by rw[j.o];rfl,a4.o⟩
 (have j:O (aX p l []=dJ p):=by show _=_;rw[SZ];unfold oQ iD;rw[if_neg b,if_neg b]);(have g:(dJ p != 0)=true:=by simpa using b);clear b;go_wp2_with fail;go_ret;exact⟨by rw[j.o];rfl,S.o⟩
theorem aDU(p:bC)(l:List aN)(va vn vr vl:Value)(w:World)(hP:iU w va vn vr p)(hF:jK p)(hV:dA w vl l)(hz:aX p l []=0):
 Calls Tryz.prog 73 #[eN va vn vr,vl] w fun e w'=>∃v x,e=.returned (.tuple #[v, .bool x.isSome])/\oV p l x/\dA w' v (x.getD [])/\Below w.heap.size w w':=by
 obtain⟨ax,be,cd,_⟩:=tY hz;have a4:=vW ax be;obtain⟨bf,bh⟩:=sQ ax cd;have cj:=nM bh;obtain⟨a0,n0,rfl,_⟩:=id hP.ar;obtain⟨a1,n1,rfl,_⟩:=id hP.nm;obtain⟨a2,n2,rfl,c9⟩:=id hP.rl;obtain⟨al,cl,rfl,_⟩:=id hV;have bT:=(aH w.heap.size w).alloc (aE _) (pB a0 n0 a1 n1 a2 n2 p);have bl:O _:=aR w (pB a0 n0 a1 n1 a2 n2 p);have HB:O (Below w.heap.size w _):=bT;have HP:O (iU w (.slice a0 p.g.length n0) (.slice a1 p.q.length n1) (.slice a2 p.m.length n2) p/\jK p):=⟨hP,hF⟩;have HV:O (dA w (.slice al l.length cl) l/\l.length<=60/\∀f,f∈l->fW f):=⟨hV,bf,fun f J=>by have :=rO a4.ok (bh f J);unfold fW;omega⟩;have s:O (Ym p/\jL p (dR l)):=⟨a4,cj⟩;have d0:O _:=c9;have dj:O (p.g.length<=10/\p.m.length<=12):=⟨a4.ok.a10,a4.ok.r12⟩;have ds:p.m.length<=12:=a4.ok.r12;have dl:p.g.length<=10:=a4.ok.a10;have d4:O ((dR l).length<=60):=bH (RQ l) bf;have cs:O _:=be;have HC:O _:=UJ p _ _ _ _ (hP.u bT) ax;clear hP hF hV bT ax be cd a4 bh cj c9 hz bf
 go_enter Tryz.func73,Tryz.ntmps73
 go_upto_region 1 with fail;generalize w.alloc (pB a0 n0 a1 n1 a2 n2 p)=N at *;(have ak:O (∀y,Below N.heap.size N y->y.cell? ⟨w.heap.size,0,none⟩=some (.slice a0 p.g.length n0)/\y.cell? ⟨w.heap.size,1,none⟩=some (.slice a1 p.q.length n1)/\y.cell? ⟨w.heap.size,2,none⟩=some (.slice a2 p.m.length n2)):=fun y E=>by have h:=(E.block _ (bP bl.o)).trans bl.o;exact⟨cH h,cH h,cH h⟩);obtain⟨c0,G,I⟩:=ak.o N (aH _ _);go_wp2_with fail;refine Calls.mono HC.o ?_;rintro _ w2 ⟨v2,l2,rfl,c4,cf,bd⟩;obtain rfl:=cf cs.o;have az:O (Below N.heap.size N w2):=bd;have bz:O (Below w.heap.size w w2):=HB.o.trans (bd.mono HB.o.size);obtain⟨av,cv,rfl,c8⟩:=id c4;have bo:O (pH w2 av (iM p)):=c8;have bq:O ((iM p).length=p.g.length):=pM p;have bm:O _:=YC l _ w2 (bR HV.o.1 bz.o) (by have :=HV.o.2.1;omega) HV.o.2.2;clear c0 G I bd HC c4 cf c8;obtain⟨ll,bg⟩:∃ll,ll=(iM p).length:=⟨_,rfl⟩;rw[<-bg];have cz:O (ll=(iM p).length):=bg;clear bg;go_wp2_with fail;refine Calls.mono bm.o ?_;rintro _ k ⟨v3,rfl,ca,aw⟩;have W:O _:=ca.toV aw;obtain⟨a3,c3,rfl,_⟩:=id W.o;have cx:O (pH k av (iM p)):=xF bo.o aw;have aq:O (Below N.heap.size N k):=az.o.trans (aw.mono az.o.size);clear aw bm ca az bz bo;have Y:O (∀y,Below k.heap.size k y->Below w.heap.size w y/\Below N.heap.size N y):=fun y E=>⟨HB.o.trans ((aq.o.trans (E.mono aq.o.size)).mono HB.o.size),aq.o.trans (E.mono aq.o.size)⟩;go_wp2_with fail;go_loopw [8,9] (fun m nv wr=>∃(n:Nat)(T:List aN),n<=p.g.length/\nv=.int .i64 n/\O (qT p (dR l) n (some T))/\T.length<=60/\O (dA wr m T)/\O (Below k.heap.size k wr)) (fun _ nv _=>p.g.length-(intOf nv).toNat);case atStart=>exact⟨0,dR l,bG _,rfl,rfl,d4.o,W.o,aH _ _⟩
 case round=>
  clear W;obtain⟨wo,dg⟩:∃wo,wo=wr:=⟨_,rfl⟩;subst dg;obtain⟨n,T,hn,rfl,ah,d5,aI,aF⟩:=hrel;obtain⟨aT,cT,rfl,_⟩:=id aI.o;obtain⟨c0,G,I⟩:=ak.o wo (Y.o wo aF.o).2;have b6:O _:=lZ s.o.1 s.o.2 ah.o;by_cases an:n<p.g.length
  ·have d9:decide (n<p.g.length)=true:=aQ an;go_wp2_with fail;clear c0 G I;go_loopw [8,10] (fun m mv wr=>∃(S:List aN)(K:Int),mv=.int .i64 K/\ -1<=K/\O (jR p n T S)/\S.length<=60/\O (K= -1\/(K<=S.length/\(K=S.length->rD p n T (some S))))/\O (dA wr m S)/\O (Below k.heap.size k wr)) (fun _ mv _=>62-(intOf mv+1).toNat);case atStart=>exact⟨T, -1,rfl,oM,jR.refl,d5, .inl rfl,aI.o,aF.o⟩
   case round=>
    obtain⟨d,dh⟩:∃d,d=wr:=⟨_,rfl⟩;subst dh;obtain⟨S,K,rfl,dn,ai,am,cG,W,a9⟩:=hrel;obtain⟨aS,cS,rfl,_⟩:=id W.o;have X:O _:=OG s.o.1 b6.o ai.o;by_cases hm:K<S.length
    ·have d8:decide (K<(S.length:Int))=true:=aQ hm;obtain⟨c0,G,I⟩:=ak.o d (Y.o d a9.o).2;go_wp2_with fail;clear c0 G I;go_loopw [11,12] (fun hv iv wr=>∃(i:Nat)(q:List Fv),i<=p.m.length/\iv=.int .i64 i/\O (wr.ownsRow d.heap.size 55 2 hv q.length (q.map dW).flatten)/\O (UG d.heap.size wr q)/\q.length<=2000*i/\O (vV p n S i (q.map (·.1)))/\O (KR p n S i)/\O (Below d.heap.size d wr)) (fun _ iv _=>p.m.length-(intOf iv).toNat);case atStart=>exact⟨0,[],bG _,rfl,eD _ _ _ _,fun _ hp=>absurd hp sI,aE _,Ep _ _ _,fun j hj=>absurd hj (nZ j),aH _ _⟩
     case round=>
      obtain⟨P,di⟩:∃P,P=wr:=⟨_,rfl⟩;subst di;obtain⟨i,q,hi,rfl,HO,ac,dr,af,aV,V⟩:=hrel;obtain⟨ao,co,rfl⟩:=bJ HO.o;have aa:O (Below k.heap.size k P):=a9.o.trans (V.o.mono a9.o.size);have F:O _:=Y.o P aa.o;obtain⟨c0,G,I⟩:=ak.o P F.o.2;have ae:O _:=bR W.o V.o;by_cases D:i<p.m.length
      ·have d7:decide (i<p.m.length)=true:=aQ D;have bp:O _:=UN s.o.1.ok X.o am D;obtain⟨b,ap,rfl,p0,⟨vt,p1,hT⟩,p2,⟨vb,p3,hL⟩,p4⟩:=rH d0.o i D;have b7:O (∀y,Below w.heap.size w y->dA y (.slice aS S.length cS) S->_):=fun y (E:Below w.heap.size w y) db=>Vb p i S vt vb (.slice aS S.length cS) y bp.o (by rw[vM];exact dS hT E) (by rw[vM];exact nU hL E) db;have b1:O _:=fun(y:World) (E:Below w.heap.size w y) (qq:List Nv) (vw:Value) (B:Nat) (hN:vC B y vw qq) dd=>Ef p i S qq vt vb vw B y bp.o (by rw[vM];exact dS hT E) (by rw[vM];exact nU hL E) hN dd;rw[vM]at b7 b1;obtain⟨at_,ct,rfl,_⟩:=id hT;obtain⟨ab,cb,rfl,_⟩:=id hL;have hr:kX p.g (aW p.m i):=s.o.1.ok.c _ (pS D);obtain⟨L,ay⟩:∃L:Nat,(aW p.m i).z=L:=⟨(aW p.m i).z.toNat,by have :=hr.p0;omega⟩;(have ch:L<(iM p).length:=by have :=hr.p1;rw[bq.o];omega);obtain⟨lb,dt,rfl,cg⟩:=qY cx.o L ch;have l0:=aB aa.o cg;(have br:O (oE p (aW p.m i).z=bM (iM p) L):=by show _=_;unfold oE bM;rw[ay,fJ]);have bv:O _:=Ty s.o.1.ok X.o am D;have d1:O _:=UO s.o.1.ok X.o am D;have cy:O _:=pS D;have C:O (w.cell? ⟨b,ap+i*5,none⟩=some (.int .i64 (L:Int))/\w.cell? ⟨b,ap+i*5+1,none⟩=some (.slice at_ (aW p.m i).p.length ct)/\w.cell? ⟨b,ap+i*5+2,none⟩=some (.int .i64 (aW p.m i).x)/\w.cell? ⟨b,ap+i*5+3,none⟩=some (.slice ab (aW p.m i).body.length cb)/\w.cell? ⟨b,ap+i*5+4,none⟩=some (.int .i64 (aW p.m i).vars)):=⟨by rw[<-ay];exact p0,p1,p2,p3,p4⟩;have bu:O _:=ay;(have dp:L<ll:=by have :=hr.p1;have :=bq.o;have :=cz.o;omega);have q0:=aB F.o.1 C.o.1;clear p0 p1 p2 p3 p4 hT hL hr ay cg ch;by_cases hk:oE p (aW p.m i).z=n
       ·(have g1:(bM (iM p) L != (n:Int))=false:=by rw[<-br.o];simpa using hk);have HK:O _:=hk;have q1:=aB F.o.1 C.o.2.1;have q2:=aB F.o.1 C.o.2.2.1;have q3:=aB F.o.1 C.o.2.2.2.1;have q4:=aB F.o.1 C.o.2.2.2.2;have A:O _:=b7.o P F.o.1 ae.o;unfold lP at A;rw[bu.o]at A;clear hk b7;go_wp2_with fail;refine Calls.mono A.o ?_;rintro _ r ⟨v5,q5,rfl,bc,ci,R⟩;obtain⟨a5,c5,rfl⟩:=bJ bc.1;have cN:O (vC P.heap.size r (.slice a5 q5.length c5) q5):=bc;have cX:O _:=ci;have Q:O (Below d.heap.size d r):=V.o.trans (R.mono V.o.size);have bk:O (Below k.heap.size k r):=a9.o.trans (Q.o.mono a9.o.size);have cU:O _:=bI HO.o R;have cm:O (UG d.heap.size r q):=UG.u ac.o R;clear c0 G I q0 q1 q2 q3 q4 l0 R A bc ci HO ac V aa F ae;cases a8:uA S (aW p.m i)
        ·have b4:O (rD p n T none):=OF s.o.1 b6.o ai.o (fun hs=>by
          have h1:=hs.way _ cy.o HK.o;rw[bv.o]at a8
          exact absurd h1 (IK a8))
         have ag:O (oV p l none):=GA (n:=n+1) ⟨some T,ah.o,b4.o⟩ an;have aj:O _:=(Y.o r bk.o).1;clear a8;go_wp2_with fail;refine dF (fM rfl _ _ _) rfl ?_;exact⟨_,none,rfl,ag.o,⟨none,0,rfl,⟨aE _,fun _=>rfl⟩, .inl rfl⟩,aj.o⟩
        have cw:O _:=d1.o a8;(have bN:O ((gP S (aW p.m i)).length<=2000):=by rw[bv.o]at a8;show _<=_;exact eL a8);have A:O _:=Y.o r bk.o;obtain⟨c0,G,I⟩:=ak.o r A.o.2;have q0:=aB A.o.1 C.o.1;have q1:=aB A.o.1 C.o.2.1;have q2:=aB A.o.1 C.o.2.2.1;have q3:=aB A.o.1 C.o.2.2.2.1;have q4:=aB A.o.1 C.o.2.2.2.2;have au:O _:=b1.o r A.o.1 q5 _ _ cN.o cX.o;unfold lP at au;rw[bu.o,cw.o]at au;have ce:(bS S (aW p.m i)).length<=2000:=bH QR bN.o;clear a8 b1;go_upto_region 17 with fail;go_wp2_with fail;refine Calls.mono au.o ?_;rintro _ w6 ⟨v6,rfl,⟨U,b8,b9,bW⟩,Z⟩;(have dq:U.length<=2000:=by rw[<-b8,aP]at ce;exact ce);obtain⟨a6,c6,rfl⟩:=bJ b9;have bt:O _:=bI cU.o Z;have bj:O (UG d.heap.size w6 q):=UG.u cm.o Z;have ad:O (Below d.heap.size d w6):=Q.o.trans (Z.mono Q.o.size);have df:d.heap.size<=w6.heap.size:=ad.o.size;have de:d.heap.size<=r.heap.size:=Q.o.size;(have bZ:vV p n S (i+1) ((q++U).map (·.1)):=by rw[cB,b8];exact Ev af.o HK.o);have b2:O _:=bZ;have b0:O _:=Yp aV.o bN.o;clear b8 bZ Z au c0 G I q0 q1 q2 q3 q4;go_wp2_with(at_builtin;refine aDD rfl (.tmp 65) (.tmp 72) rfl d.heap.size r.heap.size _ q.length q rfl rfl bt.o bj.o _ U rfl b9 bW de df ?c1 ?_);(case c1=>omega);intro v7 w7 bi bX cc;obtain⟨a7,c7,rfl⟩:=bJ bi;(have cV:O (w7.ownsRow d.heap.size 55 2 (.slice a7 (q.length+U.length) c7) (q++U).length ((q++U).map dW).flatten):=by show World.ownsRow _ _ _ _ _ _ _;rw[bA,cB,fZ];exact bi);have ck:O _:=bX;have cn:O (Below d.heap.size d w7):=ad.o.trans cc;(have dc:(q++U).length<=2000*(i+1):=by rw[bA];omega);clear bi bX cc b9 bW bt bj ad;go_wp2_with fail;go_roundw;(case rel=>exact⟨i+1,q++U,D,gN,cV.o,ck.o,dc,b2.o,b0.o,cn.o⟩);case measure=>exact mI
       (have g1:(bM (iM p) L != (n:Int))=true:=by rw[<-br.o];simpa using hk);have b2:O _:=Lx af.o hk;have b0:O _:=aDO aV.o hk;clear hk;go_wp2_with fail;go_roundw;(case rel=>exact⟨i+1,q,D,gN,HO.o,ac.o,oM,b2.o,b0.o,V.o⟩);case measure=>exact mI
      have d7:decide (i<p.m.length)=false:=aJ D;obtain rfl:i=p.m.length:=oM;have bY:tG d.heap.size P (.slice ao q.length co) (q.map (·.1)):=⟨q,rfl,HO.o,ac.o⟩;(have b5:O (∀f,f∈q.map (·.1)->fW f):=fun f J=>by obtain⟨j,hj,_,da⟩:=(af.o f).mp J;have :=rO s.o.1.ok (tZ (s.o.1.ok.c _ (pS hj)) X.o.right da);unfold fW;omega);((have bw:O (∀f,f∈S->fW f):=fun f J=>by have :=rO s.o.1.ok (X.o.right f J);unfold fW;omega);have bs:O _:=aDT (q.map (·.1)) S _ _ P bY.toV ae.o (by rw[aP];omega) oM b5.o bw.o;clear bY;go_wp2_with fail;refine Calls.mono bs.o ?_;rintro _ r ⟨v5,rfl,ba,R⟩;have cq:O _:=ba;obtain⟨a5,c5,rfl,_⟩:=id ba;have Q:O (Below k.heap.size k r):=aa.o.trans (R.mono aa.o.size);have cu:O _:=bR ae.o R;have bn:O _:=Zh af.o;have b3:O _:=aHV (H:=q.map (·.1)) X.o.up;have cp:O _:=Mb X.o.up ai.o am af.o aV.o;have cF:O (∀f,f∈rA (q.map (·.1)) S->fW f):=fun f J=>b5.o f (BJ.mp J).1;have dm:(rA (q.map (·.1)) S).length<=24000:=by have h1:=nW (l₂:=q.map (·.1)) (kW (kV ((q.map (·.1)).filter fun x=> !jZ S x)).1) fun f J=>(BJ.mp J).1;rw[aP]at h1;show(dR _).length<=_;omega);clear ba R bs V aa F ae HO ac b5;generalize rA (q.map (·.1)) S=M at *;by_cases bU:60<S.length+M.length
      ·have g6:decide (60<S.length+M.length)=true:=aQ bU;have g7:decide ((60:Int)<(S.length:Int)+(M.length:Int))=true:=aQ oM;have b4:O (rD p n T none):=OF s.o.1 b6.o (jR.step ai.o bn.o) (fun hs=>by
        have h1:=hs.len;rw[b3.o]at h1
        omega)
       have ag:O (oV p l none):=GA (n:=n+1) ⟨some T,ah.o,b4.o⟩ an;have aj:O _:=(Y.o r Q.o).1;go_wp2_with fail;refine dF (fM rfl _ _ _) rfl ?_;exact⟨_,none,rfl,ag.o,⟨none,0,rfl,⟨aE _,fun _=>rfl⟩, .inl rfl⟩,aj.o⟩
      have g6:decide (60<S.length+M.length)=false:=aJ bU;have g7:decide ((60:Int)<(S.length:Int)+(M.length:Int))=false:=aJ oM;have bx:O _:=aEW S M _ _ r cu.o cq.o oM oM bw.o cF.o;go_wp2_with fail;refine Calls.mono bx.o ?_;rintro _ w6 ⟨v6,rfl,bb,Z⟩;have cr:O _:=bb;obtain⟨a6,c6,rfl,_⟩:=id bb;have ad:O (Below k.heap.size k w6):=Q.o.trans (Z.mono Q.o.size);(have d6:(mO S M).length<=60:=by rw[b3.o];omega);(have dk:S.length<=(mO S M).length:=by rw[b3.o];omega);have cK:O ((S.length:Int)= -1\/((S.length:Int)<=(mO S M).length/\((S.length:Int)=(mO S M).length->rD p n T (some (mO S M))))):=.inr ⟨oM,fun e=>cp.o oM⟩;have d3:O _:=jR.step ai.o bn.o;clear bb Z bx g6 g7;go_wp2_with fail;go_roundw;(case rel=>exact⟨mO S M,S.length,gN,oM,d3.o,d6,cK.o,cr.o,ad.o⟩);case measure=>exact mI
    have d8:decide (K<(S.length:Int))=false:=aJ hm;have cE:O (rD p n T (some S)):=by
     rcases cG.o with h|⟨h1,h2⟩
     ·omega
     exact h2 oM
    have d2:O (qT p (dR l) (n+1) (some S)):=⟨some T,ah.o,cE.o⟩;go_wp2_with fail;go_roundw;(case rel=>exact⟨n+1,S,an,gN,d2.o,am,W.o,a9.o⟩);case measure=>exact mI
  have d9:decide (n<p.g.length)=false:=aJ an;(have ag:O (oV p l (some T)):=by have e:n=p.g.length:=oM;show qT _ _ _ _;rw[<-e];exact ah.o);have aj:O _:=(Y.o wo aF.o).1;go_wp2_with fail;refine dF (fM rfl _ _ _) rfl ?_;exact⟨_,some T,rfl,ag.o,aI.o,aj.o⟩
theorem RO(p:bC)(l:List aN)(va vn vr V:Value)(w:World)(n:iU w va vn vr p)(I:jK p)(D:dA w V l)(a4:l.length<=9223372036854775807)(T:∀f,f∈l->fW f):
 Calls Tryz.prog 30 #[eN va vn vr,V] w fun e W=>∃v c S,e=.returned (.tuple #[v, .int .i64 c])/\pX p l [] c S/\dA W v S/\Below w.heap.size w W:=by
 obtain⟨i,r,rfl,_⟩:=id n.ar;obtain⟨j,s,rfl,_⟩:=id n.nm;obtain⟨k,y,rfl,_⟩:=id n.rl;obtain⟨Y,Z,rfl,_⟩:=id D;have C:=(aH w.heap.size w).alloc (aE _) (pB i r j s k y p);have d:O _:=aR w (pB i r j s k y p);have E:O (Below w.heap.size w _):=C;have HP:O (iU w (.slice i p.g.length r) (.slice j p.q.length s) (.slice k p.m.length y) p/\jK p):=⟨n,I⟩;have HV:O (dA w (.slice Y l.length Z) l):=D;have M:O _:=Dz p l _ _ _ _ _ (n.u C) I (bR D C) a4 T;clear n I D T C
 go_enter Tryz.func30,Tryz.ntmps30
 go_upto_region 1 with fail;generalize w.alloc (pB i r j s k y p)=L at *;(have c0:L.cell? ⟨w.heap.size,0,none⟩=some (.slice i p.g.length r):=cH d.o);(have G:L.cell? ⟨w.heap.size,1,none⟩=some (.slice j p.q.length s):=cH d.o);(have H:L.cell? ⟨w.heap.size,2,none⟩=some (.slice k p.m.length y):=cH d.o);go_wp2_with fail;refine Calls.mono M.o ?_;rintro _ A ⟨rfl,K⟩;have z:O (Below w.heap.size w A):=E.o.trans (K.mono E.o.size);have F:O _:=(K.block _ (bP d.o)).trans d.o;clear c0 G H K M E d;by_cases b:aX p l []=0
 ·have B:O _:=b;have N:O _:=aDU p l _ _ _ _ A (HP.o.1.u z.o) HP.o.2 (bR HV.o z.o) b;(have c0:A.cell? ⟨w.heap.size,0,none⟩=some (.slice i p.g.length r):=cH F.o);(have G:A.cell? ⟨w.heap.size,1,none⟩=some (.slice j p.q.length s):=cH F.o);(have H:A.cell? ⟨w.heap.size,2,none⟩=some (.slice k p.m.length y):=cH F.o);rw[b];clear b;go_wp2_with fail;refine Calls.mono N.o ?_;rintro _ w3 ⟨v3,x,rfl,R,J,U⟩;have P:O _:=R;have X:O _:=J;obtain⟨a3,c3,rfl,_⟩:=id J;have Q:O (Below w.heap.size w w3):=z.o.trans (U.mono z.o.size);clear c0 G H U N R J
  cases x with
  |some S=>
   have e:(some S).isSome=true:=rfl;rw[e];clear e;go_wp2_with fail;refine dF (fM rfl _ _ _) rfl ?_;exact⟨_,_,S,rfl, .inr ⟨B.o,some S,P.o,rfl,rfl⟩,X.o,Q.o⟩
  |none=>
   have e:(none:Option (List aN)).isSome=false:=rfl;rw[e];clear e;go_wp2_with fail;refine dF (fM rfl _ _ _) rfl ?_;exact⟨_,_,[],rfl, .inr ⟨B.o,none,P.o,rfl,rfl⟩,⟨none,0,rfl,⟨aE _,fun _=>rfl⟩, .inl rfl⟩,Q.o⟩
 (have g:(aX p l [] != 0)=true:=by simpa using b);have B:O _:=b;clear b;go_wp2_with fail;refine dF (fM rfl _ _ _) rfl ?_;exact⟨_,_,[],rfl, .inl ⟨B.o,rfl,rfl⟩,⟨none,0,rfl,⟨aE _,fun _=>rfl⟩, .inl rfl⟩,z.o⟩
end Go.Proofs.YthenjegmigeieaaGreat
namespace Go.Proofs.YthenjegmigeieaaGreat
section
variable {p:bC} {l M:List aN} {a:List eC} {s:eC}
def nG(p:bC)(l M:List aN)(a:List eC)(s:eC):Prop:=s∈kD p l M/\lS p a s=true
theorem Ny(h:rG p l M)(i:s.c= -1):nG p l M a s↔s.d∈l/\s.vars.length=0:=by
 unfold nG;rw[h.fits];constructor
 ·rintro⟨⟨_,b,e⟩|⟨j,_⟩,_⟩
  ·exact⟨e,by rw[b];rfl⟩
  omega
 rintro⟨b,e⟩;refine⟨.inl ⟨i,eB e,b⟩,oT.mpr fun f g=>?_⟩;unfold fV at g;rw[if_pos (.inl i)]at g;cases g
theorem aEY(h:rG p l M)(f:¬s.c= -1)(d:¬(0<=s.c/\s.c<=(p.m.length:Int)-1)):¬nG p l M a s:=fun e=>by
 rcases h.fits.mp e.1 with⟨b,_⟩|⟨b,g,_⟩
 ·exact f b
 exact d ⟨b,oM⟩
variable {i:Nat}
theorem aIG(h:rG p l M)(b:i<p.m.length):tI p (i:Int) M/\gV p (i:Int)=aW p.m i/\mP (aW p.m i) (pC M (aW p.m i))=bS M (aW p.m i):=by have d:=lZ h.fn (nM h.given) h.is;refine⟨UN h.fn.ok d h.few b,vM _ _,UO h.fn.ok d h.few b ?_⟩;rw[Ty h.fn.ok d h.few b];exact aQ ((xA h.fn h.given h.is).2.1 _ (pS b))
theorem TM(b:s.c=(i:Int)):mF p s.c=aW p.m i:=by unfold mF;rw[b,fJ]
theorem BY(h:rG p l M)(e:s.c=(i:Int))(f:i<p.m.length):s∈kD p l M↔mV M (aW p.m i) s.vars/\
 ((aW p.m i).x=0->s.d=eU (aW p.m i) s.vars)/\(¬(aW p.m i).x=0->s.d∈bS M (aW p.m i)/\aK s.d.args=aK (bQ (aW p.m i).p s.vars)):=by
 rw[h.fits];unfold aWP;rw[TM e];constructor
 ·rintro(⟨b,_⟩|⟨_,_,b⟩)
  ·omega
  exact b
 exact fun b=>.inr ⟨oM,oM,b⟩
theorem Ob(h:rG p l M)(w:s.c=(i:Int))(g:i<p.m.length)(hg:nG p l M a s):(s.vars.length:Int)=(aW p.m i).vars/\s.d.z=(aW p.m i).z/\s.d.args.length=(aW p.m i).p.length:=by
 obtain⟨k,n,q⟩:=(BY h w g).mp hg.1;have b:=h.fn.ok.c _ (aRP g);have B:=k.1;have y:=b.v0;refine⟨oM,?_⟩;by_cases f:(aW p.m i).x=0
 ·rw[n f];exact⟨rfl,vF _ _⟩
 have e:=(q f).1;have v:=tZ b h.right e;have j:s.d.z=(aW p.m i).z:=CN e;refine⟨j,?_⟩;have r:=v.al;have A:=b.tl;rw[j]at r;omega
theorem aBG(h:rG p l M)(d:s.c=(i:Int))(b:i<p.m.length)(hg:nG p l M a s):∀n,n∈s.vars->cP n=true:=by have e:=h.fn.ok.c _ (aRP b);exact OX (gC e h.right) (gF h.right) ((BY h d b).mp hg.1).1
theorem aBE(h:rG p l M)(b:s.c=(i:Int))(d:i<p.m.length)(hg:nG p l M a s):∀t,t∈(aW p.m i).body->fF M t s.vars=true:=((BY h b d).mp hg.1).1.2
theorem aBD(h:rG p l M)(j:s.c=(i:Int))(q:i<p.m.length)(e:¬(aW p.m i).x=0)(r:mV M (aW p.m i) s.vars):
 nG p l M a s↔aK (bQ (aW p.m i).p s.vars)=aK s.d.args/\s.d∈bS M (aW p.m i):=by
 unfold nG;rw[BY h j q];constructor
 ·rintro⟨⟨_,_,b⟩,_⟩;exact⟨(b e).2.symm,(b e).1⟩
 rintro⟨b,n⟩;refine⟨⟨r,fun k=>absurd k e,fun _=>⟨n,b.symm⟩⟩,oT.mpr fun f g=>?_⟩;unfold fV at g;rw[if_pos (.inr (by rw[TM j];exact e))]at g;cases g
theorem PR(d:s.c=(i:Int))(b:(aW p.m i).x=0):fV p s=uF (aW p.m i) s.vars:=by
 unfold fV;rw[TM d,if_neg];rintro(h|h)
 ·omega
 exact h b
theorem aBF(d:s.c=(i:Int))(b:(aW p.m i).x=0)(hg:nG p l M a s){t:cI}(ht:t∈(aW p.m i).body)(e:t.kind=1):gQ a ⟨t.z,bQ t.p s.vars⟩=true:=by refine oT.mp hg.2 _ ?_;rw[PR d b];exact cR.mpr ⟨t,mX.mpr ⟨ht,aQ e⟩,rfl⟩
theorem Nz(h:rG p l M)(j:s.c=(i:Int))(r:i<p.m.length)(e:(aW p.m i).x=0)(y:mV M (aW p.m i) s.vars)(w:s.d.z=(aW p.m i).z)
 (v:∀t,t∈(aW p.m i).body->t.kind=1->gQ a ⟨t.z,bQ t.p s.vars⟩=true):nG p l M a s↔bQ (aW p.m i).p s.vars=s.d.args:=by
 unfold nG;rw[BY h j r];constructor
 ·rintro⟨⟨_,b,_⟩,_⟩;rw[b e];rfl
 intro b;refine⟨⟨y,fun _=>?_,fun k=>absurd e k⟩,oT.mpr fun f g=>?_⟩
 ·show s.d=⟨_,_⟩;rw[<-w,b]
 rw[PR j e]at g;obtain⟨t,ht,rfl⟩:=cR.mp g;obtain⟨n,q⟩:=mX.mp ht;exact v t n (eL q)
end
end Go.Proofs.YthenjegmigeieaaGreat
namespace Go.Proofs.YthenjegmigeieaaGreat
open Go.RowKit
theorem ZH(l:List Sv)(f:aN)(v u:Value)(w:World)(hV:lR w v l)(F:dM w u f.args)(hl:l.length<=9223372036854775807)(S:∀x,x∈l->nY w x)(hF:fW f):
 Calls Tryz.prog 93 #[v,kS f.z u] w fun e m=>e=.returned (.bool (gQ (l.map (·.s)) f))/\Below w.heap.size w m:=by
 obtain⟨ao,ab,rfl,_,N⟩:=hV;obtain⟨a,c,rfl,_⟩:=id F;have Z:O (AA w ao l):=N;have HF:O (∀x,x∈l->nY w x):=S;have J:O (dM w (.slice a f.args.length c) f.args/\fW f):=⟨F,hF⟩;have R:Below w.heap.size w (w.alloc (.cells #[.int .i64 f.z, .slice a f.args.length c] 55)):=(aH _ _).alloc (aE _) _;have P:=kT w (.cells #[.int .i64 f.z, .slice a f.args.length c] 55);clear N S F
 go_enter Tryz.func93,Tryz.ntmps93
 go_wp2_with fail;generalize w.alloc (.cells #[.int .i64 f.z, .slice a f.args.length c] 55)=Y at *;go_loopw [5] (fun i wr=>∃k:Nat,k<=l.length/\i=.int .i64 k/\gQ (l.map (·.s)) f=gQ ((l.drop k).map (·.s)) f/\Below Y.heap.size Y wr) (fun i _=>l.length-(intOf i).toNat);case atStart=>exact⟨0,bG _,rfl,rfl,aH _ _⟩
 case round=>
  obtain⟨k,hk,rfl,Q,p⟩:=hrel;have A:O _:=Q;clear Q;have j:=R.trans (p.mono R.size);by_cases H:k<l.length
  ·obtain⟨b,y,rfl,W,X,_,_⟩:=EG Z.o k H;have T:=HF.o _ (uY l k H);(have r:O (gQ (l.map (·.s)) f=((eV (tW l k).s.d f==0)||gQ ((l.drop (k+1)).map (·.s)) f)):=by show _=_;rw[A.o,aQR l k H];rfl);have B:O (dM w (tW l k).f (tW l k).s.d.args/\fW (tW l k).s.d):=T.1;have K:=aB j W;have L:=aB j X;have E:=(p.block _ (Xm P)).trans P;(have c0:wr.cell? ⟨w.heap.size,0,none⟩=some (.int .i64 f.z):=cH E);(have M:wr.cell? ⟨w.heap.size,1,none⟩=some (.slice a f.args.length c):=cH E);clear W X A T E;generalize (tW l k).f=gv at *;generalize (tW l k).s.d=g at *;obtain⟨C,D,rfl,_⟩:=id B.o.1;(have HN:O (∀z,Below wr.heap.size wr z->Calls Tryz.prog 44 #[kS g.z (.slice C g.args.length D),kS f.z (.slice a f.args.length c)] z fun e m=>e=.returned (.int .i64 (eV g f))/\Below wr.heap.size wr m/\m.cell? ⟨b,y+k*4,none⟩=some (.int .i64 g.z)/\m.cell? ⟨b,y+k*4+1,none⟩=some (.slice C g.args.length D)/\m.cell? ⟨w.heap.size,0,none⟩=some (.int .i64 f.z)/\m.cell? ⟨w.heap.size,1,none⟩=some (.slice a f.args.length c)):=by intro z I;have V:=j.trans (I.mono j.size);refine(AQ g f _ _ z (aM B.o.1 V) (aM J.o.1 V) B.o.2 J.o.2).mono ?_;rintro e m ⟨h1,h2⟩;have n:=I.trans (h2.mono I.size);exact⟨h1,n,aB n K,aB n L,aB n c0,aB n M⟩);have a2:∀b o,Below wr.heap.size wr b->Below wr.heap.size wr (b.alloc o):=fun _ o h=>h.alloc h.size o;have a3:∀b,Below wr.heap.size wr b->Below wr.heap.size wr b.drew:=fun _ h=>⟨h.os,h.tape,h.output,h.size,h.block⟩;have a4:Below wr.heap.size wr wr:=aH _ _;go_upto_region 4 with fail
   go_region_held3 (fun q=>q.cell? ⟨b,y+k*4,none⟩=some (.int .i64 g.z)/\q.cell? ⟨b,y+k*4+1,none⟩=some (.slice C g.args.length D)/\q.cell? ⟨w.heap.size,0,none⟩=some (.int .i64 f.z)/\q.cell? ⟨w.heap.size,1,none⟩=some (.slice a f.args.length c)/\Below wr.heap.size wr q) (go_keep) (
    (go_at_call 44;refine Calls.mono (HN.o _ ?_) ?_;(simp[*]);rintro e w2 ⟨rfl,G,a7,a8,a9,aa⟩))
   clear a2 a3 a4 HN a7 a8 a9 aa;have a5:=p.trans (G.mono p.size);have a6:=j.trans (G.mono j.size);clear K L c0 M G p j;cases U:(eV g f==0)
   ·(have HV:O (gQ (l.map (·.s)) f=gQ ((l.drop (k+1)).map (·.s)) f):=by show _=_;rw[r.o,U];rfl);clear r;go_wp2_with fail;go_roundw;(case rel=>exact⟨k+1,oM,gN,HV.o,a5⟩);case measure=>exact mI
   (have HV:O (gQ (l.map (·.s)) f=true):=by show _=_;rw[r.o,U];rfl);clear r;go_wp2_with fail;go_ret;exact⟨rV,a6⟩
  (have HV:O (gQ (l.map (·.s)) f=false):=by show _=_;rw[A.o,bD oM];rfl);go_wp2_with fail;go_ret;exact⟨rV,j⟩
theorem aEZ{st:List eC}{k:Nat}{s:eC}(f:st[k]?=some s)(h:gQ (st.take k) s.d=true):¬oB st:=fun g=>by have b:oB (st.take (k+1)):=WI _ g;rw[eI,f]at b;obtain⟨t,ht,e⟩:=rR.mp h;unfold oB at b;rw[cB]at b;exact(XQ.mp b).2.2 _ (cR.mpr ⟨t,ht,rfl⟩) s.d sI e
theorem aDM(l:List Sv)(v:Value)(w:World)(H:lR w v l)(hl:l.length<=9223372036854775807)(Z:∀x,x∈l->nY w x):
 Calls Tryz.prog 45 #[v] w fun e n=>∃b,e=.returned (.bool b)/\(b=false↔oB (l.map (·.s)))/\Below w.heap.size w n:=by
 obtain⟨V,p,rfl,Y,W⟩:=id H;have ad:=Y.1;have P:O (AA w V l/\lR w (.slice V l.length p) l):=⟨W,H⟩;have R:O (∀x,x∈l->nY w x):=Z;clear W Z H Y
 go_enter Tryz.func45,Tryz.ntmps45
 go_wp2_with fail;go_loopw [3] (fun i wr=>∃k:Nat,k<=l.length/\i=.int .i64 k/\O (oB ((l.take k).map (·.s)))/\O (Below w.heap.size w wr)) (fun i _=>l.length-(intOf i).toNat);case atStart=>exact⟨0,bG _,rfl,List.nodup_nil,aH _ _⟩
 case round=>
  obtain⟨k,hk,rfl,S,j⟩:=hrel;by_cases q:k<l.length
  ·obtain⟨b,m,rfl,p0,p1,_,_⟩:=EG P.o.1 k q;have B:O (dM w (tW l k).f (tW l k).s.d.args/\fW (tW l k).s.d):=(R.o _ (uY l k q)).1;have A:O ((l.map (·.s))[k]?=some (tW l k).s/\(l.take (k+1)).map (·.s)=(l.take k).map (·.s)++[(tW l k).s]/\(l.map (·.s)).take k=(l.take k).map (·.s)):=⟨by rw[cY,wN l k q];rfl,by rw[eI,wN l k q,cB];rfl,by rw[IG]⟩;(have J:(l.take k).length=k:=by rw[cW];omega);have U:O (lR w (.slice (some ⟨b,m,none⟩) (l.take k).length p) (l.take k)/\∀y,y∈l.take k->nY w y):=⟨by rw[J];exact NC P.o.2 hk,fun y K=>R.o y (jG K)⟩;have C:=aB j.o p0;have D:=aB j.o p1;clear p0 p1;generalize tW l k=y at *;obtain⟨⟨g,rl,vs⟩,fv,vv⟩:=y;dsimp only at C D;obtain⟨E,F,a2,_⟩:=id B.o.1;dsimp only at a2;subst a2;obtain⟨r,I⟩:∃r,r=gQ ((l.take k).map (·.s)) g:=⟨_,rfl⟩;have T:O _:=I.symm;(have HN:O (∀z,Below wr.heap.size wr z->Calls Tryz.prog 93 #[.slice (some ⟨b,m,none⟩) k p,kS g.z (.slice E g.args.length F)] z fun e n=>e=.returned (.bool r)/\Below wr.heap.size wr n/\n.cell? ⟨b,m+k*4,none⟩=some (.int .i64 g.z)/\n.cell? ⟨b,m+k*4+1,none⟩=some (.slice E g.args.length F)):=by intro z L;have M:=j.o.trans (L.mono j.o.size);have h:=ZH (l.take k) g _ _ z (U.o.1.u M) (aM B.o.1 M) oM (fun y K=>(U.o.2 y K).u M) B.o.2;rw[J,<-I]at h;exact h.mono fun e n ⟨h1,h2⟩=>have G:=L.trans (h2.mono L.size);⟨h1,G,aB G C,aB G D⟩);clear I J;have a3:∀b o,Below wr.heap.size wr b->Below wr.heap.size wr (b.alloc o):=fun _ o h=>h.alloc h.size o;have a4:∀b,Below wr.heap.size wr b->Below wr.heap.size wr b.drew:=fun _ h=>⟨h.os,h.tape,h.output,h.size,h.block⟩;have a5:Below wr.heap.size wr wr:=aH _ _;have a9:(0:Int)<=(k:Int):=oM;have aa:(k:Int)<=(p:Int):=oM;go_upto_region 4 with fail
   go_region_held3 (fun N=>N.cell? ⟨b,m+k*4,none⟩=some (.int .i64 g.z)/\N.cell? ⟨b,m+k*4+1,none⟩=some (.slice E g.args.length F)/\Below wr.heap.size wr N) (go_keep) (
    (go_at_call 93;refine Calls.mono (HN.o _ ?_) ?_;(simp[*]);rintro e w2 ⟨rfl,X,ab,ac⟩))
   clear a3 a4 a5 HN ab ac C D a9 aa;have Q:O (Below w.heap.size w w2):=j.o.trans (X.mono j.o.size);clear X j;cases r
   ·(have a7:O (oB ((l.take (k+1)).map (·.s))):=by show oB _;rw[A.o.2.1];exact WH S.o T.o);go_wp2_with fail;go_roundw;(case rel=>exact⟨k+1,oM,gN,a7.o,Q.o⟩);case measure=>exact mI
   have a6:O (¬oB (l.map (·.s))):=aEZ A.o.1 (by rw[A.o.2.2];exact T.o);go_wp2_with fail;go_ret;exact⟨_,rfl,⟨fun h=>(by cases h),fun h=>absurd h a6.o⟩,Q.o⟩
  (have a8:O (oB (l.map (·.s))):=by show oB _;have h:=S.o;rw[dU oM]at h;exact h);go_wp2_with fail;go_ret;exact⟨_,rfl,⟨fun _=>a8.o,fun _=>rfl⟩,j.o⟩
def aU8(p:bC)(l M:List aN)(a:List eC)(s:eC)(w:World)(e:Ending)(w':World):Prop:=∃b,e=.returned (.bool b)/\(b=true↔nG p l M a s)/\Below w.heap.size w w'
theorem aJJ(p:bC)(l M:List aN)(st:List Sv)(v:Int)(g:List Int)(J:Int)(vs:List Int)(af:Option Addr)(cf:Nat)(N:Option Addr)(U:Nat)(va vn vr vl vm vx:Value)(w:World)
 (hM:rG p l M) (hP:iU w va vn vr p) (hV:dA w vl l) (db:l.length<=9223372036854775807) (da:∀f,f∈l->fW f) (bU:dA w vm M) (hX:lR w vx st) (dd:st.length<=9223372036854775807) (dc:∀y,y∈st->nY w y) (hS:nY w ⟨⟨⟨v,g⟩,J,vs⟩, .slice af g.length cf, .slice N vs.length U⟩) (eo:g.length<=cf):
 Calls Tryz.prog 86 #[eN va vn vr,vl,vm,vx, .agg #[.int .i64 v, .slice af g.length cf, .int .i64 J, .slice N vs.length U]] w fun e d=>aU8 p l M (st.map (·.s)) ⟨⟨v,g⟩,J,vs⟩ w e d:=by
 obtain⟨a0,n0,rfl,_⟩:=id hP.ar;obtain⟨a1,n1,rfl,_⟩:=id hP.nm;obtain⟨a2,n2,rfl,d9⟩:=id hP.rl;obtain⟨al,cl,rfl,_⟩:=id hV;obtain⟨am,cm,rfl,_⟩:=id bU;obtain⟨ax,cx,rfl,_⟩:=id hX;have du:O _:=d9;have S:O _:=hM;have HV:O (dA w (.slice al l.length cl) l/\l.length<=9223372036854775807/\∀f,f∈l->fW f):=⟨hV,db,da⟩;have d6:O (dA w (.slice am M.length cm) M):=bU;have bz:O (lR w (.slice ax st.length cx) st/\st.length<=9223372036854775807/\∀y,y∈st->nY w y):=⟨hX,dd,dc⟩;have HS:O (nY w ⟨⟨⟨v,g⟩,J,vs⟩, .slice af g.length cf, .slice N vs.length U⟩):=hS;have eq:p.m.length<=12:=hM.fn.ok.r12;have b1:=dD w (pB a0 n0 a1 n1 a2 n2 p);have b2:=dD (w.alloc (pB a0 n0 a1 n1 a2 n2 p)) (.cells #[.int .i64 v, .slice af g.length cf, .int .i64 J, .slice N vs.length U] 80);have HB:O (Below w.heap.size w ((w.alloc (pB a0 n0 a1 n1 a2 n2 p)).alloc (.cells #[.int .i64 v, .slice af g.length cf, .int .i64 J, .slice N vs.length U] 80))):=b1.trans (b2.mono b1.size);have F:=aR w (pB a0 n0 a1 n1 a2 n2 p);have bk:O (((w.alloc (pB a0 n0 a1 n1 a2 n2 p)).alloc (.cells #[.int .i64 v, .slice af g.length cf, .int .i64 J, .slice N vs.length U] 80)).heap[w.heap.size]?=some (pB a0 n0 a1 n1 a2 n2 p)):=(b2.block _ (bP F)).trans F;have bZ:=aR (w.alloc (pB a0 n0 a1 n1 a2 n2 p)) (.cells #[.int .i64 v, .slice af g.length cf, .int .i64 J, .slice N vs.length U] 80);rw[show(w.alloc (pB a0 n0 a1 n1 a2 n2 p)).heap.size=w.heap.size+1 by simp]at bZ;have bm:O _:=bZ;clear d9 hM hP hV db da bU hX dd dc hS b1 b2 F bZ
 go_enter Tryz.func86,Tryz.ntmps86
 go_upto_region 1 with fail;generalize (w.alloc (pB a0 n0 a1 n1 a2 n2 p)).alloc (.cells #[.int .i64 v, .slice af g.length cf, .int .i64 J, .slice N vs.length U] 80)=K at *;(have bf:O (∀y,Below K.heap.size K y->y.cell? ⟨w.heap.size,2,none⟩=some (.slice a2 p.m.length n2)/\y.cell? ⟨w.heap.size+1,0,none⟩=some (.int .i64 v)/\y.cell? ⟨w.heap.size+1,1,none⟩=some (.slice af g.length cf)/\y.cell? ⟨w.heap.size+1,2,none⟩=some (.int .i64 J)/\y.cell? ⟨w.heap.size+1,3,none⟩=some (.slice N vs.length U)):=fun y G=>by have h:=(G.block _ (bP bk.o)).trans bk.o;have H:=(G.block _ (bP bm.o)).trans bm.o;exact⟨cH h,cH H,cH H,cH H,cH H⟩);have ad:O (∀y,Below K.heap.size K y->Below w.heap.size w y):=fun y G=>HB.o.trans (G.mono HB.o.size);obtain⟨c2,P,Q,d2,L⟩:=bf.o K (aH _ _);by_cases hg:J= -1
 ·subst hg;have bp:O _:=Ny (a:=st.map (·.s)) (s:=⟨⟨v,g⟩, -1,vs⟩) S.o rfl;have bl:O _:=AP l ⟨v,g⟩ _ (.slice af g.length cf) K (bR HV.o.1 (ad.o K (aH _ _))) (nY.u HS.o (ad.o K (aH _ _))).1.1 HV.o.2.1 HV.o.2.2 HS.o.1.2;obtain⟨bv,ai⟩:∃bv,bv=jZ l ⟨v,g⟩:=⟨_,rfl⟩;rw[<-ai]at bl;have b5:O _:=ai.symm;obtain⟨n,hn⟩:∃n,n=vs.length:=⟨_,rfl⟩;clear ai;go_wp2_with fail;refine Calls.mono bl.o ?_;rintro _ A ⟨rfl,de⟩;have a7:O (Below K.heap.size K A):=de;clear c2 P Q d2 L de bl;obtain⟨c2,P,Q,d2,L⟩:=bf.o A a7.o;cases bv
  ·go_wp2_with fail;go_ret;exact⟨_,rfl,⟨fun h=>(by cases h),fun h=>by have C:=lD.mpr (bp.o.mp h).1;rw[b5.o]at C;cases C⟩,ad.o A a7.o⟩
  by_cases h0:vs.length=0
  ·go_wp2_with fail;go_ret;exact⟨true,rfl,⟨fun _=>bp.o.mpr ⟨lD.mp b5.o,h0⟩,fun _=>rfl⟩,ad.o A a7.o⟩
  (have I:((vs.length:Int)==0)=false:=by simpa using h0);go_wp2_with fail;go_ret;exact⟨false,rfl,⟨fun h=>(by cases h),fun h=>absurd (bp.o.mp h).2 h0⟩,ad.o A a7.o⟩
 (have e6:(J== -1)=false:=by simpa using hg);(have dh:IntKind.i64.wrap ((p.m.length:Int)-1)=(p.m.length:Int)-1:=by simp[IntKind.wrap,IntKind.bits,IntKind.signed];omega);by_cases hb:0<=J/\J<=(p.m.length:Int)-1
 ·(have b8:(decide (0<=J)&&decide (J<=(p.m.length:Int)-1))=true:=by rw[aQ hb.1,aQ hb.2];rfl);have au:O _:=yD J 0 ((p.m.length:Int)-1) K;rw[b8]at au;clear b8;go_wp2_with fail;refine Calls.mono au.o ?_;rintro _ K ⟨rfl,rfl⟩;obtain⟨i,rfl⟩:∃i:Nat,J=(i:Int):=⟨J.toNat,oM⟩;have aj:i<p.m.length:=oM;obtain⟨b,ey,rfl,q0,⟨vt,q1,hT⟩,q2,⟨vb,q3,hL⟩,q4⟩:=rH du.o i aj;have ag:O _:=S.o.fn.ok.c _ (aRP aj);have bq:O _:=fun h=>Ob (a:=st.map (·.s)) (s:=⟨⟨v,g⟩,(i:Int),vs⟩) S.o rfl aj h;have dl:O _:=fun h=>aBG (a:=st.map (·.s)) (s:=⟨⟨v,g⟩,(i:Int),vs⟩) S.o rfl aj h;have dk:O _:=fun h=>aBE (a:=st.map (·.s)) (s:=⟨⟨v,g⟩,(i:Int),vs⟩) S.o rfl aj h;have bo:O _:=fun F H=>aBD (a:=st.map (·.s)) (s:=⟨⟨v,g⟩,(i:Int),vs⟩) S.o rfl aj F H;have dj:O _:=fun F H {t} ht hk=>aBF (p:=p) (l:=l) (M:=M) (a:=st.map (·.s)) (s:=⟨⟨v,g⟩,(i:Int),vs⟩) (i:=i) rfl F H (t:=t) ht hk;have dm:O _:=fun F H h3 j=>Nz (a:=st.map (·.s)) (s:=⟨⟨v,g⟩,(i:Int),vs⟩) S.o rfl aj F H h3 j;have en:O _:=gC ag.o S.o.right;have bc:O (∀t,t∈(aW p.m i).body->xS M (aW p.m i).vars.toNat t):=fun t ht=>RZ S.o.fn.ok ag.o S.o.right ht;have ew:(aW p.m i).p.length<=3:=JV S.o.fn.ok ag.o;have ap:=aIG S.o aj;have bj:=ap.2.1;have dn:O _:=ap.2.2;rw[<-bj]at q0 q2 q4 hT hL;have HW:O _:=fun y (G:Below w.heap.size w y)=>Vb p i M vt vb (.slice am M.length cm) y ap.1 (dS hT G) (nU hL G) (bR d6.o G);have HH:O _:=fun(y:World) (G:Below w.heap.size w y) (qq:List Nv) (vw:Value) (B:Nat) (hN:vC B y vw qq) eb=>Ef p i M qq vt vb vw B y ap.1 (dS hT G) (nU hL G) hN eb;rw[bj]at HW HH q0 q2 q4 hT hL;have cE:O ((bS M (aW p.m i)).length<=2000/\∀f,f∈bS M (aW p.m i)->fW f):=by
   refine⟨?_,fun f hf=>?_⟩
   ·rw[<-ap.2.2,<-bj];exact bH (aAL _ _) (Xj ap.1)
   have :=xV S.o.fn.ok (tZ ag.o S.o.right hf);unfold fW;omega
  clear ap bj;generalize aW p.m i=r at *;obtain⟨at_,ct,rfl,eu,_⟩:=id hT;obtain⟨ab,Z,rfl,d8⟩:=id hL;have dw:O _:=hT;have em:O _:=hL;have cK:O _:=d8;have V:=ad.o K (aH _ _);have p0:=aB V q0;have p1:=aB V q1;have p2:=aB V q2;have p3:=aB V q3;have p4:=aB V q4;clear au dh hT hL d8 q0 q1 q2 q3 q4 V hg e6 hb;have e7:(0:Int)<=(i:Int):=oM;have e8:(i:Int)<(p.m.length:Int):=oM;go_upto_region 6 with fail;have D:=dD K (.cells #[.int .i64 r.z, .slice at_ r.p.length ct, .int .i64 r.x, .slice ab r.body.length Z, .int .i64 r.vars] 40);have bx:O _:=aR K (.cells #[.int .i64 r.z, .slice at_ r.p.length ct, .int .i64 r.x, .slice ab r.body.length Z, .int .i64 r.vars] 40);have d7:O _:=fun y (G:Below (K.alloc (.cells #[.int .i64 r.z, .slice at_ r.p.length ct, .int .i64 r.x, .slice ab r.body.length Z, .int .i64 r.vars] 40)).heap.size (K.alloc (.cells #[.int .i64 r.z, .slice at_ r.p.length ct, .int .i64 r.x, .slice ab r.body.length Z, .int .i64 r.vars] 40)) y)=>bf.o y (D.trans (G.mono D.size));have T:O _:=fun y (G:Below (K.alloc (.cells #[.int .i64 r.z, .slice at_ r.p.length ct, .int .i64 r.x, .slice ab r.body.length Z, .int .i64 r.vars] 40)).heap.size (K.alloc (.cells #[.int .i64 r.z, .slice at_ r.p.length ct, .int .i64 r.x, .slice ab r.body.length Z, .int .i64 r.vars] 40)) y)=>ad.o y (D.trans (G.mono D.size));clear D p0 p1 p2 p3 p4 c2 P Q d2 L bf ad bk bm e7 e8;generalize K.alloc (.cells #[.int .i64 r.z, .slice at_ r.p.length ct, .int .i64 r.x, .slice ab r.body.length Z, .int .i64 r.vars] 40)=A at *;generalize K.heap.size=RB at *;(have aS:O (∀y,Below A.heap.size A y->(y.cell? ⟨w.heap.size+1,0,none⟩=some (.int .i64 v)/\y.cell? ⟨w.heap.size+1,1,none⟩=some (.slice af g.length cf)/\y.cell? ⟨w.heap.size+1,3,none⟩=some (.slice N vs.length U))/\y.cell? ⟨RB,0,none⟩=some (.int .i64 r.z)/\y.cell? ⟨RB,1,none⟩=some (.slice at_ r.p.length ct)/\y.cell? ⟨RB,2,none⟩=some (.int .i64 r.x)/\y.cell? ⟨RB,3,none⟩=some (.slice ab r.body.length Z)/\y.cell? ⟨RB,4,none⟩=some (.int .i64 r.vars)):=fun y G=>by have h:=(G.block _ (bP bx.o)).trans bx.o;obtain⟨_,h0,F,_,h3⟩:=d7.o y G;exact⟨⟨h0,F,h3⟩,cH h,cH h,cH h,cH h,cH h⟩);clear d7 bx;have ae:O (∀y,Below A.heap.size A y->¬nG p l M (st.map (·.s)) ⟨⟨v,g⟩,(i:Int),vs⟩->(false=true↔nG p l M (st.map (·.s)) ⟨⟨v,g⟩,(i:Int),vs⟩)/\Below w.heap.size w y):=fun y G hn=>⟨⟨fun h=>(by cases h),fun h=>absurd h hn⟩,T.o y G⟩;obtain⟨⟨P,Q,L⟩,r0,r1,r2,Y,r4⟩:=aS.o A (aH _ _);by_cases e1:(vs.length:Int)=r.vars
  ·(have di:((vs.length:Int) != r.vars)=false:=by simpa using e1);have E1:O _:=e1;clear e1;by_cases e2:v=r.z
   ·(have aV:((v:Int) != r.z)=false:=by simpa using e2);have E2:O _:=e2;clear e2;by_cases e3:g.length=r.p.length
    ·(have b0:((g.length:Int) != (r.p.length:Int))=false:=by simp[e3]);have E3:O _:=e3;clear e3;go_wp2_with fail;clear di aV b0;(have dx:O (pH A N vs):=by obtain⟨a9,c9,ca,dz⟩:=aM HS.o.2.1 (T.o A (aH _ _));injection ca with f1 _ _;show pH _ _ _;rw[f1];exact dz);have ex:vs.length<=9223372036854775807:=HS.o.2.2;go_loopw [12] (fun iv wr=>A=wr/\∃k:Nat,k<=vs.length/\iv=.int .i64 k/\O (∀n,n∈vs.take k->cP n=true)) (fun iv _=>vs.length-(intOf iv).toNat);case atStart=>exact⟨rfl,0,bG _,rfl,fun _ hn=>by cases hn⟩
     case round=>
      obtain⟨rfl,k,hk,rfl,HK⟩:=hrel;by_cases W:k<vs.length
      ·obtain⟨b',ez,rfl,ep⟩:=pF dx.o W;have aI:O (vs.take (k+1)=vs.take k++[bM vs k]):=uB W;(have dq:O (bM vs k∈vs):=by show _∈_;unfold bM;rw[aC,aD W];exact dY W);have HI:O _:=AN (bM vs k) A;generalize bM vs k=n at *;obtain⟨bn,bY⟩:∃bn,bn=cP n:=⟨_,rfl⟩;rw[<-bY]at HI;have cw:O _:=bY.symm;clear bY;go_wp2_with fail;refine Calls.mono HI.o ?_;rintro _ R ⟨rfl,rfl⟩;cases bn
       ·go_wp2_with fail;go_ret;exact⟨false,rfl,ae.o _ (aH _ _) fun h=>by have C:=dl.o h n dq.o;rw[cw.o]at C;cases C⟩
       have ak:O (∀m,m∈vs.take (k+1)->cP m=true):=fun m hm=>by
        rw[aI.o]at hm;rcases dP.mp hm with hm|hm
        ·exact HK.o m hm
        rw[cQ.mp hm];exact cw.o
       go_wp2_with fail;go_roundw;(case rel=>exact⟨trivial,k+1,W,gN,ak.o⟩);case measure=>exact mI
      have bh:decide ((k:Int)<(vs.length:Int))=false:=aJ oM;have HN:O (∀n,n∈vs->cP n=true):=fun n hn=>HK.o n (by rw[dU oM];exact hn);(have be:O (vs.length=r.vars.toNat):=by show _=_;have :=E1.o;omega);clear HK;go_wp2_with fail;clear bh W hk;have bg:r.body.length<=4:=ag.o.b4;go_loopw [13] (fun iv wr=>∃k:Nat,k<=r.body.length/\iv=.int .i64 k/\O (∀t,t∈r.body.take k->fF M t vs=true)/\O (Below A.heap.size A wr)) (fun iv _=>r.body.length-(intOf iv).toNat);case atStart=>exact⟨0,bG _,rfl,fun _ hn=>(by cases hn),aH _ _⟩
      case round=>
       clear P Q L r0 r1 r2 Y r4;obtain⟨k,hk,rfl,HK,X⟩:=hrel;obtain⟨⟨P,Q,L⟩,r0,r1,r2,Y,r4⟩:=aS.o wr X.o;by_cases W:k<r.body.length
       ·obtain⟨bb,oo,rfl,q0,q1,q2,el,q3,ao⟩:=vH cK.o k W;have an:O (cJ r.body k∈r.body):=iN (xG W);(have aI:O (r.body.take (k+1)=r.body.take k++[cJ r.body k]):=by show _=_;rw[eI,xG W];rfl);have V:=T.o wr X.o;have p0:=aB V q0;have p1:=aB V q1;have p2:=aB V q2;have p3:=aB V q3;obtain⟨a3,a5,rfl,_⟩:=id ao;obtain⟨hb,c1⟩:∃hb,hb=fF M (cJ r.body k) vs:=⟨_,rfl⟩;have cz:O _:=c1.symm;(have cT:O (∀y_,Below wr.heap.size wr y_->Calls Tryz.prog 24 #[nR (cJ r.body k) (.slice a3 (cJ r.body k).p.length a5), .slice N vs.length U, .slice am M.length cm] y_ fun e d=>e=.returned (.bool hb)/\Below wr.heap.size wr d/\d.cell? ⟨w.heap.size+1,3,none⟩=some (.slice N vs.length U)/\d.cell? ⟨RB,3,none⟩=some (.slice (some ⟨bb,oo,none⟩) r.body.length Z)/\d.cell? ⟨bb,oo+k*4,none⟩=some (.int .i64 (cJ r.body k).kind)/\d.cell? ⟨bb,oo+k*4+1,none⟩=some (.int .i64 (cJ r.body k).op)/\d.cell? ⟨bb,oo+k*4+2,none⟩=some (.int .i64 (cJ r.body k).z)/\d.cell? ⟨bb,oo+k*4+3,none⟩=some (.slice a3 (cJ r.body k).p.length a5)):=fun y_ G=>by have bW:Below w.heap.size w y_:=T.o y_ (X.o.trans (G.mono X.o.size));refine(JN M _ vs _ _ _ y_ (dS ao bW) (aM HS.o.2.1 bW) (bR d6.o bW) (by have :=S.o.few;omega) (fun f hf=>by have :=xV S.o.fn.ok (S.o.right f hf);unfold fW;omega) be.o (bc.o _ an.o) HN.o).mono ?_;rintro e d ⟨F,H⟩;have j:=G.trans (H.mono G.size);exact⟨by rw[F,c1],j,aB j L,aB j Y,aB j p0,aB j p1,aB j p2,aB j p3⟩);clear c1 q0 q1 q2 q3 ao V;generalize cJ r.body k=t at *;have ay:∀b o,Below wr.heap.size wr b->Below wr.heap.size wr (b.alloc o):=fun _ o h=>h.alloc h.size o;have az:∀b,Below wr.heap.size wr b->Below wr.heap.size wr b.drew:=fun _ h=>⟨h.os,h.tape,h.output,h.size,h.block⟩;have aF:Below wr.heap.size wr wr:=aH _ _;go_upto_region 16 with fail
        go_region_held3 (fun yy=>yy.cell? ⟨w.heap.size+1,3,none⟩=some (.slice N vs.length U)/\yy.cell? ⟨RB,3,none⟩=some (.slice (some ⟨bb,oo,none⟩) r.body.length Z)/\yy.cell? ⟨bb,oo+k*4,none⟩=some (.int .i64 t.kind)/\yy.cell? ⟨bb,oo+k*4+1,none⟩=some (.int .i64 t.op)/\yy.cell? ⟨bb,oo+k*4+2,none⟩=some (.int .i64 t.z)/\yy.cell? ⟨bb,oo+k*4+3,none⟩=some (.slice a3 t.p.length a5)/\Below wr.heap.size wr yy) (go_keep) (
         (go_at_call 24;refine Calls.mono (cT.o _ ?_) ?_;(simp[*]);rintro e R ⟨rfl,b6,aV,b0,co,cp,cq,cr⟩))
        clear ay az aF cT aV b0 co cp cq cr p0 p1 p2 p3 P Q L r0 r1 r2 Y r4;have aa:O (Below A.heap.size A R):=X.o.trans (b6.mono X.o.size);clear b6;cases hb
        ·go_wp2_with fail;go_ret;exact⟨false,rfl,ae.o R aa.o fun h=>by have C:=dk.o h t an.o;rw[cz.o]at C;cases C⟩
        have ak:O (∀x,x∈r.body.take (k+1)->fF M x vs=true):=fun x D=>by
         rw[aI.o]at D;rcases dP.mp D with D|D
         ·exact HK.o x D
         rw[cQ.mp D];exact cz.o
        go_wp2_with fail;go_roundw;(case rel=>exact⟨k+1,W,gN,ak.o,aa.o⟩);case measure=>exact mI
       have bh:decide ((k:Int)<(r.body.length:Int))=false:=aJ oM;have bd:O (mV M r vs):=⟨be.o,fun t ht=>HK.o t (by rw[dU oM];exact ht)⟩;clear HK;have cs:O _:=xO r.p vs (.slice at_ r.p.length ct) (.slice N vs.length U) wr (dS dw.o (T.o wr X.o)) (aM HS.o.2.1 (T.o wr X.o)) oM (by rw[be.o];exact JW ag.o);go_wp2_with fail;refine Calls.mono cs.o ?_;rintro _ R ⟨eR,rfl,bN,b6⟩;have aa:O (Below A.heap.size A R):=X.o.trans (b6.mono X.o.size);obtain⟨a9,c9,ca⟩:=bJ bN;subst ca;have br:O (aDL R wr.heap.size (.slice a9 (bQ r.p vs).length c9) (bQ r.p vs)):=bN;have ba:O ((bQ r.p vs).length=r.p.length):=vF _ _;have dy:O (Below w.heap.size w R):=T.o R aa.o;clear P Q L r0 r1 r2 Y r4 cs bh W hk bN b6 X;obtain⟨⟨P,Q,L⟩,r0,r1,r2,Y,r4⟩:=aS.o R aa.o;by_cases hf:r.x=0
       ·have df:decide ((0:Int)<r.x)=false:=aJ oM;have aw:O _:=hf;clear hf;go_wp2_with fail;go_loopw [18] (fun iv wr=>∃k:Nat,k<=r.body.length/\iv=.int .i64 k/\O (∀t,t∈r.body.take k->t.kind=1->gQ (st.map (·.s)) ⟨t.z,bQ t.p vs⟩=true)/\O (Below R.heap.size R wr)) (fun iv _=>r.body.length-(intOf iv).toNat);case atStart=>exact⟨0,bG _,rfl,fun _ hn=>(by cases hn),aH _ _⟩
        case round=>
         clear P Q L r0 r1 r2 Y r4 df;obtain⟨k,hk,rfl,HK,X⟩:=hrel;have a7:O (Below A.heap.size A wr):=aa.o.trans (X.o.mono aa.o.size);obtain⟨⟨P,Q,L⟩,r0,r1,r2,Y,r4⟩:=aS.o wr a7.o;by_cases W:k<r.body.length
         ·obtain⟨bb,oo,rfl,q0,q1,q2,el,q3,ao⟩:=vH cK.o k W;have an:O (cJ r.body k∈r.body):=iN (xG W);(have aI:O (r.body.take (k+1)=r.body.take k++[cJ r.body k]):=by show _=_;rw[eI,xG W];rfl);have V:=T.o wr a7.o;have p0:=aB V q0;have p1:=aB V q1;have p2:=aB V q2;have p3:=aB V q3;obtain⟨a3,a5,rfl,_⟩:=id ao;have dv:O _:=ao;clear q0 q1 q2 q3 ao V;generalize cJ r.body k=t at *;go_upto_region 27 with fail;have D:=dD wr (.cells #[.int .i64 t.kind, .int .i64 t.op, .int .i64 t.z, .slice a3 t.p.length a5] 49);have bi:=aR wr (.cells #[.int .i64 t.kind, .int .i64 t.op, .int .i64 t.z, .slice a3 t.p.length a5] 49);have b9:O (Below R.heap.size R (wr.alloc (.cells #[.int .i64 t.kind, .int .i64 t.op, .int .i64 t.z, .slice a3 t.p.length a5] 49))):=X.o.trans (D.mono X.o.size);have b3:O (Below A.heap.size A (wr.alloc (.cells #[.int .i64 t.kind, .int .i64 t.op, .int .i64 t.z, .slice a3 t.p.length a5] 49))):=a7.o.trans (D.mono a7.o.size);clear P Q L r0 r1 r2 Y r4 p0 p1 p2 p3 D;generalize wr.alloc (.cells #[.int .i64 t.kind, .int .i64 t.op, .int .i64 t.z, .slice a3 t.p.length a5] 49)=E at *;(have l0:E.cell? ⟨wr.heap.size,0,none⟩=some (.int .i64 t.kind):=cH bi);(have l2:E.cell? ⟨wr.heap.size,2,none⟩=some (.int .i64 t.z):=cH bi);(have l3:E.cell? ⟨wr.heap.size,3,none⟩=some (.slice a3 t.p.length a5):=cH bi);obtain⟨⟨_,_,L⟩,_⟩:=aS.o E b3.o;clear bi;by_cases aT:t.kind=1
          ·(have e9:((t.kind:Int)==1)=true:=by simpa using aT);have dp:O _:=aT;clear aT;obtain⟨pv,c5⟩:∃pv,pv=gQ (st.map (·.s)) ⟨t.z,bQ t.p vs⟩:=⟨_,rfl⟩;have cX:O _:=c5.symm;(have cS:O (∀z,Below E.heap.size E z->Calls Tryz.prog 62 #[.slice a3 t.p.length a5, .slice N vs.length U] z fun e d=>∃a8 c8,e=.returned (.slice a8 (bQ t.p vs).length c8)/\dM d (.slice a8 (bQ t.p vs).length c8) (bQ t.p vs)/\Below E.heap.size E d/\d.cell? ⟨w.heap.size+1,3,none⟩=some (.slice N vs.length U)/\d.cell? ⟨wr.heap.size,0,none⟩=some (.int .i64 t.kind)/\d.cell? ⟨wr.heap.size,2,none⟩=some (.int .i64 t.z)/\d.cell? ⟨wr.heap.size,3,none⟩=some (.slice a3 t.p.length a5)):=fun z I=>by have ac:=T.o z (b3.o.trans (I.mono b3.o.size));refine(xO t.p vs _ _ z (dS dv.o ac) (aM HS.o.2.1 ac) (by have :=(bc.o t an.o).s;omega) (by rw[be.o];exact(bc.o t an.o).i.t)).mono ?_;rintro e d ⟨v8,F,H,h3⟩;have j:=I.trans (h3.mono I.size);obtain⟨a8,c8,rfl⟩:=bJ H;exact⟨a8,c8,F,oU H,j,aB j L,aB j l0,aB j l2,aB j l3⟩);(have cU:O (∀z a8 c8,Below E.heap.size E z->dM z (.slice a8 (bQ t.p vs).length c8) (bQ t.p vs)->Calls Tryz.prog 93 #[.slice ax st.length cx, .agg #[.int .i64 t.z, .slice a8 (bQ t.p vs).length c8]] z fun e d=>e=.returned (.bool pv)/\Below E.heap.size E d/\d.cell? ⟨w.heap.size+1,3,none⟩=some (.slice N vs.length U)/\d.cell? ⟨wr.heap.size,0,none⟩=some (.int .i64 t.kind)/\d.cell? ⟨wr.heap.size,2,none⟩=some (.int .i64 t.z)/\d.cell? ⟨wr.heap.size,3,none⟩=some (.slice a3 t.p.length a5)):=fun z a8 c8 I hv=>by have ac:=T.o z (b3.o.trans (I.mono b3.o.size));refine(ZH st ⟨t.z,bQ t.p vs⟩ _ (.slice a8 (bQ t.p vs).length c8) z (bz.o.1.u ac) hv bz.o.2.1 (fun y G=>(bz.o.2.2 y G).u ac) (by have :=(bc.o t an.o).s;unfold fW;dsimp only;rw[vF];omega)).mono ?_;rintro e d ⟨F,H⟩;have j:=I.trans (H.mono I.size);exact⟨by rw[F,c5],j,aB j L,aB j l0,aB j l2,aB j l3⟩);clear c5;have ay:∀b o,Below E.heap.size E b->Below E.heap.size E (b.alloc o):=fun _ o h=>h.alloc h.size o;have az:∀b,Below E.heap.size E b->Below E.heap.size E b.drew:=fun _ h=>⟨h.os,h.tape,h.output,h.size,h.block⟩;have aF:Below E.heap.size E E:=aH _ _
           go_region_held3 (fun d=>d.cell? ⟨w.heap.size+1,3,none⟩=some (.slice N vs.length U)/\d.cell? ⟨wr.heap.size,0,none⟩=some (.int .i64 t.kind)/\d.cell? ⟨wr.heap.size,2,none⟩=some (.int .i64 t.z)/\d.cell? ⟨wr.heap.size,3,none⟩=some (.slice a3 t.p.length a5)/\Below E.heap.size E d) (go_keep) (
            (first
             |(go_at_call 62;refine Calls.mono (cS.o _ ?_) ?_;(simp[*]);rintro e w6 ⟨a8,c8,rfl,c7,bX,ci,cj,ck,cn⟩)
             |(go_at_call 93;refine Calls.mono (cU.o _ _ _ ?_ ?_) ?_;(simp[*]);assumption;rintro e w7 ⟨rfl,b7,cc,cd,ce,cg⟩)))
           have aq:O (Below R.heap.size R w7):=b9.o.trans (b7.mono b9.o.size);clear ci cj ck cn cc cd ce cg bX b7 c7 cS cU ay az aF l0 l2 l3 L;cases pv
           ·go_wp2_with fail;go_ret;exact⟨false,rfl,ae.o w7 (aa.o.trans (aq.o.mono aa.o.size)) fun h=>by have C:=dj.o aw.o h an.o dp.o;rw[cX.o]at C;cases C⟩
           have ak:O (∀x,x∈r.body.take (k+1)->x.kind=1->gQ (st.map (·.s)) ⟨x.z,bQ x.p vs⟩=true):=fun x D=>by
            rw[aI.o]at D;rcases dP.mp D with D|D
            ·exact HK.o x D
            rw[cQ.mp D];exact fun _=>cX.o
           go_wp2_with fail;go_roundw;(case rel=>exact⟨k+1,W,gN,ak.o,aq.o⟩);case measure=>exact mI
          (have e9:((t.kind:Int)==1)=false:=by simpa using aT);have ak:O (∀x,x∈r.body.take (k+1)->x.kind=1->gQ (st.map (·.s)) ⟨x.z,bQ x.p vs⟩=true):=fun x D=>by
           rw[aI.o]at D;rcases dP.mp D with D|D
           ·exact HK.o x D
           rw[cQ.mp D];exact fun h=>absurd h aT
          clear aT;go_quiet(fail);have C:=b9.o;have aq:O (∀n,Below R.heap.size R (E.drewN n)):=fun n=>oH b9.o n;clear l0 l2 l3 L;go_wp2_with fail;go_roundw;(case rel=>exact⟨k+1,W,gN,ak.o,⟨C.os,C.tape,C.output,C.size,C.block⟩⟩);case measure=>exact mI
         have bh:decide ((k:Int)<(r.body.length:Int))=false:=aJ oM;have cV:O _:=dm.o aw.o bd.o E2.o (fun t ht hk=>HK.o t (by rw[dU oM];exact ht) hk);clear HK;have d4:O _:=FA (bQ r.p vs) g _ (.slice af g.length cf) wr (aM (oU br.o) X.o) (aM HS.o.1.1 (T.o wr a7.o)) (by rw[ba.o];omega);obtain⟨sv,c6⟩:∃sv,sv=decide (bQ r.p vs=g):=⟨_,rfl⟩;rw[<-c6]at d4;have d5:O _:=c6.symm;clear c6;go_wp2_with fail;refine Calls.mono d4.o ?_;rintro _ w6 ⟨rfl,n9,rfl⟩;have cu:O (Below A.heap.size A (wr.drewN n9)):=oH a7.o n9;go_wp2_with fail;go_ret;cases sv
         ·exact⟨false,rfl,ae.o _ cu.o fun h=>absurd (cV.o.mp h) (IK d5.o)⟩
         exact⟨true,rfl,⟨fun _=>cV.o.mpr (eL d5.o),fun _=>rfl⟩,T.o _ cu.o⟩
       have df:decide ((0:Int)<r.x)=true:=aQ (by have :=ag.o.f0;omega);obtain⟨m,hm⟩:∃m,r.p.length=m+1:=⟨r.p.length-1,by have :=(ag.o.ff hf).1;omega⟩;(have dh:IntKind.i64.wrap ((r.p.length:Int)-1)=(m:Int):=by rw[hm];simp[IntKind.wrap,IntKind.bits,IntKind.signed];omega);have aw:O _:=hf;have bs:O _:=hm;clear hf hm;go_wp2_with fail;refine Calls.mono (HW.o R dy.o) ?_;rintro _ q ⟨v4,q4,rfl,bT,dg,bg⟩;obtain⟨a4,c4,ed⟩:=bJ bT.1;subst ed;have a6:O (Below A.heap.size A q):=aa.o.trans (bg.mono aa.o.size);have cN:O (vC R.heap.size q (.slice a4 q4.length c4) q4/\q4.map (·.1)=pC M r):=⟨bT,dg⟩;have cG:O (dM q (.slice a9 (bQ r.p vs).length c9) (bQ r.p vs)):=aM (oU br.o) bg;clear P Q L r0 r1 r2 Y r4 bT dg;obtain⟨⟨P,Q,L⟩,r0,r1,r2,Y,r4⟩:=aS.o q a6.o;obtain⟨bv,ai⟩:∃bv,bv=decide ((bQ r.p vs).take m=g.take m):=⟨_,rfl⟩;have b5:O _:=ai.symm;obtain⟨hs,c3⟩:∃hs,hs=jZ (bS M r) ⟨v,g⟩:=⟨_,rfl⟩;have cF:O _:=c3.symm;have e5:=ba.o;have ea:=bs.o;have e4:=E3.o;(have bu:O (∀z,Below q.heap.size q z->Calls Tryz.prog 25 #[.slice a9 m c9, .slice af m cf] z fun e d=>e=.returned (.bool bv)/\Below q.heap.size q d/\d.cell? ⟨w.heap.size+1,0,none⟩=some (.int .i64 v)/\d.cell? ⟨w.heap.size+1,1,none⟩=some (.slice af g.length cf)/\d.cell? ⟨RB,0,none⟩=some (.int .i64 r.z)/\d.cell? ⟨RB,1,none⟩=some (.slice at_ r.p.length ct)/\d.cell? ⟨RB,2,none⟩=some (.int .i64 r.x)/\d.cell? ⟨RB,3,none⟩=some (.slice ab r.body.length Z)/\d.cell? ⟨RB,4,none⟩=some (.int .i64 r.vars)):=fun z I=>by have ac:=T.o z (a6.o.trans (I.mono a6.o.size));refine(FA ((bQ r.p vs).take m) (g.take m) _ _ z (GZ (aM cG.o I) m c9 oM) (GZ (aM HS.o.1.1 ac) m cf oM) (by rw[cW];omega)).mono ?_;rintro e d ⟨F,n9,rfl⟩;have j:Below q.heap.size q (z.drewN n9):=oH I n9;exact⟨by rw[F,ai],j,aB j P,aB j Q,aB j r0,aB j r1,aB j r2,aB j Y,aB j r4⟩);(have cy:O (∀n,Calls Tryz.prog 25 #[.slice a9 m c9, .slice af m cf] (q.drewN n) fun e d=>e=.returned (.bool bv)/\∃n',d=(q.drewN n).drewN n'):=fun n=>by have I:=oH (aH q.heap.size q) n;rw[ai];exact FA ((bQ r.p vs).take m) (g.take m) _ _ _ (GZ (aM cG.o I) m c9 oM) (GZ (aM HS.o.1.1 (T.o _ (a6.o.trans (I.mono a6.o.size)))) m cf oM) (by rw[cW];omega));((have bt:O (∀z,Below q.heap.size q z->Calls Tryz.prog 18 #[lP r (.slice at_ r.p.length ct) (.slice ab r.body.length Z), .slice a4 q4.length c4] z fun e d=>∃ah ch,e=.returned (.slice ah (bS M r).length ch)/\dA d (.slice ah (bS M r).length ch) (bS M r)/\Below q.heap.size q d/\d.cell? ⟨w.heap.size+1,0,none⟩=some (.int .i64 v)/\d.cell? ⟨w.heap.size+1,1,none⟩=some (.slice af g.length cf)/\d.cell? ⟨RB,0,none⟩=some (.int .i64 r.z)/\d.cell? ⟨RB,1,none⟩=some (.slice at_ r.p.length ct)/\d.cell? ⟨RB,2,none⟩=some (.int .i64 r.x)/\d.cell? ⟨RB,3,none⟩=some (.slice ab r.body.length Z)/\d.cell? ⟨RB,4,none⟩=some (.int .i64 r.vars)):=fun z I=>by have ac:=T.o z (a6.o.trans (I.mono a6.o.size));refine(HH.o z ac q4 _ _ (cN.o.1.u I) cN.o.2).mono ?_;rintro e d ⟨v9,F,H,h3⟩;have j:=I.trans (h3.mono I.size);rw[dn.o]at H;have h5:=H.toV;obtain⟨ah,ch,rfl,_⟩:=id h5;exact⟨ah,ch,F,h5,j,aB j P,aB j Q,aB j r0,aB j r1,aB j r2,aB j Y,aB j r4⟩);have bw:O (∀z ah ch,Below q.heap.size q z->dA z (.slice ah (bS M r).length ch) (bS M r)->Calls Tryz.prog 26 #[.slice ah (bS M r).length ch, .agg #[.int .i64 v, .slice af g.length cf]] z fun e d=>e=.returned (.bool hs)/\Below q.heap.size q d/\d.cell? ⟨w.heap.size+1,0,none⟩=some (.int .i64 v)/\d.cell? ⟨w.heap.size+1,1,none⟩=some (.slice af g.length cf)/\d.cell? ⟨RB,0,none⟩=some (.int .i64 r.z)/\d.cell? ⟨RB,1,none⟩=some (.slice at_ r.p.length ct)/\d.cell? ⟨RB,2,none⟩=some (.int .i64 r.x)/\d.cell? ⟨RB,3,none⟩=some (.slice ab r.body.length Z)/\d.cell? ⟨RB,4,none⟩=some (.int .i64 r.vars)):=fun z ah ch I hv=>by have ac:=T.o z (a6.o.trans (I.mono a6.o.size));refine(AP (bS M r) ⟨v,g⟩ _ (.slice af g.length cf) z hv (aM HS.o.1.1 ac) (by have :=cE.o.1;omega) cE.o.2 HS.o.1.2).mono ?_;rintro e d ⟨F,H⟩;have j:=I.trans (H.mono I.size);exact⟨by rw[F,c3],j,aB j P,aB j Q,aB j r0,aB j r1,aB j r2,aB j Y,aB j r4⟩);have er:(0:Int)<=(m:Int):=oM;(have es:(m:Int)<=(c9:Int):=by have :=YQ br.o _ _ _ rfl;omega);have et:(m:Int)<=(cf:Int):=oM;clear ai c3 e5 ea e4 bg;have ay:∀b o,Below q.heap.size q b->Below q.heap.size q (b.alloc o):=fun _ o h=>h.alloc h.size o;have az:∀b,Below q.heap.size q b->Below q.heap.size q b.drew:=fun _ h=>⟨h.os,h.tape,h.output,h.size,h.block⟩;have aF:Below q.heap.size q q:=aH _ _;go_upto_region 22 with fail;cases bv
       ·go_quiet(first|(go_at_call 25;exact uO (cy.o _)));(have dr:O (¬nG p l M (st.map (·.s)) ⟨⟨v,g⟩,(i:Int),vs⟩):=fun h=>by have C:=((bo.o aw.o bd.o).mp h).1;(have h8:(bQ r.p vs).take m=g.take m:=by unfold aK at C;have g1:=ba.o;have g2:=bs.o;have g3:=E3.o;rw[CD,CD]at C;rw[show(bQ r.p vs).length-1=m by omega,show g.length-1=m by omega]at C;exact C);exact absurd h8 (IK b5.o));clear bu bt bw cy ay az aF P Q L r0 r1 r2 Y r4;go_wp2_with fail;go_ret;have C:=T.o q a6.o;exact⟨false,rfl,⟨⟨fun h=>(by cases h),fun h=>absurd h dr.o⟩,⟨C.os,C.tape,C.output,C.size,C.block⟩⟩⟩
       go_region_held3 (fun d=>d.cell? ⟨w.heap.size+1,0,none⟩=some (.int .i64 v)/\d.cell? ⟨w.heap.size+1,1,none⟩=some (.slice af g.length cf)/\d.cell? ⟨RB,0,none⟩=some (.int .i64 r.z)/\d.cell? ⟨RB,1,none⟩=some (.slice at_ r.p.length ct)/\d.cell? ⟨RB,2,none⟩=some (.int .i64 r.x)/\d.cell? ⟨RB,3,none⟩=some (.slice ab r.body.length Z)/\d.cell? ⟨RB,4,none⟩=some (.int .i64 r.vars)/\Below q.heap.size q d) (go_keep) (
        (first
         |(go_at_call 25;refine Calls.mono (bu.o _ ?_) ?_;(simp[*]);rintro e E ⟨rfl,e0,aV,b0,co,cp,cq,cr,ek⟩)
         |(go_at_call 18;refine Calls.mono (bt.o _ ?_) ?_;(simp[*]);rintro e w6 ⟨ah,ch,rfl,c7,bX,ci,cj,ck,cn,eh,ei,ej⟩)
         |(go_at_call 26;refine Calls.mono (bw.o _ _ _ ?_ ?_) ?_;(simp[*]);assumption;rintro e w7 ⟨rfl,b7,cc,cd,ce,cg,ee,ef,eg⟩)))
       have aq:O (Below A.heap.size A w7):=a6.o.trans (b7.mono a6.o.size);(have dt:O (aK (bQ r.p vs)=aK g):=by show _=_;have g1:=ba.o;have g2:=bs.o;have g3:=E3.o;unfold aK;rw[CD,CD,show(bQ r.p vs).length-1=m by omega,show g.length-1=m by omega];exact eL b5.o);clear aV b0 co cp cq cr ek ci cj ck cn eh ei ej cc cd ce cg ee ef eg e0 bX b7 c7 bu bt bw ay az aF P Q L r0 r1 r2 Y r4;cases hs
       ·go_wp2_with fail;go_ret;exact⟨false,rfl,ae.o w7 aq.o fun h=>by have C:=lD.mpr ((bo.o aw.o bd.o).mp h).2;rw[cF.o]at C;cases C⟩
       go_wp2_with fail;go_ret;exact⟨true,rfl,⟨fun _=>(bo.o aw.o bd.o).mpr ⟨dt.o,lD.mp cF.o⟩,fun _=>rfl⟩,T.o w7 aq.o⟩
    (have b0:((g.length:Int) != (r.p.length:Int))=true:=by simp;omega);have E3:O _:=e3;clear e3;go_wp2_with fail;go_ret;exact⟨false,rfl,ae.o A (aH _ _) fun h=>E3.o (bq.o h).2.2⟩
   (have aV:((v:Int) != r.z)=true:=by simpa using e2);have E2:O _:=e2;clear e2;go_wp2_with fail;go_ret;exact⟨false,rfl,ae.o A (aH _ _) fun h=>E2.o (bq.o h).2.1⟩
  (have di:((vs.length:Int) != r.vars)=true:=by simpa using e1);have E1:O _:=e1;clear e1;go_wp2_with fail;go_ret;exact⟨false,rfl,ae.o A (aH _ _) fun h=>E1.o (bq.o h).1⟩
 have b8:(decide (0<=J)&&decide (J<=(p.m.length:Int)-1))=false:=by
  by_cases F:0<=J
  ·rw[aJ (fun H=>hb ⟨F,H⟩),Bool.and_false]
  rw[aJ F,Bool.false_and]
 have au:O _:=yD J 0 ((p.m.length:Int)-1) K;rw[b8]at au;have ds:O _:=aEY (a:=st.map (·.s)) (s:=⟨⟨v,g⟩,J,vs⟩) S.o hg hb;clear b8 hb;go_wp2_with fail;refine Calls.mono au.o ?_;rintro _ K ⟨rfl,rfl⟩;go_wp2_with fail;go_ret;exact⟨_,rfl,⟨fun h=>(by cases h),fun h=>absurd h ds.o⟩,ad.o _ (aH _ _)⟩
def aTH(p:bC)(l M:List aN)(x:List Sv)(w:World)(e:Ending)(w':World):Prop:=∃b,e=.returned (.bool b)/\(b=true↔gK p l M (x.map (·.s))/\0<x.length)/\Below w.heap.size w w'
theorem ZI(p:bC)(l M:List aN)(x:List Sv)(va vn vr vl vm vx:Value)(w:World)
 (hM:rG p l M) (L:iU w va vn vr p) (hV:dA w vl l) (ae:l.length<=9223372036854775807) (ad:∀f,f∈l->fW f) (a6:dA w vm M) (hX:lR w vx x) (b7:x.length<=9223372036854775807) (ai:∀y,y∈x->nY w y) (ah:∀y,y∈x->wW y.f):
 Calls Tryz.prog 41 #[eN va vn vr,vl,vm,vx] w fun e d=>aTH p l M x w e d:=by
 obtain⟨n,B,rfl,_⟩:=id L.ar;obtain⟨r,C,rfl,_⟩:=id L.nm;obtain⟨v,D,rfl,_⟩:=id L.rl;obtain⟨al,cl,rfl,_⟩:=id hV;obtain⟨am,cm,rfl,_⟩:=id a6;obtain⟨ax,Y,rfl,ao,ag⟩:=id hX;have b8:=ao.1;have aw:O _:=hM;have HP:O (iU w (.slice n p.g.length B) (.slice r p.q.length C) (.slice v p.m.length D) p):=L;have HV:O (dA w (.slice al l.length cl) l/\l.length<=9223372036854775807/\∀f,f∈l->fW f):=⟨hV,ae,ad⟩;have az:O (dA w (.slice am M.length cm) M):=a6;have U:O (lR w (.slice ax x.length Y) x/\AA w ax x/\∀y,y∈x->nY w y/\wW y.f):=⟨hX,ag,fun y i=>⟨ai y i,ah y i⟩⟩;have bT:=dD w (pB n B r C v D p);have a3:O _:=aR w (pB n B r C v D p);have Z:O (Below w.heap.size w _):=bT;clear hM L hV ae ad a6 hX ai ah ag ao bT
 go_enter Tryz.func41,Tryz.ntmps41
 go_upto_region 1 with fail;generalize w.alloc (pB n B r C v D p)=E at *;(have aF:O (∀y,Below E.heap.size E y->y.cell? ⟨w.heap.size,0,none⟩=some (.slice n p.g.length B)/\y.cell? ⟨w.heap.size,1,none⟩=some (.slice r p.q.length C)/\y.cell? ⟨w.heap.size,2,none⟩=some (.slice v p.m.length D)):=fun y i=>by have h:=(i.block _ (bP a3.o)).trans a3.o;exact⟨cH h,cH h,cH h⟩);have T:O (∀y,Below E.heap.size E y->Below w.heap.size w y):=fun y i=>Z.o.trans (i.mono Z.o.size);clear a3 Z;go_wp2_with fail;go_loopw [9] (fun iv wr=>∃k:Nat,k<=x.length/\iv=.int .i64 k/\O (gK p l M ((x.take k).map (·.s)))/\O (Below E.heap.size E wr)) (fun iv _=>x.length-(intOf iv).toNat);case atStart=>exact⟨0,bG _,rfl,MP p l M,aH _ _⟩
 case round=>
  obtain⟨k,hk,rfl,aa,F⟩:=hrel;by_cases P:k<x.length
  ·obtain⟨b,j,rfl,p0,p1,p2,p3⟩:=EG U.o.2.1 k P;have ac:O (nY w (tW x k)/\wW (tW x k).f):=U.o.2.2 _ (uY x k P);have a4:O ((x.map (·.s))[k]?=some (tW x k).s/\(x.take (k+1)).map (·.s)=(x.take k).map (·.s)++[(tW x k).s]/\(x.map (·.s)).take k=(x.take k).map (·.s)):=⟨by rw[cY,wN x k P];rfl,by rw[eI,wN x k P,cB];rfl,by rw[IG]⟩;(have aV:(x.take k).length=k:=by rw[cW];omega);have ab:O (lR w (.slice (some ⟨b,j,none⟩) k Y) (x.take k)/\∀y,y∈x.take k->nY w y):=⟨NC U.o.1 hk,fun y i=>(U.o.2.2 y (jG i)).1⟩;have N:=T.o wr F.o;have q0:=aB N p0;have q1:=aB N p1;have q2:=aB N p2;have q3:=aB N p3;clear p0 p1 p2 p3 N;generalize tW x k=y at *;obtain⟨⟨⟨Q,G⟩,R,S⟩,fv,vv⟩:=y;dsimp only at q0 q1 q2 q3;obtain⟨⟨⟨⟨V,J,ak,_⟩,_⟩,⟨W,X,an,_⟩,_⟩,a7⟩:=ac.o;dsimp only at ak an a7;subst ak an;have aI:G.length<=J:=a7 _ _ _ rfl;obtain⟨c0,c1,c2⟩:=aF.o wr F.o;(have HN:O (∀z,Below wr.heap.size wr z->Calls Tryz.prog 86 #[eN (.slice n p.g.length B) (.slice r p.q.length C) (.slice v p.m.length D), .slice al l.length cl, .slice am M.length cm, .slice (some ⟨b,j,none⟩) k Y, .agg #[.int .i64 Q, .slice V G.length J, .int .i64 R, .slice W S.length X]] z fun e d=>∃H:Bool,e=.returned (.bool H)/\O (H=true↔nG p l M ((x.take k).map (·.s)) ⟨⟨Q,G⟩,R,S⟩)/\Below wr.heap.size wr d/\d.cell? ⟨w.heap.size,0,none⟩=some (.slice n p.g.length B)/\d.cell? ⟨w.heap.size,1,none⟩=some (.slice r p.q.length C)/\d.cell? ⟨w.heap.size,2,none⟩=some (.slice v p.m.length D)/\d.cell? ⟨b,j+k*4,none⟩=some (.int .i64 Q)/\d.cell? ⟨b,j+k*4+1,none⟩=some (.slice V G.length J)/\d.cell? ⟨b,j+k*4+2,none⟩=some (.int .i64 R)/\d.cell? ⟨b,j+k*4+3,none⟩=some (.slice W S.length X)):=by intro z hz;have I:=T.o z (F.o.trans (hz.mono F.o.size));refine(aJJ p l M (x.take k) Q G R S V J W X _ _ _ _ _ _ z aw.o (HP.o.u I) (bR HV.o.1 I) HV.o.2.1 HV.o.2.2 (bR az.o I) (ab.o.1.u I) oM (fun y i=>(ab.o.2 y i).u I) (nY.u ac.o.1 I) aI).mono ?_;rintro e d ⟨H,h1,h2,h3⟩;have A:=hz.trans (h3.mono hz.size);exact⟨H,h1,h2,A,aB A c0,aB A c1,aB A c2,aB A q0,aB A q1,aB A q2,aB A q3⟩);have ap:∀b o,Below wr.heap.size wr b->Below wr.heap.size wr (b.alloc o):=fun _ o h=>h.alloc h.size o;have aq:∀b,Below wr.heap.size wr b->Below wr.heap.size wr b.drew:=fun _ h=>⟨h.os,h.tape,h.output,h.size,h.block⟩;have au:Below wr.heap.size wr wr:=aH _ _;have aS:(0:Int)<=(k:Int):=oM;have aT:(k:Int)<=(Y:Int):=oM;clear aV a7;go_upto_region 4 with fail
   go_region_held3 (fun d=>d.cell? ⟨w.heap.size,0,none⟩=some (.slice n p.g.length B)/\d.cell? ⟨w.heap.size,1,none⟩=some (.slice r p.q.length C)/\d.cell? ⟨w.heap.size,2,none⟩=some (.slice v p.m.length D)/\d.cell? ⟨b,j+k*4,none⟩=some (.int .i64 Q)/\d.cell? ⟨b,j+k*4+1,none⟩=some (.slice V G.length J)/\d.cell? ⟨b,j+k*4+2,none⟩=some (.int .i64 R)/\d.cell? ⟨b,j+k*4+3,none⟩=some (.slice W S.length X)/\Below wr.heap.size wr d) (go_keep) (
    (go_at_call 86;refine Calls.mono (HN.o _ ?_) ?_;(simp[*]);rintro e w2 ⟨H,rfl,a9,aj,b0,b1,b2,b3,b4,b5,b6⟩))
   have a8:O (Below E.heap.size E w2):=F.o.trans (aj.mono F.o.size);clear ap aq au HN b0 b1 b2 b3 b4 b5 b6 aj aS aT c0 c1 c2 q0 q1 q2 q3;cases H
   ·(have ay:O (¬gK p l M (x.map (·.s))):=MN a4.o.1 fun K=>by rw[a4.o.2.2]at K;have h8:=a9.o.mpr K;cases h8);go_wp2_with fail;go_ret;exact⟨false,rfl,⟨fun h=>(by cases h),fun h=>absurd h.1 ay.o⟩,T.o w2 a8.o⟩
   (have a5:O (gK p l M ((x.take (k+1)).map (·.s))):=by show gK _ _ _ _;rw[a4.o.2.1];have K:=a9.o.mp rfl;exact zT.mpr ⟨aa.o,K.1,K.2⟩);go_wp2_with fail;go_roundw;(case rel=>exact⟨k+1,P,gN,a5.o,a8.o⟩);case measure=>exact mI
  (have a5:O (gK p l M (x.map (·.s))):=by show gK _ _ _ _;have :=aa.o;rw[dU oM]at this;exact this);go_wp2_with fail;go_ret;exact⟨_,rfl,⟨fun h=>⟨a5.o,eL h⟩,fun h=>aQ h.2⟩,T.o wr F.o⟩
theorem Py(p:bC)(l:List aN)(x:List Sv)(va vn vr vl vx:Value)(w:World)(A:iU w va vn vr p)(hF:jK p)(ag:iR w vr)(N:dA w vl l)(T:l.length<=9223372036854775807)(R:∀f,f∈l->fW f)(U:lR w vx x)(ac:x.length<=9223372036854775807)(V:∀y,y∈x->nY w y/\wW y.f):
 Calls Tryz.prog 9 #[eN va vn vr,vl,vx] w fun e B=>e=.returned (.bool true)/\Below w.heap.size w B:=by
 obtain⟨D,G,rfl,_⟩:=id A.ar;obtain⟨E,H,rfl,_⟩:=id A.nm;obtain⟨F,I,rfl,_⟩:=id A.rl;obtain⟨al,cl,rfl,_⟩:=id N;obtain⟨ax,cx,rfl,_,aq⟩:=id U;have bT:=dD w (pB D G E H F I p);have Y:O _:=aR w (pB D G E H F I p);have X:O (Below w.heap.size w _):=bT;have a7:O (∀z,Below w.heap.size w z->Calls Tryz.prog 39 #[eN (.slice D p.g.length G) (.slice E p.q.length H) (.slice F p.m.length I), .slice al l.length cl, .slice ax x.length cx] z fun e B=>∃b c,e=.returned (.tuple #[.bool b, .int .i64 c])/\AU p l (x.map (·.s)) c b/\Below z.heap.size z B):=fun z i=>XK p l x _ _ _ _ _ z (A.u i) hF (ag.u A.rl i) (bR N i) T R (U.u i) ac (fun y n=>(V y n).1.u i);have a8:O (∀z,Below w.heap.size w z->Calls Tryz.prog 30 #[eN (.slice D p.g.length G) (.slice E p.q.length H) (.slice F p.m.length I), .slice al l.length cl] z fun e B=>∃v c S,e=.returned (.tuple #[v, .int .i64 c])/\pX p l [] c S/\dA B v S/\Below z.heap.size z B):=fun z i=>RO p l _ _ _ _ z (A.u i) hF (bR N i) T R;have ai:O (∀S z vm,rG p l S->Below w.heap.size w z->dA z vm S->Calls Tryz.prog 41 #[eN (.slice D p.g.length G) (.slice E p.q.length H) (.slice F p.m.length I), .slice al l.length cl,vm, .slice ax x.length cx] z fun e B=>aTH p l S x z e B):=fun S z vm hm i hv=>ZI p l S x _ _ _ _ _ _ z hm (A.u i) (bR N i) T R hv (U.u i) ac (fun y n=>(V y n).1.u i) (fun y n=>(V y n).2);have ao:O ((x.map (·.s)).length=x.length):=aP _;clear A hF ag N T R bT U aq V
 go_enter Tryz.func9,Tryz.ntmps9
 go_upto_region 1 with fail;generalize w.alloc (pB D G E H F I p)=d at *;(have a3:O (∀y,Below d.heap.size d y->y.cell? ⟨w.heap.size,0,none⟩=some (.slice D p.g.length G)/\y.cell? ⟨w.heap.size,1,none⟩=some (.slice E p.q.length H)/\y.cell? ⟨w.heap.size,2,none⟩=some (.slice F p.m.length I)):=fun y n=>by have h:=(n.block _ (bP Y.o)).trans Y.o;exact⟨cH h,cH h,cH h⟩);(have C:O (∀y,Below d.heap.size d y->Below w.heap.size w y):=fun y n=>X.o.trans (n.mono X.o.size);clear Y X;obtain⟨c0,L,M⟩:=a3.o d (aH _ _);go_wp2_with fail;refine Calls.mono (a7.o d (C.o d (aH _ _))) ?_;rintro _ W ⟨ok,e,rfl,ab,ad⟩;have a9:O (AU p l (x.map (·.s)) e ok):=ab;have K:O (Below d.heap.size d W):=ad;clear ad ab c0 L M;obtain⟨c0,L,M⟩:=a3.o W K.o;go_wp2_with fail;refine Calls.mono (a8.o W (C.o W K.o)) ?_;rintro _ P ⟨v5,f,S,rfl,a4,a6,ae⟩;obtain⟨ap,cs,rfl,_⟩:=id a6;have am:O (dA P (.slice ap S.length cs) S):=a6;have ak:O (pX p l [] f S):=a4;have J:O (Below d.heap.size d P):=K.o.trans (ae.mono K.o.size);have Q:O ((¬f=0/\e=f/\ok=false)\/(f=0/\200<x.length/\e=2/\ok=false)\/(f=0/\x.length<=200/\e=0/\(ok=true↔gK p l S (x.map (·.s))/\0<x.length))):=by obtain⟨c9,M9,h1,h2⟩:=a9.o;obtain⟨rfl,rfl⟩:=tX h1 a4;rw[ao.o]at h2;exact h2);clear ae a4 a6 K c0 L M a9 a7 a8;rcases Q.o with⟨hf,rfl,rfl⟩|⟨rfl,hx,rfl,rfl⟩|⟨rfl,hx,rfl,ah⟩
 ·(have au:((e:Int)==0)=false:=by simpa using hf);clear Q hf;go_wp2_with fail;refine Calls.mono (zJ P) ?_;rintro _ j ⟨rfl,k⟩;have r:O (Below d.heap.size d j):=J.o.trans (k.mono J.o.size);clear k;go_wp2_with fail;go_ret;exact⟨rfl,C.o j r.o⟩
 ·have hd:decide ((200:Int)<(x.length:Int))=true:=aQ oM;clear Q hx;go_wp2_with fail;refine Calls.mono (zJ P) ?_;rintro _ j ⟨rfl,k⟩;have r:O (Below d.heap.size d j):=J.o.trans (k.mono J.o.size);clear k;go_wp2_with fail;go_ret;exact⟨rfl,C.o j r.o⟩
 have hd:decide ((200:Int)<(x.length:Int))=false:=aJ oM;have Z:O _:=ah;have aj:O (rG p l S):=FQ ak.o;clear Q hx ah;go_wp2_with fail;refine Calls.mono (zJ P) ?_;rintro _ j ⟨rfl,k⟩;have r:O (Below d.heap.size d j):=J.o.trans (k.mono J.o.size);have an:O _:=bR am.o k;clear k;obtain⟨c0,L,M⟩:=a3.o j r.o;go_wp2_with fail;refine Calls.mono (ai.o S j _ aj.o (C.o j r.o) an.o) ?_;rintro _ w7 ⟨b7,rfl,a5,af⟩;have HE:O (ok=b7):=by
  show ok=b7;cases ok<;>cases b7
  ·rfl
  ·have :=Z.o.mpr (a5.mp rfl);cases this
  ·have :=a5.mpr (Z.o.mp rfl);cases this
  rfl
 have aa:O (Below d.heap.size d w7):=r.o.trans (af.mono r.o.size);obtain rfl:=HE.o;clear a5 af c0 L M Z;cases ok
 ·go_wp2_with fail;go_ret;exact⟨rfl,C.o w7 aa.o⟩
 go_wp2_with fail;go_ret;exact⟨rfl,C.o w7 aa.o⟩
theorem wV:Tryz.prog.cellsOf 3=1:=kR
theorem UF:Tryz.prog.cellsOf 9=1:=kR
theorem aTC{l:List Value}(h:l.length=2):∃a b,l=[a,b]:=by
 match l,h with
 |[a,b],_=>exact⟨a,b,rfl⟩
theorem aK9{l:List Value}(h:l.length=5):∃a b c d e,l=[a,b,c,d,e]:=by
 match l,h with
 |[a,b,c,d,e],_=>exact⟨a,b,c,d,e,rfl⟩
section
variable {H:Type} {enc:TypeId×Value->H} {w:World} {base:Nat} {spare:Nat->Bool} {held:Bool}
theorem XE{α:Type}{st e:TypeId}{k:Nat}(ht:Tryz.prog.underlying st=some (.slice e))(K:Tryz.prog.cellsOf e=k)(T:0<k)(d:α)(A:Nat->Nat->α->Prop)
 (N:∀n g y b f,g.length=k->(∀j,j<k->w.cell? ⟨b,f+j,none⟩=g[j]?)->DataW.trod enc Tryz.prog w base spare held n e g=some y->∃a,A b f a)
 {P:Nat} {v:Value} {x:DataW H×List MemPlace} (h:DataW.trod enc Tryz.prog w base spare held P st [v]=some x):
 ∃(ao:Option Addr)(l:List α)(r:Nat),v=.slice ao l.length r/\l.length<=9223372036854775807/\(l=[]\/∃b f,ao=some ⟨b,f,none⟩/\∀i,i<l.length->A b (f+i*k) (l.getD i d)):=by
 haveI:Inhabited α:=⟨d⟩
 rcases Deep.open_slice ht h with⟨C,_⟩|⟨a,p,r,m,n,D,Z,C,hb,hl,U,V,hx,G⟩
 ·(have z:v=.slice none 0 0:=by simpa using C);exact⟨none,[],0,z,by simp, .inl rfl⟩
 (have z:v=.slice (some a) p r:=by simpa using C);(have a0:p<=m:=by rw[V];split<;>omega);by_cases Q:p=0
 ·subst Q;exact⟨some a,[],r,z,by simp, .inl rfl⟩
 obtain⟨b,f,Y⟩:=a;have X:Y=none:=by
  obtain⟨g,s,_⟩:=G 0 oM;rw[K]at s;obtain⟨_,L,B⟩:=XR s;have E:=B 0 T
  cases F:g[0]? with
  |none=>rw[List.getElem?_eq_none_iff]at F;omega
  |some u=>
   rw[F]at E;simpa[Addr.add]using World.cell?_spot E
 subst X;(have M:∀i,i<p->∃q:α,A b (f+i*k) q:=by intro i I;obtain⟨g,s,R⟩:=G i oM;rw[K]at s;obtain⟨_,L,B⟩:=XR s;refine N n g _ b (f+i*k) L (fun j S=>?_) R;have :=B j S;rw[Deep.add_add,WideShapes.add_plain]at this;rw[<-this,II]);(obtain⟨q,W⟩:=Deep.choose_lt M;refine⟨some ⟨b,f,none⟩,(List.range p).map q,r,by rw[z];simp,by unfold maxLen at U;simp;omega, .inr ⟨b,f,rfl,fun i I=>?_⟩⟩;(have J:i<p:=by simpa using I);have ht:((List.range p).map q).getD i d=q i:=by rw[aC,cY,nX J];rfl);rw[ht];exact W i J
theorem FJ{t:TypeId}{b d:Field}{j:Nat}{e:List Value}{x:DataW H×List MemPlace}(ht:Tryz.prog.underlying t=some (.struct #[b,d]))(h:DataW.trod enc Tryz.prog w base spare held j t e=some x):
 ∃f g n,e.length=Tryz.prog.cellsOf t/\DataW.trod enc Tryz.prog w base spare held n b.type ((e.drop b.offset).take (Tryz.prog.cellsOf b.type))=some f/\
  DataW.trod enc Tryz.prog w base spare held n d.type ((e.drop d.offset).take (Tryz.prog.cellsOf d.type))=some g:=by
 obtain⟨m,n,_,rfl,k,l,i⟩:=DataW.trod_struct ht h
 match m,l with
 |[f,g],_=>exact⟨f,g,n,k,by simpa using i 0 b rfl,by simpa using i 1 d rfl⟩
theorem FK{t:TypeId}{d e f g i:Field}{r:Nat}{b:List Value}{x:DataW H×List MemPlace}(ht:Tryz.prog.underlying t=some (.struct #[d,e,f,g,i]))(h:DataW.trod enc Tryz.prog w base spare held r t b=some x):
 ∃k l m p q n,b.length=Tryz.prog.cellsOf t/\DataW.trod enc Tryz.prog w base spare held n d.type ((b.drop d.offset).take (Tryz.prog.cellsOf d.type))=some k/\
  DataW.trod enc Tryz.prog w base spare held n e.type ((b.drop e.offset).take (Tryz.prog.cellsOf e.type))=some l/\DataW.trod enc Tryz.prog w base spare held n f.type ((b.drop f.offset).take (Tryz.prog.cellsOf f.type))=some m/\
  DataW.trod enc Tryz.prog w base spare held n g.type ((b.drop g.offset).take (Tryz.prog.cellsOf g.type))=some p/\DataW.trod enc Tryz.prog w base spare held n i.type ((b.drop i.offset).take (Tryz.prog.cellsOf i.type))=some q:=by
 obtain⟨y,n,_,rfl,s,v,j⟩:=DataW.trod_struct ht h
 match y,v with
 |[k,l,m,p,q],_=>exact⟨k,l,m,p,q,n,s,by simpa using j 0 d rfl,by simpa using j 1 e rfl,by simpa using j 2 f rfl,by simpa using j 3 g rfl,by simpa using j 4 i rfl⟩
end
theorem Ud:Tryz.prog.cellsOf 55=2:=kR
theorem KT:Tryz.prog.cellsOf 22=1:=kR
theorem Ub:Tryz.prog.cellsOf 23=1:=kR
theorem Uc:Tryz.prog.cellsOf 24=1:=kR
theorem QU:Tryz.prog.cellsOf 37=1:=kR
theorem Uf:Tryz.prog.cellsOf 38=1:=kR
theorem Ug:Tryz.prog.cellsOf 40=5:=kR
theorem Uh:Tryz.prog.cellsOf 49=4:=kR
theorem aHY:Tryz.prog.cellsOf 147=2:=kR
theorem aTD{l:List Value}(h:l.length=4):∃a b c d,l=[a,b,c,d]:=by
 match l,h with
 |[a,b,c,d],_=>exact⟨a,b,c,d,rfl⟩
section
variable {H:Type} {enc:TypeId×Value->H} {w:World} {base:Nat} {spare:Nat->Bool} {held:Bool}
theorem xH{α:Type}{st e:TypeId}{k:Nat}(ht:Tryz.prog.underlying st=some (.slice e))(G:Tryz.prog.cellsOf e=k)(I:0<k)(d:α)(q:Nat->Nat->α->Prop)
 (B:∀n r y b g,r.length=k->(∀j,j<k->w.cell? ⟨b,g+j,none⟩=r[j]?)->DataW.trod enc Tryz.prog w base spare held n e r=some y->∃a,q b g a)
 {C:Nat} {v:Value} {x:DataW H×List MemPlace} (h:DataW.trod enc Tryz.prog w base spare held C st [v]=some x):
 ∃(ao:Option Addr)(l:List α)(p:Nat),v=.slice ao l.length p/\l.length<=p/\l.length<=9223372036854775807/\(l=[]\/∃b g,ao=some ⟨b,g,none⟩/\∀i,i<l.length->q b (g+i*k) (l.getD i d)):=by
 obtain⟨ao,l,p,s,K,J⟩:=XE ht G I d q B h;refine⟨ao,l,p,s,?_,K,J⟩;rcases Deep.open_slice ht h with⟨z,_⟩|⟨a,L,A,m,n,D,M,z,N,P,_⟩
 ·(have f:v=.slice none 0 0:=by simpa using z);rw[s]at f;injection f with _ E F;omega
 (have f:v=.slice (some a) L A:=by simpa using z);rw[s]at f;injection f with _ E F;omega
theorem ND{t:TypeId}{d e f:Field}{l:Nat}{b:List Value}{x:DataW H×List MemPlace}(ht:Tryz.prog.underlying t=some (.struct #[d,e,f]))(h:DataW.trod enc Tryz.prog w base spare held l t b=some x):
 ∃i j k n,b.length=Tryz.prog.cellsOf t/\DataW.trod enc Tryz.prog w base spare held n d.type ((b.drop d.offset).take (Tryz.prog.cellsOf d.type))=some i/\
  DataW.trod enc Tryz.prog w base spare held n e.type ((b.drop e.offset).take (Tryz.prog.cellsOf e.type))=some j/\DataW.trod enc Tryz.prog w base spare held n f.type ((b.drop f.offset).take (Tryz.prog.cellsOf f.type))=some k:=by
 obtain⟨q,n,_,rfl,m,p,g⟩:=DataW.trod_struct ht h
 match q,p with
 |[i,j,k],_=>exact⟨i,j,k,n,m,by simpa using g 0 d rfl,by simpa using g 1 e rfl,by simpa using g 2 f rfl⟩
theorem XI{t:TypeId}{d e f g:Field}{p:Nat}{b:List Value}{x:DataW H×List MemPlace}(ht:Tryz.prog.underlying t=some (.struct #[d,e,f,g]))(h:DataW.trod enc Tryz.prog w base spare held p t b=some x):
 ∃j k l m n,b.length=Tryz.prog.cellsOf t/\DataW.trod enc Tryz.prog w base spare held n d.type ((b.drop d.offset).take (Tryz.prog.cellsOf d.type))=some j/\
  DataW.trod enc Tryz.prog w base spare held n e.type ((b.drop e.offset).take (Tryz.prog.cellsOf e.type))=some k/\DataW.trod enc Tryz.prog w base spare held n f.type ((b.drop f.offset).take (Tryz.prog.cellsOf f.type))=some l/\
  DataW.trod enc Tryz.prog w base spare held n g.type ((b.drop g.offset).take (Tryz.prog.cellsOf g.type))=some m:=by
 obtain⟨s,n,_,rfl,q,r,i⟩:=DataW.trod_struct ht h
 match s,r with
 |[j,k,l,m],_=>exact⟨j,k,l,m,n,q,by simpa using i 0 d rfl,by simpa using i 1 e rfl,by simpa using i 2 f rfl,by simpa using i 3 g rfl⟩
theorem RH{m:Nat}{v:Value}{x:DataW H×List MemPlace}(h:DataW.trod enc Tryz.prog w base spare held m 22 [v]=some x):∃l,dM w v l/\l.length<=9223372036854775807:=by
 obtain⟨g,l,j,B,_,A,s⟩:=xH Tryz.underlying22 wV dE (0:Int) (fun b d a=>w.cell? ⟨b,d,none⟩=some (.int .i64 a)) (fun n k y b d z e p=>by
  match k,z with
  |[D],_=>
   obtain⟨C,f,_,_⟩:=DataW.trod_int Tryz.underlying3 p;simp at f;subst f
   exact⟨C,e 0 dE⟩) h
 refine⟨l,⟨g,j,B,?_⟩,A⟩;rcases s with h|⟨b,d,q,e⟩
 ·exact .inl h
 exact .inr ⟨b,d,q,fun i r=>by have :=e i r;rw[QP]at this;exact this⟩
theorem Xc{m:Nat}{v:Value}{x:DataW H×List MemPlace}(h:DataW.trod enc Tryz.prog w base spare held m 23 [v]=some x):∃l,Uz w v l/\l.length<=9223372036854775807:=by
 obtain⟨g,l,j,B,_,A,s⟩:=xH Tryz.underlying23 UF dE ([]:List UInt8) (fun b d a=>w.cell? ⟨b,d,none⟩=some (.string ⟨a.toArray⟩)) (fun n k y b d z e p=>by
  match k,z with
  |[D],_=>
   obtain⟨C,f,_,_⟩:=DataW.trod_string Tryz.underlying9 p;simp at f;subst f
   exact⟨C.data.toList,e 0 dE⟩) h
 refine⟨l,⟨g,j,B,?_⟩,A⟩;rcases s with h|⟨b,d,q,e⟩
 ·exact .inl h
 exact .inr ⟨b,d,q,fun i r=>by have :=e i r;rw[QP]at this;exact this⟩
theorem JI{p:Nat}{v:Value}{x:DataW H×List MemPlace}(h:DataW.trod enc Tryz.prog w base spare held p 37 [v]=some x):∃l,fT w v l/\l.length<=9223372036854775807:=by
 obtain⟨j,l,m,B,r,A,s⟩:=xH Tryz.underlying37 aHY dE (⟨0,0⟩:dL) (IQ w) (fun n E y b F z i q=>by
  obtain⟨J,K,k,_,f,g⟩:=FJ Tryz.underlying147 q;obtain⟨G,I,rfl⟩:=aTC z;simp[wV]at f g;obtain⟨C,d,_,_⟩:=DataW.trod_int Tryz.underlying3 f;obtain⟨D,e,_,_⟩:=DataW.trod_int Tryz.underlying3 g;simp at d e;subst d e
  exact⟨⟨C,D⟩,i 0 dE,i 1 dE⟩) h
 exact⟨l,⟨j,m,B,r,s⟩,A⟩
theorem YO{g:Nat}{v0 v1:Value}{x:DataW H×List MemPlace}(h:DataW.trod enc Tryz.prog w base spare held g 55 [v0,v1]=some x):∃m b,v0=.int .i64 m/\dM w v1 b/\b.length<=9223372036854775807:=by obtain⟨p,q,n,_,e,f⟩:=FJ Tryz.underlying55 h;simp[wV,KT]at e f;obtain⟨k,d,_,_⟩:=DataW.trod_int Tryz.underlying3 e;obtain⟨l,i,j⟩:=RH f;simp at d;exact⟨k,l,d,i,j⟩
end

section
variable {H:Type} {enc:TypeId×Value->H} {w:World} {base:Nat} {spare:Nat->Bool} {held:Bool}
theorem aF8{F:Nat}{v:Value}{x:DataW H×List MemPlace}(h:DataW.trod enc Tryz.prog w base spare held F 38 [v]=some x):∃l,pI w v l/\l.length<=9223372036854775807/\(∀i,i<l.length->JM (cJ l i))/\wW v:=by
 obtain⟨D,l,E,C,G,L,B⟩:=xH Tryz.underlying38 Uh dE (⟨0,0,0,[]⟩:cI) (fun b f x=>XY w b f x/\JM x) (fun n U y b f J d m=>by
  obtain⟨Z,y1,y2,y3,k,_,q,r,s,z⟩:=XI Tryz.underlying49 m;obtain⟨W,X,Y,R,rfl⟩:=aTD J;simp[wV,QU]at q r s z;obtain⟨M,p,_,_⟩:=DataW.trod_int Tryz.underlying3 q;obtain⟨N,g,_,_⟩:=DataW.trod_int Tryz.underlying3 r;obtain⟨P,j,_,_⟩:=DataW.trod_int Tryz.underlying3 s;obtain⟨Q,I,K⟩:=JI z;simp at p g j;subst p g j
  exact⟨⟨M,N,P,Q⟩,⟨d 0 dE,d 1 dE,d 2 dE,R,d 3 dE,I⟩,K⟩) h
 refine⟨l,⟨D,E,C,?_⟩,L,?_,fun S V T m=>by rw[C]at m;injection m with _ g j;subst g j;exact G⟩
 ·rcases B with h|⟨b,f,A,d⟩
  ·exact .inl h
  exact .inr ⟨b,f,A,fun i e=>(d i e).1⟩
 intro i e;rcases B with h|⟨b,f,A,d⟩
 ·rw[h]at e;simp at e
 exact(d i e).2
theorem aB1{M:Nat}{v:Value}{x:DataW H×List MemPlace}(h:DataW.trod enc Tryz.prog w base spare held M 24 [v]=some x):∃l,EU w v l/\l.length<=9223372036854775807/\(∀i,i<l.length->BS (aW l i))/\iR w v:=by
 obtain⟨J,l,K,F,_,W,r⟩:=xH Tryz.underlying24 Ug dE (⟨0,[],0,[],0⟩:bB) (fun b e x=>QT w b e x/\BS x/\∃u,w.cell? ⟨b,e+3,none⟩=some u/\wW u) (fun n a1 y b e T d N=>by
  obtain⟨y0,y1,y2,y3,y4,k,_,A,B,C,D,E⟩:=FK Tryz.underlying40 N;obtain⟨v0,v1,v2,I,v4,rfl⟩:=aK9 T;simp[wV,QU,Uf]at A B C D E;obtain⟨Z,s,_,_⟩:=DataW.trod_int Tryz.underlying3 A;obtain⟨l1,R,U⟩:=JI B;obtain⟨k2,f,_,_⟩:=DataW.trod_int Tryz.underlying3 C;obtain⟨l3,S,V,Q,P⟩:=aF8 D;obtain⟨k4,z,_,_⟩:=DataW.trod_int Tryz.underlying3 E;simp at s f z;subst s f z
  exact⟨⟨Z,l1,k2,l3,k4⟩,⟨d 0 dE,⟨v1,d 1 dE,R⟩,d 2 dE,⟨I,d 3 dE,S⟩,d 4 dE⟩,⟨U,V,Q⟩,I,d 3 dE,P⟩) h
 refine⟨l,⟨J,K,F,?_⟩,W,?_,?_⟩
 ·rcases r with h|⟨b,e,g,d⟩
  ·exact .inl h
  exact .inr ⟨b,e,g,fun i j=>(d i j).1⟩
 ·intro i j;rcases r with h|⟨b,e,g,d⟩
  ·rw[h]at j;simp at j
  exact(d i j).2.1
 intro b e n a0 G k q u m;rw[F]at G;injection G with p f L;subst p f L;rcases r with h|⟨b2,a2,g,d⟩
 ·rw[h]at q;simp at q
 injection g with g;injection g with p f;subst p f;obtain⟨u2,Y,X⟩:=(d k q).2.2;rw[Y]at m;injection m with m;subst m;exact X
theorem Kj{f:Nat}{va vn vr:Value}{x:DataW H×List MemPlace}(h:DataW.trod enc Tryz.prog w base spare held f 26 [va,vn,vr]=some x):∃p,iU w va vn vr p/\jK p/\iR w vr:=by obtain⟨z,A,B,n,_,b,d,e⟩:=ND Tryz.underlying26 h;simp[KT,Ub,Uc]at b d e;obtain⟨s,j,m⟩:=RH b;obtain⟨v,k,q⟩:=Xc d;obtain⟨y,l,r,i,g⟩:=aB1 e;exact⟨⟨s,v,y⟩,⟨j,k,l⟩,⟨m,q,r,i⟩,g⟩
theorem Az{I:Nat}{v:Value}{x:DataW H×List MemPlace}(h:DataW.trod enc Tryz.prog w base spare held I 27 [v]=some x):∃l,dA w v l/\l.length<=9223372036854775807/\∀f,f∈l->fW f:=by
 obtain⟨A,l,C,p,L,Q,z⟩:=xH Tryz.underlying27 Ud dE (⟨0,[]⟩:aN) (fun b k f=>XT w b k f/\fW f) (fun n F y b k N d r=>by
  match F,N with
  |[V,T],_=>
   obtain⟨S,B,G,K,P⟩:=YO r
   exact⟨⟨S,B⟩,⟨by rw[<-G];exact d 0 dE,T,d 1 dE,K⟩,P⟩) h
 refine⟨l,⟨A,C,p,⟨L,fun e=>?_⟩,?_⟩,Q,fun f M=>?_⟩
 ·subst e;rcases Deep.open_slice Tryz.underlying27 h with⟨q,_⟩|⟨a,R,E,m,n,D,U,q,_⟩
  ·(have j:v=.slice none 0 0:=by simpa using q);rw[p]at j;injection j with _ _ r
  (have j:v=.slice (some a) R E:=by simpa using q);rw[p]at j;injection j with J;cases J
 ·rcases z with h|⟨b,k,s,d⟩
  ·exact .inl h
  exact .inr ⟨b,k,s,fun i g=>(d i g).1⟩
 obtain⟨i,g,rfl⟩:=mH M;rcases z with h|⟨b,k,s,d⟩
 ·rw[h]at g;simp at g
 have :=(d i g).2;rwa[aC,aD g]at this
end
theorem aLW:Tryz.prog.cellsOf 80=4:=kR
section
variable {H:Type} {enc:TypeId×Value->H} {w:World} {base:Nat} {spare:Nat->Bool} {held:Bool}
theorem aJE{b:Nat}{v:Value}{x:DataW H×List MemPlace}(h:DataW.trod enc Tryz.prog w base spare held b 22 [v]=some x):wW v:=by obtain⟨g,l,j,d,n,_⟩:=xH (w:=w) Tryz.underlying22 wV dE (0:Int) (fun _ _ _=>True) (fun _ _ _ _ _ _ _ _=>⟨0,trivial⟩) h;intro f p i e;rw[d]at e;injection e with _ k m;omega
theorem aNM{p:Nat}{v0 v1 l e:Value}{x:DataW H×List MemPlace}(h:DataW.trod enc Tryz.prog w base spare held p 80 [v0,v1,l,e]=some x):
 ∃y:Sv,(v0=.int .i64 y.s.d.z/\v1=y.f/\l=.int .i64 y.s.c/\e=y.v)/\nY w y/\wW y.f:=by
 obtain⟨F,G,I,n,_,b,i,j⟩:=ND Tryz.underlying80 h;simp[wV,Ud,KT]at b i j;obtain⟨_,_,_,_,_,k⟩:=FJ Tryz.underlying55 b;simp[KT]at k;obtain⟨E,m,rfl,q,A⟩:=YO b;obtain⟨C,g,_,_⟩:=DataW.trod_int Tryz.underlying3 i;obtain⟨D,r,B⟩:=RH j;simp at g;exact⟨⟨⟨⟨E,m⟩,C,D⟩,v1,e⟩,⟨rfl,rfl,g,rfl⟩,⟨⟨q,A⟩,r,B⟩,aJE k⟩
theorem Bb{K:Nat}{v:Value}{x:DataW H×List MemPlace}(h:DataW.trod enc Tryz.prog w base spare held K 71 [v]=some x):∃l,lR w v l/\l.length<=9223372036854775807/\(∀y,y∈l->nY w y/\wW y.f):=by
 obtain⟨A,l,B,p,M,Q,z⟩:=xH Tryz.underlying71 aLW dE (⟨⟨⟨0,[]⟩,0,[]⟩, .slice none 0 0, .slice none 0 0⟩:Sv) (fun b k y=>Hm w b k y/\nY w y/\wW y.f) (fun n E y b k P d r=>by
  match E,P with
  |[U,V,W,X],_=>
   obtain⟨y,⟨F,G,I,J⟩,R⟩:=aNM r
   exact⟨y,⟨by rw[<-F];exact d 0 dE,by rw[<-G];exact d 1 dE,by rw[<-I];exact d 2 dE,by rw[<-J];exact d 3 dE⟩,R⟩) h
 refine⟨l,⟨A,B,p,⟨M,fun e=>?_⟩,?_⟩,Q,fun f N=>?_⟩
 ·subst e;rcases Deep.open_slice Tryz.underlying71 h with⟨q,_⟩|⟨a,S,C,m,n,D,T,q,_⟩
  ·(have j:v=.slice none 0 0:=by simpa using q);rw[p]at j;injection j with _ _ r
  (have j:v=.slice (some a) S C:=by simpa using q);rw[p]at j;injection j with L;cases L
 ·rcases z with h|⟨b,k,s,d⟩
  ·exact .inl h
  exact .inr ⟨b,k,s,fun i g=>(d i g).1⟩
 obtain⟨i,g,rfl⟩:=mH N;rcases z with h|⟨b,k,s,d⟩
 ·rw[h]at g;simp at g
 have :=(d i g).2;rwa[aC,aD g]at this
end
theorem Rm(p:bC)(l:List aN)(g:aN)(va vn vr vl u:Value)(w:World)(hP:iU w va vn vr p)(hF:jK p)(bl:iR w vr)(hV:dA w vl l)(aq:l.length<=9223372036854775807)(ap:∀f,f∈l->fW f)(hU:dM w u g.args)(an:fW g):
 Calls Tryz.prog 10 #[eN va vn vr,vl,kS g.z u] w fun e i=>e=.returned (.bool true)/\Below w.heap.size w i:=by
 obtain⟨E,H,rfl,_⟩:=id hP.ar;obtain⟨F,I,rfl,_⟩:=id hP.nm;obtain⟨G,J,rfl,_⟩:=id hP.rl;obtain⟨al,cl,rfl,_⟩:=id hV;obtain⟨K,L,rfl,_⟩:=id hU;have b1:=dD w (pB E H F I G J p);have b2:=dD (w.alloc (pB E H F I G J p)) (.cells #[.int .i64 g.z, .slice K g.args.length L] 55);have HB:O (Below w.heap.size w ((w.alloc (pB E H F I G J p)).alloc (.cells #[.int .i64 g.z, .slice K g.args.length L] 55))):=b1.trans (b2.mono b1.size);have W:=aR w (pB E H F I G J p);have aw:O (((w.alloc (pB E H F I G J p)).alloc (.cells #[.int .i64 g.z, .slice K g.args.length L] 55)).heap[w.heap.size]?=some (pB E H F I G J p)):=(b2.block _ (bP W)).trans W;have aV:=aR (w.alloc (pB E H F I G J p)) (.cells #[.int .i64 g.z, .slice K g.args.length L] 55);rw[show(w.alloc (pB E H F I G J p)).heap.size=w.heap.size+1 by simp]at aV;have ay:O _:=aV;have bd:O (∀z,Below w.heap.size w z->Calls Tryz.prog 42 #[eN (.slice E p.g.length H) (.slice F p.q.length I) (.slice G p.m.length J), .slice al l.length cl, .agg #[.int .i64 g.z, .slice K g.args.length L]] z fun e i=>∃(v:Value)(j:List Sv)(ok:Bool)(c:Int),e=.returned (.tuple #[v, .bool ok, .int .i64 c])/\CS p l g (j.map (·.s)) ok c/\(lR i v j/\∀x,x∈j->nY i x/\wW x.f)/\Below z.heap.size z i):=fun z A=>NE p l g _ _ _ _ _ z (hP.u A) hF (bl.u hP.rl A) (bR hV A) aq ap (aM hU A) an;have b9:O (∀z,Below w.heap.size w z->Calls Tryz.prog 30 #[eN (.slice E p.g.length H) (.slice F p.q.length I) (.slice G p.m.length J), .slice al l.length cl] z fun e i=>∃v c S,e=.returned (.tuple #[v, .int .i64 c])/\pX p l [] c S/\dA i v S/\Below z.heap.size z i):=fun z A=>RO p l _ _ _ _ z (hP.u A) hF (bR hV A) aq ap;have ac:O (∀z,Below w.heap.size w z->Calls Tryz.prog 43 #[eN (.slice E p.g.length H) (.slice F p.q.length I) (.slice G p.m.length J), .agg #[.int .i64 g.z, .slice K g.args.length L]] z fun e i=>e=.returned (.int .i64 (iL p g.z g.args))/\Below z.heap.size z i):=fun z A=>RN p _ _ _ g.z g.args _ z (hP.u A).ar hF.ar (aM hU A) an;have bt:O (∀S z vm vx x,rG p l S->Below w.heap.size w z->dA z vm S->lR z vx x->x.length<=60->(∀y,y∈x->nY z y/\wW y.f)->Calls Tryz.prog 41 #[eN (.slice E p.g.length H) (.slice F p.q.length I) (.slice G p.m.length J), .slice al l.length cl,vm,vx] z fun e i=>aTH p l S x z e i):=fun S z vm vx x hm A hv D hl ho=>ZI p l S x _ _ _ _ _ _ z hm (hP.u A) (bR hV A) aq ap hv D oM (fun y R=>(ho y R).1) (fun y R=>(ho y R).2);have HU:O (dM w (.slice K g.args.length L) g.args/\fW g):=⟨hU,an⟩;clear hP hF bl hV aq ap hU an b1 b2 W aV
 go_enter Tryz.func10,Tryz.ntmps10
 go_upto_region 1 with fail;generalize (w.alloc (pB E H F I G J p)).alloc (.cells #[.int .i64 g.z, .slice K g.args.length L] 55)=B at *;(have ag:O (∀y,Below B.heap.size B y->y.cell? ⟨w.heap.size,0,none⟩=some (.slice E p.g.length H)/\y.cell? ⟨w.heap.size,1,none⟩=some (.slice F p.q.length I)/\y.cell? ⟨w.heap.size,2,none⟩=some (.slice G p.m.length J)/\y.cell? ⟨w.heap.size+1,0,none⟩=some (.int .i64 g.z)/\y.cell? ⟨w.heap.size+1,1,none⟩=some (.slice K g.args.length L)):=fun y R=>by have h:=(R.block _ (bP aw.o)).trans aw.o;have Y:=(R.block _ (bP ay.o)).trans ay.o;exact⟨cH h,cH h,cH h,cH Y,cH Y⟩);(have V:O (∀y,Below B.heap.size B y->Below w.heap.size w y):=fun y R=>HB.o.trans (R.mono HB.o.size);clear aw HB ay;obtain⟨c0,M,N,P,Q⟩:=ag.o B (aH _ _);go_wp2_with fail;refine Calls.mono (bd.o B (V.o B (aH _ _))) ?_;rintro _ w4 ⟨v4,j,ok,e,rfl,bi,aS,bk⟩;obtain⟨ax,cx,bW,_⟩:=id aS.1;subst bW;have be:O (CS p l g (j.map (·.s)) ok e):=bi;have ai:O (lR w4 (.slice ax j.length cx) j/\∀x,x∈j->nY w4 x/\wW x.f):=aS;have af:O (Below B.heap.size B w4):=bk;clear bk bi aS c0 M N P Q;obtain⟨c0,M,N,P,Q⟩:=ag.o w4 af.o;go_wp2_with fail;refine Calls.mono (b9.o w4 (V.o w4 af.o)) ?_;rintro _ Z ⟨v5,f,S,rfl,ah,aT,av⟩;obtain⟨aI,cs,rfl,_⟩:=id aT;have bg:O (dA Z (.slice aI S.length cs) S):=aT;have bv:O (pX p l [] f S):=ah;have a3:O (Below B.heap.size B Z):=af.o.trans (av.mono af.o.size);have aj:O (lR Z (.slice ax j.length cx) j/\∀x,x∈j->nY Z x/\wW x.f):=⟨ai.o.1.u av,fun x D=>⟨(ai.o.2 x D).1.u av,(ai.o.2 x D).2⟩⟩;have bf:O _:=mK (rN ah).1 (DQ ah);have ad:O ((¬f=0/\e=f/\ok=false/\j.map (·.s)=[])\/(f=0/\¬iL p g.z g.args=0/\e=iL p g.z g.args/\ok=false/\j.map (·.s)=[])\/(f=0/\iL p g.z g.args=0/\e=0/\((ok=true/\g∈S/\zD p l S g (j.map (·.s)))\/(ok=false/\¬g∈S/\j.map (·.s)=[])))):=by obtain⟨c9,M9,W,Y⟩:=be.o;obtain⟨rfl,rfl⟩:=tX W ah;exact Y);clear av ah aT af c0 M N P Q be bd b9 ai;obtain⟨c0,M,N,P,Q⟩:=ag.o Z a3.o;(have ab:j.map (·.s)=[]->j.length=0:=fun h=>by have :=congrArg List.length h;rw[aP]at this;exact this);rcases ad.o with⟨hf,rfl,rfl,D⟩|⟨rfl,aa,rfl,rfl,D⟩|⟨rfl,aa,rfl,h⟩
 ·have br:=ab D;(have bT:((e:Int)==0)=false:=by simpa using hf);clear ad hf ab D;go_wp2_with fail;refine Calls.mono (zJ Z) ?_;rintro _ w6 ⟨rfl,X⟩;have a9:O (Below B.heap.size B w6):=a3.o.trans (X.mono a3.o.size);clear X;go_wp2_with fail;go_ret;exact⟨rfl,V.o w6 a9.o⟩
 ·have br:=ab D;obtain⟨fe,bm⟩:∃fe,fe=iL p g.z g.args:=⟨_,rfl⟩;rw[<-bm]at aa ac ⊢;(have bT:((fe:Int)==0)=false:=by simpa using aa);clear ad aa ab D bm;go_wp2_with fail;refine Calls.mono (ac.o Z (V.o Z a3.o)) ?_;rintro _ w6 ⟨rfl,X⟩;have a9:O (Below B.heap.size B w6):=a3.o.trans (X.mono a3.o.size);clear X c0 M N P Q;go_wp2_with fail;refine Calls.mono (zJ w6) ?_;rintro _ w7 ⟨rfl,a6⟩;have a5:O (Below B.heap.size B w7):=a9.o.trans (a6.mono a9.o.size);clear a6;go_wp2_with fail;go_ret;exact⟨rfl,V.o w7 a5.o⟩
 have b8:O (rG p l S):=FQ bv.o;rw[aa]at ac;go_wp2_with fail;refine Calls.mono (ac.o Z (V.o Z a3.o)) ?_;rintro _ w6 ⟨rfl,X⟩;have a9:O (Below B.heap.size B w6):=a3.o.trans (X.mono a3.o.size);have bh:O _:=bR bg.o X;have ak:O (lR w6 (.slice ax j.length cx) j/\∀x,x∈j->nY w6 x/\wW x.f):=⟨aj.o.1.u X,fun x D=>⟨(aj.o.2 x D).1.u X,(aj.o.2 x D).2⟩⟩;clear X c0 M N P Q bg aj ac;go_wp2_with fail;refine Calls.mono (zJ w6) ?_;rintro _ w7 ⟨rfl,a6⟩;have a5:O (Below B.heap.size B w7):=a9.o.trans (a6.mono a9.o.size);have az:O _:=bR bh.o a6;have am:O (lR w7 (.slice ax j.length cx) j/\∀x,x∈j->nY w7 x/\wW x.f):=⟨ak.o.1.u a6,fun x D=>⟨(ak.o.2 x D).1.u a6,(ak.o.2 x D).2⟩⟩;clear a6 bh ak;obtain⟨c0,M,N,P,Q⟩:=ag.o w7 a5.o;have HH:O _:=AP S g _ (.slice K g.args.length L) w7 az.o (aM HU.o.1 (V.o w7 a5.o)) (by have :=bf.o.1;omega) bf.o.2 HU.o.2;rcases h with⟨rfl,hg,hp⟩|⟨rfl,hg,D⟩
 ·rw[lD.mpr hg]at HH;have ae:O _:=hp;clear hg hp ab ad aa;go_wp2_with fail;refine Calls.mono HH.o ?_;rintro _ n ⟨rfl,a7⟩;have a4:O (Below B.heap.size B n):=a5.o.trans (a7.mono a5.o.size);have bw:O (dA n (.slice aI S.length cs) S):=bR az.o a7;have a8:O (lR n (.slice ax j.length cx) j/\∀x,x∈j->nY n x/\wW x.f):=⟨am.o.1.u a7,fun x D=>⟨(am.o.2 x D).1.u a7,(am.o.2 x D).2⟩⟩;clear a7 az am HH c0 M N P Q;obtain⟨c0,M,N,P,Q⟩:=ag.o n a4.o;obtain⟨r,s,b4,bq⟩:=ae.o.last;obtain⟨k,hk⟩:∃k,k=r.length:=⟨_,rfl⟩;(have b3:j.length=k+1:=by have h:=congrArg List.length b4;rw[aP,bA,qZ,<-hk]at h;exact h);(have b0:(tW j k).s.d=g:=by(have h:(j.map (·.s))[k]?=some s:=by rw[b4,hk,jP (aE _),wS];rfl);rw[cY,wN j k oM]at h;injection h with h;rw[show(tW j k).s=s from h,bq]);have bp:=(a8.o.2 _ (uY j k oM)).1;obtain⟨ao,cp,hv,bU,hA⟩:=a8.o.1;injection hv with e1 _ e3;subst e1 e3;rcases hA with hA|⟨T,U,rfl,hA⟩
  ·rw[hA]at b3;cases b3
  have b5:=hA k oM;have hI:=bp.1.1;rw[b0]at hI;obtain⟨aF,cF,b6,_⟩:=id hI;rw[b6]at hI;have bu:O (dM n (.slice aF g.args.length cF) g.args):=hI;(have x0:n.cell? ⟨T,U+k*4,none⟩=some (.int .i64 g.z):=by rw[b5.1,b0]);(have x1:n.cell? ⟨T,U+k*4+1,none⟩=some (.slice aF g.args.length cF):=by rw[b5.2.1,b6]);(have bn:j.length<=60:=by have h9:=AW b8.o ae.o.proof ae.o.once;rw[aP]at h9;exact h9);(have bb:O (∀z,Below n.heap.size n z->Calls Tryz.prog 44 #[.agg #[.int .i64 g.z, .slice aF g.args.length cF], .agg #[.int .i64 g.z, .slice K g.args.length L]] z fun e i=>e=.returned (.int .i64 0)/\Below n.heap.size n i/\i.cell? ⟨w.heap.size,0,none⟩=some (.slice E p.g.length H)/\i.cell? ⟨w.heap.size,1,none⟩=some (.slice F p.q.length I)/\i.cell? ⟨w.heap.size,2,none⟩=some (.slice G p.m.length J)/\i.cell? ⟨w.heap.size+1,0,none⟩=some (.int .i64 g.z)/\i.cell? ⟨w.heap.size+1,1,none⟩=some (.slice K g.args.length L)/\i.cell? ⟨T,U+k*4,none⟩=some (.int .i64 g.z)/\i.cell? ⟨T,U+k*4+1,none⟩=some (.slice aF g.args.length cF)):=fun z A=>by have b7:=V.o z (a4.o.trans (A.mono a4.o.size));refine(AQ g g _ _ z (aM bu.o A) (aM HU.o.1 b7) HU.o.2 HU.o.2).mono ?_;rintro e i ⟨W,Y⟩;have C:=A.trans (Y.mono A.size);exact⟨by rw[W,pU.mpr rfl],C,aB C c0,aB C M,aB C N,aB C P,aB C Q,aB C x0,aB C x1⟩);(have bc:O (∀z,Below n.heap.size n z->Calls Tryz.prog 45 #[.slice (some ⟨T,U,none⟩) j.length cx] z fun e i=>e=.returned (.bool false)/\Below n.heap.size n i/\i.cell? ⟨w.heap.size,0,none⟩=some (.slice E p.g.length H)/\i.cell? ⟨w.heap.size,1,none⟩=some (.slice F p.q.length I)/\i.cell? ⟨w.heap.size,2,none⟩=some (.slice G p.m.length J)/\i.cell? ⟨w.heap.size+1,0,none⟩=some (.int .i64 g.z)/\i.cell? ⟨w.heap.size+1,1,none⟩=some (.slice K g.args.length L)/\i.cell? ⟨T,U+k*4,none⟩=some (.int .i64 g.z)/\i.cell? ⟨T,U+k*4+1,none⟩=some (.slice aF g.args.length cF)):=fun z A=>by refine(aDM j _ z (a8.o.1.u A) oM (fun y R=>(a8.o.2 y R).1.u A)).mono ?_;rintro e i ⟨b,W,h3,Y⟩;have C:=A.trans (Y.mono A.size);exact⟨by rw[W,h3.mpr ae.o.once],C,aB C c0,aB C M,aB C N,aB C P,aB C Q,aB C x0,aB C x1⟩);((have ba:O (∀z,Below n.heap.size n z->Calls Tryz.prog 41 #[eN (.slice E p.g.length H) (.slice F p.q.length I) (.slice G p.m.length J), .slice al l.length cl, .slice aI S.length cs, .slice (some ⟨T,U,none⟩) j.length cx] z fun e i=>e=.returned (.bool true)/\Below n.heap.size n i/\i.cell? ⟨w.heap.size,0,none⟩=some (.slice E p.g.length H)/\i.cell? ⟨w.heap.size,1,none⟩=some (.slice F p.q.length I)/\i.cell? ⟨w.heap.size,2,none⟩=some (.slice G p.m.length J)/\i.cell? ⟨w.heap.size+1,0,none⟩=some (.int .i64 g.z)/\i.cell? ⟨w.heap.size+1,1,none⟩=some (.slice K g.args.length L)/\i.cell? ⟨T,U+k*4,none⟩=some (.int .i64 g.z)/\i.cell? ⟨T,U+k*4+1,none⟩=some (.slice aF g.args.length cF)):=fun z A=>by have b7:=V.o z (a4.o.trans (A.mono a4.o.size));refine(bt.o S z _ _ j b8.o b7 (bR bw.o A) (a8.o.1.u A) bn (fun y R=>⟨(a8.o.2 y R).1.u A,(a8.o.2 y R).2⟩)).mono ?_;rintro e i ⟨b,W,h3,Y⟩;have C:=A.trans (Y.mono A.size);exact⟨by rw[W,h3.mpr ⟨ae.o.proof,oM⟩],C,aB C c0,aB C M,aB C N,aB C P,aB C Q,aB C x0,aB C x1⟩);have HK:O ((0:Int)<=(k:Int)/\((k:Int)<(j.length:Int))/\IntKind.i64.wrap ((j.length:Int)-1)=(k:Int)/\decide ((0:Int)<(j.length:Int))=true/\0<j.length):=by have he:(j.length:Int)-1=(k:Int):=oM;refine⟨oM,oM,?_,aQ oM,oM⟩;rw[he];simp[IntKind.wrap,IntKind.bits,IntKind.signed];omega);clear b4 bq hk b3 b0 bp bU hA b5 hI b6 bn;obtain⟨cr,ct,cv,cw,cy⟩:=HK.o;have cn:∀b o,Below n.heap.size n b->Below n.heap.size n (b.alloc o):=fun _ o h=>h.alloc h.size o;have co:∀b,Below n.heap.size n b->Below n.heap.size n b.drew:=fun _ h=>⟨h.os,h.tape,h.output,h.size,h.block⟩;have cq:Below n.heap.size n n:=aH _ _;go_upto_region 9 with fail
  go_region_held3 (fun i=>i.cell? ⟨w.heap.size,0,none⟩=some (.slice E p.g.length H)/\i.cell? ⟨w.heap.size,1,none⟩=some (.slice F p.q.length I)/\i.cell? ⟨w.heap.size,2,none⟩=some (.slice G p.m.length J)/\i.cell? ⟨w.heap.size+1,0,none⟩=some (.int .i64 g.z)/\i.cell? ⟨w.heap.size+1,1,none⟩=some (.slice K g.args.length L)/\i.cell? ⟨T,U+k*4,none⟩=some (.int .i64 g.z)/\i.cell? ⟨T,U+k*4+1,none⟩=some (.slice aF g.args.length cF)/\Below n.heap.size n i) (go_keep) (
   (first
    |(go_at_call 44;refine Calls.mono (bb.o _ ?_) ?_;(simp[*]);rintro e w9 ⟨rfl,bN,cf,cg,ch,ci,cj,ck,cm⟩)
    |(go_at_call 45;refine Calls.mono (bc.o _ ?_) ?_;(simp[*]);rintro e cz ⟨rfl,bz,c7,c8,ca,cb,cc,cd,ce⟩)
    |(go_at_call 41;refine Calls.mono (ba.o _ ?_) ?_;(simp[*]);rintro e bs ⟨rfl,bj,bX,bY,bZ,c3,c4,c5,c6⟩)))
  have bx:O (Below B.heap.size B bs):=a4.o.trans (bj.mono a4.o.size);clear bb bc ba bN bz bj cf cg ch ci cj ck cm c7 c8 ca cb cc cd ce bX bY bZ c3 c4 c5 c6 c0 M N P Q x0 x1;go_wp2_with fail;go_ret;exact⟨rfl,V.o bs bx.o⟩
 have br:=ab D;have bo:jZ S g=false:=by
  cases hh:jZ S g
  ·rfl
  exact absurd (lD.mp hh) hg
 rw[bo]at HH;clear hg D ab ad aa bo;go_wp2_with fail;refine Calls.mono HH.o ?_;rintro _ n ⟨rfl,a7⟩;have a4:O (Below B.heap.size B n):=a5.o.trans (a7.mono a5.o.size);clear a7 HH c0 M N P Q;go_wp2_with fail;go_ret;exact⟨rfl,V.o n a4.o⟩
end Go.Proofs.YthenjegmigeieaaGreat
