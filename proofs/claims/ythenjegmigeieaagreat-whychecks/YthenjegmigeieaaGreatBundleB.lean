/- Own texts, one behind the other (part 2). -/
import Derived.Test.YthenjegmigeieaaGreatBundleA
import Derived.Test.YthenjegmigeieaaGreatRows
import Derived.Sort.Grow
import Derived.WalkKit
import Derived.WalkSpells
import Derived.WalkLawsBesides
import Derived.Lib.Builder
import Derived.Lib.AppendStr
import Derived.Lib.OthersKept
import Derived.Laws.Externs
import Derived.Lib.UnsafeStr
import Derived.Deep.RegionHeld3
import Derived.Deep.DeepCutAuto
import Derived.Deep.QuietTactic
import Derived.Deep.RegionLaw
import Derived.RegionDies
import Derived.BigQuiet
import Derived.Deep.RegionHeld2
set_option maxRecDepth 100000
set_option maxHeartbeats 8000000
namespace Go.Proofs.YthenjegmigeieaaGreat
def qP(facts:List aN)(w:bK)(l:cI)(i:Nat)(a:Nat×Int):Nat×Int:=
 if gH w l=true then(if a.2<0\/((kF facts l w).length:Int)<a.2 then(i,((kF facts l w).length:Int))else a)else a
def rE(facts:List aN)(w:bK):List cI->Nat->Nat×Int->Nat×Int
 |[],_,a=>a
 |l::r,i,a=>rE facts w r (i+1) (qP facts w l i a)
def qE(facts:List aN)(body:List cI)(w:bK):Nat:=(rE facts w body 0 (0, -1)).1
def jB(facts:List aN):Nat->List cI->bK->List bK
 |0,_,w=>[w]
 |n+1,b,w=>(kF facts (cJ b (qE facts b w)) w).flatMap (jB facts n (b.eraseIdx (qE facts b w)))
def sW(facts:List aN)(body:List cI)(w:bK):List bK:=jB facts body.length body w
def YA(w:bK)(body:List cI)(a:Nat×Int):Prop:=0<=a.2/\a.1<body.length/\gH w (cJ body a.1)=true
theorem OP{a b:List cI}{i:Nat}(h:i<a.length):cJ (a++b) i=cJ a i:=by unfold cJ;rw[aC,aC,mL h]
theorem aAN(a:List cI)(x:cI):cJ (a++[x]) a.length=x:=by unfold cJ;rw[aC,jP (aE _)];simp
theorem JT(facts:List aN)(w:bK):∀(r b:List cI)(a:Nat×Int),(YA w b a\/(a.2<0/\a.1=0/\∀l,l∈b->gH w l=false))->
 YA w (b++r) (rE facts w r b.length a)\/((rE facts w r b.length a).2<0/\(rE facts w r b.length a).1=0/\∀l,l∈b++r->gH w l=false)
 |[],b,a,h=>by rw[jM];exact h
 |l::r,b,a,h=>by
  (have f:b++l::r=(b++[l])++r:=by simp);(have g:b.length+1=(b++[l]).length:=by simp);show YA w (b++l::r) (rE facts w r (b.length+1) (qP facts w l b.length a))\/_;rw[f];show _\/((rE facts w r (b.length+1) (qP facts w l b.length a)).2<0/\(rE facts w r (b.length+1) (qP facts w l b.length a)).1=0/\_);rw[g];refine JT facts w r (b++[l]) _ ?_;unfold qP;by_cases e:gH w l=true
  ·rw[if_pos e];left;split
   ·exact⟨by simp,by simp,by show gH w (cJ (b++[l]) b.length)=true;rw[aAN];exact e⟩
   rename_i i;rcases h with h|h
   ·exact⟨h.1,by have :=h.2.1;simp;omega,by rw[OP h.2.1];exact h.2.2⟩
   exact absurd (Or.inl h.1) i
  rw[if_neg e];rcases h with h|h
  ·exact .inl ⟨h.1,by have :=h.2.1;simp;omega,by rw[OP h.2.1];exact h.2.2⟩
  refine .inr ⟨h.1,h.2.1,fun x d=>?_⟩;rcases dP.mp d with d|d
  ·exact h.2.2 x d
  rcases cQ.mp d with rfl;simpa using e
theorem aH5(facts:List aN)(body:List cI)(w:bK)(h:∃l,l∈body/\gH w l=true):qE facts body w<body.length/\gH w (cJ body (qE facts body w))=true:=by
 have b:=JT facts w body [] (0, -1) (.inr ⟨dE,rfl,fun l d=>absurd d sI⟩);rw[qB]at b;rcases b with b|b
 ·exact b.2
 obtain⟨l,d,e⟩:=h;rw[b.2.2 l d]at e;cases e
def GE(b c:List Bool):Prop:=∀i:Nat,b.getD i false=true->c.getD i false=true
theorem aD0{b c:List Bool}(h:GE b c)(t:dL)(g:b.length<=c.length):GE (kC b t) (kC c t):=by
 unfold kC;split
 ·intro i d;by_cases e:t.var.toNat=i
  ·subst e;by_cases f:t.var.toNat<b.length
   ·exact tJ _ _ _ _ oM
   rw[List.set_eq_of_length_le oM]at d;rw[aC,cZ oM]at d;simp at d
  rw[mZ _ _ _ _ _ e]at d ⊢;exact h i d
 exact h
theorem RR:∀(l:List dL){b c:List Bool},GE b c->b.length<=c.length->GE (gY b l) (gY c l)
 |[],_,_,h,_=>h
 |t::l,b,c,h,hl=>by show GE (gY (kC b t) l) (gY (kC c t) l);refine RR l (aD0 h t hl) ?_;rw[<-(IY b t).1,<-(IY c t).1];exact hl
theorem ZR{b c:List Bool}(h:GE b c){t:dL}(d:cC b t=true):cC c t=true:=OZ h t d
theorem aAX{b c:List Bool}(h:GE b c){l:cI}(e:gZ b l=true):gZ c l=true:=by
 unfold gZ at e ⊢;rcases uZ _ _▸e with d|d
 ·simp[d]
 simp only[Bool.and_eq_true]at d;simp[d.1.1,ZR h d.1.2,ZR h d.2]
theorem Mh{b c:List Bool}(h:GE b c)(f:b.length<=c.length)(l:cI):GE (eT b l) (eT c l):=by
 unfold eT;rw[xZ,xZ];by_cases d:gZ b l=true
 ·rw[if_pos d,if_pos (aAX h d)];exact RR _ h f
 rw[if_neg d];intro i e;exact(DD _ c).2 i (h i e)
theorem IS(b:List Bool)(l:cI):(eT b l).length=b.length:=(DE b l).1.symm
theorem ZZ:∀(body:List cI){b c:List Bool},GE b c->b.length<=c.length->GE (bE body b) (bE body c)
 |[],_,_,h,_=>h
 |l::body,b,c,h,hl=>by show GE (bE body (eT b l)) (bE body (eT c l));exact ZZ body (Mh h hl l) (by rw[IS,IS];exact hl)
theorem zY(body:List cI)(b:List Bool):(bE body b).length=b.length:=(oX body b).1.symm
theorem VC(body:List cI):∀(n:Nat){b c:List Bool},GE b c->b.length<=c.length->GE (iJ body n b) (iJ body n c)
 |0,_,_,h,_=>h
 |n+1,b,c,h,d=>VC body n (ZZ body h d) (by rw[zY,zY];exact d)
theorem KW(body:List cI):∀(n:Nat)(b:List Bool),(iJ body n b).length=b.length
 |0,_=>rfl
 |n+1,b=>by show(iJ body n (bE body b)).length=_;rw[KW body n,zY]
theorem OW{r:bB}(f:uC r=true){K:List Bool}(n:r.vars.toNat<=K.length)(l:bE r.body K=K)(i:Nat)(m:i<r.vars.toNat):K.getD i false=true:=by(have g:GE (List.replicate r.vars.toNat false) K:=fun j b=>by rw[aC,pO]at b;split at b<;>simp at b);have d:=VC r.body r.body.length g (by simpa using n);rw[zQ _ _ _ l]at d;refine d i ?_;unfold uC at f;have k:=eX.mp f;(have e:i<(iJ r.body r.body.length (List.replicate r.vars.toNat false)).length:=by rw[KW];simpa using m);rw[aC,aD e];exact k _ (dY e)
structure sV (r:bB) (K:List Bool) (R:List cI):Prop where
 sub:∀l,l∈R->l∈r.body
 done:∀l,l∈r.body->l∈R\/((l.kind=1\/l.kind=4)->MC K (PA l))
structure Uk (facts:List aN) (r:bB):Prop where
 safe:uC r=true
 v8:r.vars.toNat<=8
 lit:∀l,l∈r.body->Fk r.vars.toNat facts l
theorem Cd{m n:Nat}{l:List dL}(h:gX m l)(b:m<=n):gX n l:=fun t ht=>by
 rcases h t ht with h|h
 ·exact .inl h
 exact .inr (dQ h b)
theorem Fk.mono{m n:Nat}{facts:List aN}{l:cI}(h:Fk m facts l)(b:m<=n):Fk n facts l:=⟨Cd h.t b,h.k,h.k3,h.k4,h.a⟩
theorem US{m:Nat}{K:List Bool}{l:List dL}(h:gX m l)(b:∀i,i<m->K.getD i false=true):∀t,t∈l->cC K t=true:=fun t ht=>by
 unfold cC;rcases h t ht with h|h
 ·simp[h]
 simp only[b _ h,Bool.or_true]
theorem Mz{facts:List aN}{r:bB}{w:bK}{R:List cI}(f:Uk facts r)(x:jI 8 w)(i:sV r w.w R)(v:R≠[]):∃l,l∈R/\gH w l=true:=by
 refine Classical.byContradiction fun s=>?_;have m:∀l,l∈R->¬gH w l=true:=fun l d b=>s ⟨l,d,b⟩;have q:bE r.body w.w=w.w:=BT _ _ fun l d b=>by
  rcases i.done l d with h|h
  ·refine absurd ?_ (m l h);unfold gZ at b;unfold gH;by_cases e:l.kind=1
   ·rw[if_pos e]
   rw[if_neg e];simp only[Bool.or_eq_true,Bool.and_eq_true,beq_iff_eq,e,false_or]at b;rw[if_pos b.1.1,b.1.2,b.2];rfl
  refine h ?_;unfold gZ at b;simp only[Bool.or_eq_true,Bool.and_eq_true,beq_iff_eq]at b;rcases b with b|b
  ·exact .inl b
  exact .inr b.1.1
 have p:=OW f.safe (by rw[x.k];exact f.v8) q;obtain⟨l,d⟩:∃l,l∈R:=by
  cases R with
  |nil=>exact absurd rfl v
  |cons a _=>exact⟨a,dC⟩
 have j:=f.lit l (i.sub l d);have g:=US j.t p;refine m l d ?_;unfold gH;split
 ·rfl
 split
 ·rename_i n;have y:=j.k4 n;rw[g _ (mW oM),g _ (mW oM)];rfl
 exact eX.mpr g
theorem vZ{facts:List aN}{r:bB}{w w':bK}{R:List cI}{i:Nat}(k:sV r w.w R)(z:i<R.length)(b:gH w (cJ R i)=true)(y:w'∈kF facts (cJ R i) w)(v:Fk r.vars.toNat facts (cJ R i)):sV r w'.w (R.eraseIdx i):=by
 have q:=aEE v b y;refine⟨fun l f=>k.sub l (XS f),fun l f=>?_⟩;(have x:oW w.w w'.w:=by rw[q];exact DE _ _);rcases k.done l f with h|h
 ·by_cases m:l=cJ R i
  ·right;intro d;rw[m]at d ⊢;rw[q];unfold eT;rw[xZ,if_pos ?_]
   ·exact GL _ _
   unfold gZ;unfold gH at b;rcases d with s|g
   ·simp[s]
   rw[if_neg oM,if_pos g]at b;simp only[g];rw[eF]at b;simp[b.1,b.2]
  left;obtain⟨j,n,p⟩:=NV.mp h;rw[List.mem_eraseIdx_iff_getElem];refine⟨j,n,fun e=>m ?_,p⟩;subst e;unfold cJ;rw[aC,aD n,p];rfl
 exact .inr fun d=>(h d).le x
theorem yW{R:List cI}{i:Nat}(h:i<R.length):cJ R i∈R:=by unfold cJ;rw[aC,aD h];exact dY h
theorem aAQ{R:List cI}{i:Nat}(m:i<R.length)(P:cI->Prop):(∀l,l∈R->P l)↔P (cJ R i)/\∀l,l∈R.eraseIdx i->P l:=by
 constructor
 ·exact fun h=>⟨h _ (yW m),fun l b=>h l (XS b)⟩
 rintro⟨g,k⟩ l b;obtain⟨j,d,f⟩:=NV.mp b;by_cases e:j=i
 ·subst e;(have :l=cJ R j:=by unfold cJ;rw[aC,aD d,f];rfl);rw[this];exact g
 exact k l (by rw[List.mem_eraseIdx_iff_getElem];exact⟨j,d,e,f⟩)
theorem yV{R:List cI}{i n:Nat}(b:i<R.length)(h:R.length=n+1):(R.eraseIdx i).length=n:=by rw[List.length_eraseIdx,if_pos b];omega
section
variable {facts:List aN} {r:bB}
theorem EX(f:Uk facts r){n:Nat}{R:List cI}{w:bK}(g:R.length=n+1)(j:jI 8 w)(d:sV r w.w R):
 qE facts R w<R.length/\gH w (cJ R (qE facts R w))=true/\Fk r.vars.toNat facts (cJ R (qE facts R w)):=by
 obtain⟨b,i⟩:=aH5 facts R w (Mz f j d (fun e=>by rw[e]at g;cases g));exact⟨b,i,f.lit _ (d.sub _ (yW b))⟩
theorem yU(j:Uk facts r)(x:List Int):∀(n:Nat)(R:List cI)(w:bK),R.length=n->jI 8 w->sV r w.w R->((∃b,b∈jB facts n R w/\nK b x)↔nK w x/\∀l,l∈R->fF facts l x=true)
 |0,R,w,f,_,_=>by
  have :R=[]:=mB.mp f;subst this;constructor
  ·rintro⟨b,h,e⟩;rcases cQ.mp h with rfl;exact⟨e,fun l f=>absurd f sI⟩
  rintro⟨e,_⟩;exact⟨w,cQ.mpr rfl,e⟩
 |n+1,R,w,f,k,q=>by
  obtain⟨g,v,s⟩:=EX j f k q;have y:=aL8 (x:=x) k (s.mono j.v8) v;rw[aAQ g];show(∃b,b∈(kF facts (cJ R (qE facts R w)) w).flatMap (jB facts n (R.eraseIdx (qE facts R w)))/\nK b x)↔_;constructor
  ·rintro⟨b,h,e⟩;obtain⟨i,d,B⟩:=kJ.mp h;obtain⟨m,p⟩:=(yU j x n _ i (yV g f) (OS k d) (vZ q g v d s)).mp ⟨b,B,e⟩;obtain⟨z,A⟩:=y.mp ⟨i,d,m⟩;exact⟨z,A,p⟩
  rintro⟨e,m,p⟩;obtain⟨i,d,D⟩:=y.mpr ⟨e,m⟩;obtain⟨b,h,C⟩:=(yU j x n _ i (yV g f) (OS k d) (vZ q g v d s)).mpr ⟨D,p⟩;exact⟨b,kJ.mpr ⟨i,d,h⟩,C⟩
theorem OL(e:Uk facts r)(q:facts.Nodup):∀(n:Nat)(R:List cI)(w:bK),R.length=n->jI 8 w->sV r w.w R->(jB facts n R w).Pairwise Fj
 |0,_,_,_,_,_=>rZ _ _
 |n+1,R,w,j,f,g=>by obtain⟨d,k,i⟩:=EX e j f g;show((kF facts (cJ R (qE facts R w)) w).flatMap (jB facts n (R.eraseIdx (qE facts R w)))).Pairwise Fj;rw[List.pairwise_flatMap];refine⟨fun F l=>OL e q n _ F (yV d j) (OS f l) (vZ g d k l i),?_⟩;refine yM ?_ (aED f (i.mono e.v8) q);intro a b m p A x B y C z D E;have s:=((yU e z n _ a (yV d j) (OS f m) (vZ g d k m i)).mp ⟨x,B,D⟩).1;have v:=((yU e z n _ b (yV d j) (OS f p) (vZ g d k p i)).mp ⟨y,C,E⟩).1;exact A z s v
structure lK (m:Nat) (w:bK):Prop where
 wf:jI 8 w
 lo:∀i,w.w.getD i false=true->i<m
 nm:∀i,w.w.getD i false=true->cP (w.y.getD i 0)=true
theorem Nk{m:Nat}{w w':bK}{t:dL}{n:Int}(hg:lK m w)(ht:qK m t)(k:m<=8)(j:cP n=true)(h:kB w t n=some w'):lK m w':=by
 refine⟨IX hg.wf h,fun i b=>?_,fun i b=>?_⟩<;>unfold kB at h<;>split at h
 ·split at h
  ·injection h with h;subst h;exact hg.lo i b
  cases h
 ·rename_i e;injection h with h;subst h;by_cases d:t.var.toNat=i
  ·have f:=(vP e).1;rcases ht with h|h<;>omega
  refine hg.lo i ?_;have :(w.w.set t.var.toNat true).getD i false=true:=b;rwa[mZ _ _ _ _ _ d]at this
 ·split at h
  ·injection h with h;subst h;exact hg.nm i b
  cases h
 rename_i e;injection h with h;subst h;show cP ((w.y.set t.var.toNat n).getD i 0)=true;by_cases d:t.var.toNat=i
 ·have f:=(vP e).1;(have g:t.var.toNat<w.y.length:=by rw[hg.wf.n];rcases ht with h|h<;>omega);rw[<-d,tJ _ _ _ _ g];exact j
 rw[mZ _ _ _ _ _ d];refine hg.nm i ?_;have :(w.w.set t.var.toNat true).getD i false=true:=b;rwa[mZ _ _ _ _ _ d]at this
theorem JZ{m:Nat}(g:m<=8):∀{b:List dL}{ns:List Int}{w w':bK},lK m w->gX m b->(∀n,n∈ns->cP n=true)->b.length=ns.length->fU w b ns=some w'->lK m w'
 |[],_,_,_,f,_,_,_,h=>by unfold fU at h;injection h with h;subst h;exact f
 |t::b,[],_,_,_,_,_,hl,_=>by cases hl
 |t::b,n::ns,w,w',f,hT,hN,hl,h=>by
  have d:(match kB w t n with |none=>none|some i=>fU i b ns)=some w':=h
  cases e:kB w t n with
  |none=>rw[e]at d;cases d
  |some i=>
   rw[e]at d;exact JZ g (Nk f (hT t dC) g (hN n dC) e) (fun t ht=>hT t (bO _ ht)) (fun n j=>hN n (bO _ j)) (by simpa using hl) d
theorem Gf{m:Nat}{l:cI}{w w':bK}(i:m<=8)(hg:lK m w)(b:Fk m facts l)(p:∀f,f∈facts->∀n,n∈f.args->cP n=true)(h:w'∈kF facts l w):lK m w':=by
 unfold kF at h;split at h
 ·rename_i e;obtain⟨f,g,d⟩:=gT.mp h;split at d
  ·rename_i v;exact JZ i hg b.t (p f g) (b.a e f g v) d
  cases d
 split at h
 ·split at h
  ·cases h
  rcases cQ.mp h with rfl;exact hg
 split at h
 ·split at h
  ·rcases cQ.mp h with rfl;exact hg
  cases h
 split at h
 ·cases h
 rename_i e y z _ A x;(have j:l.kind=4:=by rcases b.k with h|h|h|h<;>first|exact h|contradiction);have q:=GF (b.k4 j);split at h
 ·rename_i r;rcases cQ.mp h with rfl;exact JZ i hg (fun t ht=>b.t t (qA ht)) (fun n s=>by rcases cQ.mp s with rfl;exact r) (by rw[q];rfl) x
 cases h
theorem xB(g:Uk facts r)(k:∀f,f∈facts->∀n,n∈f.args->cP n=true):∀(n:Nat)(R:List cI)(w w':bK),R.length=n->lK r.vars.toNat w->sV r w.w R->w'∈jB facts n R w->lK r.vars.toNat w'/\sV r w'.w []
 |0,R,w,w',e,d,b,h=>by have :R=[]:=mB.mp e;subst this;rcases cQ.mp h with rfl;exact⟨d,b⟩
 |n+1,R,w,w',e,d,b,h=>by obtain⟨l,q,j⟩:=EX g e d.wf b;have m:w'∈(kF facts (cJ R (qE facts R w)) w).flatMap (jB facts n (R.eraseIdx (qE facts R w))):=h;obtain⟨s,i,p⟩:=kJ.mp m;exact xB g k n _ s w' (yV l e) (Gf g.v8 d j k i) (vZ b l q i j) p
theorem ZS(d:Uk facts r){w:bK}(hg:lK r.vars.toNat w)(e:sV r w.w [])(i:Nat)(f:i<r.vars.toNat):w.w.getD i false=true:=by
 refine OW d.safe (by rw[hg.wf.k];exact d.v8) (BT _ _ fun l g b=>?_) i f;rcases e.done l g with h|h
 ·exact absurd h sI
 refine h ?_;unfold gZ at b;simp only[Bool.or_eq_true,Bool.and_eq_true,beq_iff_eq]at b;rcases b with b|b
 ·exact .inl b
 exact .inr b.1.1
end
def uV:bK:=⟨List.replicate 8 0,List.replicate 8 false⟩
def gP(facts:List aN)(r:bB):List (List Int):=(sW facts r.body uV).map fun w=>w.y.take r.vars.toNat
def mV(facts:List aN)(r:bB)(x:List Int):Prop:=x.length=r.vars.toNat/\∀l,l∈r.body->fF facts l x=true
theorem JX(i:Nat):uV.w.getD i false=false:=by show(List.replicate 8 false).getD i false=false;rw[aC,pO];split<;>rfl
theorem sZ(m:Nat):lK m uV:=⟨⟨rfl,rfl⟩,fun i b=>(by rw[JX]at b;cases b),fun i b=>(by rw[JX]at b;cases b)⟩
theorem aEL(x:List Int):nK uV x:=fun i b=>by rw[JX]at b;cases b
theorem tA(r:bB):sV r uV.w r.body:=⟨fun _ h=>h,fun _ h=>.inl h⟩
theorem EY{x:List Int}{m i:Nat}(h:i<m):(x.take m).getD i 0=x.getD i 0:=by rw[aC,List.getElem?_take_of_lt h,aC]
theorem ON{m:Nat}{w:bK}(hg:lK m w):nK w (w.y.take m):=fun i b=>by rw[EY (hg.lo i b)]
theorem aEK{m:Nat}{w:bK}{x:List Int}(hg:lK m w)(p:m<=8)(k:∀i,i<m->w.w.getD i false=true)(f:x.length=m)(j:nK w x):w.y.take m=x:=by(have l:(w.y.take m).length=m:=by rw[cW,hg.wf.n];omega);refine EI (by rw[l,f]) fun i g d=>?_;(have e:i<m:=by rw[<-f];exact d);have b:=j i (k i e);rw[<-EY (m:=m) e]at b;rw[aC,aD g,aC,aD d]at b;exact b
section
variable {facts:List aN} {r:bB}
theorem lV(b:Uk facts r)(i:∀f,f∈facts->∀n,n∈f.args->cP n=true)(x:List Int):x∈gP facts r↔mV facts r x:=by
 unfold gP;rw[cR];constructor
 ·rintro⟨w,e,rfl⟩;obtain⟨d,g⟩:=xB b i _ _ _ w rfl (sZ _) (tA r) e;obtain⟨_,h⟩:=(yU b (w.y.take r.vars.toNat) _ _ _ rfl (sZ 8).wf (tA r)).mp ⟨w,e,ON d⟩;refine⟨?_,h⟩;rw[cW,d.wf.n];have :=b.v8;omega
 rintro⟨k,h⟩;obtain⟨w,e,j⟩:=(yU b x _ _ _ rfl (sZ 8).wf (tA r)).mpr ⟨aEL x,h⟩;obtain⟨d,g⟩:=xB b i _ _ _ w rfl (sZ _) (tA r) e;exact⟨w,e,aEK d b.v8 (ZS b d g) k j⟩
theorem rP(d:Uk facts r)(g:∀f,f∈facts->∀n,n∈f.args->cP n=true)(p:facts.Nodup):(gP facts r).Nodup:=by unfold gP List.Nodup;rw[yL];refine yM ?_ (OL d p _ _ _ rfl (sZ 8).wf (tA r));intro a b i k j e;obtain⟨l,_⟩:=xB d g _ _ _ a rfl (sZ _) (tA r) i;obtain⟨m,_⟩:=xB d g _ _ _ b rfl (sZ _) (tA r) k;exact j (a.y.take r.vars.toNat) (ON l) (by rw[e];exact ON m)
theorem OX(b:Uk facts r)(d:∀f,f∈facts->∀n,n∈f.args->cP n=true){x:List Int}(h:mV facts r x):∀n,n∈x->cP n=true:=by obtain⟨w,m,rfl⟩:=cR.mp ((lV b d x).mpr h);obtain⟨e,k⟩:=xB b d _ _ _ w rfl (sZ _) (tA r) m;intro n l;obtain⟨i,g,rfl⟩:=NV.mp l;(have j:i<r.vars.toNat:=by rw[cW]at g;omega);have :=e.nm i (ZS b e k i j);rw[<-EY j,aC,aD g]at this;exact this
end
end Go.Proofs.YthenjegmigeieaaGreat
namespace Go.Proofs.YthenjegmigeieaaGreat
def pJ(w:bK)(l:cI):Option bK:=
 if l.kind=4/\(l.p.take 2).all (cC w.w)=true/\¬(l.p.drop 2).all (cC w.w)=true then
  (if cP (nN l w.y)=true then some ⟨w.y.set (cA l.p 2).var.toNat (nN l w.y),w.w.set (cA l.p 2).var.toNat true⟩else none)
 else some w
def lM:List cI->bK->Option bK
 |[],w=>some w
 |l::r,w=>match pJ w l with
  |none=>none
  |some b=>lM r b
def kN(body:List cI):Nat->bK->Option bK
 |0,w=>some w
 |n+1,w=>match lM body w with
  |none=>none
  |some b=>kN body n b
def tK(facts:List aN)(body:List cI)(w:bK):Bool:=body.any fun l=>l.p.all (cC w.w)&& !fF facts l w.y
def sE:List cI->Nat->Nat
 |[],i=>i
 |l::r,i=>if l.kind=1 then i else sE r (i+1)
def iI(body:List cI)(i:Nat):Nat:=sE (body.drop i) i
def mY(facts:List aN)(body:List cI):Nat->Nat->bK->List (List Int)
 |0,_,_=>[]
 |k+1,i,w=>match kN body (body.length+1) w with
  |none=>[]
  |some b=>if tK facts body b=true then [] else
   if iI body i<body.length then
    facts.flatMap fun f=>if f.z=(cJ body (iI body i)).z then
     (match fU b (cJ body (iI body i)).p f.args with
      |none=>[]
      |some d=>mY facts body k (iI body i+1) d)else []
   else [b.y]
theorem VL{l:List dL}{K:List Bool}(h:l.length=3):(l.take 2).all (cC K)=(cC K (cA l 0)&&cC K (cA l 1)):=by
 match l,h with
 |[a,b,c],_=>simp[cA]
theorem EW{l:List dL}{K:List Bool}(h:l.length=3):(l.drop 2).all (cC K)=cC K (cA l 2):=by
 match l,h with
 |[a,b,c],_=>simp[cA]
section
variable {m:Nat} {facts:List aN}
theorem ZX{w w':bK}{l:cI}(b:jI m w)(h:pJ w l=some w'):jI m w':=by
 unfold pJ at h;split at h
 ·split at h
  ·injection h with h;subst h;exact⟨by simpa using b.n,by simpa using b.k⟩
  cases h
 injection h with h;subst h;exact b
theorem Gg{w w':bK}{l:cI}(g:Fk m facts l)(h:pJ w l=some w'):w'.w=if l.kind=4 then eT w.w l else w.w:=by
 unfold pJ at h;by_cases b:l.kind=4
 ·rw[VL (g.k4 b),EW (g.k4 b)]at h;simp only[Bool.and_eq_true]at h;rw[if_pos b];unfold eT mC;rw[if_neg oM];by_cases f:cC w.w (cA l.p 0)=true/\cC w.w (cA l.p 1)=true
  ·rw[if_pos ⟨b,f.1,f.2⟩,GF (g.k4 b)];show _=kC w.w _;by_cases e:cC w.w (cA l.p 2)=true
   ·rw[if_neg (fun d=>d.2.2 e)]at h;injection h with h;subst h;symm;refine MD fun i _=>?_;unfold cC at e;simpa[show¬(cA l.p 2).var<0 by omega]using e
   rw[if_pos ⟨b,f,e⟩]at h;split at h
   ·injection h with h;subst h;unfold kC;rw[if_pos (vP e).1]
   cases h
  rw[if_neg (fun d=>f d.2)];rw[if_neg (fun d=>f d.2.1)]at h;injection h with h;subst h;rfl
 rw[if_neg (fun d=>b d.1)]at h;injection h with h;subst h;rw[if_neg b]
theorem Nc{w w':bK}{l:cI}{x:List Int}(j:Fk m facts l)(h:pJ w l=some w')(f:nK w' x):nK w x:=by
 unfold pJ at h;split at h
 ·rename_i b;rw[EW (j.k4 b.1)]at b;split at h
  ·injection h with h;subst h;obtain⟨k,g⟩:=vP b.2.2;intro i d;by_cases e:(cA l.p 2).var.toNat=i
   ·subst e;rw[g]at d;cases d
   have :=f i (by show(w.w.set _ true).getD i false=true;rw[mZ _ _ _ _ _ e];exact d);rw[<-this];show _=(w.y.set _ _).getD i 0;rw[mZ _ _ _ _ _ e]
  cases h
 injection h with h;subst h;exact f
theorem aEH{w:bK}{l:cI}{x:List Int}(s:jI m w)(e:Fk m facts l)(d:nK w x)(hh:fF facts l x=true):∃k,pJ w l=some k/\nK k x:=by
 unfold pJ;split
 ·rename_i b;have f:=b.1;rw[VL (e.k4 f),EW (e.k4 f),eF]at b;unfold fF at hh;rw[if_neg oM,if_neg oM,if_neg oM,eF,CF]at hh;(have j:nN l w.y=nN l x:=by unfold nN;rw[mA d b.2.1.1,mA d b.2.1.2]);rw[if_pos (by rw[j];exact hh.1)];refine⟨_,rfl,fun i q=>?_⟩;obtain⟨v,z⟩:=vP b.2.2;have r:(cA l.p 2).var.toNat<m:=by
   rcases e.t _ (mW (i:=2) (by rw[e.k4 f];omega))with h|h
   ·omega
   exact h
  by_cases g:(cA l.p 2).var.toNat=i
  ·subst g;show(w.y.set _ _).getD _ 0=_;rw[tJ _ _ _ _ (by rw[s.n];exact r),j,hh.2];unfold eJ;rw[if_neg oM]
  show(w.y.set _ _).getD i 0=_;rw[mZ _ _ _ _ _ g];refine d i ?_;have :(w.w.set _ true).getD i false=true:=q;rwa[mZ _ _ _ _ _ g]at this
 exact⟨w,rfl,d⟩
theorem OV:∀{body:List cI}{w w':bK},jI m w->lM body w=some w'->jI m w'
 |[],_,_,d,h=>by unfold lM at h;injection h with h;subst h;exact d
 |l::r,w,w',d,h=>by
  unfold lM at h
  cases b:pJ w l with
  |none=>rw[b]at h;cases h
  |some e=>rw[b]at h;exact OV (ZX d b) h
def UT(body:List cI):List cI:=body.filter fun l=>decide (l.kind=4)
theorem OU:∀{body:List cI}{w w':bK},(∀l,l∈body->Fk m facts l)->lM body w=some w'->w'.w=bE (UT body) w.w
 |[],_,_,_,h=>by unfold lM at h;injection h with h;subst h;rfl
 |l::r,w,w',hB,h=>by
  unfold lM at h
  cases d:pJ w l with
  |none=>rw[d]at h;cases h
  |some f=>
   rw[d]at h;rw[OU (fun l e=>hB l (bO _ e)) h,Gg (hB l dC) d];unfold UT;rw[lU];by_cases b:l.kind=4
   ·rw[if_pos b,if_pos (aQ b)];rfl
   rw[if_neg b,if_neg (by simpa using b)]
theorem SC{x:List Int}:∀{body:List cI}{w w':bK},(∀l,l∈body->Fk m facts l)->lM body w=some w'->nK w' x->nK w x
 |[],_,_,_,h,d=>by unfold lM at h;injection h with h;subst h;exact d
 |l::r,w,w',hB,h,d=>by
  unfold lM at h
  cases b:pJ w l with
  |none=>rw[b]at h;cases h
  |some f=>
   rw[b]at h;exact Nc (hB l dC) b (SC (fun l e=>hB l (bO _ e)) h d)
theorem ZY{x:List Int}:∀{body:List cI}{w:bK},jI m w->(∀l,l∈body->Fk m facts l)->nK w x->(∀l,l∈body->fF facts l x=true)->∃f,lM body w=some f/\nK f x
 |[],w,_,_,b,_=>⟨w,rfl,b⟩
 |l::r,w,hw,hB,b,hh=>by obtain⟨n,e,i⟩:=aEH hw (hB l dC) b (hh l dC);obtain⟨k,g,j⟩:=ZY (ZX hw e) (fun l d=>hB l (bO _ d)) i (fun l d=>hh l (bO _ d));refine⟨k,?_,j⟩;unfold lM;rw[e];exact g
theorem IV{body:List cI}:∀{n:Nat}{w w':bK},jI m w->kN body n w=some w'->jI m w'
 |0,_,_,d,h=>by unfold kN at h;injection h with h;subst h;exact d
 |n+1,w,w',d,h=>by
  unfold kN at h
  cases b:lM body w with
  |none=>rw[b]at h;cases h
  |some e=>rw[b]at h;exact IV (OV d b) h
theorem xU{body:List cI}(d:∀l,l∈body->Fk m facts l):∀{n:Nat}{w w':bK},kN body n w=some w'->w'.w=iJ (UT body) n w.w
 |0,_,_,h=>by unfold kN at h;injection h with h;subst h;rfl
 |n+1,w,w',h=>by
  unfold kN at h
  cases b:lM body w with
  |none=>rw[b]at h;cases h
  |some e=>rw[b]at h;rw[xU d h,OU d b];rfl
theorem SA{x:List Int}{body:List cI}(e:∀l,l∈body->Fk m facts l):∀{n:Nat}{w w':bK},kN body n w=some w'->nK w' x->nK w x
 |0,_,_,h,d=>by unfold kN at h;injection h with h;subst h;exact d
 |n+1,w,w',h,d=>by
  unfold kN at h
  cases b:lM body w with
  |none=>rw[b]at h;cases h
  |some f=>rw[b]at h;exact SC e b (SA e h d)
theorem OT{x:List Int}{body:List cI}(e:∀l,l∈body->Fk m facts l)(hh:∀l,l∈body->fF facts l x=true):∀{n:Nat}{w:bK},jI m w->nK w x->∃g,kN body n w=some g/\nK g x
 |0,w,_,b=>⟨w,rfl,b⟩
 |n+1,w,f,b=>by obtain⟨q,d,j⟩:=ZY f e b hh;obtain⟨p,i,k⟩:=OT e hh (n:=n) (OV f d) j;refine⟨p,?_,k⟩;unfold kN;rw[d];exact i
end
theorem fI(body:List cI):∀(n:Nat)(b:List Bool),iJ body (n+1) b=bE body (iJ body n b)
 |0,_=>rfl
 |n+1,b=>by show iJ body (n+1) (bE body b)=_;rw[fI body n];rfl
theorem VD(body:List cI)(b:List Bool){n:Nat}(h:body.length<=n):bE body (iJ body n b)=iJ body n b:=by
 (have e:bE body (iJ body body.length b)=iJ body body.length b:=by rw[<-fI];exact KX body b);obtain⟨k,rfl⟩:∃k,n=body.length+k:=⟨n-body.length,oM⟩;clear h
 induction k with
 |zero=>exact e
 |succ k d=>
  rw[<-II,fI,d];exact d
theorem Gh{m:Nat}{facts:List aN}{body:List cI}(d:∀l,l∈body->Fk m facts l){w w':bK}(h:kN body (body.length+1) w=some w')(l:cI)(f:l∈body)(b:l.kind=4)(g:gZ w'.w l=true):MC w'.w (PA l):=by have e:=xU d h;(have i:bE (UT body) w'.w=w'.w:=by rw[e];exact VD _ _ (bH (wZ _ _) (lX _)));rw[<-i];exact VU _ _ l (mX.mpr ⟨f,by simpa using b⟩) g
theorem TH:∀(l:List cI)(i:Nat),i<=sE l i/\sE l i<=i+l.length
 |[],i=>⟨aE _,aE _⟩
 |x::l,i=>by
  unfold sE;split
  ·exact⟨aE _,by simp⟩
  have :=TH l (i+1);simp only[List.length_cons];omega
theorem NI:∀(l:List cI)(i j:Nat),i<=j->j<sE l i->¬(cJ l (j-i)).kind=1
 |[],i,j,d,b=>by unfold sE at b;omega
 |x::l,i,j,d,b=>by
  unfold sE at b;split at b
  ·omega
  rename_i f;by_cases e:j=i
  ·subst e;rw[wS];exact f
  have :=NI l (i+1) j oM b;rw[show j-i=(j-(i+1))+1 by omega];exact this
theorem Gm:∀(l:List cI)(i:Nat),sE l i<i+l.length->(cJ l (sE l i-i)).kind=1
 |[],i,h=>by unfold sE at h;simp at h
 |x::l,i,h=>by
  unfold sE at h ⊢;split
  ·rename_i b;rw[wS];exact b
  rename_i b;rw[if_neg b]at h;have :=Gm l (i+1) (by simp only[List.length_cons]at h;omega);have d:=(TH l (i+1)).1;rw[show sE l (i+1)-i=(sE l (i+1)-(i+1))+1 by omega];exact this
theorem UX(l:List cI)(i j:Nat):cJ (l.drop i) j=cJ l (i+j):=by unfold cJ;rw[aC,UA,aC]
theorem MB(body:List cI)(i:Nat)(h:i<=body.length):i<=iI body i/\iI body i<=body.length:=by have :=TH (body.drop i) i;rw[tT]at this;unfold iI;omega
theorem IW(body:List cI){i j:Nat}(h1:i<=j)(b:j<iI body i):¬(cJ body j).kind=1:=by have :=NI (body.drop i) i j h1 b;rw[UX,show i+(j-i)=j by omega]at this;exact this
theorem VI(body:List cI){i:Nat}(d:i<=body.length)(h:iI body i<body.length):(cJ body (iI body i)).kind=1:=by have b:=(MB body i d).1;have :=Gm (body.drop i) i (by rw[tT];unfold iI at h;omega);rw[UX]at this;unfold iI at b ⊢;rwa[show i+(sE (body.drop i) i-i)=sE (body.drop i) i by omega]at this
section
variable {facts:List aN} {r:bB}
def LT(body:List cI)(i:Nat)(K:List Bool):Prop:=∀j,j<i->(cJ body j).kind=1->MC K (cJ body j).p
theorem aEP{body:List cI}{w:bK}{x:List Int}(v:∀l,l∈body->Fk r.vars.toNat facts l)(d:nK w x)(hh:∀l,l∈body->fF facts l x=true):tK facts body w=false:=by
 unfold tK;rw[XO];intro l p;rw[eF,not_and];intro n;have e:=eX.mp n;have b:=v l p;have s:=hh l p;have :fF facts l w.y=fF facts l x:=by
  unfold fF;rw[JP d n];by_cases f:l.kind=3
  ·have j:=mA d (e _ (mW (i:=0) (by rw[b.k3 f];omega)));have m:=mA d (e _ (mW (i:=1) (by rw[b.k3 f];omega)));rw[j,m];simp[f]
  by_cases g:l.kind=4
  ·have j:=mA d (e _ (mW (i:=0) (by rw[b.k4 g];omega)));have m:=mA d (e _ (mW (i:=1) (by rw[b.k4 g];omega)));have q:=mA d (e _ (mW (i:=2) (by rw[b.k4 g];omega)));unfold nN;rw[j,m,q]
  rcases b.k with h|h|h|h
  ·simp[h]
  ·simp[h]
  ·exact absurd h f
  exact absurd h g
 rw[this,s];simp
theorem My(e:Uk facts r){w m:bK}{i:Nat}(C:jI r.vars.toNat w)(v:LT r.body i w.w)(h:kN r.body (r.body.length+1) w=some m)(B:¬iI r.body i<r.body.length)(j:Nat)(x:j<r.vars.toNat):m.w.getD j false=true:=by
 have D:=IV C h;have y:oW w.w m.w:=by
  rw[xU e.lit h];clear h B;generalize r.body.length+1=n;generalize w.w=K
  induction n generalizing K with
  |zero=>exact oW.refl K
  |succ n E=>exact(oX _ K).trans (E _)
 refine OW e.safe (by rw[D.k];exact aE _) (BT _ _ fun l s b=>?_) j x;by_cases p:l.kind=4
 ·exact Gh e.lit h l s p b
 have d:l.kind=1:=by
  unfold gZ at b;simp only[Bool.or_eq_true,Bool.and_eq_true,beq_iff_eq]at b;rcases b with b|b
  ·exact b
  exact absurd b.1.1 p
 obtain⟨q,z,A⟩:=NV.mp s;(have f:cJ r.body q=l:=by unfold cJ;rw[aC,aD z,A];rfl);unfold PA;rw[if_pos d,<-f];refine(v q ?_ (by rw[f];exact d)).le y;rcases jW q i with g|g
 ·exact g
 refine absurd d ?_;rw[<-f];exact IW r.body g oM
theorem BO{k:bK}{g:bK}{i:Nat}{ns:List Int}(l:LT r.body i g.w)(m:fU g (cJ r.body (iI r.body i)).p ns=some k):LT r.body (iI r.body i+1) k.w:=by
 have f:=BR m;intro j n d;by_cases e:j=iI r.body i
 ·rw[f,e];exact GL _ _
 rcases jW j i with b|b
 ·exact(l j b d).le (by rw[f];exact DD _ _)
 exact absurd d (IW r.body b oM)
theorem BP(d:Uk facts r)(x:List Int):∀(k i:Nat)(w:bK),i<=r.body.length->r.body.length<i+k->jI r.vars.toNat w->LT r.body i w.w->(x∈mY facts r.body k i w↔nK w x/\mV facts r x)
 |0,i,w,m,Z,_,_=>oM
 |k+1,i,w,Q,hk,D,L=>by
  unfold mY
  cases m:kN r.body (r.body.length+1) w with
  |none=>
   constructor
   ·intro h;cases h
   rintro⟨e,b⟩;obtain⟨g,h,_⟩:=OT d.lit b.2 D e;rw[m]at h;cases h
  |some g=>
   have v:=IV D m;have P:nK g x->nK w x:=SA d.lit m;(have I:nK w x->mV facts r x->nK g x:=fun e b=>by obtain⟨a2,h,T⟩:=OT (n:=r.body.length+1) d.lit b.2 D e;rw[m]at h;injection h with h;subst h;exact T);have M:LT r.body i g.w:=fun j V C=>(L j V C).le (by
    rw[xU d.lit m];generalize r.body.length+1=n;generalize w.w=K
    induction n generalizing K with
    |zero=>exact oW.refl K
    |succ n Y=>exact(oX _ K).trans (Y _))
   show x∈(if tK facts r.body g=true then [] else _)↔_;by_cases A:tK facts r.body g=true
   ·rw[if_pos A];constructor
    ·intro h;cases h
    rintro⟨e,b⟩;rw[aEP d.lit (I e b) b.2]at A;cases A
   rw[if_neg A];obtain⟨a0,a1⟩:=MB r.body i Q;by_cases s:iI r.body i<r.body.length
   ·rw[if_pos s];have C:=VI r.body Q s;have E:=d.lit _ (yW s);rw[kJ];constructor
    ·rintro⟨f,U,B⟩;split at B
     ·rename_i X;split at B
      ·cases B
      rename_i z q;obtain⟨G,b⟩:=(BP d x k (iI r.body i+1) z oM oM (tB v q) (BO M q)).mp B;exact⟨P ((qG v E.t (E.a C f U X)).mp ⟨z,q,G⟩).1,b⟩
     cases B
    rintro⟨e,b⟩;have H:=b.2 _ (yW s);unfold fF at H;rw[if_pos C,lD]at H;obtain⟨z,q,G⟩:=(qG (ns:=bQ (cJ r.body (iI r.body i)).p x) (x:=x) v E.t (by unfold bQ;simp)).mpr ⟨I e b,rfl⟩;refine⟨_,H,?_⟩;rw[if_pos rfl];(show x∈match fU g (cJ r.body (iI r.body i)).p (bQ (cJ r.body (iI r.body i)).p x)with |none=>[]|some z=>mY facts r.body k (iI r.body i+1) z);rw[q];exact(BP d x k (iI r.body i+1) z oM oM (tB v q) (BO M q)).mpr ⟨G,b⟩
   rw[if_neg s,cQ];have N:=My d D L m s;constructor
   ·rintro rfl;have F:nK g g.y:=fun _ _=>rfl;refine⟨P F,v.n,fun l R=>?_⟩;refine Classical.byContradiction fun W=>A ?_;unfold tK;rw[kI];refine⟨l,R,?_⟩;rw[eF];exact⟨eX.mpr (US (d.lit l R).t N),by simpa using W⟩
   rintro⟨e,b⟩;have F:=I e b;refine EI (by rw[b.1,v.n]) fun j J S=>?_;have :=F j (N j (by rw[<-b.1];exact J));rw[aC,aD S,aC,aD J]at this;exact this.symm
theorem OO(l:Uk facts r)(D:facts.Nodup):∀(k i:Nat)(w:bK),i<=r.body.length->r.body.length<i+k->jI r.vars.toNat w->LT r.body i w.w->(mY facts r.body k i w).Nodup
 |0,i,w,y,Z,_,_=>oM
 |k+1,i,w,C,hk,T,P=>by
  unfold mY
  cases y:kN r.body (r.body.length+1) w with
  |none=>exact List.Pairwise.nil
  |some H=>
   have q:=IV T y;have z:LT r.body i H.w:=fun j S v=>(P j S v).le (by
    rw[xU l.lit y];generalize r.body.length+1=n;generalize w.w=K
    induction n generalizing K with
    |zero=>exact oW.refl K
    |succ n U=>exact(oX _ K).trans (U _))
   show(if tK facts r.body H=true then [] else _:List (List Int)).Nodup;split
   ·exact List.Pairwise.nil
   obtain⟨a0,a1⟩:=MB r.body i C;split
   ·rename_i G;have v:=VI r.body C G;have s:=l.lit _ (yW G);unfold List.Nodup;rw[List.pairwise_flatMap];refine⟨fun f B=>?_,yM ?_ D⟩
    ·split
     ·split
      ·exact List.Pairwise.nil
      rename_i x d;exact OO l D k _ x oM oM (tB q d) (BO z d)
     exact List.Pairwise.nil
    intro f g B R Q a m b p e;subst e;split at m
    ·rename_i E;split at m
     ·cases m
     rename_i x d;split at p
     ·rename_i F;split at p
      ·cases p
      rename_i I A;have J:=((BP l a k (iI r.body i+1) x oM oM (tB q d) (BO z d)).mp m).1;have L:=((BP l a k (iI r.body i+1) I oM oM (tB q A) (BO z A)).mp p).1;have M:=((qG q s.t (s.a v f B E)).mp ⟨x,d,J⟩).2;have N:=((qG q s.t (s.a v g R F)).mp ⟨I,A,L⟩).2;apply Q;obtain⟨W,V⟩:=f;obtain⟨Y,X⟩:=g;dsimp only at *;rw[E,F,<-M,<-N]
     cases p
    cases m
   exact rZ _ _
def yY(m:Nat):bK:=⟨List.replicate m 0,List.replicate m false⟩
def qF(facts:List aN)(r:bB):List (List Int):=mY facts r.body (r.body.length+1) 0 (yY r.vars.toNat)
theorem TI(m:Nat):jI m (yY m):=⟨by simp[yY],by simp[yY]⟩
theorem GI(b:Uk facts r)(x:List Int):x∈qF facts r↔mV facts r x:=by unfold qF;rw[BP b x _ _ _ (bG _) oM (TI _) (fun j e=>oM)];refine⟨fun h=>h.2,fun h=>⟨fun i d=>?_,h⟩⟩;have :(List.replicate r.vars.toNat false).getD i false=true:=d;rw[aC,pO]at this;split at this<;>simp at this
theorem yX(b:Uk facts r)(d:facts.Nodup):(qF facts r).Nodup:=OO b d _ _ _ (bG _) oM (TI _) (fun j e=>oM)
theorem aAV(b:Uk facts r)(d:∀f,f∈facts->∀n,n∈f.args->cP n=true)(e:facts.Nodup):(gP facts r).Perm (qF facts r):=
 (DA (rP b d e) (yX b e)).mpr fun x=>(lV b d x).trans (GI b x).symm
end
end Go.Proofs.YthenjegmigeieaaGreat
namespace Go.Proofs.YthenjegmigeieaaGreat
def rX(L:List (List Int)):List (List Int):=(dR (L.map (aN.mk 0))).map (·.args)
theorem Uq(x y:List Int):eV ⟨0,x⟩ ⟨0,y⟩=eS x y:=by unfold eV;rw[if_pos (LS 0)]
theorem MA{L:List (List Int)}{f:aN}(h:f∈dR (L.map (aN.mk 0))):f=⟨0,f.args⟩/\f.args∈L:=by obtain⟨x,b,rfl⟩:=cR.mp (iK.mp h);exact⟨rfl,b⟩
theorem xT{L:List (List Int)}{x:List Int}:x∈rX L↔x∈L:=by
 unfold rX;rw[cR];constructor
 ·rintro⟨f,b,rfl⟩;exact(MA b).2
 intro h;exact⟨⟨0,x⟩,iK.mpr (cR.mpr ⟨x,h,rfl⟩),rfl⟩
def aAB(s:List (List Int)):Prop:=s.Pairwise fun x y=>eS x y<0
theorem Uw(L:List (List Int)):aAB (rX L):=by unfold aAB rX;rw[yL];refine yM ?_ (kV (L.map (aN.mk 0))).1;intro f g d e h;have b:eV f g<0:=h;rw[(MA d).1,(MA e).1,Uq]at b;exact b
theorem Uv{s L:List (List Int)}(k:aAB s)(h:∀x,x∈s↔x∈L):s=rX L:=by
 (have g:vN (s.map (aN.mk 0)):=by unfold vN;rw[yL];exact k.imp fun {a b} j=>by show eV _ _<0;rw[Uq];exact j);have i:s.map (aN.mk 0)=dR (L.map (aN.mk 0)):=DU ⟨g,fun f=>by
  constructor
  ·intro d;obtain⟨x,e,rfl⟩:=cR.mp d;exact cR.mpr ⟨x,(h x).mp e,rfl⟩
  intro d;obtain⟨x,e,rfl⟩:=cR.mp d
  exact cR.mpr ⟨x,(h x).mpr e,rfl⟩⟩
 unfold rX;rw[<-i,SU];exact(List.map_id' s).symm
theorem aAY(L:List (List Int)):(rX L).Nodup:=by refine(Uw L).imp ?_;intro a b h e;rw[vY.mpr e]at h;omega
theorem AS{L:List (List Int)}(b:L.Nodup):(rX L).Perm L:=(DA (aAY L) b).mpr fun _=>xT
def pZ:List Int->Int
 |[]=>0
 |a::r=>r.foldl (fun m x=>if x<m then x else m) a
def pY:List Int->Int
 |[]=>0
 |a::r=>r.foldl (fun m x=>if m<x then x else m) a
def fE(f:Int)(l:List Int):Int:=if f=1 then(l.length:Int)else if f=3 then pZ l else if f=4 then pY l else l.sum
theorem aD2(r:List Int):∀a:Int,(r.foldl (fun m x=>if x<m then x else m) a=a\/r.foldl (fun m x=>if x<m then x else m) a∈r)/\r.foldl (fun m x=>if x<m then x else m) a<=a/\∀x,x∈r->r.foldl (fun m x=>if x<m then x else m) a<=x:=by
 induction r with
 |nil=>exact fun a=>⟨.inl rfl,zL _,fun x e=>absurd e sI⟩
 |cons b r i=>
  intro a;obtain⟨d,f,g⟩:=i (if b<a then b else a);simp only[List.foldl_cons];refine⟨?_,?_,?_⟩
  ·rcases d with d|d
   ·rw[d];split
    ·exact .inr dC
    exact .inl rfl
   exact .inr (bO _ d)
  ·refine EP f ?_;split<;>omega
  intro x e;rcases eQ.mp e with rfl|e
  ·refine EP f ?_;split<;>omega
  exact g x e
theorem aD1(r:List Int):∀a:Int,(r.foldl (fun m x=>if m<x then x else m) a=a\/r.foldl (fun m x=>if m<x then x else m) a∈r)/\a<=r.foldl (fun m x=>if m<x then x else m) a/\∀x,x∈r->x<=r.foldl (fun m x=>if m<x then x else m) a:=by
 induction r with
 |nil=>exact fun a=>⟨.inl rfl,zL _,fun x e=>absurd e sI⟩
 |cons b r i=>
  intro a;obtain⟨d,f,g⟩:=i (if a<b then b else a);simp only[List.foldl_cons];refine⟨?_,?_,?_⟩
  ·rcases d with d|d
   ·rw[d];split
    ·exact .inr dC
    exact .inl rfl
   exact .inr (bO _ d)
  ·refine EP ?_ f;split<;>omega
  intro x e;rcases eQ.mp e with rfl|e
  ·refine EP ?_ f;split<;>omega
  exact g x e
theorem ZW{l:List Int}(h:l≠[]):pZ l∈l/\∀x,x∈l->pZ l<=x:=by
 cases l with
 |nil=>exact absurd rfl h
 |cons a r=>
  obtain⟨b,e,f⟩:=aD2 r a;refine⟨?_,fun x d=>?_⟩
  ·rcases b with b|b
   ·show r.foldl _ a∈_;rw[b];exact dC
   exact bO _ b
  rcases eQ.mp d with rfl|d
  ·exact e
  exact f x d
theorem ZV{l:List Int}(h:l≠[]):pY l∈l/\∀x,x∈l->x<=pY l:=by
 cases l with
 |nil=>exact absurd rfl h
 |cons a r=>
  obtain⟨b,e,f⟩:=aD1 r a;refine⟨?_,fun x d=>?_⟩
  ·rcases b with b|b
   ·show r.foldl _ a∈_;rw[b];exact dC
   exact bO _ b
  rcases eQ.mp d with rfl|d
  ·exact e
  exact f x d
theorem aEF{l m:List Int}(h:l.Perm m):l.sum=m.sum:=by
 induction h with
 |nil=>rfl
 |cons a _ f=>simp only[List.sum_cons,f]
 |swap a b l=>simp only[List.sum_cons];omega
 |trans _ _ d e=>exact d.trans e
theorem Mq(f:Int){l m:List Int}(h:l.Perm m):fE f l=fE f m:=by
 unfold fE;rw[h.length_eq,aEF h];by_cases g:l=[]
 ·subst g;have :m=[]:=List.nil_perm.mp h;subst this;rfl
 have i:m≠[]:=fun e=>g (by subst e;exact List.perm_nil.mp h);have a:=ZW g;have b:=ZW i;have c:=ZV g;have d:=ZV i;(have j:pZ l=pZ m:=by have :=a.2 _ (h.mem_iff.mpr b.1);have :=b.2 _ (h.mem_iff.mp a.1);omega);(have k:pY l=pY m:=by have :=c.2 _ (h.mem_iff.mpr d.1);have :=d.2 _ (h.mem_iff.mp c.1);omega);rw[j,k]
def aK(a:List Int):List Int:=a.dropLast
def oO(a:List Int):Int:=a.getLastD 0
def eU(r:bB)(x:List Int):aN:=⟨r.z,bQ r.p x⟩
def fY(H:List aN)(p:List Int):List Int:=(H.filter fun g=>decide (aK g.args=p)).map fun g=>oO g.args
def sM(f:Int)(H:List aN)(h:aN):Option aN:=
 if cP (fE f (fY H (aK h.args)))=true then some ⟨h.z,aK h.args++[fE f (fY H (aK h.args))]⟩else none
def mQ(r:bB)(W:List (List Int)):List aN:=
 if r.x=0 then W.map (eU r)else(W.map (eU r)).filterMap (sM r.x (W.map (eU r)))
def mP(r:bB)(W:List (List Int)):List aN:=dR (mQ r W)
theorem Mw{H K:List aN}(h:H.Perm K)(p:List Int):(fY H p).Perm (fY K p):=(h.filter _).map _
theorem DC(f:Int){H K:List aN}(h:H.Perm K)(x:aN):sM f H x=sM f K x:=by unfold sM;rw[Mq f (Mw h _)]
theorem Fy(r:bB){W V:List (List Int)}(h:W.Perm V)(x:aN):x∈mQ r W↔x∈mQ r V:=by
 unfold mQ;have b:=h.map (eU r);split
 ·exact b.mem_iff
 rw[gT,gT];constructor
 ·rintro⟨a,d,e⟩;exact⟨a,b.mem_iff.mp d,by rw[<-DC _ b];exact e⟩
 rintro⟨a,d,e⟩;exact⟨a,b.mem_iff.mpr d,by rw[DC _ b];exact e⟩
theorem zP(r:bB){W V:List (List Int)}(h:W.Perm V):mP r W=mP r V:=OK (Fy r h)
theorem ZQ:∀{x y:List Int},x.length=y.length->eS x y<=0->eS (aK x) (aK y)<=0
 |[],[],_,_=>dE
 |[],_::_,h,_=>by cases h
 |_::_,[],h,_=>by cases h
 |[a],[b],_,_=>by show eS [] []<=0;decide
 |[a],b::c::y,h,_=>by simp at h
 |a::c::x,[b],h,_=>by simp at h
 |a::d::x,b::f::y,hl,h=>by
  have i:=ZQ (x:=d::x) (y:=f::y) (by simpa using hl);show eS (a::aK (d::x)) (b::aK (f::y))<=0;have g:(if gA a b=0 then eS (d::x) (f::y)else gA a b)<=0:=h;show(if gA a b=0 then eS (aK (d::x)) (aK (f::y))else gA a b)<=0;by_cases e:gA a b=0
  ·rw[if_pos e]at g ⊢;exact i g
  rw[if_neg e]at g ⊢;exact g
def iB(f:Int):List aN->List Int->List aN
 |[],_=>[]
 |h::t,ns=>
  (match t with
   |[]=>if cP (fE f (ns++[oO h.args]))=true then [⟨h.z,aK h.args++[fE f (ns++[oO h.args])]⟩] else []
   |g::_=>if aK h.args=aK g.args then iB f t (ns++[oO h.args])
    else(if cP (fE f (ns++[oO h.args]))=true then [⟨h.z,aK h.args++[fE f (ns++[oO h.args])]⟩] else [])++iB f t [])
def uU(f b:Int)(p:List Int)(ns:List Int):List aN:=if cP (fE f ns)=true then [⟨b,p++[fE f ns]⟩] else []
theorem NH(f d:Int)(p:List Int):∀(G:List aN)(h:aN)(R:List aN)(ns:List Int),(∀g,g∈h::G->aK g.args=p/\g.z=d)->(∀g,R.head?=some g->¬aK g.args=p)->
 iB f (h::G++R) ns=uU f d p (ns++(h::G).map fun g=>oO g.args)++iB f R []
 |[],h,R,ns,b,k=>by
  obtain⟨i,j⟩:=b h dC
  cases R with
  |nil=>
   show(if cP (fE f (ns++[oO h.args]))=true then [(⟨h.z,aK h.args++[fE f (ns++[oO h.args])]⟩:aN)] else [])=_;rw[i,j];show uU f d p (ns++[oO h.args])=uU f d p (ns++[oO h.args])++[];rw[jM]
  |cons g R=>
   show(if aK h.args=aK g.args then iB f (g::R) (ns++[oO h.args])else(if cP (fE f (ns++[oO h.args]))=true then [⟨h.z,aK h.args++[fE f (ns++[oO h.args])]⟩] else [])++iB f (g::R) [])=_;rw[i,if_neg (fun e=>k g rfl e.symm),j];rfl
 |g::G,h,R,ns,b,k=>by obtain⟨i,j⟩:=b h dC;obtain⟨l,n⟩:=b g (bO _ dC);show(if aK h.args=aK g.args then iB f (g::G++R) (ns++[oO h.args])else(if cP (fE f (ns++[oO h.args]))=true then [⟨h.z,aK h.args++[fE f (ns++[oO h.args])]⟩] else [])++iB f (g::G++R) [])=_;rw[i,l,if_pos rfl,NH f d p G g R _ (fun x m=>b x (bO _ m)) k];simp
theorem RT(f r:Int)(T:Nat):∀(n:Nat)(H:List aN),H.length<=n->(∀h,h∈H->h.z=r/\h.args.length=T)->H.Pairwise (fun a b=>eV a b<=0)->∀x,x∈iB f H []↔∃h,h∈H/\sM f H h=some x
 |_,[],_,_,_,x=>by
  constructor
  ·intro h;cases h
  rintro⟨h,hh,_⟩;cases hh
 |0,_::_,hl,_,_,_=>by simp at hl
 |n+1,h::t,hl,hP,hS,x=>by
  obtain⟨p,w⟩:∃p,p=aK h.args:=⟨_,rfl⟩
  let q:aN->Bool:=fun g=>decide (aK g.args=p)
  have j:t=t.takeWhile q++t.dropWhile q:=(List.takeWhile_append_dropWhile).symm;obtain⟨G,F⟩:∃G,G=t.takeWhile q:=⟨_,rfl⟩;obtain⟨R,J⟩:∃R,R=t.dropWhile q:=⟨_,rfl⟩;rw[<-F,<-J]at j;(have A:∀g,g∈G->aK g.args=p:=fun g d=>by rw[F]at d;(have :q g=true:=by have y:=List.all_takeWhile (p:=q) (l:=t);exact eX.mp y g d);exact eL this);(have K:∀g,R.head?=some g->¬aK g.args=p:=fun g d Z=>by have y:=List.head?_dropWhile_not q t;rw[<-J,d]at y;simp[q,Z]at y);have C:=lW.mp hS;have I:∀g,g∈R->¬aK g.args=p:=by
   intro g d
   cases s:R with
   |nil=>rw[s]at d;cases d
   |cons a U=>
    have M:¬aK a.args=p:=K a (by rw[s];rfl);(have D:a∈t:=by rw[j,s];simp);(have S:∀{u v:aN},u∈h::t->v∈h::t->eV u v<=0->eS (aK u.args) (aK v.args)<=0:=by intro u v hu hv Q;obtain⟨u1,u2⟩:=hP u hu;obtain⟨v1,v2⟩:=hP v hv;refine ZQ (by rw[u2,v2]) ?_;unfold eV at Q;rwa[u1,v1,if_pos (LS r)]at Q);(have m:=S dC (bO _ D) (C.1 a D);rw[<-w]at m;have h2:eS p (aK a.args)<0:=by have :¬eS p (aK a.args)=0:=fun e=>M (vY.mp e).symm;omega);rw[s]at d;rcases eQ.mp d with rfl|i
    ·exact M
    (have a3:g∈t:=by rw[j,s];simp[i]);(have a4:(a::U).Pairwise (fun a b=>eV a b<=0):=by have :=C.2;rw[j,uN]at this;rw[<-s];exact this.2.1);have X:=S (bO _ D) (bO _ a3) ((lW.mp a4).1 g i);intro e;rw[e]at X;have :=BM p (aK a.args);omega
  have a0:iB f (h::t) []=uU f r p ((h::G).map fun g=>oO g.args)++iB f R []:=by
   have :=NH f r p G h R [] (fun g d=>by
    rcases eQ.mp d with rfl|i
    ·exact⟨w.symm,(hP g dC).1⟩
    exact⟨A g i,(hP g (bO _ (by rw[j];simp[i]))).1⟩) K
   rw[qB]at this;rw[<-this,Dc,<-j]
  have a1:fY (h::t) p=(h::G).map fun g=>oO g.args:=by
   unfold fY
   congr 1
   rw[lU,if_pos (aQ w.symm)]
   congr 1
   rw[j,lC];have B:G.filter (fun g=>decide (aK g.args=p))=G:=List.filter_eq_self.mpr fun g d=>aQ (A g d);(have W:R.filter (fun g=>decide (aK g.args=p))=[]:=List.filter_eq_nil_iff.mpr fun g d=>by simpa using I g d);rw[B,W,jM]
  have a2:∀g,g∈R->fY (h::t) (aK g.args)=fY R (aK g.args):=fun g d=>by
   unfold fY
   congr 1
   have P:=I g d;rw[lU,if_neg (by simp only[decide_eq_true_eq];rw[<-w];exact fun e=>P e.symm)];rw[j,lC];(have B:G.filter (fun k=>decide (aK k.args=aK g.args))=[]:=List.filter_eq_nil_iff.mpr fun k hk=>by simp only[decide_eq_true_eq];rw[A k hk];exact fun e=>P e.symm);rw[B,qB]
  have Y:R.length<=n:=by
   (have :t.length<=n:=by simpa using hl);rw[j,bA]at this
   omega
  have L:∀g,g∈R->g∈h::t:=fun g d=>bO _ (by rw[j];simp[d]);have ih:=RT f r T n R Y (fun g d=>hP g (L g d)) (by
   have :=C.2;rw[j,uN]at this
   exact this.2.1) x
  (have N:∀g,g∈R->sM f (h::t) g=sM f R g:=fun g d=>by unfold sM;rw[a2 g d]);have E:∀g,g∈h::G->(sM f (h::t) g=some x↔x∈uU f r p ((h::G).map fun g=>oO g.args)):=fun g d=>by
   have e:aK g.args=p:=by
    rcases eQ.mp d with rfl|i
    ·exact w.symm
    exact A g i
   have V:g.z=r:=by
    rcases eQ.mp d with rfl|i
    ·exact(hP g dC).1
    exact(hP g (bO _ (by rw[j];simp[i]))).1
   unfold sM uU;rw[e,a1,V];split
   ·rw[cQ];constructor
    ·intro h;injection h with h;exact h.symm
    intro h;rw[h]
   constructor
   ·intro h;cases h
   intro h;cases h
  rw[a0,dP,ih];constructor
  ·rintro(m|⟨g,d,m⟩)
   ·exact⟨h,dC,(E h dC).mpr m⟩
   exact⟨g,L g d,by rw[N g d];exact m⟩
  rintro⟨g,d,m⟩;rcases eQ.mp d with rfl|i
  ·exact .inl ((E g dC).mp m)
  rw[j]at i;rcases dP.mp i with i|i
  ·exact .inl ((E g (bO _ i)).mp m)
  exact .inr ⟨g,i,by rw[<-N g i];exact m⟩
theorem Cb{r:bB}(i:¬r.x=0){W:List (List Int)}{H:List aN}(d:H.Perm (W.map (eU r)))(g:H.Pairwise (fun a b=>eV a b<=0)):dR (iB r.x H [])=mP r W:=by
 refine OK fun x=>?_;rw[RT r.x r.z r.p.length H.length H (aE _) (fun h e=>by
  obtain⟨y,_,rfl⟩:=cR.mp (d.mem_iff.mp e)
  exact⟨rfl,by simp[eU,bQ]⟩) g x]
 unfold mQ;rw[if_neg i,gT];constructor
 ·rintro⟨h,e,f⟩;exact⟨h,d.mem_iff.mp e,by rw[<-DC _ d];exact f⟩
 rintro⟨h,e,f⟩;exact⟨h,d.mem_iff.mpr e,by rw[DC _ d];exact f⟩
theorem RX{l:cI}{x:List Int}{f g:List aN}(d:¬l.kind=2)(h:∀a,a∈f->a∈g)(hh:fF f l x=true):fF g l x=true:=by
 unfold fF at hh ⊢;split
 ·rename_i b;rw[if_pos b,lD]at hh;rw[lD];exact h _ hh
 rename_i b;rw[if_neg b,if_neg d]at hh;exact hh
theorem Mx{r:bB}{W V:List (List Int)}(d:r.x=0)(h:∀x,x∈W->x∈V)(f:aN)(b:f∈mP r W):f∈mP r V:=by unfold mP mQ at b ⊢;rw[if_pos d,iK]at b ⊢;obtain⟨x,e,rfl⟩:=cR.mp b;exact cR.mpr ⟨x,h x e,rfl⟩
end Go.Proofs.YthenjegmigeieaaGreat
namespace Go.Proofs.YthenjegmigeieaaGreat
theorem AR{α:Type}{f:α->Int}:∀{l:List α},aU f l=0->∀x,x∈l->f x=0
 |[],_,_,b=>by cases b
 |a::l,h,x,b=>by
  unfold aU at h;split at h
  ·rename_i d;rcases eQ.mp b with rfl|b
   ·exact d
   exact AR h x b
  rename_i d;exact absurd h d
theorem xM{a b:Int}(h:iD a b=0):a=0/\b=0:=by
 unfold iD at h;split at h
 ·exact⟨by assumption,h⟩
 exact absurd h (by assumption)
theorem kA{n a b:Int}:dG n a b=true↔a<=n/\n<=b:=by unfold dG;simp
structure QW (vars:Int) (t:dL):Prop where
 lo: -1<=t.var
 hi:t.var<=vars-1
 num:cP t.n=true
theorem VM{d:Int}{t:dL}(h:kO d t=0):QW d t:=by
 unfold kO at h;split at h
 ·rename_i g;obtain⟨e,f⟩:=kA.mp g;split at h
  ·omega
  rename_i b;simp only[Bool.or_eq_true,not_or,Bool.not_eq_true']at b;exact⟨e,f,by simpa using b.1⟩
 omega
structure kX (ar:List Int) (r:bB):Prop where
 p0:0<=r.z
 p1:r.z<(ar.length:Int)
 tl:(r.p.length:Int)=bM ar r.z.toNat
 v0:0<=r.vars
 v8:r.vars<=8
 tm:∀t,t∈r.p->QW r.vars t
 f0:0<=r.x
 f4:r.x<=4
 ff:¬r.x=0->¬r.p.length=0/\¬r.body.length=0
 b4:r.body.length<=4
 lit:∀l,l∈r.body->dX ar l=0/\∀t,t∈l.p->QW r.vars t
 safe:uC r=true
theorem aAU{g:List Int}{r:bB}(h:dT g r=0):kX g r:=by
 unfold dT at h;split at h
 ·rename_i k;unfold lG at k;obtain⟨B,C⟩:=kA.mp k;obtain⟨n,h⟩:=xM h;obtain⟨p,h⟩:=xM h;obtain⟨q,h⟩:=xM h;obtain⟨s,h⟩:=xM h;obtain⟨v,h⟩:=xM h;obtain⟨w,h⟩:=xM h;obtain⟨y,z⟩:=xM h;have m:0<=r.vars/\r.vars<=8:=by
   split at p
   ·rename_i f;exact kA.mp f
   omega
  have j:0<=r.x/\r.x<=4:=by
   split at s
   ·rename_i f;exact kA.mp f
   omega
  refine⟨B,oM,?_,m.1,m.2,fun t ht=>VM (AR q t ht),j.1,j.2,fun d=>?_,?_,fun l A=>?_,?_⟩
  ·split at n
   ·omega
   rename_i d;exact Classical.not_not.mp d
  ·split at v
   ·omega
   rename_i i;exact⟨fun e=>i ⟨d, .inl e⟩,fun e=>i ⟨d, .inr e⟩⟩
  ·split at w
   ·omega
   omega
  ·obtain⟨a,b⟩:=xM (AR y l A);exact⟨a,fun t ht=>VM (AR b t ht)⟩
  split at z
  ·assumption
  omega
 omega
structure sC (p:bC):Prop where
 a10:p.g.length<=10
 r12:p.m.length<=12
 nm:p.q.length=p.g.length
 ar:∀i,i<p.g.length->0<=bM p.g i/\bM p.g i<=3
 c:∀r,r∈p.m->kX p.g r
theorem LZ{p:bC}(h:dJ p=0):sC p:=by
 unfold dJ at h;split at h
 ·omega
 rename_i m;split at h
 ·omega
 rename_i b;obtain⟨d,e⟩:=xM h;have k:p.q.length=p.g.length:=Classical.not_not.mp b;refine⟨oM,oM,k,fun i n=>?_,fun r l=>aAU (AR e r l)⟩;have :=AR d i (jV.mpr oM);unfold jT at this;obtain⟨f,_⟩:=xM this;split at f
 ·rename_i j;exact kA.mp j
 omega
structure iQ (ar:List Int) (f:aN):Prop where
 p0:0<=f.z
 p1:f.z<(ar.length:Int)
 al:(f.args.length:Int)=bM ar f.z.toNat
 nm:∀n,n∈f.args->cP n=true
theorem UZ{p:bC}{f:aN}:iL p f.z f.args=0↔iQ p.g f:=by
 unfold iL lG;constructor
 ·intro h;split at h
  ·rename_i j;obtain⟨k,l⟩:=kA.mp j;obtain⟨d,e⟩:=xM h;refine⟨k,oM,?_,?_⟩
   ·split at d
    ·omega
    rename_i b;exact Classical.not_not.mp b
   split at e
   ·rename_i i;exact eX.mp i
   omega
  omega
 intro h;rw[if_pos (kA.mpr ⟨h.p0,by have :=h.p1;omega⟩),if_neg (fun b=>b h.al),if_pos (eX.mpr h.nm)];rfl
theorem OQ{g:List Int}{r:bB}(y:kX g r){facts:List aN}(s:∀f,f∈facts->iQ g f){l:cI}(w:l∈r.body):Fk r.vars.toNat facts l:=by
 obtain⟨b,m⟩:=y.lit l w;unfold dX at b;refine⟨fun t ht=>?_,?_,fun n=>?_,fun q=>?_,fun d f v x=>?_⟩
 ·have :=m t ht;by_cases k:t.var<0
  ·exact .inl k
  right;have :=this.hi;omega
 ·split at b
  ·rename_i d;rcases d with h|h<;>simp[h]
  split at b
  ·rename_i d;simp[d]
  split at b
  ·rename_i d;simp[d]
  omega
 ·rw[if_neg oM,if_pos n]at b;split at b
  ·split at b
   ·omega
   rename_i e;refine Classical.byContradiction fun i=>e (.inr i)
  omega
 ·rw[if_neg oM,if_neg oM,if_pos q]at b;split at b
  ·split at b
   ·omega
   rename_i e;refine Classical.byContradiction fun i=>e (.inr i)
  omega
 rw[if_pos (.inl d)]at b;split at b
 ·omega
 split at b
 ·split at b
  ·omega
  rename_i e;have A:(l.p.length:Int)=bM g l.z.toNat:=Classical.not_not.mp e;have j:=(s f v).al;rw[x]at j;omega
 omega
theorem LV{d:List Int}{r:bB}(j:kX d r){l:cI}(g:l∈r.body)(f:l.kind=1\/l.kind=2):0<=l.z/\l.z<(d.length:Int)/\(l.p.length:Int)=bM d l.z.toNat:=by
 obtain⟨b,_⟩:=j.lit l g;unfold dX at b;rw[if_pos f]at b;split at b
 ·omega
 split at b
 ·rename_i e;unfold lG at e;obtain⟨k,m⟩:=kA.mp e;split at b
  ·omega
  rename_i i;exact⟨k,oM,Classical.not_not.mp i⟩
 omega
theorem gC{d:List Int}{r:bB}(b:kX d r){facts:List aN}(e:∀f,f∈facts->iQ d f):Uk facts r:=
 ⟨b.safe,by have :=b.v8;have :=b.v0;omega,fun l g=>OQ b e g⟩
theorem aAT{d:Int}{t:dL}{x:List Int}(ht:QW d t)(g:x.length=d.toNat)(e:∀n,n∈x->cP n=true):cP (eJ x t)=true:=by
 unfold eJ;split
 ·exact ht.num
 rename_i f;(have b:t.var.toNat<x.length:=by have :=ht.hi;omega);rw[aC,aD b];exact e _ (dY b)
def bS(facts:List aN)(r:bB):List aN:=mP r (gP facts r)
section
variable {ar:List Int} {r:bB} {facts:List aN}
theorem gF(b:∀f,f∈facts->iQ ar f):∀f,f∈facts->∀n,n∈f.args->cP n=true:=fun f d=>(b f d).nm
theorem JR(b:kX ar r)(d:∀f,f∈facts->iQ ar f){x:List Int}(e:mV facts r x):iQ ar (eU r x):=by
 refine⟨b.p0,b.p1,?_,fun n g=>?_⟩
 ·show((bQ r.p x).length:Int)=_;unfold bQ;rw[aP];exact b.tl
 obtain⟨t,ht,rfl⟩:=cR.mp g;exact aAT (b.tm t ht) e.1 (OX (gC b d) (gF d) e)
theorem IU{a:List Int}(h:a≠[]):aK a++[oO a]=a:=by unfold aK oO;rw[List.getLastD_eq_getLast?,List.getLast?_eq_some_getLast h];exact List.dropLast_concat_getLast h
theorem tZ(l:kX ar r)(k:∀f,f∈facts->iQ ar f){f:aN}(b:f∈bS facts r):iQ ar f:=by
 unfold bS mP at b;rw[iK]at b;have q:∀x,x∈gP facts r->iQ ar (eU r x):=fun x i=>JR l k ((lV (gC l k) (gF k) x).mp i);unfold mQ at b;split at b
 ·obtain⟨x,i,rfl⟩:=cR.mp b;exact q x i
 rename_i s;obtain⟨g,v,d⟩:=gT.mp b;obtain⟨x,i,rfl⟩:=cR.mp v;have j:=q x i;unfold sM at d;split at d
 ·rename_i w;injection d with d;subst d;(have m:(eU r x).args≠[]:=by show bQ r.p x≠[];intro e;(have :(bQ r.p x).length=0:=by rw[e];rfl);unfold bQ at this;rw[aP]at this;exact(l.ff s).1 this);refine⟨j.p0,j.p1,?_,fun n y=>?_⟩
  ·(have e:(aK (eU r x).args++[fE r.x (fY (List.map (eU r) (gP facts r)) (aK (eU r x).args))]).length=(eU r x).args.length:=by(conv=>rhs;rw[<-IU m]);rw[bA,bA];rfl);rw[e];exact j.al
  rcases dP.mp y with h|h
  ·exact j.nm n (by rw[<-IU m];exact List.mem_append_left _ h)
  rcases cQ.mp h with rfl;exact w
 cases d
theorem CN{f:aN}(b:f∈bS facts r):f.z=r.z:=by
 unfold bS mP at b;rw[iK]at b;unfold mQ at b;split at b
 ·obtain⟨x,i,rfl⟩:=cR.mp b;rfl
 obtain⟨g,e,d⟩:=gT.mp b;obtain⟨x,i,rfl⟩:=cR.mp e;unfold sM at d;split at d
 ·injection d with d;subst d;rfl
 cases d
end
theorem JS{l:cI}{x:List Int}{S T:List aN}(h:l.kind=1\/l.kind=2->∀a,(⟨l.z,a⟩:aN)∈S↔(⟨l.z,a⟩:aN)∈T):fF S l x=fF T l x:=by
 unfold fF;(have e:l.kind=1\/l.kind=2->jZ S ⟨l.z,bQ l.p x⟩=jZ T ⟨l.z,bQ l.p x⟩:=fun f=>by rw[CC,lD,lD];exact h f _);split
 ·rename_i b;exact e (.inl b)
 split
 ·rename_i d;rw[e (.inr d)]
 rfl
theorem VJ{r:bB}{x:List Int}{S T:List aN}(h:∀l,l∈r.body->l.kind=1\/l.kind=2->∀a,(⟨l.z,a⟩:aN)∈S↔(⟨l.z,a⟩:aN)∈T):mV S r x↔mV T r x:=by
 unfold mV;constructor
 ·rintro⟨d,e⟩;exact⟨d,fun l b=>by rw[<-JS (h l b)];exact e l b⟩
 rintro⟨d,e⟩;exact⟨d,fun l b=>by rw[JS (h l b)];exact e l b⟩
section
variable {ar:List Int} {r:bB} {S T:List aN}
theorem VP(e:kX ar r)(b:∀f,f∈S->iQ ar f)(d:∀f,f∈T->iQ ar f)(g:S.Nodup)(i:T.Nodup)(h:∀x,mV S r x↔mV T r x):(gP S r).Perm (gP T r):=
 (DA (rP (gC e b) (gF b) g) (rP (gC e d) (gF d) i)).mpr fun x=>(lV (gC e b) (gF b) x).trans ((h x).trans (lV (gC e d) (gF d) x).symm)
theorem Fw(e:kX ar r)(b:∀f,f∈S->iQ ar f)(d:∀f,f∈T->iQ ar f)(g:S.Nodup)(i:T.Nodup)(h:∀x,mV S r x↔mV T r x):bS S r=bS T r:=zP r (VP e b d g i h)
theorem aH6(d:kX ar r)(b:∀f,f∈S->iQ ar f)(e:∀f,f∈T->iQ ar f)(i:S.Nodup)(h:∀x,mV S r x->mV T r x):(gP S r).length<=(gP T r).length:=by refine(rP (gC d b) (gF b) i).length_le_of_subset fun x g=>?_;exact(lV (gC d e) (gF e) x).mpr (h x ((lV (gC d b) (gF b) x).mp g))
theorem aO2(g:kX ar r)(d:∀f,f∈S->iQ ar f)(e:∀f,f∈T->iQ ar f)(i:r.x=0)(h:∀x,mV S r x->mV T r x){f:aN}(b:f∈bS S r):f∈bS T r:=
 Mx i (fun x b=>(lV (gC g e) (gF e) x).mpr (h x ((lV (gC g d) (gF d) x).mp b))) f b
end
end Go.Proofs.YthenjegmigeieaaGreat
namespace Go.Proofs.YthenjegmigeieaaGreat
abbrev fA:=Nat×Nat×Int
def aY(l:List Int)(e:fA):List Int:=if l.getD e.1 0<l.getD e.2.1 0+e.2.2 then l.set e.1 (l.getD e.2.1 0+e.2.2)else l
def aO(E:List fA)(l:List Int):List Int:=E.foldl aY l
def dN(E:List fA):Nat->List Int->List Int
 |0,l=>l
 |k+1,l=>dN E k (aO E l)
def oJ(l o:List Int):Prop:=l.length=o.length/\∀i:Nat,l.getD i 0<=o.getD i 0
def aOQ(E:List fA)(o:List Int):Prop:=∀e,e∈E->o.getD e.2.1 0+e.2.2<=o.getD e.1 0
def qO(E:List fA)(n:Nat):Prop:=∀e,e∈E->e.1<n
theorem oJ.refl(l:List Int):oJ l l:=⟨rfl,fun _=>zL _⟩
theorem oJ.trans{a b c:List Int}(h:oJ a b)(k:oJ b c):oJ a c:=⟨h.1.trans k.1,fun i=>EP (h.2 i) (k.2 i)⟩
theorem oJ.anti{a b:List Int}(h:oJ a b)(k:oJ b a):a=b:=by refine EI h.1 fun i d e=>?_;have :=Int.le_antisymm (h.2 i) (k.2 i);rw[aC,aC,aD d,aD e]at this;exact this
theorem DO(l:List Int)(h i:Nat)(v:Int):(l.set h v).getD i 0=if i=h/\h<l.length then v else l.getD i 0:=by
 rw[aC,fS,aC];by_cases b:h=i
 ·subst b;by_cases d:h<l.length
  ·simp[d]
  simp[d]
 rw[if_neg b,if_neg (fun h=>b h.1.symm)]
theorem LO(l:List Int)(e:fA):oJ l (aY l e):=by
 unfold aY;split
 ·rename_i h;refine⟨by simp,fun i=>?_⟩;rw[DO];split
  ·rename_i b;rw[b.1];omega
  exact zL _
 exact oJ.refl l
theorem Ed(l:List Int)(e:fA):(aY l e).length=l.length:=(LO l e).1.symm
theorem pR:∀(E:List fA)(l:List Int),oJ l (aO E l)
 |[],l=>oJ.refl l
 |e::E,l=>(LO l e).trans (pR E (aY l e))
theorem sG(E:List fA)(l:List Int):(aO E l).length=l.length:=(pR E l).1.symm
theorem ZG{l o:List Int}{e:fA}(h:oJ l o)(d:o.getD e.2.1 0+e.2.2<=o.getD e.1 0):oJ (aY l e) o:=by
 unfold aY;split
 ·refine⟨by simp[h.1],fun i=>?_⟩;rw[DO];split
  ·rename_i b;rw[b.1];have :=h.2 e.2.1;omega
  exact h.2 i
 exact h
theorem BI:∀(E:List fA){l o:List Int},oJ l o->aOQ E o->oJ (aO E l) o
 |[],_,_,h,_=>h
 |e::E,_,_,h,hf=>BI E (ZG h (hf e dC)) (fun b d=>hf b (bO _ d))
theorem Bw{l:List Int}{e:fA}(h:e.1<l.length):l.getD e.2.1 0+e.2.2<=(aY l e).getD e.1 0:=by
 unfold aY;split
 ·rw[DO,if_pos ⟨rfl,h⟩];exact zL _
 rename_i b;omega
theorem CH:∀(E:List fA){l:List Int},qO E l.length->∀e,e∈E->l.getD e.2.1 0+e.2.2<=(aO E l).getD e.1 0
 |e0::E,l,hi,e,b=>by
  rcases eQ.mp b with rfl|b
  ·exact EP (Bw (hi _ dC)) ((pR E (aY l e)).2 _)
  have g:=CH E (l:=aY l e0) (fun d f=>by rw[Ed];exact hi d (bO _ f)) e b;have i:=(LO l e0).2 e.2.1;show _<=(aO E (aY l e0)).getD e.1 0;omega
theorem DB{E:List fA}{l:List Int}(d:qO E l.length)(h:aO E l=l):aOQ E l:=fun e b=>by have :=CH E d e b;rw[h]at this;exact this
theorem rL(E:List fA):∀(k:Nat)(l:List Int),dN E (k+1) l=aO E (dN E k l)
 |0,_=>rfl
 |k+1,l=>by show dN E (k+1) (aO E l)=_;rw[rL E k (aO E l)];rfl
theorem AJ(E:List fA):∀(k:Nat)(l:List Int),oJ l (dN E k l)
 |0,l=>oJ.refl l
 |k+1,l=>(pR E l).trans (AJ E k (aO E l))
theorem pG(E:List fA)(k:Nat)(l:List Int):(dN E k l).length=l.length:=(AJ E k l).1.symm
theorem DP(E:List fA):∀(k:Nat){l o:List Int},oJ l o->aOQ E o->oJ (dN E k l) o
 |0,_,_,h,_=>h
 |k+1,_,_,h,b=>DP E k (BI E h b) b
theorem IN(E:List fA):∀(j k:Nat)(l:List Int),dN E (j+k) l=dN E k (dN E j l)
 |0,k,l=>by rw[dV];rfl
 |j+1,k,l=>by rw[Nat.add_right_comm];exact IN E j k (aO E l)
theorem NZ{E:List fA}{l:List Int}(h:aO E l=l):∀k,dN E k l=l
 |0=>rfl
 |k+1=>by rw[rL,NZ h k,h]
end Go.Proofs.YthenjegmigeieaaGreat
namespace Go.Proofs.YthenjegmigeieaaGreat
def pL(x:cI):Bool:=decide (x.kind=1\/x.kind=2)
def lH(r:bB)(x:cI):Int:=if x.kind=2\/r.x≠0 then 1 else 0
def BV(r:bB):List fA:=(r.body.filter pL).map fun x=>(r.z.toNat,x.z.toNat,lH r x)
def dK(p:bC):List fA:=p.m.flatMap BV
def dH(n:Nat):List Int:=List.replicate n 0
def iM(p:bC):List Int:=dN (dK p) p.g.length (dH p.g.length)
def uW(p:bC):Bool:=decide (aO (dK p) (iM p)=iM p)
theorem DI(n i:Nat):(dH n).getD i 0=0:=by unfold dH;rw[aC,pO];split<;>rfl
theorem Ac{o:List Int}(h:∀i:Nat,0<=o.getD i 0):oJ (dH o.length) o:=⟨by simp[dH],fun i=>by rw[DI];exact h i⟩
theorem pM(p:bC):(iM p).length=p.g.length:=by unfold iM;rw[pG];simp[dH]
theorem EL(p:bC)(i:Nat):0<=(iM p).getD i 0:=by have :=(AJ (dK p) p.g.length (dH p.g.length)).2 i;rw[DI]at this;exact this
def FD(p:bC)(o:List Int):Prop:=o.length=p.g.length/\(∀i:Nat,0<=o.getD i 0)/\aOQ (dK p) o
theorem aO5{p:bC}{o:List Int}(h:FD p o)(i:Nat):(iM p).getD i 0<=o.getD i 0:=by(have b:oJ (dH p.g.length) o:=by rw[<-h.1];exact Ac h.2.1);exact(DP (dK p) p.g.length b h.2.2).2 i
theorem Nm{p:bC}(b:qO (dK p) p.g.length)(h:uW p=true):FD p (iM p):=
 ⟨pM p,EL p,DB (by rw[pM];exact b) (eL h)⟩
end Go.Proofs.YthenjegmigeieaaGreat
namespace Go.Proofs.YthenjegmigeieaaGreat
def oE(p:bC)(k:Int):Int:=(iM p).getD k.toNat 0
structure Ym (p:bC):Prop where
 ok:sC p
 fit:aOQ (dK p) (iM p)
theorem vW{p:bC}(h:dJ p=0)(j:uW p=true):Ym p:=by have b:=LZ h;refine⟨b,(Nm ?_ j).2.2⟩;intro e i;obtain⟨r,f,d⟩:=kJ.mp i;obtain⟨x,_,rfl⟩:=cR.mp d;have k:=(b.c r f).p0;have d:=(b.c r f).p1;show r.z.toNat<p.g.length;omega
theorem Ew{p:bC}(h:Ym p){r:bB}(e:r∈p.m){l:cI}(d:l∈r.body)(b:l.kind=1\/l.kind=2):oE p l.z+lH r l<=oE p r.z:=by refine h.fit (r.z.toNat,l.z.toNat,lH r l) ?_;unfold dK;rw[kJ];refine⟨r,e,cR.mpr ⟨l,mX.mpr ⟨d,aQ b⟩,rfl⟩⟩
structure jL (p:bC) (S:List aN):Prop where
 right:∀f,f∈S->iQ p.g f
 up:vN S
theorem kW{S:List aN}(h:vN S):S.Nodup:=h.imp fun {a b} d e=>by subst e;exact zM.irrefl _ d
def aA(p:bC)(k:Int)(S T:List aN):Prop:=∀f:aN,oE p f.z<k->(f∈S↔f∈T)
section
variable {p:bC} {S T:List aN} {k:Int} {r:bB}
theorem OI(i:Ym p)(j:r∈p.m)(q:oE p r.z=k)(g:aA p k S T)(n:∀f,f∈S->f∈T){x:List Int}(h:mV S r x):mV T r x:=by
 refine⟨h.1,fun l e=>?_⟩;have d:=h.2 l e;by_cases b:l.kind=2
 ·have s:=Ew i j e (.inr b);(have v:lH r l=1:=by unfold lH;rw[if_pos (.inl b)]);rw[<-JS (S:=S) (fun _ a=>g ⟨l.z,a⟩ (by show oE p l.z<k;omega))];exact d
 exact RX b n d
theorem aDS(g:Ym p)(i:r∈p.m)(j:oE p r.z=k)(d:¬r.x=0)(b:aA p k S T)(x:List Int):mV S r x↔mV T r x:=by refine VJ fun l f e a=>b _ ?_;have n:=Ew g i f e;(have q:lH r l=1:=by unfold lH;rw[if_pos (.inr d)]);show oE p l.z<k;omega
theorem SY(b:Ym p)(d:r∈p.m)(l:oE p r.z=k)(e:jL p S)(g:jL p T)(i:aA p k S T)(n:∀f,f∈S->f∈T){f:aN}(h:f∈bS S r):f∈bS T r:=by
 by_cases j:r.x=0
 ·exact aO2 (b.ok.c r d) e.right g.right j (fun x q=>OI b d l i n q) h
 rw[<-Fw (b.ok.c r d) e.right g.right (kW e.up) (kW g.up) (aDS b d l j i)];exact h
theorem Zk(d:Ym p)(e:r∈p.m)(j:oE p r.z=k)(b:jL p S)(g:jL p T)(i:aA p k S T)(l:∀f,f∈S->f∈T):(gP S r).length<=(gP T r).length:=
 aH6 (d.ok.c r e) b.right g.right (kW b.up) fun _ n=>OI d e j i l n
end
structure OA (p:bC) (k:Int) (S T:List aN):Prop where
 sub:∀f,f∈S->f∈T
 new:∀f,f∈T->f∈S\/∃r,r∈p.m/\oE p r.z=k/\f∈bS S r
 up:vN T
inductive jR (p:bC) (k:Int) (m:List aN):List aN->Prop
 |refl:jR p k m m
 |step {S T:List aN}:jR p k m S->OA p k S T->jR p k m T
def aWL(p:bC)(k:Int)(S:List aN):Prop:=∀r,r∈p.m->oE p r.z=k->∀f,f∈bS S r->f∈S
structure OC (p:bC) (k:Int) (S:List aN):Prop where
 len:S.length<=60
 way:∀r,r∈p.m->oE p r.z=k->(gP S r).length<=2000
section
variable {p:bC} {k:Int} {m:List aN}
theorem Em(g:Ym p){S T:List aN}(d:jL p S)(h:OA p k S T):jL p T:=by
 refine⟨fun f e=>?_,h.up⟩;rcases h.new f e with b|⟨r,i,_,b⟩
 ·exact d.right f b
 exact tZ (g.ok.c r i) d.right b
theorem Ek{S T:List aN}(h:OA p k S T):aA p k S T:=fun f e=>by
 refine⟨h.sub f,fun d=>?_⟩;rcases h.new f d with b|⟨r,i,g,b⟩
 ·exact b
 rw[CN b]at e;omega
theorem oF(l:Ym p)(j:jL p m){S:List aN}(h:jR p k m S):jL p S/\aA p k m S/\∀f,f∈m->f∈S:=by
 induction h with
 |refl=>exact⟨j,fun _ _=>Iff.rfl,fun _ h=>h⟩
 |step _ d n=>
  obtain⟨e,g,i⟩:=n;exact⟨Em l e d,fun f b=>(g f b).trans (Ek d f b),fun f b=>d.sub f (i f b)⟩
theorem DR(i:Ym p)(y:jL p m){S T:List aN}(h:jR p k m S)(s:jL p T)(v:aA p k m T)(A:∀f,f∈m->f∈T)(w:aWL p k T):∀f,f∈S->f∈T:=by
 induction h with
 |refl=>exact A
 |step z b l=>
  obtain⟨n,q,_⟩:=oF i y z;intro f x;rcases b.new f x with d|⟨r,j,e,d⟩
  ·exact l f d
  refine w r j e f (SY i j e n s (fun g b=>?_) l d);exact(q g b).symm.trans (v g b)
theorem Zg(d:Ym p)(b:jL p m){S T:List aN}(e:jR p k m S)(l:aWL p k S)(g:jR p k m T)(n:aWL p k T):S=T:=by obtain⟨i,q,r⟩:=oF d b e;obtain⟨j,s,v⟩:=oF d b g;exact KU i.up j.up fun f=>⟨DR d b e j s v n f,DR d b g i q r l f⟩
theorem Mc(b:Ym p)(d:jL p m){S T:List aN}(e:jR p k m S)(w:jR p k m T)(v:aWL p k T)(h:OC p k T):OC p k S:=by obtain⟨n,x,z⟩:=oF b d e;obtain⟨q,s,y⟩:=oF b d w;have i:=DR b d e q s y v;refine⟨bH ((kW n.up).length_le_of_subset i) h.len,fun r l j=>?_⟩;exact bH (Zk b l j n q (fun f g=>(x f g).symm.trans (s f g)) i) (h.way r l j)
end
def rD(p:bC)(k:Int)(m:List aN):Option (List aN)->Prop
 |some S=>jR p k m S/\aWL p k S/\OC p k S
 |none=>∀S,jR p k m S->aWL p k S->OC p k S->False
theorem Ly{p:bC}{k:Int}{m:List aN}(g:Ym p)(f:jL p m):∀{a b:Option (List aN)},rD p k m a->rD p k m b->a=b
 |some S,some T,d,e=>by rw[Zg g f d.1 d.2.1 e.1 e.2.1]
 |some S,none,d,e=>(e S d.1 d.2.1 d.2.2).elim
 |none,some S,d,e=>(d S e.1 e.2.1 e.2.2).elim
 |none,none,_,_=>rfl
def qT(p:bC)(m:List aN):Nat->Option (List aN)->Prop
 |0,o=>o=some m
 |n+1,o=>∃a,qT p m n a/\(match a with
  |none=>o=none
  |some S=>rD p n S o)
theorem lZ{p:bC}{m:List aN}(e:Ym p)(d:jL p m):∀{n:Nat}{S:List aN},qT p m n (some S)->jL p S
 |0,S,h=>by unfold qT at h;injection h with h;subst h;exact d
 |n+1,S,h=>by
  obtain⟨a,f,b⟩:=h
  cases a with
  |none=>cases b
  |some T=>exact(oF e (lZ e d f) b.1).1
theorem LQ{p:bC}{m:List aN}(i:Ym p)(q:jL p m):∀{n:Nat}{a b:Option (List aN)},qT p m n a->qT p m n b->a=b
 |0,_,_,f,g=>by unfold qT at f g;rw[f,g]
 |n+1,a,b,f,g=>by
  obtain⟨c,j,k⟩:=f;obtain⟨d,r,l⟩:=g;have e:=LQ i q j r;subst e
  cases c with
  |none=>rw[k,l]
  |some S=>exact Ly i (lZ i q j) k l
def oV(p:bC)(l:List aN)(o:Option (List aN)):Prop:=qT p (dR l) p.g.length o
theorem nM{p:bC}{l:List aN}(h:∀f,f∈l->iQ p.g f):jL p (dR l):=⟨fun f b=>h f (iK.mp b),(kV l).1⟩
theorem Yz{p:bC}{l:List aN}(i:Ym p)(e:∀f,f∈l->iQ p.g f){a b:Option (List aN)}(h1:oV p l a)(d:oV p l b):a=b:=LQ i (nM e) h1 d
section
variable {p:bC} {m:List aN}
theorem RP(f:Ym p){r:bB}(g:r∈p.m){k:Int}(i:oE p r.z<k){S T:List aN}(b:aA p k S T)(x:List Int):mV S r x↔mV T r x:=by refine VJ fun l e d a=>b _ ?_;have j:=Ew f g e d;(have n:0<=lH r l:=by unfold lH;split<;>omega);show oE p l.z<k;omega
theorem Zf(d:Ym p)(j:jL p m){k:Int}{S T:List aN}(h:jR p k m S)(x:jR p k m T)(w:aWL p k T):∀f,f∈S->f∈m\/∃r,r∈p.m/\oE p r.z=k/\f∈bS T r:=by
 induction h with
 |refl=>exact fun f i=>.inl i
 |step n b y=>
  intro f i;rcases b.new f i with e|⟨r,q,l,e⟩
  ·exact y f e
  obtain⟨A,B,_⟩:=oF d j n;obtain⟨s,v,C⟩:=oF d j x;exact .inr ⟨r,q,l,SY d q l A s (fun g b=>(B g b).symm.trans (v g b)) (DR d j n s v C w) e⟩
structure aRB (p:bC) (m:List aN) (n:Int) (S:List aN):Prop where
 closed:∀r,r∈p.m->oE p r.z<n->∀f,f∈bS S r->f∈S
 way:∀r,r∈p.m->oE p r.z<n->(gP S r).length<=2000
 from_:∀f,f∈S->f∈m\/∃r,r∈p.m/\oE p r.z<n/\f∈bS S r
theorem Yy(p:bC)(k:Int):0<=oE p k:=EL p k.toNat
theorem ZN(g:Ym p)(A:jL p m):∀{n:Nat}{S:List aN},qT p m n (some S)->aRB p m n S
 |0,S,h=>by unfold qT at h;injection h with h;subst h;refine⟨fun r _ d=>?_,fun r _ d=>?_,fun f k=>.inl k⟩<;> ·have :=Yy p r.z;omega
 |n+1,S,h=>by
  obtain⟨a,x,i⟩:=h
  cases a with
  |none=>cases i
  |some T=>
   have w:=ZN g A x;have j:=lZ g A x;obtain⟨q,y,C⟩:=oF g j i.1;have B:∀r,r∈p.m->oE p r.z<n->bS T r=bS S r:=fun r b d=>Fw (g.ok.c r b) j.right q.right (kW j.up) (kW q.up) (RP g b d y);refine⟨fun r b d f k=>?_,fun r b d=>?_,fun f k=>?_⟩
   ·by_cases e:oE p r.z=n
    ·exact i.2.1 r b e f k
    have l:oE p r.z<n:=oM;exact C f (w.closed r b l f (by rw[B r b l];exact k))
   ·by_cases e:oE p r.z=n
    ·exact i.2.2.way r b e
    have l:oE p r.z<n:=oM;rw[<-(VP (g.ok.c r b) j.right q.right (kW j.up) (kW q.up) (RP g b l y)).length_eq];exact w.way r b l
   rcases Zf g j i.1 i.1 i.2.1 f k with s|⟨r,b,d,s⟩
   ·rcases w.from_ f s with v|⟨r,b,d,v⟩
    ·exact .inl v
    exact .inr ⟨r,b,oM,by rw[<-B r b d];exact v⟩
   exact .inr ⟨r,b,oM,s⟩
end
theorem aOT{p:bC}(b:Ym p){r:bB}(d:r∈p.m)(e:∀i:Nat,i<p.g.length->(iM p).getD i 0<(p.g.length:Int)):oE p r.z<p.g.length:=by have f:=(b.ok.c r d).p0;have j:=(b.ok.c r d).p1;exact e r.z.toNat oM
end Go.Proofs.YthenjegmigeieaaGreat
namespace Go.Proofs.YthenjegmigeieaaGreat
theorem aA9(r:bB)(x:cI):lH r x<=1:=by unfold lH;split<;>omega
theorem aES{p:bC}:∀e,e∈dK p->e.2.2<=1:=fun e d=>by obtain⟨r,_,b⟩:=kJ.mp d;obtain⟨x,_,rfl⟩:=cR.mp b;exact aA9 r x
theorem Hd{p:bC}(l:FD p (iM p))(y:∀e,e∈dK p->e.2.1<p.g.length){v:Int}(h0:0<=v){i:Nat}(q:v<(iM p).getD i 0):v∈iM p:=by
 refine Classical.byContradiction fun w=>?_;obtain⟨F,k⟩:∃F,F=iM p:=⟨_,rfl⟩;have s:F.length=p.g.length:=k▸pM p;rw[<-k]at l q w;obtain⟨G,m⟩:∃G:List Int,G=F.map (fun n=>if v<n then n-1 else n):=⟨_,rfl⟩;have f:∀j:Nat,G.getD j 0=if v<F.getD j 0 then F.getD j 0-1 else F.getD j 0:=fun j=>by
  rw[m,aC,cY,aC]
  cases F[j]? with
  |none=>simp;omega
  |some b=>rfl
 (have z:∀j:Nat,j<F.length->F.getD j 0≠v:=fun j r d=>by refine w ?_;rw[<-d,aC,aD r];exact dY r);have x:FD p G:=by
  refine⟨by rw[m,aP];exact s,fun j=>?_,fun e d=>?_⟩
  ·rw[f j];have :=l.2.1 j;split<;>omega
  have A:=l.2.2 e d;have B:=aES e d;rw[f,f];have C:=z _ (s▸y e d);split<;>split<;>omega
 have :=aO5 x i;rw[<-k,f i,if_pos q]at this;omega
theorem aET{p:bC}(k:FD p (iM p))(m:∀e,e∈dK p->e.2.1<p.g.length){i:Nat}(l:i<p.g.length):(iM p).getD i 0<(p.g.length:Int):=by
 refine Classical.byContradiction fun w=>?_;have r:∀v,v∈((List.range p.g.length).map (fun(n:Nat)=>(n:Int)))++[(iM p).getD i 0]->v∈iM p:=fun v s=>by
  rcases dP.mp s with h|h
  ·obtain⟨n,d,rfl⟩:=cR.mp h;have :=jV.mp d;exact Hd k m oM (i:=i) oM
  rw[cQ.mp h,aC,aD (by rw[pM];exact l)];exact dY _
 have q:(((List.range p.g.length).map (fun(n:Nat)=>(n:Int)))++[(iM p).getD i 0]).Nodup:=by
  rw[XQ];refine⟨?_,by simp,fun a f b j e=>?_⟩
  ·rw[List.nodup_iff_pairwise_ne,yL];exact(List.nodup_iff_pairwise_ne.mp List.nodup_range).imp fun {a b} h e=>h oM
  obtain⟨n,d,rfl⟩:=cR.mp f;have :=jV.mp d;have :=cQ.mp j;omega
 have :=q.length_le_of_subset r;rw[pM]at this;simp at this;omega
theorem Yq{p:bC}(h:Ym p):FD p (iM p):=⟨pM p,EL p,h.fit⟩
theorem aHO{p:bC}(h:Ym p):∀e,e∈dK p->e.2.1<p.g.length:=fun e i=>by obtain⟨r,j,b⟩:=kJ.mp i;obtain⟨x,k,rfl⟩:=cR.mp b;obtain⟨d,f⟩:=mX.mp k;have :=LV (h.ok.c r j) d (eL f);show x.z.toNat<_;omega
theorem Tx{p:bC}(h:Ym p){r:bB}(d:r∈p.m):oE p r.z<p.g.length:=aOT h d fun _ b=>aET (Yq h) (aHO h) b
theorem xA{p:bC}{l S:List aN}(e:Ym p)(k:∀f,f∈l->iQ p.g f)(h:oV p l (some S)):
 (∀r,r∈p.m->∀f,f∈bS S r->f∈S)/\(∀r,r∈p.m->(gP S r).length<=2000)/\∀f,f∈S->f∈l\/∃r,r∈p.m/\f∈bS S r:=by
 have i:=ZN e (nM k) h;refine⟨fun r b=>i.closed r b (Tx e b),fun r b=>i.way r b (Tx e b),fun f j=>?_⟩;rcases i.from_ f j with d|⟨r,b,_,d⟩
 ·exact .inl (iK.mp d)
 exact .inr ⟨r,b,d⟩
end Go.Proofs.YthenjegmigeieaaGreat
namespace Go.Proofs.YthenjegmigeieaaGreat
structure eC where
 d:aN
 c:Int
 vars:List Int
def mF(p:bC)(i:Int):bB:=aW p.m i.toNat
def uF(r:bB)(x:List Int):List aN:=(r.body.filter fun l=>decide (l.kind=1)).map fun l=>⟨l.z,bQ l.p x⟩
def fV(p:bC)(s:eC):List aN:=if s.c= -1\/¬(mF p s.c).x=0 then [] else uF (mF p s.c) s.vars
def rQ(s:eC)(f:aN):Bool:=eV s.d f==0
theorem yB{s:eC}{f:aN}:rQ s f=true↔s.d=f:=by unfold rQ;rw[mN];exact pU
def gQ(st:List eC)(f:aN):Bool:=st.any fun s=>rQ s f
theorem rR{st:List eC}{f:aN}:gQ st f=true↔∃s,s∈st/\s.d=f:=by unfold gQ;rw[kI];exact⟨fun⟨s,b,e⟩=>⟨s,b,yB.mp e⟩,fun⟨s,b,e⟩=>⟨s,b,yB.mpr e⟩⟩
def lS(p:bC)(b:List eC)(s:eC):Bool:=(fV p s).all (gQ b)
theorem oT{p:bC}{b:List eC}{s:eC}:lS p b s=true↔∀f,f∈fV p s->gQ b f=true:=eX
def oZ(r:bB)(x:List Int):List Int:=if r.x=0 then bQ r.p x else aK (bQ r.p x)
def lT(a:List Int)(h:aN):Bool:=decide (h.args.take a.length=a)
def tF(p:bC)(i:Nat)(H:List aN)(x:List Int):Option eC:=
 (H.find? (lT (oZ (aW p.m i) x))).map fun h=>⟨h,i,x⟩
def yC(p:bC)(m:List aN)(i:Nat):List eC:=(rX (gP m (aW p.m i))).filterMap (tF p i (bS m (aW p.m i)))
def kD(p:bC)(l m:List aN):List eC:=(dR l).map (fun f=>⟨f, -1,[]⟩)++(List.range p.m.length).flatMap (yC p m)
def aWP(p:bC)(l m:List aN)(s:eC):Prop:=
 (s.c= -1/\s.vars=[]/\s.d∈l)\/
 (0<=s.c/\s.c<(p.m.length:Int)/\mV m (mF p s.c) s.vars/\
  ((mF p s.c).x=0->s.d=eU (mF p s.c) s.vars)/\
  (¬(mF p s.c).x=0->s.d∈bS m (mF p s.c)/\aK s.d.args=aK (bQ (mF p s.c).p s.vars)))
theorem vF(b:List dL)(x:List Int):(bQ b x).length=b.length:=by unfold bQ;rw[aP]
theorem aRP{l:List bB}{i:Nat}(h:i<l.length):aW l i∈l:=by unfold aW;rw[aC,aD h];exact dY h
section
variable {ar:List Int} {r:bB} {m:List aN}
theorem GS(i:r.x=0)(g:kX ar r)(b:∀f,f∈m->iQ ar f){f:aN}:f∈bS m r↔∃x,mV m r x/\f=eU r x:=by unfold bS mP mQ;rw[iK,if_pos i,cR];exact⟨fun⟨x,d,e⟩=>⟨x,(lV (gC g b) (gF b) x).mp d,e.symm⟩,fun⟨x,d,e⟩=>⟨x,(lV (gC g b) (gF b) x).mpr d,e.symm⟩⟩
theorem aMG(l:¬r.x=0){f g:aN}(h1:f∈bS m r)(d:g∈bS m r)(e:aK f.args=aK g.args):f=g:=by
 unfold bS mP mQ at h1 d;rw[iK,if_neg l]at h1 d;obtain⟨a,j,h1⟩:=gT.mp h1;obtain⟨b,k,d⟩:=gT.mp d;obtain⟨x,_,rfl⟩:=cR.mp j;obtain⟨y,_,rfl⟩:=cR.mp k;unfold sM at h1 d;split at h1
 ·split at d
  ·injection h1 with h1;injection d with d;subst h1 d;(have i:∀(a:List Int)(n:Int),aK (a++[n])=a:=fun a n=>by unfold aK;simp);simp only[i]at e;rw[e];rfl
  cases d
 cases h1
theorem aMH(e:¬r.x=0)(g:kX ar r)(b:∀f,f∈m->iQ ar f){f:aN}(h1:f∈bS m r):∃x,mV m r x/\aK f.args=aK (bQ r.p x):=by
 unfold bS mP mQ at h1;rw[iK,if_neg e]at h1;obtain⟨a,d,h1⟩:=gT.mp h1;obtain⟨x,i,rfl⟩:=cR.mp d;unfold sM at h1;split at h1
 ·injection h1 with h1;subst h1;refine⟨x,(lV (gC g b) (gF b) x).mp i,?_⟩;unfold aK;simp only[List.dropLast_concat];rfl
 cases h1
theorem aE3{a:List Int}{n:Nat}(h:a.length=n):a.take (n-1)=aK a:=by unfold aK;rw[CD,h]
theorem KI(l:r.x=0)(g:kX ar r)(k:∀f,f∈m->iQ ar f){x:List Int}{h:aN}(hh:h∈bS m r):lT (oZ r x) h=true↔h=eU r x:=by have i:=tZ g k hh;(have j:h.args.length=r.p.length:=by have a:=i.al;rw[CN hh]at a;have b:=g.tl;omega);unfold lT oZ;rw[if_pos l,CF,vF,<-j,lA];refine⟨fun e=>?_,fun e=>by rw[e];rfl⟩;have d:=CN hh;cases h;unfold eU;simp only at d e;rw[d,e]
theorem KH(k:¬r.x=0)(d:kX ar r)(j:∀f,f∈m->iQ ar f){x:List Int}{h:aN}(hh:h∈bS m r):lT (oZ r x) h=true↔aK h.args=aK (bQ r.p x):=by have e:=tZ d j hh;(have g:h.args.length=r.p.length:=by have a:=e.al;rw[CN hh]at a;have b:=d.tl;omega);unfold lT oZ;(have i:(aK (bQ r.p x)).length=r.p.length-1:=by unfold aK;rw[List.length_dropLast,vF]);rw[if_neg k,CF,i,aE3 g]
end
theorem WE{p:bC}(I:sC p){l m:List aN}(e:∀f,f∈m->iQ p.g f){s:eC}:s∈kD p l m↔aWP p l m s:=by
 unfold kD;rw[dP,cR,kJ];constructor
 ·rintro(⟨f,b,rfl⟩|⟨i,E,y⟩)
  ·exact .inl ⟨rfl,rfl,iK.mp b⟩
  have E:=jV.mp E;obtain⟨x,J,y⟩:=gT.mp y;obtain⟨r,k⟩:∃r,r=aW p.m i:=⟨_,rfl⟩;have j:=I.c r (k▸aRP E);unfold tF at y;rw[<-k]at y J;obtain⟨h,n,rfl⟩:=Option.map_eq_some_iff.mp y;have D:=List.mem_of_find?_eq_some n;have F:=List.find?_some n;have w:mF p ((i:Nat):Int)=r:=k.symm;refine .inr ⟨by simp,by simp;omega,?_,fun b=>?_,fun b=>?_⟩
  ·rw[w];exact(lV (gC j e) (gF e) x).mp (xT.mp J)
  ·simp only[w]at b ⊢;exact(KI b j e D).mp F
  simp only[w]at b ⊢;exact⟨D,(KH b j e D).mp F⟩
 rintro(⟨n,q,v⟩|⟨M,n,q,v,z⟩)
 ·refine .inl ⟨s.d,iK.mpr v,?_⟩;cases s;simp only at n q;rw[n,q]
 refine .inr ⟨s.c.toNat,jV.mpr oM,?_⟩;obtain⟨r,k⟩:∃r,r=aW p.m s.c.toNat:=⟨_,rfl⟩;have j:=I.c r (k▸aRP oM);have w:mF p s.c=r:=k.symm;rw[w]at q v z;unfold yC;rw[gT,<-k];refine⟨s.vars,xT.mpr ((lV (gC j e) (gF e) _).mpr q),?_⟩;have A:s.d∈bS m r:=by
  by_cases b:r.x=0
  ·exact(GS b j e).mpr ⟨_,q,v b⟩
  exact(z b).1
 have L:lT (oZ r s.vars) s.d=true:=by
  by_cases b:r.x=0
  ·exact(KI b j e A).mpr (v b)
  exact(KH b j e A).mpr (z b).2
 unfold tF;rw[<-k];obtain⟨g,B⟩:∃g,(bS m r).find? (lT (oZ r s.vars))=some g:=by
  cases G:(bS m r).find? (lT (oZ r s.vars))with
  |none=>exact absurd L (by rw[List.find?_eq_none]at G;exact G _ A)
  |some g=>exact⟨g,rfl⟩
 have C:=List.mem_of_find?_eq_some B;have H:=List.find?_some B;have K:g=s.d:=by
  by_cases b:r.x=0
  ·rw[v b];exact(KI b j e C).mp H
  exact aMG b C A (((KH b j e C).mp H).trans (z b).2.symm)
 rw[B,K];show some (eC.mk s.d ((s.c.toNat:Nat):Int) s.vars)=some s;have :((s.c.toNat:Nat):Int)=s.c:=oM;rw[this]
section
variable {p:bC} {l M:List aN}
theorem aIF(y:sC p)(v:∀f,f∈M->iQ p.g f)(w:∀f,f∈l->f∈M)(j:∀r,r∈p.m->∀f,f∈bS M r->f∈M){s:eC}(h:aWP p l M s):s.d∈M:=by
 rcases h with⟨_,_,h⟩|⟨z,A,k,n,q⟩
 ·exact w _ h
 have e:=aRP (l:=p.m) (i:=s.c.toNat) oM;by_cases b:(mF p s.c).x=0
 ·refine j _ e _ ?_;exact(GS (r:=mF p s.c) b (y.c _ e) v).mpr ⟨_,k,n b⟩
 exact j _ e _ (q b).1
end
section
variable {p:bC} {M:List aN}
theorem MQ{m:List aN}(b:Ym p)(j:jL p m):∀{n k:Nat}{S T:List aN},qT p m n (some S)->qT p m (n+k) (some T)->aA p n S T/\∀f,f∈S->f∈T
 |n,0,S,T,d,g=>by have e:=LQ b j d g;injection e with e;subst e;exact⟨fun _ _=>Iff.rfl,fun _ h=>h⟩
 |n,k+1,S,T,d,g=>by
  obtain⟨a,l,q⟩:=g
  cases a with
  |none=>cases q
  |some U=>
   obtain⟨r,s⟩:=MQ b j d l;obtain⟨_,v,w⟩:=oF b (lZ b j l) q.1;refine⟨fun f i=>(r f i).trans (v f (by show oE p f.z<((n+k:Nat):Int);omega)),fun f i=>w f (s f i)⟩
theorem aBL{P:aN->Prop}{S:List aN}{n:Nat}(d:Ym p)(C:jL p S)(A:jL p M)(E:∀U,jR p n S U->aA p n U M/\∀f,f∈U->f∈M)
 (h0:∀r,r∈p.m->r.x=0->∀x,mV M r x->(∀f,f∈uF r x->P f)->P (eU r x))
 (h1:∀r,r∈p.m->¬r.x=0->∀f,f∈bS M r->P f) (B:∀f,f∈S->P f) {T:List aN} (D:jR p n S T):∀f,f∈T->P f:=by
 induction D with
 |refl=>exact B
 |step s j y=>
  rename_i U V;intro f F;obtain⟨z,_,_⟩:=oF d C s;obtain⟨k,q⟩:=E U s;rcases j.new f F with h|⟨r,b,v,h⟩
  ·exact y f h
  by_cases i:r.x=0
  ·obtain⟨x,w,rfl⟩:=(GS i (d.ok.c r b) z.right).mp h;refine h0 r b i x (OI d b v k q w) fun g j=>?_;obtain⟨l,G,rfl⟩:=cR.mp j;obtain⟨H,I⟩:=mX.mp G;have e:=w.2 l H;unfold fF at e;rw[if_pos (eL I)]at e;exact y _ (lD.mp e)
  exact h1 r b i f (SY d b v z A k q h)
theorem aBH{P:aN->Prop}{l:List aN}(b:Ym p)(A:∀f,f∈l->iQ p.g f)(q:oV p l (some M))
 (hg:∀f,f∈l->P f)
 (h0:∀r,r∈p.m->r.x=0->∀x,mV M r x->(∀f,f∈uF r x->P f)->P (eU r x))
 (h1:∀r,r∈p.m->¬r.x=0->∀f,f∈bS M r->P f):∀f,f∈M->P f:=by
 have s:=nM A;have y:=lZ b s q;have D:∀n,n<=p.g.length->∀S,qT p (dR l) n (some S)->∀f,f∈S->P f:=by
  intro n
  induction n with
  |zero=>
   intro _ S h;unfold qT at h;injection h with h;subst h;exact fun f d=>hg f (iK.mp d)
  |succ n C=>
   intro J S h;obtain⟨a,j,e⟩:=h
   cases a with
   |none=>cases e
   |some T=>
    have i:=lZ b s j;have B:qT p (dR l) (n+1) (some S):=⟨some T,j,e⟩;obtain⟨k,z⟩:∃k,p.g.length=n+1+k:=⟨p.g.length-(n+1),oM⟩;obtain⟨E,F⟩:=MQ b s B (k:=k) (by rw[<-z];exact q);obtain⟨H,w,I⟩:=oF b i e.1;refine aBL b i y (fun U v=>?_) h0 h1 (C oM T j) e.1;obtain⟨K,G,L⟩:=oF b i v;refine⟨fun f d=>((G f d).symm.trans (w f d)).trans (E f oM),fun f d=>F f (DR b i v H w I e.2.1 f d)⟩
 exact D _ (aE _) M q
end
theorem Nx{p:bC}{l M:List aN}{st:List eC}(n:Ym p)(B:∀f,f∈l->iQ p.g f)(z:oV p l (some M))
 (hend:∀s,s∈kD p l M->gQ st s.d=true\/lS p st s=false):∀f,f∈M->gQ st f=true:=by
 have A:=lZ n (nM B) z;have q:∀s,aWP p l M s->lS p st s=true->gQ st s.d=true:=fun s E k=>by
  rcases hend s ((WE n.ok A.right).mpr E)with h|h
  ·exact h
  rw[k]at h;cases h
 refine aBH n B z (fun f m=>?_) (fun r k j x y C=>?_) (fun r k j f m=>?_)
 ·exact q ⟨f, -1,[]⟩ (.inl ⟨rfl,rfl,m⟩) (oT.mpr fun g b=>by unfold fV at b;rw[if_pos (.inl rfl)]at b;cases b)
 ·obtain⟨i,w,v⟩:=mH k;(have e:mF p ((i:Nat):Int)=r:=by unfold mF aW;rw[fJ,aC,aD w,v];rfl);refine q ⟨eU r x,i,x⟩ (.inr ⟨by simp,by simp;omega,by rw[e];exact y,fun _=>by rw[e],fun h=>absurd j (by rw[e]at h;exact h)⟩) (oT.mpr fun g b=>?_);unfold fV at b;rw[if_neg (by simp only[e];rintro(h|h);(omega);exact h j)]at b;simp only[e]at b;exact C g b
 obtain⟨i,w,v⟩:=mH k;(have e:mF p ((i:Nat):Int)=r:=by unfold mF aW;rw[fJ,aC,aD w,v];rfl);obtain⟨x,y,D⟩:=aMH j (n.ok.c r k) A.right m;refine q ⟨f,i,x⟩ (.inr ⟨by simp,by simp;omega,by rw[e];exact y,fun h=>absurd h (by rw[e];exact j),fun _=>by simp only[e];exact⟨m,D⟩⟩) (oT.mpr fun g b=>?_);unfold fV at b;rw[if_pos (.inr (by simp only[e];exact j))]at b;cases b
def gK(p:bC)(l m:List aN)(st:List eC):Prop:=∀(i:Nat)(h:i<st.length),st[i]∈kD p l m/\lS p (st.take i) st[i]=true
def oB(st:List eC):Prop:=(st.map (·.d)).Nodup
theorem MP(p:bC)(l m:List aN):gK p l m []:=fun i h=>absurd h sI
theorem zT{p:bC}{l m:List aN}{st:List eC}{s:eC}:gK p l m (st++[s])↔gK p l m st/\s∈kD p l m/\lS p st s=true:=by
 constructor
 ·intro h;refine⟨fun i d=>?_,?_⟩
  ·have b:=h i sO;rw[List.getElem_append_left d,qN oM]at b;exact b
  have b:=h st.length sI;rw[List.getElem_append_right oM,qN oM,lA]at b;simpa using b
 rintro⟨b,f,g⟩ i d;by_cases h:i<st.length
 ·rw[List.getElem_append_left h,qN oM];exact b i h
 (have e:i=st.length:=by simp at d;omega);subst e;rw[List.getElem_append_right oM,qN oM,lA];simpa using⟨f,g⟩
theorem WH{st:List eC}{s:eC}(h:oB st)(g:gQ st s.d=false):oB (st++[s]):=by unfold oB at *;rw[cB,XQ];refine⟨h,by simp,fun a i b f e=>?_⟩;obtain⟨t,ht,rfl⟩:=cR.mp i;rw[List.map_singleton,cQ]at f;rw[f]at e;rw[rR.mpr ⟨t,ht,e⟩]at g;cases g
theorem MO{p:bC}{l m:List aN}{st:List eC}(h:gK p l m st){s:eC}(d:s∈st):s∈kD p l m:=by obtain⟨i,b,rfl⟩:=mH d;exact(h i b).1
def rC(p:bC):List eC->List aN->List eC
 |[],_=>[]
 |s::R,W=>if W.any (rQ s)then s::rC p R (W++fV p s)else rC p R W
def CU(p:bC)(st:List eC)(f:aN):List eC:=(rC p st.reverse [f]).reverse
theorem Vd{W:List aN}{s:eC}:W.any (rQ s)=true↔s.d∈W:=by rw[kI];exact⟨fun⟨f,b,e⟩=>by rw[yB.mp e];exact b,fun h=>⟨_,h,yB.mpr rfl⟩⟩
theorem MM(p:bC):∀(R:List eC)(W:List aN),(rC p R W).Sublist R
 |[],_=>List.Sublist.refl _
 |s::R,W=>by
  unfold rC;split
  ·exact(MM p R _).cons_cons s
  exact(MM p R _).cons s
theorem ML(p:bC):∀(R:List eC)(W:List aN){s:eC},s∈R->s.d∈W->s∈rC p R W
 |t::R,W,s,b,hW=>by
  unfold rC;rcases eQ.mp b with rfl|b
  ·rw[if_pos (Vd.mpr hW)];exact dC
  split
  ·exact bO _ (ML p R _ b (List.mem_append_left _ hW))
  exact ML p R _ b hW
theorem GR(p:bC)(l m:List aN):∀(R:List eC)(W:List aN),gK p l m R.reverse->gK p l m (rC p R W).reverse
 |[],_,h=>h
 |s::R,W,h=>by
  rw[List.reverse_cons]at h;obtain⟨b,g,i⟩:=zT.mp h;unfold rC;split
  ·rw[List.reverse_cons];refine zT.mpr ⟨GR p l m R _ b,g,oT.mpr fun f e=>?_⟩;obtain⟨t,ht,d⟩:=rR.mp (oT.mp i f e);exact rR.mpr ⟨t,List.mem_reverse.mpr (ML p R _ (List.mem_reverse.mp ht) (by rw[d];exact List.mem_append_right _ e)),d⟩
  exact GR p l m R W b
theorem Cj{p:bC}{l m:List aN}{st:List eC}(f:aN)(h:gK p l m st):gK p l m (CU p st f):=GR p l m _ _ (by rw[List.reverse_reverse];exact h)
theorem Hy{p:bC}{st:List eC}(f:aN)(h:oB st):oB (CU p st f):=by have d:=MM p st.reverse [f];have b:=d.reverse;rw[List.reverse_reverse]at b;exact List.Nodup.sublist (b.map _) h
theorem Hx{p:bC}{st:List eC}{s:eC}:∃r,CU p (st++[s]) s.d=r++[s]:=by unfold CU;rw[List.reverse_append];show∃r,(rC p (s::st.reverse) [s.d]).reverse=_;unfold rC;rw[if_pos (Vd.mpr (cQ.mpr rfl)),List.reverse_cons];exact⟨_,rfl⟩
theorem Oj{p:bC}{l m:List aN}{st:List eC}(n:Nat)(h:gK p l m st):gK p l m (st.take n):=fun i b=>by rw[cW]at b;have :=h i oM;rw[XP,List.take_take,vA oM];exact this
theorem WI{st:List eC}(n:Nat)(h:oB st):oB (st.take n):=List.Nodup.sublist ((List.take_sublist n st).map _) h
end Go.Proofs.YthenjegmigeieaaGreat
namespace Go.Proofs.YthenjegmigeieaaGreat
open Go.RowKit
def KG(w:World)(b off:Nat)(t:fL):Prop:=
 w.cell? ⟨b,off,none⟩=some (.string ⟨t.var.toArray⟩)/\w.cell? ⟨b,off+1,none⟩=some (.int .i64 t.n)
def aBB(w:World)(ao:Option Addr)(l:List fL):Prop:=
 l=[]\/∃b d,ao=some ⟨b,d,none⟩/\∀i,i<l.length->KG w b (d+i*2) (vE l i)
def MH(w:World)(v:Value)(l:List fL):Prop:=∃b d,v=.slice b l.length d/\aBB w b l
def uT(w:World)(b off:Nat)(x:iX):Prop:=
 w.cell? ⟨b,off,none⟩=some (.int .i64 x.kind)/\w.cell? ⟨b,off+1,none⟩=some (.int .i64 x.at_)/\w.cell? ⟨b,off+2,none⟩=some (.int .i64 x.op)/\w.cell? ⟨b,off+3,none⟩=some (.string ⟨x.name.toArray⟩)/\
  ∃v,w.cell? ⟨b,off+4,none⟩=some v/\MH w v x.p
def aHM(w:World)(ao:Option Addr)(l:List iX):Prop:=
 l=[]\/∃b d,ao=some ⟨b,d,none⟩/\∀i,i<l.length->uT w b (d+i*5) (AD l i)
def Tw(w:World)(v:Value)(l:List iX):Prop:=∃b d,v=.slice b l.length d/\aHM w b l
def sJ(w:World)(b off:Nat)(r:jN):Prop:=
 w.cell? ⟨b,off,none⟩=some (.int .i64 r.at_)/\w.cell? ⟨b,off+1,none⟩=some (.string ⟨r.name.toArray⟩)/\(∃v,w.cell? ⟨b,off+2,none⟩=some v/\MH w v r.p)/\w.cell? ⟨b,off+3,none⟩=some (.int .i64 r.x)/\
  ∃v,w.cell? ⟨b,off+4,none⟩=some v/\Tw w v r.body
def aA4(w:World)(ao:Option Addr)(l:List jN):Prop:=
 l=[]\/∃b d,ao=some ⟨b,d,none⟩/\∀i,i<l.length->sJ w b (d+i*5) (tL l i)
def OY(w:World)(v:Value)(l:List jN):Prop:=∃b d,v=.slice b l.length d/\aA4 w b l
theorem aB{w w':World}(d:Below w.heap.size w w'){b o:Nat}{v:Value}(h:w.cell? ⟨b,o,none⟩=some v):w'.cell? ⟨b,o,none⟩=some v:=
 (d.cell (p:=⟨b,o,none⟩) (jE w _ h)).trans h
theorem Px{w w':World}{ao:Option Addr}{l:List fL}(h:aBB w ao l)(d:Below w.heap.size w w'):aBB w' ao l:=by
 rcases h with h|⟨b,g,rfl,e⟩
 ·exact .inl h
 exact .inr ⟨b,g,rfl,fun i f=>⟨aB d (e i f).1,aB d (e i f).2⟩⟩
theorem wO{w w':World}{v:Value}{l:List fL}(h:MH w v l)(e:Below w.heap.size w w'):MH w' v l:=by obtain⟨b,d,rfl,h⟩:=h;exact⟨b,d,rfl,Px h e⟩
theorem aF0{w w':World}{b off:Nat}{x:iX}(h:uT w b off x)(d:Below w.heap.size w w'):uT w' b off x:=by obtain⟨e,f,g,i,v,j,k⟩:=h;exact⟨aB d e,aB d f,aB d g,aB d i,v,aB d j,wO k d⟩
theorem aBX{w w':World}{ao:Option Addr}{l:List iX}(h:aHM w ao l)(d:Below w.heap.size w w'):aHM w' ao l:=by
 rcases h with h|⟨b,g,rfl,e⟩
 ·exact .inl h
 exact .inr ⟨b,g,rfl,fun i f=>aF0 (e i f) d⟩
theorem uH{w w':World}{v:Value}{l:List iX}(h:Tw w v l)(e:Below w.heap.size w w'):Tw w' v l:=by obtain⟨b,d,rfl,h⟩:=h;exact⟨b,d,rfl,aBX h e⟩
theorem aCL{w w':World}{b off:Nat}{x:jN}(h:sJ w b off x)(d:Below w.heap.size w w'):sJ w' b off x:=by obtain⟨e,f,⟨v,g,i⟩,j,u,k,l⟩:=h;exact⟨aB d e,aB d f,⟨v,aB d g,wO i d⟩,aB d j,u,aB d k,uH l d⟩
theorem Pk{w w':World}{ao:Option Addr}{l:List jN}(h:aA4 w ao l)(d:Below w.heap.size w w'):aA4 w' ao l:=by
 rcases h with h|⟨b,g,rfl,e⟩
 ·exact .inl h
 exact .inr ⟨b,g,rfl,fun i f=>aCL (e i f) d⟩
theorem BZ{w w':World}{v:Value}{l:List jN}(h:OY w v l)(e:Below w.heap.size w w'):OY w' v l:=by obtain⟨b,d,rfl,h⟩:=h;exact⟨b,d,rfl,Pk h e⟩
abbrev aSL(t:fL):Value:=.agg #[.string ⟨t.var.toArray⟩, .int .i64 t.n]
abbrev aT8(x:iX)(v:Value):Value:=.agg #[.int .i64 x.kind, .int .i64 x.at_, .int .i64 x.op, .string ⟨x.name.toArray⟩,v]
abbrev aLC(r:jN)(v u:Value):Value:=.agg #[.int .i64 r.at_, .string ⟨r.name.toArray⟩,v, .int .i64 r.x,u]
def pH(w:World)(ao:Option Addr)(l:List Int):Prop:=
 l=[]\/∃b d,ao=some ⟨b,d,none⟩/\∀i,i<l.length->w.cell? ⟨b,d+i,none⟩=some (.int .i64 (bM l i))
def dM(w:World)(v:Value)(l:List Int):Prop:=∃b d,v=.slice b l.length d/\pH w b l
def aBA(w:World)(ao:Option Addr)(l:List (List UInt8)):Prop:=
 l=[]\/∃b d,ao=some ⟨b,d,none⟩/\∀i,i<l.length->w.cell? ⟨b,d+i,none⟩=some (.string ⟨(oP l i).toArray⟩)
def Uz(w:World)(v:Value)(l:List (List UInt8)):Prop:=∃b d,v=.slice b l.length d/\aBA w b l
def IQ(w:World)(b off:Nat)(t:dL):Prop:=
 w.cell? ⟨b,off,none⟩=some (.int .i64 t.var)/\w.cell? ⟨b,off+1,none⟩=some (.int .i64 t.n)
def OJ(w:World)(ao:Option Addr)(l:List dL):Prop:=
 l=[]\/∃b d,ao=some ⟨b,d,none⟩/\∀i,i<l.length->IQ w b (d+i*2) (cA l i)
def fT(w:World)(v:Value)(l:List dL):Prop:=∃b d,v=.slice b l.length d/\l.length<=d/\OJ w b l
def XY(w:World)(b off:Nat)(x:cI):Prop:=
 w.cell? ⟨b,off,none⟩=some (.int .i64 x.kind)/\w.cell? ⟨b,off+1,none⟩=some (.int .i64 x.op)/\w.cell? ⟨b,off+2,none⟩=some (.int .i64 x.z)/\
  ∃v,w.cell? ⟨b,off+3,none⟩=some v/\fT w v x.p
def IP(w:World)(ao:Option Addr)(l:List cI):Prop:=
 l=[]\/∃b d,ao=some ⟨b,d,none⟩/\∀i,i<l.length->XY w b (d+i*4) (cJ l i)
def pI(w:World)(v:Value)(l:List cI):Prop:=∃b d,v=.slice b l.length d/\IP w b l
def QT(w:World)(b off:Nat)(r:bB):Prop:=
 w.cell? ⟨b,off,none⟩=some (.int .i64 r.z)/\(∃v,w.cell? ⟨b,off+1,none⟩=some v/\fT w v r.p)/\w.cell? ⟨b,off+2,none⟩=some (.int .i64 r.x)/\
  (∃v,w.cell? ⟨b,off+3,none⟩=some v/\pI w v r.body)/\w.cell? ⟨b,off+4,none⟩=some (.int .i64 r.vars)
def BL(w:World)(ao:Option Addr)(l:List bB):Prop:=
 l=[]\/∃b d,ao=some ⟨b,d,none⟩/\∀i,i<l.length->QT w b (d+i*5) (aW l i)
def EU(w:World)(v:Value)(l:List bB):Prop:=∃b d,v=.slice b l.length d/\BL w b l
abbrev eN(va vn vr:Value):Value:=.agg #[va,vn,vr]
structure iU (w:World) (va vn vr:Value) (p:bC):Prop where
 ar:dM w va p.g
 nm:Uz w vn p.q
 rl:EU w vr p.m
theorem aM{w w':World}{v:Value}{l:List Int}(h:dM w v l)(f:Below w.heap.size w w'):dM w' v l:=by
 obtain⟨d,e,rfl,h⟩:=h;refine⟨d,e,rfl,?_⟩;rcases h with h|⟨b,k,rfl,g⟩
 ·exact .inl h
 exact .inr ⟨b,k,rfl,fun i j=>aB f (g i j)⟩
theorem QL{w w':World}{v:Value}{l:List (List UInt8)}(h:Uz w v l)(f:Below w.heap.size w w'):Uz w' v l:=by
 obtain⟨d,e,rfl,h⟩:=h;refine⟨d,e,rfl,?_⟩;rcases h with h|⟨b,k,rfl,g⟩
 ·exact .inl h
 exact .inr ⟨b,k,rfl,fun i j=>aB f (g i j)⟩
theorem dS{w w':World}{v:Value}{l:List dL}(h:fT w v l)(e:Below w.heap.size w w'):fT w' v l:=by
 obtain⟨g,j,rfl,d,h⟩:=h;refine⟨g,j,rfl,d,?_⟩;rcases h with h|⟨b,k,rfl,d⟩
 ·exact .inl h
 exact .inr ⟨b,k,rfl,fun i f=>⟨aB e (d i f).1,aB e (d i f).2⟩⟩
theorem aB5{w w':World}{b off:Nat}{x:cI}(h:XY w b off x)(d:Below w.heap.size w w'):XY w' b off x:=by obtain⟨e,f,g,v,i,j⟩:=h;exact⟨aB d e,aB d f,aB d g,v,aB d i,dS j d⟩
theorem nU{w w':World}{v:Value}{l:List cI}(h:pI w v l)(f:Below w.heap.size w w'):pI w' v l:=by
 obtain⟨d,e,rfl,h⟩:=h;refine⟨d,e,rfl,?_⟩;rcases h with h|⟨b,k,rfl,g⟩
 ·exact .inl h
 exact .inr ⟨b,k,rfl,fun i j=>aB5 (g i j) f⟩
theorem Pg{w w':World}{b off:Nat}{x:bB}(h:QT w b off x)(d:Below w.heap.size w w'):QT w' b off x:=by obtain⟨e,⟨v,f,g⟩,i,⟨u,j,k⟩,l⟩:=h;exact⟨aB d e,⟨v,aB d f,dS g d⟩,aB d i,⟨u,aB d j,nU k d⟩,aB d l⟩
theorem Ph{w w':World}{v:Value}{l:List bB}(h:EU w v l)(f:Below w.heap.size w w'):EU w' v l:=by
 obtain⟨d,e,rfl,h⟩:=h;refine⟨d,e,rfl,?_⟩;rcases h with h|⟨b,k,rfl,g⟩
 ·exact .inl h
 exact .inr ⟨b,k,rfl,fun i j=>Pg (g i j) f⟩
theorem iU.u{w w':World}{va vn vr:Value}{p:bC}(h:iU w va vn vr p)(b:Below w.heap.size w w'):iU w' va vn vr p:=⟨aM h.ar b,QL h.nm b,Ph h.rl b⟩
abbrev iA(t:dL):Value:=.agg #[.int .i64 t.var, .int .i64 t.n]
abbrev nR(x:cI)(v:Value):Value:=.agg #[.int .i64 x.kind, .int .i64 x.op, .int .i64 x.z,v]
abbrev lP(r:bB)(v u:Value):Value:=.agg #[.int .i64 r.z,v, .int .i64 r.x,u, .int .i64 r.vars]
def JM(x:cI):Prop:=x.p.length<=9223372036854775807
def BS(r:bB):Prop:=r.p.length<=9223372036854775807/\r.body.length<=9223372036854775807/\∀i,i<r.body.length->JM (cJ r.body i)
structure jK (p:bC):Prop where
 ar:p.g.length<=9223372036854775807
 nm:p.q.length<=9223372036854775807
 rl:p.m.length<=9223372036854775807
 rs:∀i,i<p.m.length->BS (aW p.m i)
abbrev pB(b:Option Addr)(f:Nat)(d:Option Addr)(i:Nat)(e:Option Addr)(j:Nat)(p:bC):Obj:=.cells #[.slice b p.g.length f, .slice d p.q.length i, .slice e p.m.length j] 26
end Go.Proofs.YthenjegmigeieaaGreat
namespace Go.Proofs.YthenjegmigeieaaGreat
open Go.RowKit Go.Sort Go.Lib
def Gr(w w':World):Prop:=∃q b,w'=grow (w.drewN q) b
theorem Gr.refl(w:World):Gr w w:=⟨0,#[],by rw[grow_empty];rfl⟩
theorem Gr.trans{a b c:World}(h:Gr a b)(k:Gr b c):Gr a c:=by obtain⟨q,d,rfl⟩:=h;obtain⟨f,e,rfl⟩:=k;refine⟨q+f,d++e,?_⟩;show({a with drawn:=a.drawn+q+f,heap:=a.heap++d++e}:World)={a with drawn:=a.drawn+(q+f),heap:=a.heap++(d++e)};rw[II,Array.append_assoc]
theorem Gr.alloc{a b:World}(h:Gr a b)(o:Obj):Gr a (b.alloc o):=h.trans ⟨0,#[o],by rw[alloc_eq_grow];rfl⟩
theorem Gr.drew{a b:World}(h:Gr a b):Gr a b.drew:=h.trans ⟨1,#[],by rw[grow_empty];rfl⟩
theorem Gr.u{a b:World}(h:Gr a b):Below a.heap.size a b:=by
 obtain⟨q,d,rfl⟩:=h;refine⟨rfl,rfl,rfl,?_,fun k e=>?_⟩
 ·show a.heap.size<=(a.heap++d).size;simp
 show(a.heap++d)[k]?=a.heap[k]?;rw[sL e]
def aZ(l:List aN)(i:Nat):aN:=l.getD i ⟨0,[]⟩
def XT(w:World)(b off:Nat)(f:aN):Prop:=
 w.cell? ⟨b,off,none⟩=some (.int .i64 f.z)/\∃v,w.cell? ⟨b,off+1,none⟩=some v/\dM w v f.args
def lJ(w:World)(ao:Option Addr)(l:List aN):Prop:=
 l=[]\/∃b d,ao=some ⟨b,d,none⟩/\∀i,i<l.length->XT w b (d+i*2) (aZ l i)
def dA(w:World)(v:Value)(l:List aN):Prop:=∃b d,v=.slice b l.length d/\(l.length<=d/\(b=none->d=0))/\lJ w b l
def fW(f:aN):Prop:=f.args.length<=9223372036854775807
theorem MU{w w':World}{b off:Nat}{f:aN}(h:XT w b off f)(d:Below w.heap.size w w'):XT w' b off f:=by obtain⟨e,v,g,i⟩:=h;exact⟨aB d e,v,aB d g,aM i d⟩
theorem bR{w w':World}{v:Value}{l:List aN}(h:dA w v l)(f:Below w.heap.size w w'):dA w' v l:=by
 obtain⟨d,e,rfl,g,h⟩:=h;refine⟨d,e,rfl,g,?_⟩;rcases h with h|⟨b,k,rfl,h⟩
 ·exact .inl h
 exact .inr ⟨b,k,rfl,fun i j=>MU (h i j) f⟩
theorem qJ{w:World}{ao:Option Addr}{l:List aN}(h:lJ w ao l)(i:Nat)(e:i<l.length):∃b d,ao=some ⟨b,d,none⟩/\XT w b (d+i*2) (aZ l i):=by
 rcases h with h|⟨b,d,f,g⟩
 ·rw[h]at e;exact absurd e sI
 exact⟨b,d,f,g i e⟩
theorem GV(l:List aN)(k:Nat)(b:k<l.length):l.drop k=aZ l k::l.drop (k+1):=by rw[dB b];simp[aZ,List.getD_eq_getElem?_getD,b]
theorem mT(l:List aN)(k:Nat)(b:k<l.length):aZ l k∈l:=by simp[aZ,b]
theorem CX(l:List aN)(k:Nat)(b:k<l.length):l[k]?=some (aZ l k):=by simp[aZ,b]
theorem qY{w:World}{ao:Option Addr}{l:List Int}(h:pH w ao l)(i:Nat)(e:i<l.length):∃b d,ao=some ⟨b,d,none⟩/\w.cell? ⟨b,d+i,none⟩=some (.int .i64 (bM l i)):=by
 rcases h with h|⟨b,d,f,g⟩
 ·rw[h]at e;exact absurd e sI
 exact⟨b,d,f,g i e⟩
end Go.Proofs.YthenjegmigeieaaGreat
namespace Go.Proofs.YthenjegmigeieaaGreat
open Go.RowKit
abbrev LI(t:fD):Obj:=.cells #[.int .i64 t.kind, .int .i64 t.at_, .string ⟨t.text.toArray⟩] 271
theorem aKX{w b:World}{t:fD}(e:Below (w.alloc (LI t)).heap.size (w.alloc (LI t)) b):
 b.cell? ⟨w.heap.size,0,none⟩=some (.int .i64 t.kind)/\b.cell? ⟨w.heap.size,1,none⟩=some (.int .i64 t.at_)/\b.cell? ⟨w.heap.size,2,none⟩=some (.string ⟨t.text.toArray⟩):=by
 obtain⟨d,f⟩:=Vg e;(have h:w.heap.size<(w.alloc (LI t)).heap.size:=by simp);refine⟨?_,?_,?_⟩
 ·rw[d _ _ h];simp[go_sem]
 ·rw[d _ _ h];simp[go_sem]
 rw[d _ _ h];simp[go_sem]
theorem jX{w b:World}{o:Obj}(d:Below (w.alloc o).heap.size (w.alloc o) b):Below w.heap.size w b:=
 ((aH _ _).alloc (aE _) _).trans (d.mono sI)
theorem aMM(t:fD)(w:World):
 Calls Tryz.prog 240 #[aCQ t] w fun e B=>e=.returned (.bool (DY t.kind t.text))/\Below w.heap.size w B:=by
 have HV:O (DY t.kind t.text=(((jF t.text).2.2==0)&&(((jF t.text).1.length:Int)==1)&&((wP (jF t.text).1 0).kind==t.kind)&&((wP (jF t.text).1 0).text==t.text))):=rfl;generalize DY t.kind t.text=V at *;have i:=fun w=>aO3 ⟨t.text.toArray⟩ w;have s:(⟨t.text.toArray⟩:ByteArray).data.toList=t.text:=List.toList_toArray;rw[s]at i;unfold aKT at i;generalize jF t.text=X at *;have m:O (_):=i;clear i s
 go_enter Tryz.func240,Tryz.ntmps240
 go_wp2_with fail;refine(m.o _).mono ?_;rintro e C ⟨y,F,rfl,v,l⟩;obtain⟨c0,D,E⟩:=aKX l;have r:0<X.1.length->∃b g,y=some ⟨b,g,none⟩/\aO6 C b g (wP X.1 0):=fun k=>by
  rcases aKL v with h|⟨b,g,rfl,z⟩
  ·rw[h]at k;exact absurd k sI
  exact⟨b,g,rfl,by simpa using z 0 k⟩
 have f:=jX l;clear v l m;generalize wP X.1 0=x at *;cases n:(X.2.2==0)
 ·(have d:O (V=false):=by show _=_;rw[HV.o,n];rfl);clear HV;go_wp2_with fail;go_quiet(fail);go_wp2;go_ret;exact⟨jY d.o.symm,below_drewN f _⟩
 cases j:((X.1.length:Int)==1)
 ·(have d:O (V=false):=by show _=_;rw[HV.o,j];simp);clear HV;go_wp2_with fail;go_quiet(fail);go_wp2;go_ret;exact⟨jY d.o.symm,below_drewN f _⟩
 (have A:0<X.1.length:=by have :=mN.1 j;omega);obtain⟨b,g,rfl,G,H,I⟩:=r A;clear r;cases p:(x.kind==t.kind)
 ·(have d:O (V=false):=by show _=_;rw[HV.o,p];simp);clear HV;go_wp2_with fail;go_quiet(fail);go_wp2;go_ret;exact⟨jY d.o.symm,below_drewN f _⟩
 cases q:(x.text==t.text)
 ·(have d:O (V=false):=by show _=_;rw[HV.o,q];simp);clear HV;go_wp2_with fail;go_quiet(fail);go_wp2;go_ret;exact⟨jY d.o.symm,below_drewN f _⟩
 (have d:O (V=true):=by show _=_;rw[HV.o,n,j,p,q];rfl);clear HV;go_wp2_with fail;go_quiet(fail);go_wp2;go_ret;exact⟨jY d.o.symm,below_drewN f _⟩
theorem aDG:(Tryz.prog.info? 276).map (·.size)=some 2:=by kernel_rfl
theorem aOM:liesAt Tryz.prog Tryz.prog.depth 276 (2/Tryz.prog.cellsOf 276) 0 276 1=true:=by kernel_rfl
theorem aKM:(Tryz.prog.info? 5).map (fun i=>(i.zero,i.size,i.bytes))=some (some (.int .u8 0),1,1):=by kernel_rfl
theorem aIR(b:Nat)(w:World)(h0:w.cell? ⟨b,0,none⟩=some (.pointer (some ⟨b,0,none⟩))):
 Calls Tryz.prog 246 #[.pointer (some ⟨b,0,none⟩)] w fun e f=>e=.returned (.tuple #[])/\f=w:=by
 obtain⟨j,d,_⟩:=Option.map_eq_some_iff.1 aDG
 go_enter Tryz.func246,Tryz.ntmps246
 go_wp2;rw[Lib.run_neq_ptr_same w _ Tryz.underlying273 d];go_wp2;go_end0;exact⟨rfl,rfl⟩
theorem aFA(b:Nat)(w:World)(h0:w.cell? ⟨b,0,none⟩=some (.pointer none))(f:w.shape? b=some (276,2))(k:w.frozen? ⟨b,0,none⟩=false):
 Calls Tryz.prog 246 #[.pointer (some ⟨b,0,none⟩)] w fun e i=>e=.returned (.tuple #[])/\i=w.setCell ⟨b,0,none⟩ (.pointer (some ⟨b,0,none⟩)):=by
 obtain⟨j,d,g⟩:=Option.map_eq_some_iff.1 aDG
 go_enter Tryz.func246,Tryz.ntmps246
 go_wp2;rw[Lib.run_to_unsafe w ⟨b,0,none⟩ Tryz.underlying273 Tryz.underlying292 d (by rw[g];decide) f (Nat.zero_lt_succ 1)];simp only[Result.andThen];rw[Oper.upon_value];go_wp2;rw[run_callFunc_extern Tryz.func248 (by kernel_rfl) (by kernel_rfl) (by kernel_rfl) (e:=Extern.AbiNoEscape.same) (by kernel_rfl)];rw[Lib.run_noEscape];simp only[Result.andThen];rw[Oper.upon_value];go_wp2;rw[Lib.run_from_unsafe w ⟨b,0,none⟩ Tryz.underlying292 Tryz.underlying273 d f aOM];simp only[Result.andThen];rw[Oper.upon_value];go_wp2;go_end0;exact⟨rfl,rfl⟩
theorem Vm(B b:Nat)(f:List Value)(w:World)(h:Lib.IsBuilder 276 5 B b f w):
 Calls Tryz.prog 246 #[.pointer (some ⟨b,0,none⟩)] w fun e d=>e=.returned (.tuple #[])/\(Lib.BuilderAt 276 5 B b (.pointer (some ⟨b,0,none⟩)) f d/\Below B w d/\Lib.OthersKept 5 (some b) w d):=by
 rcases h with h|h
 ·refine(aFA b w h.cell0 h.shape h.frozen0).mono ?_;rintro e d ⟨rfl,rfl⟩;exact⟨rfl,h.used _,(aH B w).setCell (p:=⟨b,0,none⟩) h.1 _,(Lib.OthersKept.refl 5 (some b) w).setCell ⟨b,0,none⟩ rfl _⟩
 refine(aIR b w h.cell0).mono ?_;rintro e d ⟨rfl,rfl⟩;exact⟨rfl,h,aH B _,Lib.OthersKept.refl _ _ _⟩
theorem aGB{w:World}{B:Nat}{v:Value}{n:Nat}{i:List Value}(h:w.ownsRow B 5 1 v n i):∀g,v.ownBlock=some g->∃c e,w.heap[g]?=some (.cells c 5 e):=by
 intro g b;rcases h.2 with⟨rfl,_⟩|⟨k,j,d,rfl,_,f,_⟩
 ·simp[Value.ownBlock]at b
 simp[Value.ownBlock]at b;subst b;exact⟨d,_,f⟩
theorem Tp(B b:Nat)(d:List Value)(c:Int)(w:World)(h:Lib.IsBuilder 276 5 B b d w)(Z:d.length+1<=140737488355328)(Y:B<=w.heap.size):
 Calls Tryz.prog 241 #[.pointer (some ⟨b,0,none⟩), .int .u8 c] w fun e z=>e=.returned .nilIface/\(Lib.BuilderAt 276 5 B b (.pointer (some ⟨b,0,none⟩)) (d++[.int .u8 c]) z/\Below B w z/\Lib.OthersKept 5 (some b) w z):=by
 obtain⟨P,F,L,M,N⟩:=iT aKM
 go_enter Tryz.func241,Tryz.ntmps241
 go_wp2_with(go_at_call 246;refine(Vm B b d _ h).mono ?_);rintro e f ⟨rfl,E,m,H⟩;obtain⟨x,v,q,s,A⟩:=E;(have c0:f.cell? ⟨b,0,none⟩=some (.pointer (some ⟨b,0,none⟩)):=cH q);(have R:f.cell? ⟨b,1,none⟩=some v:=cH q);go_wp2_with(at_builtin;refine fX _ rfl _ _ 274 rfl B 5 P (.int .u8 0) 1 1 Tryz.underlying274 F L M N rfl (by decide) _ _ _ rfl (s.alloc _) ⟨f.heap.size,0,none⟩ 1 1 [.int .u8 c] rfl rfl ?c1 ?c2 ?c3 ?c4 ?c5 ?_)
 case c1=>
  intro j u r
  match j,r with
  |0,r=>simp at r;subst r;simp[Addr.add]
 (case c2=>intro u D;simp at D;subst D;rfl);(case c3=>unfold maxLen;omega);(case c4=>omega);(case c5=>have :=m.size;simp;omega);intro Q i C y _;have J:b<f.heap.size:=Lib.BuilderAt.lt (T:=276) (e:=5) ⟨x,v,q,s,A⟩;(have n:i.heap[b]?=some (.cells #[.pointer (some ⟨b,0,none⟩),v] 276 (0,0)):=by rw[y.block b (by simp;omega) (fun e=>A e.symm),Lib.alloc_old f _ b J];exact q);(have U:i.cell? ⟨b,0,none⟩=some (.pointer (some ⟨b,0,none⟩)):=cH n);(have V:i.cell? ⟨b,1,none⟩=some v:=cH n);have W:i.frozen? ⟨b,1,none⟩=false:=cM n 1;obtain⟨g,l,rfl⟩:∃g l,Q=.slice (some ⟨g,0,none⟩) (d.length+1) l:=by
  rcases C.2 with⟨_,X⟩|⟨g,l,S,K,_⟩
  ·omega
  exact⟨g,l,K⟩
 have I:Lib.OthersKept 5 (some b) w i:=(H.alloc _).grown y (aGB (s.alloc _));go_wp2;go_ret;refine⟨rfl,?_,?_,?_⟩
 ·exact Lib.BuilderAt.put (T:=276) (e:=5) x n (bs':=d++[.int .u8 c]) (by simpa using C) (by decide)
 ·exact((m.alloc (by have :=m.size;omega) _).grown y (by have :=m.size;simp;omega) (fun k G=>(s.lt k G).1)).setCell (p:=⟨b,1,none⟩) x _
 exact I.setCell ⟨b,1,none⟩ rfl _
theorem NQ(B b:Nat)(d:List Value)(s:ByteArray)(w:World)(h:Lib.IsBuilder 276 5 B b d w)(Y:d.length+s.size<=140737488355328)(X:B<=w.heap.size):
 Calls Tryz.prog 242 #[.pointer (some ⟨b,0,none⟩), .string s] w fun e y=>e=.returned (.tuple #[.int .i64 s.size, .nilIface])/\(Lib.BuilderAt 276 5 B b (.pointer (some ⟨b,0,none⟩)) (d++Lib.strCells s) y/\Below B w y/\Lib.OthersKept 5 (some b) w y):=by
 obtain⟨P,G,L,M,N⟩:=iT aKM
 go_enter Tryz.func242,Tryz.ntmps242
 go_wp2_with(go_at_call 246;refine(Vm B b d _ h).mono ?_);rintro e z ⟨rfl,F,q,I⟩;obtain⟨n,v,j,l,C⟩:=F;(have c0:z.cell? ⟨b,0,none⟩=some (.pointer (some ⟨b,0,none⟩)):=cH j);(have R:z.cell? ⟨b,1,none⟩=some v:=cH j);go_wp2_with(at_builtin;refine Lib.wpList_append_own_string _ rfl _ _ 274 9 rfl B 5 P Tryz.underlying274 Tryz.underlying9 G L M N _ _ _ rfl l s rfl ?c3 ?c4 ?c5 ?_);(case c3=>unfold maxLen;omega);(case c4=>omega);(case c5=>have :=q.size;omega);intro Q f D r _;have K:b<z.heap.size:=Lib.BuilderAt.lt (T:=276) (e:=5) ⟨n,v,j,l,C⟩;(have i:f.heap[b]?=some (.cells #[.pointer (some ⟨b,0,none⟩),v] 276 (0,0)):=by rw[r.block b K (fun e=>C e.symm)];exact j);(have U:f.cell? ⟨b,0,none⟩=some (.pointer (some ⟨b,0,none⟩)):=cH i);(have V:f.cell? ⟨b,1,none⟩=some v:=cH i);have W:f.frozen? ⟨b,1,none⟩=false:=cM i 1;obtain⟨A,E,m,rfl⟩:∃A E m,Q=.slice A E m:=by
  rcases D.2 with⟨x,_⟩|⟨g,m,S,x,_⟩
  ·exact⟨_,_,_,x⟩
  exact⟨_,_,_,x⟩
 have J:Lib.OthersKept 5 (some b) w f:=I.grown r (aGB l);go_wp2;go_ret2;refine⟨rfl,?_,?_,?_⟩
 ·exact Lib.BuilderAt.put (T:=276) (e:=5) n i (bs':=d++Lib.strCells s) (by simpa[Lib.strCells_length]using D) (by decide)
 ·exact(q.grown r (by have :=q.size;omega) (fun k H=>(l.lt k H).1)).setCell (p:=⟨b,1,none⟩) n _
 exact J.setCell ⟨b,1,none⟩ rfl _
def pW(l:List fD):Nat->List UInt8
 |0=>[]
 |k+1=>(if k=0 then [] else pW l k++[32])++(wP l k).text
def tE(l:List fD)(k:Nat):Bool:=(l.take k).all fun t=>mE t.kind t.text
def zA(l:List fD):List UInt8×Int:=
 if tE l l.length then(if 5000<(pW l l.length).length then([],2)else(pW l l.length,0))else([],1)
theorem PN(l:List fD)(k:Nat)(h:k<l.length):tE l (k+1)=(tE l k&&mE (wP l k).kind (wP l k).text):=by unfold tE;rw[JK h,List.all_append];(have e:wP l k=l[k]:=by rw[wP,aC,aD h];rfl);rw[e];simp
theorem aBC(l:List fD)(k:Nat)(h:k<l.length)(b:mE (wP l k).kind (wP l k).text=false):tE l l.length=false:=by(have e:wP l k=l[k]:=by rw[wP,aC,aD h];rfl);rw[e]at b;unfold tE;rw[lA];rw[<-Bool.not_eq_true]at b ⊢;intro d;exact b (eX.1 d _ (dY h))
theorem FE(k:Int)(t:List UInt8)(h:mE k t=true):t.length<=12:=by
 have h:=eL h;obtain⟨q,v,w,x,y⟩:=h
 match t,q with
 |c::r,_=>
  rcases YZ c r with⟨b,d⟩|⟨b,e,g,d⟩|⟨b,e,g,d⟩|⟨b,e,g,d⟩|⟨b,e,g,n,p,d⟩|⟨b,e,g,d⟩|⟨b,e,g,n,p,d⟩|⟨b,e,d⟩
  ·omega
  ·omega
  ·omega
  ·omega
  ·omega
  ·omega
  ·omega
  have l:=MW c r;have f:=JH c r;rw[e]at f;cases i:iS c.toNat
  ·cases j:iY c.toNat
   ·cases m:dO c.toNat
    ·rw[i,j,m]at l;simp only[Bool.or_self,Bool.false_eq_true,if_false]at l;have s:fB (c::r)<=2:=by
      unfold fB;split
      ·omega
      dsimp only;split<;>omega
     omega
    rw[i,j,m]at f;simp at f
   rw[i,j]at f;simp at f
  rw[i]at f;simp at f
theorem Nw(l:List fD):∀k,k<=l.length->tE l k=true->(pW l k).length<=13*k:=by
 intro k
 induction k with
 |zero=>intro _ _;exact aE 0
 |succ k d=>
  intro g b;rw[PN l k oM,eF]at b;have e:=d oM b.1;have f:=FE _ _ b.2;rw[pW];split
  ·simp;omega
  simp;omega
theorem Ov{N:Nat}{b:List Value}{w w':World}(h:Lib.IsBuilder 276 5 N N b w)(d:Below w.heap.size w w'):Lib.IsBuilder 276 5 N N b w':=by
 (have e:∀p,Lib.BuilderAt 276 5 N N p b w->Lib.BuilderAt 276 5 N N p b w':=fun p h=>by have k:=h.lt;obtain⟨f,v,g,i,j⟩:=h;exact⟨f,v,by rw[d.block N k];exact g,bI i d,j⟩);rcases h with h|h
 ·exact .inl (e _ h)
 exact .inr (e _ h)
theorem aIL{N:Nat}{b:List Value}{w:World}(h:Lib.IsBuilder 276 5 N N b w):N<w.heap.size:=by
 rcases h with h|h
 ·exact h.lt
 exact h.lt
theorem aP4{N T:Nat}{t:fD}{w w':World}(d:Lib.OthersKept 5 (some N) w w')(f:¬T=N)(h:w.heap[T]?=some (LI t)):w'.heap[T]?=some (LI t):=by refine d T _ h (fun e=>f (Option.some.inj e)) ?_;intro c g e;injection e with _ b _;exact absurd b dE
theorem aLR(l:List fD)(w:World)(n b off a4:Nat)(hn:l.length=n)(aa:n<=4398046511104)
 (C:∀i,i<n->aO6 w b (off+i*3) (wP l i)):
 Calls Tryz.prog 238 #[.slice (some ⟨b,off,none⟩) n a4] w fun e J=>e=.returned (.tuple #[.string ⟨(zA l).1.toArray⟩, .int .i64 (zA l).2])/\Below w.heap.size w J:=by
 have HN:O (l.length=n):=hn;clear hn
 go_enter Tryz.func238,Tryz.ntmps238
 go_wp2_with fail;go_loopw [9] (fun i wr=>∃k:Nat,k<=n/\i=.int .i64 k/\tE l k=true/\Lib.IsBuilder 276 5 w.heap.size w.heap.size (Lib.byteCells (pW l k)) wr/\Below w.heap.size w wr) (fun i _=>n-(intOf i).toNat);case atStart=>exact⟨0,bG _,rfl,rfl,Lib.fresh_isBuilder 276 5 w,(aH _ _).alloc (aE _) _⟩
 case round=>
  obtain⟨k,hk,rfl,V,f,d⟩:=hrel;have A:O (tE l k=true):=V;clear V;have a7:=aIL f;have a9:=Nw l k (by rw[HN.o];exact hk) A.o;by_cases I:k<n
  ·obtain⟨B,P,R⟩:=C k I;have H:b<w.heap.size:=jE w _ B;have N:wr.cell? ⟨b,off+k*3,none⟩=some (.int .i64 (wP l k).kind):=(d.cell (p:=⟨b,_,none⟩) H).trans B;have Q:wr.cell? ⟨b,off+k*3+1,none⟩=some (.int .i64 (wP l k).at_):=(d.cell (p:=⟨b,_,none⟩) H).trans P;have S:wr.cell? ⟨b,off+k*3+2,none⟩=some (.string ⟨(wP l k).text.toArray⟩):=(d.cell (p:=⟨b,_,none⟩) H).trans R;clear B P R C;go_wp2_with fail;refine(aMM (wP l k) _).mono ?_;rintro e z ⟨X,r⟩;rw[aPB]at X;subst X;have D:Below wr.heap.size wr z:=jX r;have v:Below w.heap.size w z:=d.trans (D.mono oM);cases q:mE (wP l k).kind (wP l k).text
   ·(have g:O (zA l=([],1)):=by show _=_;unfold zA;rw[if_neg (by rw[aBC l k (by rw[HN.o];exact I) q];simp)]);clear q r N Q S;go_wp2_with fail;go_ret2;refine⟨?_,v⟩;rw[g.o];rfl
   (have M:O (tE l (k+1)=true):=by show _=_;rw[PN l k (by rw[HN.o];exact I),A.o,q];rfl);(have a6:=FE _ _ q;have y:=Ov f D;have G:z.heap[wr.heap.size]?=some (LI (wP l k)):=by rw[r.block wr.heap.size sI];exact aR wr _);obtain⟨x0,x1,x2⟩:=aKX r;have a3:w.heap.size<=z.heap.size:=v.size;clear q r N Q S f D;by_cases a8:0<k
   ·(have j:O (Lib.byteCells (pW l k)++[.int .u8 32]++Lib.strCells ⟨(wP l k).text.toArray⟩=Lib.byteCells (pW l (k+1))):=by show _=_;rw[pW,if_neg oM,Lib.byteCells_append,Lib.byteCells_append];rfl);go_wp2_with fail;refine(Tp w.heap.size w.heap.size _ 32 _ y (by rw[NT];omega) a3).mono ?_;rintro e K ⟨rfl,U,x,Y⟩;have W:=aP4 Y oM G;(have d2:K.cell? ⟨wr.heap.size,2,none⟩=some (.string ⟨(wP l k).text.toArray⟩):=cH W);(have a5:w.heap.size<=K.heap.size:=by have :=x.size;omega);clear Y G W y x0 x1 x2;go_wp2_with fail;refine(NQ w.heap.size w.heap.size _ _ _ (.inr U) (by show _+(wP l k).text.toArray.size<=_;simp[Lib.byteCells_length];omega) a5).mono ?_;rintro e w3 ⟨rfl,m,E,_⟩;rw[j.o]at m;have F:=(v.trans x).trans E;clear U d2 j;go_wp2;go_roundw;(case rel=>exact⟨k+1,oM,gN,M.o, .inr m,F⟩);case measure=>exact mI
   (have hd:decide ((0:Int)<(k:Int))=false:=by simp;omega);(have j:O (Lib.byteCells (pW l k)++Lib.strCells ⟨(wP l k).text.toArray⟩=Lib.byteCells (pW l (k+1))):=by show _=_;have e0:k=0:=oM;rw[e0,pW,pW,if_pos rfl];rfl);go_wp2_with fail;refine(NQ w.heap.size w.heap.size _ _ _ y (by show _+(wP l k).text.toArray.size<=_;simp[Lib.byteCells_length];omega) a3).mono ?_;rintro e w3 ⟨rfl,m,E,_⟩;rw[j.o]at m;have F:=v.trans E;clear y j x0 x1 x2 G;go_wp2;go_roundw;(case rel=>exact⟨k+1,oM,gN,M.o, .inr m,F⟩);case measure=>exact mI
  have Z:k=n:=oM;(have s:O (k=l.length):=by show _=_;rw[HN.o];exact Z);clear Z;(have L:O (tE l l.length=true):=by have :=A.o;rw[s.o]at this;exact this);clear C;by_cases T:5000<(pW l k).length
  ·(have g:O (zA l=([],2)):=by show _=_;unfold zA;rw[if_pos L.o,if_pos (by rw[<-s.o];exact T)]);go_wp2_with(go_at_call 243;refine(Tryz.Builder_Len _ _ _ _ f).mono ?_;rintro e J ⟨rfl,rfl⟩;rw[NT]);go_ret2;refine⟨?_,d⟩;rw[g.o];rfl
  (have g:O (zA l=(pW l k,0)):=by show _=_;unfold zA;rw[if_pos L.o,if_neg (by rw[<-s.o];exact T),s.o]);go_wp2_with(first|(go_at_call 243;refine(Tryz.Builder_Len _ _ _ _ f).mono ?_;rintro e J ⟨rfl,rfl⟩;rw[NT])|(go_at_call 244;refine(Tryz.Builder_String_any _ _ _ _ f oM).mono ?_;rintro e K ⟨rfl,x⟩));go_ret2;refine⟨?_,d.trans x⟩;rw[g.o];rfl
theorem aLQ(w:World)(ao:Option Addr)(f:Nat):
 Calls Tryz.prog 238 #[.slice ao 0 f] w fun e d=>e=.returned (.tuple #[.string ⟨#[]⟩, .int .i64 0])/\Below w.heap.size w d:=by
 have b:Lib.IsBuilder 276 5 w.heap.size w.heap.size (Lib.byteCells []) (w.alloc (.cells #[.pointer none, .slice none 0 0] 276)):=Lib.fresh_isBuilder 276 5 w;have g:Below w.heap.size w (w.alloc (.cells #[.pointer none, .slice none 0 0] 276)):=(aH _ _).alloc (aE _) _
 go_enter Tryz.func238,Tryz.ntmps238
 go_wp2_with fail;refine mG 1 ?_;rw[rounds_succ];go_wp2_with(first|(go_at_call 243;refine(Tryz.Builder_Len _ _ _ _ b).mono ?_;rintro e d ⟨rfl,rfl⟩;rw[NT])|(go_at_call 244;refine(Tryz.Builder_String_any _ _ _ _ b sI).mono ?_;rintro e j ⟨rfl,i⟩));go_ret2;exact⟨rfl,g.trans i⟩
theorem aOS(l:List fD)(w:World)(ao:Option Addr)(d:Nat)(g:l.length<=4398046511104)(f:Hp w ao l):
 Calls Tryz.prog 238 #[.slice ao l.length d] w fun e j=>e=.returned (.tuple #[.string ⟨(zA l).1.toArray⟩, .int .i64 (zA l).2])/\Below w.heap.size w j:=by
 rcases f with rfl|⟨b,i,rfl,f⟩
 ·exact aLQ w ao d
 exact aLR l w l.length b i d rfl g f
theorem aI2(s:List UInt8)(w:World):Calls Tryz.prog 239 #[.string ⟨s.toArray⟩] w fun e b=>e=.returned (.int .i64 (CP s))/\b=w:=by
 unfold CP;cases d:(s==[99,111,117,110,116])
 ·cases f:(s==[115,117,109])
  ·cases g:(s==[108,101,97,115,116])
   ·cases i:(s==[109,111,115,116])
    ·go_enter Tryz.func239,Tryz.ntmps239
     go_wp2;go_ret;exact⟨rfl,rfl⟩
    go_enter Tryz.func239,Tryz.ntmps239
    go_wp2;go_ret;exact⟨rfl,rfl⟩
   go_enter Tryz.func239,Tryz.ntmps239
   go_wp2;go_ret;exact⟨rfl,rfl⟩
  go_enter Tryz.func239,Tryz.ntmps239
  go_wp2;go_ret;exact⟨rfl,rfl⟩
 go_enter Tryz.func239,Tryz.ntmps239
 go_wp2;go_ret;exact⟨rfl,rfl⟩
theorem aJL(s:List UInt8)(w:World):Calls Tryz.prog 234 #[.string ⟨s.toArray⟩] w fun e b=>e=.returned (.bool (CR s))/\b=w:=by
 unfold CR;cases d:(s==[110,111,116])
 ·go_enter Tryz.func234,Tryz.ntmps234
  go_wp2_with(go_at_call 239;refine(aI2 _ _).mono ?_;rintro e b ⟨rfl,rfl⟩);go_ret;exact⟨rfl,rfl⟩
 go_enter Tryz.func234,Tryz.ntmps234
 go_wp2;go_ret;exact⟨rfl,rfl⟩
theorem TQ(n:Int)(w:World):Calls Tryz.prog 236 #[.int .i64 n] w fun e b=>e=.returned (.bool (dG n 1 4))/\b=w:=by
 unfold dG;by_cases h:1<=n
 ·go_enter Tryz.func236,Tryz.ntmps236
  go_wp2;go_ret;exact⟨by simp[h],rfl⟩
 have d:decide (1<=n)=false:=by simpa using h
 go_enter Tryz.func236,Tryz.ntmps236
 go_wp2;go_ret;exact⟨rfl,rfl⟩
theorem TO(n:Int)(w:World):Calls Tryz.prog 237 #[.int .i64 n] w fun e b=>e=.returned (.bool (dG n 5 7))/\b=w:=by
 unfold dG;by_cases h:5<=n
 ·go_enter Tryz.func237,Tryz.ntmps237
  go_wp2;go_ret;exact⟨by simp[h],rfl⟩
 have d:decide (5<=n)=false:=by simpa using h
 go_enter Tryz.func237,Tryz.ntmps237
 go_wp2;go_ret;exact⟨rfl,rfl⟩
theorem aP3(k:Int)(s:List UInt8):((zA [⟨k,0,s⟩]).2==0)=mE k s:=by
 (have b:tE [⟨k,0,s⟩] 1=mE k s:=by simp[tE]);(have d:pW [⟨k,0,s⟩] 1=s:=by simp[pW,wP]);unfold zA;rw[qZ,b,d];cases h:mE k s
 ·rfl
 have :=FE k s h;rw[if_pos rfl,if_neg oM];rfl
theorem QC(s:List UInt8)(k:Int)(w:World):Calls Tryz.prog 233 #[.string ⟨s.toArray⟩, .int .i64 k] w fun e l=>e=.returned (.bool (mE k s))/\Below w.heap.size w l:=by
 have b:=aP3 k s;(have d:Hp (w.alloc (.cells #[.int .i64 k, .int .i64 0, .string ⟨s.toArray⟩] 271)) (some ⟨w.heap.size,0,none⟩) [⟨k,0,s⟩]:=by refine .inr ⟨w.heap.size,0,rfl,fun i j=>?_⟩;(have :i=0:=by simpa using j);subst this;exact⟨by simp[go_sem,wP],by simp[go_sem,wP],by simp[go_sem,wP]⟩);have f:O (_):=aOS [⟨k,0,s⟩] _ _ 1 sI d;rw[<-b];generalize zA [⟨k,0,s⟩]=J at *;clear d b
 go_enter Tryz.func233,Tryz.ntmps233
 go_wp2_with fail;refine Calls.mono f.o ?_;rintro e m ⟨rfl,g⟩;go_wp2;go_ret;exact⟨rfl,jX g⟩
theorem TP(s:List UInt8)(w:World):Calls Tryz.prog 228 #[.string ⟨s.toArray⟩] w fun e g=>e=.returned (.bool (oR s))/\Below w.heap.size w g:=by
 unfold oR;cases f:mE 1 s
 ·go_enter Tryz.func228,Tryz.ntmps228
  go_wp2_with fail;refine(QC s 1 w).mono ?_;rintro e i ⟨b,d⟩;rw[f]at b;subst b;go_wp2;go_ret;exact⟨rfl,d⟩
 go_enter Tryz.func228,Tryz.ntmps228
 go_wp2_with fail;refine(QC s 1 w).mono ?_;rintro e i ⟨b,d⟩;rw[f]at b;subst b;go_wp2_with(go_at_call 234;refine(aJL _ _).mono ?_;rintro e g ⟨rfl,rfl⟩);go_ret;exact⟨rfl,d⟩
abbrev aFM(a c:Int):Ending:=.panicked [{v:=.iface 168 (.agg #[.int .i64 a, .int .i64 c]),recovered:=false}]
abbrev YK:Ending:=.returned (.tuple #[])
def WT(x:Int):Ending:=if x=0 then YK else aFM 0 x
theorem FR:WT 0=YK:=rfl
theorem AF{x:Int}(h:¬x=0):WT x=aFM 0 x:=by unfold WT;rw[if_neg h]
theorem aCG(a c:Int)(w:World):Calls Tryz.prog 176 #[.int .i64 a, .bool true, .int .i64 c] w fun e b=>e=aFM a c/\Below w.heap.size w b:=by
 go_enter Tryz.func176,Tryz.ntmps176
 go_wp2;exact⟨rfl,rfl,aH _ _⟩
theorem aGO(a c:Int)(w:World):Calls Tryz.prog 176 #[.int .i64 a, .bool false, .int .i64 c] w fun e b=>e=YK/\b=w:=by
 go_enter Tryz.func176,Tryz.ntmps176
 go_wp2;exact⟨rfl, .tuple #[],by simp[results,Tryz.results176],rfl,rfl⟩
theorem gO(c:Int)(w:World):Calls Tryz.prog 129 #[.bool true, .int .i64 c] w fun e d=>e=aFM 0 c/\Below w.heap.size w d:=by
 go_enter Tryz.func129,Tryz.ntmps129
 go_wp2_with fail;refine(aCG _ _ _).mono ?_;rintro e f ⟨rfl,b⟩;go_wp2;exact⟨rfl,rfl,b⟩
theorem iW(c:Int)(w:World):Calls Tryz.prog 129 #[.bool false, .int .i64 c] w fun e b=>e=YK/\b=w:=by
 go_enter Tryz.func129,Tryz.ntmps129
 go_wp2_with fail;refine(aGO _ _ _).mono ?_;rintro e d ⟨rfl,rfl⟩;go_wp2;exact⟨rfl, .tuple #[],by simp[results,Tryz.results129],rfl,rfl⟩
theorem XA(n:Int)(w:World):Calls Tryz.prog 133 #[.int .i64 n] w fun e b=>e=.returned (.bool (cP n))/\b=w:=by
 unfold cP dG;by_cases h: -1000000<=n
 ·go_enter Tryz.func133,Tryz.ntmps133
  go_wp2;go_ret;exact⟨by simp[h],rfl⟩
 have d:decide (-1000000<=n)=false:=by simpa using h
 go_enter Tryz.func133,Tryz.ntmps133
 go_wp2;go_ret;exact⟨rfl,rfl⟩
theorem CY(b:List Int)(ao:Option Addr)(d:Nat)(vn vr:Value)(k:Int)(w:World):Calls Tryz.prog 130 #[eN (.slice ao b.length d) vn vr, .int .i64 k] w fun e f=>e=.returned (.bool (lG b k))/\Below w.heap.size w f:=by
 unfold lG dG;by_cases h:0<=k
 ·go_enter Tryz.func130,Tryz.ntmps130
  go_wp2;go_ret;refine⟨?_,(aH _ _).alloc (aE _) _⟩
  congr 2
  simp[h];omega
 have g:decide (0<=k)=false:=by simpa using h
 go_enter Tryz.func130,Tryz.ntmps130
 go_wp2;go_ret;exact⟨rfl,(aH _ _).alloc (aE _) _⟩
theorem Cq(l:List dL)(d:Int)(w:World)(n b off K:Nat)(J:l.length=n)(U:n<=9223372036854775807)(A:∀i,i<n->IQ w b (off+i*2) (cA l i)):
 Calls Tryz.prog 207 #[.slice (some ⟨b,off,none⟩) n K, .int .i64 d] w fun e Q=>e=WT (eM d l)/\Below w.heap.size w Q:=by
 have HN:O (l.length=n):=J;clear J
 go_enter Tryz.func207,Tryz.ntmps207
 go_wp2_with fail;go_loopw [8] (fun i wr=>∃k:Nat,k<=n/\i=.int .i64 k/\eM d l=aU (kO d) (l.drop k)/\Below w.heap.size w wr) (fun i _=>n-(intOf i).toNat);case atStart=>exact⟨0,bG _,rfl,rfl,aH _ _⟩
 case round=>
  obtain⟨k,T,rfl,G,f⟩:=hrel;have y:O (eM d l=aU (kO d) (l.drop k)):=G;clear G;by_cases I:k<n
  ·obtain⟨z,B⟩:=A k I;have H:b<w.heap.size:=jE w _ z;have R:=(f.cell (p:=⟨b,off+k*2,none⟩) H).trans z;have S:=(f.cell (p:=⟨b,off+k*2+1,none⟩) H).trans B;have g:O (eM d l=iD (kO d (cA l k)) (aU (kO d) (l.drop (k+1)))):=y.o.trans (uP _ _ _ k (by rw[HN.o];exact I));clear z B A y;generalize cA l k=t at *;by_cases D:t.var< -1
   ·(have HV:O (eM d l=5):=by show _=_;rw[g.o];have :¬(-1:Int)<=t.var:=oM;simp[kO,iD,dG,this]);clear g;have L:decide (t.var< -1)=true:=aQ D;go_wp2_with fail;refine(gO 5 _).mono ?_;rintro e s ⟨rfl,q⟩;have j:=f.trans ((jX q).mono f.size);go_wp2_with fail;exact⟨rfl,rV,j⟩
   have L:decide (t.var< -1)=false:=aJ D;by_cases E:d<=t.var
   ·(have HV:O (eM d l=5):=by show _=_;rw[g.o];have :¬t.var<=d-1:=oM;simp[kO,iD,dG,this]);clear g;have M:decide (d<=t.var)=true:=aQ E;go_wp2_with fail;refine(gO 5 _).mono ?_;rintro e s ⟨rfl,q⟩;have j:=f.trans ((jX q).mono f.size);go_wp2_with fail;exact⟨rfl,rV,j⟩
   have M:decide (d<=t.var)=false:=aJ E;(have m:O (kO d t=if !cP t.n||(decide (0<=t.var)&&t.n != 0)then 3 else 0):=by show _=_;have N:(-1:Int)<=t.var:=oM;have P:t.var<=d-1:=oM;simp[kO,dG,N,P]);go_wp2_with fail;refine(iW 5 _).mono ?_;rintro e s ⟨rfl,rfl⟩;go_wp2_with fail;refine(XA t.n _).mono ?_;rintro e V ⟨x,rfl⟩;cases r:cP t.n
   ·rw[r]at x;subst x;(have HV:O (eM d l=3):=by show _=_;rw[g.o,m.o,r];rfl);clear g m;go_wp2_with fail;refine(gO 3 _).mono ?_;rintro e s ⟨rfl,q⟩;have j:=f.trans ((jX q).mono f.size);go_wp2_with fail;exact⟨rfl,rV,j⟩
   rw[r]at x;subst x;by_cases F:0<=t.var
   ·have v:decide (0<=t.var)=true:=aQ F;cases C:(t.n != 0)
    ·(have HV:O (eM d l=aU (kO d) (l.drop (k+1))):=by show _=_;rw[g.o,m.o,r,v,C];rfl);clear g m;go_wp2_with fail;refine(iW 3 _).mono ?_;rintro e s ⟨rfl,rfl⟩;go_wp2_with fail;have j:=f.alloc f.size (.cells #[.int .i64 t.var, .int .i64 t.n] 147);go_roundw;(case rel=>exact⟨k+1,oM,gN,HV.o,j⟩);case measure=>exact mI
    (have HV:O (eM d l=3):=by show _=_;rw[g.o,m.o,r,v,C];rfl);clear g m;go_wp2_with fail;refine(gO 3 _).mono ?_;rintro e s ⟨rfl,q⟩;have j:=f.trans ((jX q).mono f.size);go_wp2_with fail;exact⟨rfl,rV,j⟩
   have v:decide (0<=t.var)=false:=aJ F;(have HV:O (eM d l=aU (kO d) (l.drop (k+1))):=by show _=_;rw[g.o,m.o,r,v];rfl);clear g m;go_wp2_with fail;refine(iW 3 _).mono ?_;rintro e s ⟨rfl,rfl⟩;go_wp2_with fail;have j:=f.alloc f.size (.cells #[.int .i64 t.var, .int .i64 t.n] 147);go_roundw;(case rel=>exact⟨k+1,oM,gN,HV.o,j⟩);case measure=>exact mI
  (have HV:O (eM d l=0):=by show _=_;rw[y.o,bD (by rw[HN.o];omega)];rfl);clear A;go_wp2_with fail;exact⟨rfl, .tuple #[],by simp[results,Tryz.results207],rV,f⟩
theorem Cp(w:World)(d:Int)(ao:Option Addr)(b:Nat):Calls Tryz.prog 207 #[.slice ao 0 b, .int .i64 d] w fun e f=>e=YK/\Below w.heap.size w f:=by
 go_enter Tryz.func207,Tryz.ntmps207
 go_wp2_with fail;refine mG 1 ?_;rw[rounds_succ];go_wp2_with fail;exact⟨rfl, .tuple #[],by simp[results,Tryz.results207],rfl,aH _ _⟩
theorem PU(l:List dL)(f:Int)(v:Value)(w:World)(j:l.length<=9223372036854775807)(d:fT w v l):
 Calls Tryz.prog 207 #[v, .int .i64 f] w fun e m=>e=WT (eM f l)/\Below w.heap.size w m:=by
 obtain⟨i,g,rfl,_,d⟩:=d;rcases d with rfl|⟨b,k,rfl,d⟩
 ·exact Cp w f i g
 exact Cq l f w l.length b k g rfl j d
theorem TV{b:List Int}{k:Int}(h:lG b k=true):∃n:Nat,k=n/\n<b.length:=by unfold lG dG at h;simp at h;exact⟨k.toNat,oM,oM⟩
theorem AX(w:World)(o1 o2:Obj):Below w.heap.size w ((w.alloc o1).alloc o2):=((aH _ _).alloc (aE _) _).alloc sI _
theorem yJ{w b:World}{o1 o2:Obj}(d:Below ((w.alloc o1).alloc o2).heap.size ((w.alloc o1).alloc o2) b):b.heap[w.heap.size]?=some o1/\b.heap[w.heap.size+1]?=some o2:=by
 constructor
 ·exact(d.block _ sO).trans ((((aH _ (w.alloc o1)).alloc (aE _) o2).block _ sI).trans (aR w o1))
 have :=aR (w.alloc o1) o2;exact(d.block _ sI).trans (by simpa using this)
theorem Ox(d:List Int)(ao:Option Addr)(p:Nat)(vn vr:Value)(kind j m:Int)(g:List dL)(at_:Option Addr)(B:Nat)(w:World)(G:pH w ao d)(L:kind=1\/kind=2):
 Calls Tryz.prog 208 #[eN (.slice ao d.length p) vn vr,nR ⟨kind,j,m,g⟩ (.slice at_ g.length B)] w fun e w'=>e=WT (dX d ⟨kind,j,m,g⟩)/\Below w.heap.size w w':=by
 have k:Below w.heap.size w ((w.alloc (.cells #[.slice ao d.length p,vn,vr] 26)).alloc (.cells #[.int .i64 kind, .int .i64 j, .int .i64 m, .slice at_ g.length B] 49)):=AX w _ _;(have q:O (dX d ⟨kind,j,m,g⟩=if j≠0 then 3 else if lG d m then(if(g.length:Int)≠bM d m.toNat then 1 else 0)else 5):=by show _=_;simp only[dX];rw[if_pos L]);(have H:kind=1\/(kind==1)=false/\kind=2:=by rcases L with h|h<;>simp[h]);clear L;cases N:(j != 0)
 ·(have C:j=0:=by simpa using N);cases x:lG d m
  ·(have HV:O (dX d ⟨kind,j,m,g⟩=5):=by show _=_;rw[q.o,C,x];rfl);clear q G C;rcases H with rfl|⟨I,rfl⟩
   all_goals
    go_enter Tryz.func208,Tryz.ntmps208
    go_wp2_with fail;refine(iW 3 _).mono ?_;rintro e M ⟨rfl,rfl⟩;go_wp2_with fail;refine(CY d ao p vn vr m _).mono ?_;rintro e R ⟨r,l⟩;rw[x]at r;subst r;go_wp2_with fail;refine(gO 5 _).mono ?_;rintro e s ⟨rfl,X⟩;go_wp2_with fail;have W:=l.trans (X.mono l.size);exact⟨rfl,rV,k.trans (W.mono k.size)⟩
  obtain⟨n,rfl,Z⟩:=TV x;obtain⟨b,z,rfl,J⟩:=qY G n Z;have a1:b<w.heap.size:=jE w _ J;have Q:∀y,Below w.heap.size w y->y.cell? ⟨b,z+n,none⟩=some (.int .i64 (bM d n)):=fun y hy=>aB hy J;have F:O _:=Q;clear Q J G;cases P:((g.length:Int) != bM d n)
  ·(have HV:O (dX d ⟨kind,j,n,g⟩=0):=by show _=_;rw[q.o,C,x];(have :(g.length:Int)=bM d n:=by simpa using P);simp[this]);clear q C;rcases H with rfl|⟨I,rfl⟩
   all_goals
    go_enter Tryz.func208,Tryz.ntmps208
    go_wp2_with fail;refine(iW 3 _).mono ?_;rintro e M ⟨rfl,rfl⟩;go_wp2_with fail;refine(CY d _ p vn vr n _).mono ?_;rintro e R ⟨r,l⟩;rw[x]at r;subst r;go_wp2_with fail;refine(iW 5 _).mono ?_;rintro e s ⟨rfl,rfl⟩;have D:=k.trans (l.mono k.size);have hq:=F.o _ D;obtain⟨E,A⟩:=yJ l;(have c0:s.cell? ⟨w.heap.size,0,none⟩=some (.slice (some ⟨b,z,none⟩) d.length p):=cH E);(have T:s.cell? ⟨w.heap.size+1,2,none⟩=some (.int .i64 n):=cH A);(have U:s.cell? ⟨w.heap.size+1,3,none⟩=some (.slice at_ g.length B):=cH A);clear E A l k F;go_upto_region 7 with fail;go_region_held3 (fun y=>y.cell? ⟨w.heap.size,0,none⟩=some (.slice (some ⟨b,z,none⟩) d.length p)/\y.cell? ⟨w.heap.size+1,2,none⟩=some (.int .i64 n)/\y.cell? ⟨w.heap.size+1,3,none⟩=some (.slice at_ g.length B)/\y.cell? ⟨b,z+n,none⟩=some (.int .i64 (bM d n))) (go_keep) ((go_at_call 129;refine Calls.mono (iW 1 _) ?_;rintro e y ⟨rfl,rfl⟩));(all_goals go_wp2_with fail);all_goals exact⟨rfl, .tuple #[],by simp[results,Tryz.results208],rV,below_drewN D _⟩
  (have HV:O (dX d ⟨kind,j,n,g⟩=1):=by show _=_;rw[q.o,C,x];(have :¬(g.length:Int)=bM d n:=by simpa using P);simp[this]);clear q C;rcases H with rfl|⟨I,rfl⟩
  all_goals
   go_enter Tryz.func208,Tryz.ntmps208
   go_wp2_with fail;refine(iW 3 _).mono ?_;rintro e M ⟨rfl,rfl⟩;go_wp2_with fail;refine(CY d _ p vn vr n _).mono ?_;rintro e R ⟨r,l⟩;rw[x]at r;subst r;go_wp2_with fail;refine(iW 5 _).mono ?_;rintro e s ⟨rfl,rfl⟩;have D:=k.trans (l.mono k.size);have hq:=F.o _ D;obtain⟨E,A⟩:=yJ l;(have c0:s.cell? ⟨w.heap.size,0,none⟩=some (.slice (some ⟨b,z,none⟩) d.length p):=cH E);(have T:s.cell? ⟨w.heap.size+1,2,none⟩=some (.int .i64 n):=cH A);(have U:s.cell? ⟨w.heap.size+1,3,none⟩=some (.slice at_ g.length B):=cH A);clear E A l k F;go_upto_region 7 with fail;refine wp_region_held_drew (S:=(fun y=>y.cell? ⟨w.heap.size,0,none⟩=some (.slice (some ⟨b,z,none⟩) d.length p)/\y.cell? ⟨w.heap.size+1,2,none⟩=some (.int .i64 n)/\y.cell? ⟨w.heap.size+1,3,none⟩=some (.slice at_ g.length B)/\y.cell? ⟨b,z+n,none⟩=some (.int .i64 (bM d n)))) kR (by go_keep) (fun a0=>?_);refine jH (i:=0) (v:=?v0x0) rfl kR kR kR (fun _ _ _ h=>h) (Or.inl ⟨by rfl,?hy0x0⟩) (by assumption) ?_;(case hy0x0=>intro w f;(try dsimp only at f);go_simp;try with_reducible rfl);(try simp only[Act.put,List.setIfInBounds_toArray]);refine jH (i:=1) (v:=?v1x1) rfl kR kR kR (fun _ _ _ h=>h) (Or.inl ⟨by rfl,?hy1x1⟩) (by assumption) ?_;(case hy1x1=>intro w f;(try dsimp only at f);go_simp;try with_reducible rfl);(try simp only[Act.put]);refine jH (i:=2) (v:=?v2x2) rfl kR kR kR (fun _ _ _ h=>h) (Or.inl ⟨by rfl,?hy2x2⟩) (by assumption) ?_;(case hy2x2=>intro w f;(try dsimp only at f);go_simp;try with_reducible rfl);(try simp only[Act.put]);refine jH (i:=3) (v:=?v3x3) rfl kR kR kR (fun _ _ _ h=>h) (Or.inl ⟨by rfl,?hy3x3⟩) (by assumption) ?_;(case hy3x3=>intro w f;(try dsimp only at f);go_simp;try with_reducible rfl);(try simp only[Act.put]);refine jH (i:=4) (v:=?v4x4) rfl kR kR kR (fun _ _ _ h=>h) (Or.inl ⟨by rfl,?hy4x4⟩) (by assumption) ?_;(case hy4x4=>intro w f;(try dsimp only at f);go_simp;try with_reducible rfl);(try simp only[Act.put]);refine jH (i:=5) (v:=?v5x5) rfl kR kR kR (fun _ _ _ h=>h) (Or.inl ⟨by rfl,?hy5x5⟩) (by assumption) ?_;(case hy5x5=>intro w f;(try dsimp only at f);go_simp;try with_reducible rfl);(try simp only[Act.put]);refine jH (i:=6) (v:=?v6x6) rfl kR kR kR (fun _ _ _ h=>h) (Or.inl ⟨by rfl,?hy6x6⟩) (by assumption) ?_;(case hy6x6=>intro w f;(try dsimp only at f);go_simp;try with_reducible rfl);(try simp only[Act.put]);refine jH (i:=7) (v:=?v7x7) rfl kR kR kR (fun _ _ _ h=>h) (Or.inl ⟨by rfl,?hy7x7⟩) (by assumption) ?_;(case hy7x7=>intro w f;(try dsimp only at f);go_simp;try with_reducible rfl);(try simp only[Act.put]);refine jH (i:=8) (v:=?v8x8) rfl kR kR kR (fun _ _ _ h=>h) (Or.inl ⟨by rfl,?hy8x8⟩) (by assumption) ?_;(case hy8x8=>intro w f;(try dsimp only at f);go_simp;try with_reducible rfl);(try simp only[Act.put]);refine jH (i:=9) (v:=?v9x9) rfl kR kR kR (fun _ _ _ h=>h) (Or.inl ⟨by rfl,?hy9x9⟩) (by assumption) ?_;(case hy9x9=>intro w f;(try dsimp only at f);go_simp;try with_reducible rfl);(try simp only[Act.put]);refine wpAnyH_ready (rs:=[10]) kR sI ?_;refine AllReadyH.cons rfl (fun K hK=>?_) AllReadyH.nil;go_simp;go_at_call 129;refine Calls.mono (gO 1 _) ?_;rintro e y2 ⟨rfl,Y⟩;exact⟨rfl,rV,D.drew.trans (Y.mono D.size)⟩
 (have HV:O (dX d ⟨kind,j,m,g⟩=3):=by show _=_;rw[q.o,if_pos (by simpa using N)]);clear q G;rcases H with rfl|⟨I,rfl⟩
 all_goals
  go_enter Tryz.func208,Tryz.ntmps208
  go_wp2_with fail;refine(gO 3 _).mono ?_;rintro e M ⟨rfl,V⟩;go_wp2_with fail;exact⟨rfl,rV,k.trans (V.mono k.size)⟩
theorem Wh(x:Int)(w:World):Calls Tryz.prog 159 #[.int .i64 x] w fun e b=>e=.returned (.bool false)/\b=w:=by
 have h:(x != x)=false:=by simp
 go_enter Tryz.func159,Tryz.ntmps159
 go_wp2_with fail;go_ret;exact⟨rfl,rfl⟩
theorem aFE(x y:Int)(w:World):Calls Tryz.prog 104 #[.int .i64 x, .int .i64 y] w fun e g=>e=.returned (.int .i64 (gA x y))/\g=w:=by
 have b:O (gA x y=if x<y then -1 else if y<x then 1 else 0):=rfl
 go_enter Tryz.func104,Tryz.ntmps104
 go_wp2_with fail;refine(Wh x _).mono ?_;rintro e i ⟨rfl,rfl⟩;go_wp2_with fail;refine(Wh y _).mono ?_;rintro e i ⟨rfl,rfl⟩;by_cases d:x<y
 ·(have HV:O (gA x y= -1):=by show _=_;rw[b.o,if_pos d]);go_wp2_with fail;go_ret;exact⟨rV,rfl⟩
 by_cases f:y<x
 ·(have HV:O (gA x y=1):=by show _=_;rw[b.o,if_neg d,if_pos f]);go_wp2_with fail;go_ret;exact⟨rV,rfl⟩
 (have HV:O (gA x y=0):=by show _=_;rw[b.o,if_neg d,if_neg f]);go_wp2_with fail;go_ret;exact⟨rV,rfl⟩
theorem Vp(x y:List Int)(k:Nat)(b:k<x.length)(d:k<y.length):eS (x.drop k) (y.drop k)=if gA (bM x k) (bM y k)=0 then eS (x.drop (k+1)) (y.drop (k+1))else gA (bM x k) (bM y k):=by(have e:x.drop k=bM x k::x.drop (k+1):=by rw[dB b];simp[bM,List.getD_eq_getElem?_getD,b]);(have f:y.drop k=bM y k::y.drop (k+1):=by rw[dB d];simp[bM,List.getD_eq_getElem?_getD,d]);rw[e,f,eS]
theorem Vq(x y:List Int)(k:Nat)(b:k<x.length)(d:y.length<=k):eS (x.drop k) (y.drop k)=1:=by rw[bD d,dB b];rfl
theorem Ip(x y:List Int)(k:Nat)(b:x.length<=k)(d:k<y.length):eS (x.drop k) (y.drop k)= -1:=by rw[bD b,dB d];rfl
theorem Am(x y:List Int)(v u:Value)(w:World)(D:dM w v x)(C:dM w u y)(K:x.length<=9223372036854775807):
 Calls Tryz.prog 56 #[v,u] w fun e E=>e=.returned (.int .i64 (eS x y))/\E=w:=by
 obtain⟨A,G,rfl,n⟩:=D;obtain⟨B,H,rfl,p⟩:=C;have s:O (pH w A x):=n;have z:O (pH w B y):=p;clear n p
 go_enter Tryz.func56,Tryz.ntmps56
 go_wp2_with fail;go_loopw [11] (fun i wr=>∃k:Nat,k<=x.length/\k<=y.length/\i=.int .i64 k/\wr=w/\eS (x.drop k) (y.drop k)=eS x y) (fun i _=>x.length-(intOf i).toNat);case atStart=>exact⟨0,bG _,bG _,rfl,rfl,rfl⟩
 case round=>
  obtain⟨k,I,J,rfl,rfl,r⟩:=hrel;have d:O _:=r;clear r;by_cases l:k<x.length
  ·obtain⟨b,L,rfl,N⟩:=qY s.o k l;by_cases m:k<y.length
   ·obtain⟨F,M,rfl,P⟩:=qY z.o k m;(have j:O (eS x y=if gA (bM x k) (bM y k)=0 then eS (x.drop (k+1)) (y.drop (k+1))else gA (bM x k) (bM y k)):=by show _=_;rw[<-d.o];exact Vp x y k l m);clear d;generalize bM x k=a at *;generalize bM y k=f at *;go_wp2_with fail;refine(aFE a f _).mono ?_;rintro e Q ⟨rfl,rfl⟩;cases q:(gA a f != 0)
    ·(have g:gA a f=0:=by simpa using q);(have HV:O (eS (x.drop (k+1)) (y.drop (k+1))=eS x y):=by show _=_;rw[j.o,if_pos g]);clear j g;go_wp2_with fail;go_roundw;(case rel=>exact⟨k+1,oM,oM,gN,trivial,HV.o⟩);case measure=>exact mI
    (have g:¬gA a f=0:=by simpa using q);(have HV:O (eS x y=gA a f):=by show _=_;rw[j.o,if_neg g]);clear j g;go_wp2_with fail;go_ret;exact⟨rV,rfl⟩
   (have HV:O (eS x y=1):=by show _=_;rw[<-d.o];exact Vq x y k l oM);go_wp2_with fail;go_ret;exact⟨rV,rfl⟩
  by_cases m:x.length<y.length
  ·(have HV:O (eS x y= -1):=by show _=_;rw[<-d.o];exact Ip x y k oM oM);go_wp2_with fail;go_ret;exact⟨rV,rfl⟩
  (have HV:O (eS x y=0):=by show _=_;rw[<-d.o,bD oM,bD oM];rfl);go_wp2_with fail;go_ret;exact⟨rV,rfl⟩
abbrev kS(p:Int)(v:Value):Value:=.agg #[.int .i64 p,v]
def XZ(x y:Int):Int:=if x=0 then y else x
theorem aR8(b:Nat)(x y:Int)(w:World)(h0:w.cell? ⟨b,0,none⟩=some (.int .i64 x))(h1:w.cell? ⟨b,1,none⟩=some (.int .i64 y)):
 Calls Tryz.prog 116 #[.slice (some ⟨b,0,none⟩) 2 2] w fun e q=>e=.returned (.int .i64 (XZ x y))/\q=w:=by
 go_enter Tryz.func116,Tryz.ntmps116
 go_wp2_with fail;go_loopw [8] (fun i wr=>∃k:Nat,k<=2/\i=.int .i64 k/\wr=w/\(1<=k->x=0)/\(2<=k->y=0)) (fun i _=>2-(intOf i).toNat);case atStart=>exact⟨0,oM,rfl,rfl,oM,oM⟩
 case round=>
  obtain⟨k,p,rfl,rfl,l,m⟩:=hrel;have f:O _:=l;have n:O _:=m;clear l m
  match k,p with
  |0,_=>
   cases d:(x != 0)
   ·(have j:x=0:=by simpa using d);have g:O (x=0):=j;clear j;go_wp2_with fail;go_roundw;(case rel=>exact⟨1,oM,gN,trivial,fun _=>g.o,fun h=>absurd h oM⟩);case measure=>simp[intOf]
   have HV:O (XZ x y=x):=if_neg (by simpa using d);go_wp2_with fail;go_ret;exact⟨rV,rfl⟩
  |1,_=>
   have HV:O (XZ x y=y):=if_pos (f.o oM);cases d:(y != 0)
   ·(have g:O (y=0):=by show y=0;simpa using d);go_wp2_with fail;go_roundw;(case rel=>exact⟨2,oM,gN,trivial,fun _=>f.o oM,fun _=>g.o⟩);case measure=>simp[intOf]
   go_wp2_with fail;go_ret;exact⟨rV,rfl⟩
  |2,_=>
   (have HV:O (XZ x y=0):=by show _=_;unfold XZ;rw[if_pos (f.o oM)];exact n.o oM);go_wp2_with fail;go_ret;exact⟨rV,rfl⟩
theorem CL(f g:aN)(v u:Value)(w:World)(r:dM w v f.args)(n:dM w u g.args)(I:fW f)(T:fW g):
 Calls Tryz.prog 71 #[kS f.z v,kS g.z u] w fun e m=>e=.returned (.int .i64 (eV f g))/\Gr w m:=by
 obtain⟨p,x⟩:=f;obtain⟨q,y⟩:=g;have r:dM w v x:=r;have n:dM w u y:=n;obtain⟨i,k,rfl,_⟩:=id r;obtain⟨j,l,rfl,_⟩:=id n;have HV:O (∀z,Below w.heap.size w z->Calls Tryz.prog 56 #[.slice i x.length k, .slice j y.length l] z fun e m=>e=.returned (.int .i64 (eS x y))/\m=z):=fun z B=>Am x y _ _ z (aM r B) (aM n B) I;have D:O (Gr w (((w.alloc (.cells #[.int .i64 p, .slice i x.length k] 55)).alloc (.cells #[.int .i64 q, .slice j y.length l] 55)))):=((Gr.refl w).alloc _).alloc _;have s:=yJ (w:=w) (o1:=.cells #[.int .i64 p, .slice i x.length k] 55) (o2:=.cells #[.int .i64 q, .slice j y.length l] 55) (aH _ _);have P:O (eV ⟨p,x⟩ ⟨q,y⟩=XZ (gA p q) (eS x y)):=rfl;clear r n I T
 go_enter Tryz.func71,Tryz.ntmps71
 go_upto_region 1 with fail;generalize (w.alloc (.cells #[.int .i64 p, .slice i x.length k] 55)).alloc (.cells #[.int .i64 q, .slice j y.length l] 55)=d at *;(have c0:d.cell? ⟨w.heap.size,0,none⟩=some (.int .i64 p):=cH s.1);(have Q:d.cell? ⟨w.heap.size,1,none⟩=some (.slice i x.length k):=cH s.1);(have R:d.cell? ⟨w.heap.size+1,0,none⟩=some (.int .i64 q):=cH s.2);(have S:d.cell? ⟨w.heap.size+1,1,none⟩=some (.slice j y.length l):=cH s.2);have C:O (Below w.heap.size w d):=D.o.u;clear s;generalize eS x y=E at *;have F:O (∀z,Calls Tryz.prog 104 #[.int .i64 p, .int .i64 q] z fun e m=>e=.returned (.int .i64 (gA p q))/\m=z):=fun z=>aFE p q z;generalize gA p q=H at *;have L:∀a b o,Gr a b->Gr a (b.alloc o):=fun _ _ o h=>h.alloc o;have M:∀a b,Gr a b->Gr a b.drew:=fun _ _ h=>h.drew;have N:Gr d d:=Gr.refl d;have G:O (∀z,Gr d z->Calls Tryz.prog 56 #[.slice i x.length k, .slice j y.length l] z fun e m=>e=.returned (.int .i64 E)/\m=z):=fun z B=>HV.o z (C.o.trans (B.u.mono C.o.size))
 go_region_held3 (fun A=>A.cell? ⟨w.heap.size,0,none⟩=some (.int .i64 p)/\A.cell? ⟨w.heap.size,1,none⟩=some (.slice i x.length k)/\A.cell? ⟨w.heap.size+1,0,none⟩=some (.int .i64 q)/\A.cell? ⟨w.heap.size+1,1,none⟩=some (.slice j y.length l)/\Gr d A) (go_keep) (first
  |(go_at_call 104;refine Calls.mono (F.o _) ?_;rintro e J ⟨rfl,rfl⟩)
  |(go_at_call 56;refine Calls.mono (G.o _ ?_) ?_;(simp[*]);rintro e J ⟨rfl,rfl⟩)
  |(go_at_call 116;refine Calls.mono (aR8 _ H E _ ?_ ?_) ?_;(simp);(simp);rintro e J ⟨rfl,rfl⟩))
 have K:O (Gr w (d.alloc (.cells #[.int .i64 H, .int .i64 E] 3)).drew):=(D.o.alloc _).drew;clear L M N G HV F C c0 Q R S D;go_wp2_with fail;go_ret;exact⟨by rw[P.o];rfl,K.o⟩
theorem XH(f g:aN)(v u:Value)(w:World)(d:dM w v f.args)(b:dM w u g.args)(A:fW f)(B:fW g):
 Calls Tryz.prog 148 #[kS f.z v,kS g.z u] w fun e n=>e=.returned (.bool (eV f g==0))/\Gr w n:=by
 obtain⟨p,x⟩:=f;obtain⟨q,y⟩:=g;have d:dM w v x:=d;have b:dM w u y:=b;obtain⟨i,k,rfl,_⟩:=id d;obtain⟨j,l,rfl,_⟩:=id b;have m:Gr w (((w.alloc (.cells #[.int .i64 p, .slice i x.length k] 55)).alloc (.cells #[.int .i64 q, .slice j y.length l] 55))):=((Gr.refl w).alloc _).alloc _;have r:O (Calls Tryz.prog 71 #[kS p (.slice i x.length k),kS q (.slice j y.length l)] (((w.alloc (.cells #[.int .i64 p, .slice i x.length k] 55)).alloc (.cells #[.int .i64 q, .slice j y.length l] 55))) fun e n=>e=.returned (.int .i64 (eV ⟨p,x⟩ ⟨q,y⟩))/\Gr (((w.alloc (.cells #[.int .i64 p, .slice i x.length k] 55)).alloc (.cells #[.int .i64 q, .slice j y.length l] 55))) n):=CL ⟨p,x⟩ ⟨q,y⟩ _ _ _ (aM d m.u) (aM b m.u) A B;clear d b A B
 go_enter Tryz.func148,Tryz.ntmps148
 go_wp2_with fail;refine Calls.mono r.o ?_;rintro e D ⟨rfl,s⟩;have C:=m.trans s;clear r m s;go_wp2_with fail;go_ret;exact⟨rfl,C⟩
end Go.Proofs.YthenjegmigeieaaGreat
