/- Own texts, one behind the other (part 2). -/
import Derived.Test.YtfljoehbbncooaaGreatBundleA
import Derived.Test.YtfljoehbbncooaaGreatRows
import Derived.Sort.Grow
import Derived.Deep.RegionHeld3
import Derived.Deep.DeepCutAuto
import Derived.Deep.QuietTactic
import Derived.Deep.RegionLaw
import Derived.RegionDies
import Derived.BigQuiet
import Derived.Deep.RegionHeld2
import Derived.Shelf.SlSortCmp.WholeK
import Derived.Ground.SlsfProg
import Derived.Test.YtfljoehbbncooaaGreatProg
import Derived.Lib.Atoi
import Derived.RegionTactic
import Derived.BigRegion
import Derived.Lib.AtoiBound
import Derived.Lib.SliceRun
import Derived.Lib.LazyBuf
import Derived.Shelf.SlSortCmp.NoneTotal
import Derived.Laws.AppendOwnNone
import Derived.Lib.AppendZeros
set_option maxRecDepth 100000
set_option maxHeartbeats 8000000
namespace Go.Proofs.YtfljoehbbncooaaGreat
structure eE where
 var:Int
 n:Int
structure cX where
 kind:Int
 op:Int
 g:Int
 v:List eE
structure cA where
 g:Int
 v:List eE
 h:Int
 body:List cX
 vars:Int
structure bK where
 x:List Int
 r:List (List UInt8)
 y:List cA
def cQ(l:List eE)(i:Nat):eE:=l.getD i ⟨0,0⟩
def dR(l:List cX)(i:Nat):cX:=l.getD i ⟨0,0,0,[]⟩
def dX(l:List cA)(i:Nat):cA:=l.getD i ⟨0,[],0,[],0⟩
def cI(l:List Int)(i:Nat):Int:=l.getD i 0
def rI(l:List (List UInt8))(i:Nat):List UInt8:=l.getD i []
def aW{α:Type}(f:α->Int):List α->Int
 |[]=>0
 |x::r=>if f x=0 then aW f r else f x
def iV(a b:Int):Int:=if a=0 then b else a
def dJ(n:Int):Bool:=dT n (-1000000) 1000000
def mZ(b:Int)(t:eE):Int:=
 if dT t.var (-1) (b-1)then(if !dJ t.n||(decide (0<=t.var)&&t.n != 0)then 3 else 0)else 5
def fL(b:Int)(l:List eE):Int:=aW (mZ b) l
def nX(b:List Int)(k:Int):Bool:=dT k 0 ((b.length:Int)-1)
def eW(b:List Int)(l:cX):Int:=
 if l.kind=1\/l.kind=2 then
  (if l.op≠0 then 3 else if nX b l.g then(if(l.v.length:Int)≠cI b l.g.toNat then 1 else 0)else 5)
 else if l.kind=3 then(if dT l.op 1 4 then(if l.g≠0\/¬l.v.length=2 then 1 else 0)else 3)
 else if l.kind=4 then(if dT l.op 5 7 then(if l.g≠0\/¬l.v.length=3 then 1 else 0)else 3)
 else 7
def gX(b:List Int)(c:Int)(l:cX):Int:=iV (eW b l) (fL c l.v)
def cY(b:List Bool)(t:eE):Bool:=decide (t.var<0)||b.getD t.var.toNat false
def mN(b:List Bool)(t:eE):List Bool:=if 0<=t.var then b.set t.var.toNat true else b
def jE(b:List Bool)(l:List eE):List Bool:=l.foldl mN b
def oO(b:List Bool)(l:cX):List eE:=
 if l.kind=1 then l.v else if l.kind=4/\cY b (cQ l.v 0)=true/\cY b (cQ l.v 1)=true then l.v.drop 2 else []
def fS(b:List Bool)(l:cX):List Bool:=jE b (oO b l)
def bH(body:List cX)(b:List Bool):List Bool:=body.foldl fS b
def jZ(body:List cX):Nat->List Bool->List Bool
 |0,b=>b
 |n+1,b=>jZ body n (bH body b)
def xS(r:cA):Bool:=(jZ r.body r.body.length (List.replicate r.vars.toNat false)).all id
def eQ(b:List Int)(r:cA):Int:=
 if nX b r.g then
  iV (if(r.v.length:Int)≠cI b r.g.toNat then 1 else 0) (
  iV (if dT r.vars 0 8 then 0 else 3) (
  iV (fL r.vars r.v) (
  iV (if dT r.h 0 4 then 0 else 7) (
  iV (if r.h≠0/\(r.v.length=0\/r.body.length=0)then 1 else 0) (
  iV (if 4<r.body.length then 2 else 0) (
  iV (aW (gX b r.vars) r.body) (if xS r then 0 else 4)))))))
 else 5
def lX(c:List Int)(b:List (List UInt8))(i:Nat):Int:=
 iV (if dT (cI c i) 0 3 then 0 else 3) (iV (if qQ (rI b i)then 0 else 1) (if(b.take i).contains (rI b i)then 6 else 0))
def dB(p:bK):Int:=
 if 10<p.x.length\/12<p.y.length then 2
 else if¬p.r.length=p.x.length then 1
 else iV (aW (lX p.x p.r) (List.range p.r.length)) (aW (eQ p.x) p.y)
def lN(p:bK)(b:Int)(args:List Int):Int:=
 if nX p.x b then iV (if(args.length:Int)≠cI p.x b.toNat then 1 else 0) (if args.all dJ then 0 else 3)else 5
def mX(p:bK)(b:Int)(args:List Int):Int:=iV (dB p) (lN p b args)
theorem gC(b:Int):iV 0 b=b:=rfl
theorem qP{a:Int}(b:Int)(h:¬a=0):iV a b=a:=by unfold iV;rw[if_neg h]
theorem yD{α:Type}(f:α->Int)(d:α)(l:List α)(k:Nat)(h:k<l.length):aW f (l.drop k)=iV (f (l.getD k d)) (aW f (l.drop (k+1))):=by rw[dA h,aW,iV];simp[List.getD_eq_getElem?_getD,List.getElem?_eq_getElem h]
theorem VE{b c:List Bool}(h:∀i:Nat,b.getD i false=true->c.getD i false=true)(t:eE)(e:cY b t=true):cY c t=true:=by
 unfold cY at e ⊢;rcases yQ _ _▸e with d|d
 ·simp[d]
 rw[h _ d,EG]
def qU(b c:List Bool):Prop:=b.length=c.length/\∀i:Nat,b.getD i false=true->c.getD i false=true
theorem qU.refl(b:List Bool):qU b b:=⟨rfl,fun _ h=>h⟩
theorem qU.trans{a b c:List Bool}(h:qU a b)(k:qU b c):qU a c:=⟨h.1.trans k.1,fun i d=>k.2 i (h.2 i d)⟩
theorem NN(b:List Bool)(t:eE):qU b (mN b t):=by
 unfold mN;split
 ·refine⟨by simp,fun i c=>?_⟩;rw[aI]at c ⊢;rw[fU];split
  ·rename_i h;subst h;split
   ·rfl
   rename_i d;rw[dK oM]at c;exact c
  exact c
 exact qU.refl b
theorem GX(l:List eE):∀b:List Bool,qU b (jE b l):=by
 induction l with
 |nil=>exact qU.refl
 |cons t r c=>exact fun b=>(NN b t).trans (c (mN b t))
theorem GY(b:List Bool)(l:cX):qU b (fS b l):=GX _ b
theorem qV(body:List cX):∀b:List Bool,qU b (bH body b):=by
 induction body with
 |nil=>exact qU.refl
 |cons t r c=>exact fun b=>(GY b t).trans (c (fS b t))
def RL(b:List Bool)(l:List eE):Prop:=∀t,t∈l->0<=t.var->t.var.toNat<b.length->b.getD t.var.toNat false=true
theorem RL.le{b c:List Bool}{l:List eE}(h:RL b l)(k:qU b c):RL c l:=fun t ht d e=>k.2 _ (h t ht d (by rw[k.1];exact e))
theorem RM{b:List Bool}{t:eE}(h:0<=t.var->t.var.toNat<b.length->b.getD t.var.toNat false=true):mN b t=b:=by
 unfold mN;split
 ·rename_i d;apply kP;intro i;rw[fU];split
  ·rename_i e;subst e;split
   ·rename_i c;have :=h d c;rw[aI,aM c]at this;rw[aM c];simp at this;rw[this]
   rename_i c;rw[dK oM]
  rfl
 rfl
theorem Wy(l:List eE):∀{b:List Bool},RL b l->jE b l=b:=by
 induction l with
 |nil=>exact fun _=>rfl
 |cons t r d=>
  intro b h;show jE (mN b t) r=b;rw[RM (h t dL)];exact d fun x c=>h x (bY _ c)
theorem aG1(b:List Bool)(t:eE)(h0:0<=t.var)(c:t.var.toNat<b.length):(mN b t).getD t.var.toNat false=true:=by unfold mN;rw[if_pos h0,aI,List.getElem?_set_self c];rfl
theorem LZ(l:List eE):∀b:List Bool,RL (jE b l) l:=by
 induction l with
 |nil=>exact fun _ t ht=>absurd ht sI
 |cons t r j=>
  intro b x c d e;have f:qU (mN b t) (jE (mN b t) r):=GX r _;rcases eA.mp c with rfl|c
  ·refine f.2 _ (aG1 b x d ?_);have g:=(NN b x).1;have i:=f.1;show x.var.toNat<b.length;rw[g,i];exact e
  exact j (mN b t) x c d e
def jF(b:List Bool)(l:cX):Bool:=(l.kind==1)||((l.kind==4)&&cY b (cQ l.v 0)&&cY b (cQ l.v 1))
def Bk(l:cX):List eE:=if l.kind=1 then l.v else l.v.drop 2
theorem BF(b:List Bool)(l:cX):oO b l=if jF b l then Bk l else []:=by
 unfold oO jF Bk;by_cases c:l.kind=1
 ·simp[c]
 by_cases d:l.kind=4
 ·cases e:cY b (cQ l.v 0)<;>cases f:cY b (cQ l.v 1)<;>simp[d]
 simp[c,d]
theorem FF(body:List cX):∀(b:List Bool),(∀l,l∈body->jF b l=true->RL b (Bk l))->bH body b=b:=by
 induction body with
 |nil=>exact fun _ _=>rfl
 |cons x r f=>
  intro b h;have e:fS b x=b:=by
   unfold fS;rw[BF];split
   ·rename_i d;exact Wy _ (h x dL d)
   rfl
  show bH r (fS b x)=b;rw[e];exact f b fun l c=>h l (bY _ c)
theorem CX(body:List cX):∀(n:Nat)(b:List Bool),bH body b=b->jZ body n b=b:=by
 intro n
 induction n with
 |zero=>exact fun _ _=>rfl
 |succ n c=>intro b h;rw[jZ,h];exact c b h
end Go.Proofs.YtfljoehbbncooaaGreat
namespace Go.Proofs.YtfljoehbbncooaaGreat
open Go.RowKit
def vS(w:World)(ao:Option Addr)(l:List Int):Prop:=
 l=[]\/∃b c,ao=some ⟨b,c,none⟩/\∀i,i<l.length->w.cell? ⟨b,c+i,none⟩=some (.int .i64 (cI l i))
def eT(w:World)(v:Value)(l:List Int):Prop:=∃b cap,v=.slice b l.length cap/\vS w b l
def aG7(w:World)(ao:Option Addr)(l:List (List UInt8)):Prop:=
 l=[]\/∃b c,ao=some ⟨b,c,none⟩/\∀i,i<l.length->w.cell? ⟨b,c+i,none⟩=some (.string ⟨(rI l i).toArray⟩)
def Xk(w:World)(v:Value)(l:List (List UInt8)):Prop:=∃b cap,v=.slice b l.length cap/\aG7 w b l
def ND(w:World)(b off:Nat)(t:eE):Prop:=
 w.cell? ⟨b,off,none⟩=some (.int .i64 t.var)/\w.cell? ⟨b,off+1,none⟩=some (.int .i64 t.n)
def UK(w:World)(ao:Option Addr)(l:List eE):Prop:=
 l=[]\/∃b c,ao=some ⟨b,c,none⟩/\∀i,i<l.length->ND w b (c+i*2) (cQ l i)
def iX(w:World)(v:Value)(l:List eE):Prop:=∃b cap,v=.slice b l.length cap/\l.length<=cap/\UK w b l
def Vp(w:World)(b off:Nat)(x:cX):Prop:=
 w.cell? ⟨b,off,none⟩=some (.int .i64 x.kind)/\w.cell? ⟨b,off+1,none⟩=some (.int .i64 x.op)/\w.cell? ⟨b,off+2,none⟩=some (.int .i64 x.g)/\
  ∃v,w.cell? ⟨b,off+3,none⟩=some v/\iX w v x.v
def QY(w:World)(ao:Option Addr)(l:List cX):Prop:=
 l=[]\/∃b c,ao=some ⟨b,c,none⟩/\∀i,i<l.length->Vp w b (c+i*4) (dR l i)
def uA(w:World)(v:Value)(l:List cX):Prop:=∃b cap,v=.slice b l.length cap/\QY w b l
def Fg(w:World)(b off:Nat)(r:cA):Prop:=
 w.cell? ⟨b,off,none⟩=some (.int .i64 r.g)/\(∃v,w.cell? ⟨b,off+1,none⟩=some v/\iX w v r.v)/\w.cell? ⟨b,off+2,none⟩=some (.int .i64 r.h)/\
  (∃v,w.cell? ⟨b,off+3,none⟩=some v/\uA w v r.body)/\w.cell? ⟨b,off+4,none⟩=some (.int .i64 r.vars)
def UJ(w:World)(ao:Option Addr)(l:List cA):Prop:=
 l=[]\/∃b c,ao=some ⟨b,c,none⟩/\∀i,i<l.length->Fg w b (c+i*5) (dX l i)
def EV(w:World)(v:Value)(l:List cA):Prop:=∃b cap,v=.slice b l.length cap/\UJ w b l
abbrev gU(va vn vr:Value):Value:=.agg #[va,vn,vr]
structure nV (w:World) (va vn vr:Value) (p:bK):Prop where
 ar:eT w va p.x
 nm:Xk w vn p.r
 rl:EV w vr p.y
theorem bC{w w':World}{v:Value}{l:List Int}(h:eT w v l)(d:Below w.heap.size w w'):eT w' v l:=by
 obtain⟨c,cap,rfl,h⟩:=h;refine⟨c,cap,rfl,?_⟩;rcases h with h|⟨b,g,rfl,e⟩
 ·exact .inl h
 exact .inr ⟨b,g,rfl,fun i f=>aB d (e i f)⟩
theorem aNM{w w':World}{v:Value}{l:List (List UInt8)}(h:Xk w v l)(d:Below w.heap.size w w'):Xk w' v l:=by
 obtain⟨c,cap,rfl,h⟩:=h;refine⟨c,cap,rfl,?_⟩;rcases h with h|⟨b,g,rfl,e⟩
 ·exact .inl h
 exact .inr ⟨b,g,rfl,fun i f=>aB d (e i f)⟩
theorem fV{w w':World}{v:Value}{l:List eE}(h:iX w v l)(d:Below w.heap.size w w'):iX w' v l:=by
 obtain⟨f,cap,rfl,c,h⟩:=h;refine⟨f,cap,rfl,c,?_⟩;rcases h with h|⟨b,g,rfl,c⟩
 ·exact .inl h
 exact .inr ⟨b,g,rfl,fun i e=>⟨aB d (c i e).1,aB d (c i e).2⟩⟩
theorem aH2{w w':World}{b off:Nat}{x:cX}(h:Vp w b off x)(c:Below w.heap.size w w'):Vp w' b off x:=by obtain⟨d,e,f,v,g,i⟩:=h;exact⟨aB c d,aB c e,aB c f,v,aB c g,fV i c⟩
theorem wB{w w':World}{v:Value}{l:List cX}(h:uA w v l)(d:Below w.heap.size w w'):uA w' v l:=by
 obtain⟨c,cap,rfl,h⟩:=h;refine⟨c,cap,rfl,?_⟩;rcases h with h|⟨b,g,rfl,e⟩
 ·exact .inl h
 exact .inr ⟨b,g,rfl,fun i f=>aH2 (e i f) d⟩
theorem aCV{w w':World}{b off:Nat}{x:cA}(h:Fg w b off x)(c:Below w.heap.size w w'):Fg w' b off x:=by obtain⟨d,⟨v,e,f⟩,g,⟨u,i,j⟩,k⟩:=h;exact⟨aB c d,⟨v,aB c e,fV f c⟩,aB c g,⟨u,aB c i,wB j c⟩,aB c k⟩
theorem ZX{w w':World}{v:Value}{l:List cA}(h:EV w v l)(d:Below w.heap.size w w'):EV w' v l:=by
 obtain⟨c,cap,rfl,h⟩:=h;refine⟨c,cap,rfl,?_⟩;rcases h with h|⟨b,g,rfl,e⟩
 ·exact .inl h
 exact .inr ⟨b,g,rfl,fun i f=>aCV (e i f) d⟩
theorem nV.z{w w':World}{va vn vr:Value}{p:bK}(h:nV w va vn vr p)(b:Below w.heap.size w w'):nV w' va vn vr p:=⟨bC h.ar b,aNM h.nm b,ZX h.rl b⟩
abbrev jG(t:eE):Value:=.agg #[.int .i64 t.var, .int .i64 t.n]
abbrev sH(x:cX)(v:Value):Value:=.agg #[.int .i64 x.kind, .int .i64 x.op, .int .i64 x.g,v]
abbrev rZ(r:cA)(v u:Value):Value:=.agg #[.int .i64 r.g,v, .int .i64 r.h,u, .int .i64 r.vars]
def UC(x:cX):Prop:=x.v.length<=9223372036854775807
def KH(r:cA):Prop:=r.v.length<=9223372036854775807/\r.body.length<=9223372036854775807/\∀i,i<r.body.length->UC (dR r.body i)
structure lR (p:bK):Prop where
 ar:p.x.length<=9223372036854775807
 nm:p.r.length<=9223372036854775807
 rl:p.y.length<=9223372036854775807
 rs:∀i,i<p.y.length->KH (dX p.y i)
abbrev pB(b:Option Addr)(e:Nat)(c:Option Addr)(f:Nat)(d:Option Addr)(g:Nat)(p:bK):Obj:=.cells #[.slice b p.x.length e, .slice c p.r.length f, .slice d p.y.length g] 26
end Go.Proofs.YtfljoehbbncooaaGreat
namespace Go.Proofs.YtfljoehbbncooaaGreat
open Go.RowKit Go.Sort Go.Lib
def Gr(w w':World):Prop:=∃q b,w'=grow (w.drewN q) b
theorem Gr.refl(w:World):Gr w w:=⟨0,#[],by rw[grow_empty];rfl⟩
theorem Gr.trans{a b c:World}(h:Gr a b)(k:Gr b c):Gr a c:=by obtain⟨q,d,rfl⟩:=h;obtain⟨f,e,rfl⟩:=k;refine⟨q+f,d++e,?_⟩;show({a with drawn:=a.drawn+q+f,heap:=a.heap++d++e}:World)={a with drawn:=a.drawn+(q+f),heap:=a.heap++(d++e)};rw[FY,Array.append_assoc]
theorem Gr.alloc{a b:World}(h:Gr a b)(o:Obj):Gr a (b.alloc o):=h.trans ⟨0,#[o],by rw[alloc_eq_grow];rfl⟩
theorem Gr.drew{a b:World}(h:Gr a b):Gr a b.drew:=h.trans ⟨1,#[],by rw[grow_empty];rfl⟩
theorem Gr.z{a b:World}(h:Gr a b):Below a.heap.size a b:=by
 obtain⟨q,c,rfl⟩:=h;refine⟨rfl,rfl,rfl,?_,fun k d=>?_⟩
 ·show a.heap.size<=(a.heap++c).size;simp
 show(a.heap++c)[k]?=a.heap[k]?;rw[sA d]
def bF(l:List aQ)(i:Nat):aQ:=l.getD i ⟨0,[]⟩
def QP(w:World)(b off:Nat)(f:aQ):Prop:=
 w.cell? ⟨b,off,none⟩=some (.int .i64 f.g)/\∃v,w.cell? ⟨b,off+1,none⟩=some v/\eT w v f.args
def lD(w:World)(ao:Option Addr)(l:List aQ):Prop:=
 l=[]\/∃b c,ao=some ⟨b,c,none⟩/\∀i,i<l.length->QP w b (c+i*2) (bF l i)
def bS(w:World)(v:Value)(l:List aQ):Prop:=∃b cap,v=.slice b l.length cap/\(l.length<=cap/\(b=none->cap=0))/\lD w b l
def gD(f:aQ):Prop:=f.args.length<=9223372036854775807
theorem SH{w w':World}{b off:Nat}{f:aQ}(h:QP w b off f)(c:Below w.heap.size w w'):QP w' b off f:=by obtain⟨d,v,e,g⟩:=h;exact⟨aB c d,v,aB c e,bC g c⟩
theorem bQ{w w':World}{v:Value}{l:List aQ}(h:bS w v l)(d:Below w.heap.size w w'):bS w' v l:=by
 obtain⟨c,cap,rfl,e,h⟩:=h;refine⟨c,cap,rfl,e,?_⟩;rcases h with h|⟨b,g,rfl,h⟩
 ·exact .inl h
 exact .inr ⟨b,g,rfl,fun i f=>SH (h i f) d⟩
theorem nM{w:World}{ao:Option Addr}{l:List aQ}(h:lD w ao l)(i:Nat)(d:i<l.length):∃b c,ao=some ⟨b,c,none⟩/\QP w b (c+i*2) (bF l i):=by
 rcases h with h|⟨b,c,e,f⟩
 ·rw[h]at d;exact absurd d sI
 exact⟨b,c,e,f i d⟩
theorem SG(l:List aQ)(k:Nat)(b:k<l.length):l.drop k=bF l k::l.drop (k+1):=by rw[dA b];simp[bF,List.getD_eq_getElem?_getD,b]
theorem lU(l:List aQ)(k:Nat)(b:k<l.length):bF l k∈l:=by simp[bF,b]
theorem ED(l:List aQ)(k:Nat)(b:k<l.length):l[k]?=some (bF l k):=by simp[bF,b]
theorem sY{w:World}{ao:Option Addr}{l:List Int}(h:vS w ao l)(i:Nat)(d:i<l.length):∃b c,ao=some ⟨b,c,none⟩/\w.cell? ⟨b,c+i,none⟩=some (.int .i64 (cI l i)):=by
 rcases h with h|⟨b,c,e,f⟩
 ·rw[h]at d;exact absurd d sI
 exact⟨b,c,e,f i d⟩
end Go.Proofs.YtfljoehbbncooaaGreat
namespace Go.Proofs.YtfljoehbbncooaaGreat
open Go.RowKit
abbrev aLV(a c:Int):Ending:=.panicked [{v:=.iface 118 (.agg #[.int .i64 a, .int .i64 c]),recovered:=false}]
abbrev Lx:Ending:=.returned (.tuple #[])
def Ig(x:Int):Ending:=if x=0 then Lx else aLV 0 x
theorem LE:Ig 0=Lx:=rfl
theorem DM{x:Int}(h:¬x=0):Ig x=aLV 0 x:=by unfold Ig;rw[if_neg h]
theorem aID(a c:Int)(w:World):Calls Tryz.prog 152 #[.int .i64 a, .bool true, .int .i64 c] w fun e b=>e=aLV a c/\Below w.heap.size w b:=by
 go_enter Tryz.func152,Tryz.ntmps152
 go_wp2;exact⟨rfl,rfl,aG _ _⟩
theorem aM4(a c:Int)(w:World):Calls Tryz.prog 152 #[.int .i64 a, .bool false, .int .i64 c] w fun e b=>e=Lx/\b=w:=by
 go_enter Tryz.func152,Tryz.ntmps152
 go_wp2;exact⟨rfl, .tuple #[],by simp[results,Tryz.results152],rfl,rfl⟩
theorem iY(c:Int)(w:World):Calls Tryz.prog 112 #[.bool true, .int .i64 c] w fun e d=>e=aLV 0 c/\Below w.heap.size w d:=by
 go_enter Tryz.func112,Tryz.ntmps112
 go_wp2_with fail;refine(aID _ _ _).mono ?_;rintro e f ⟨rfl,b⟩;go_wp2;exact⟨rfl,rfl,b⟩
theorem kN(c:Int)(w:World):Calls Tryz.prog 112 #[.bool false, .int .i64 c] w fun e b=>e=Lx/\b=w:=by
 go_enter Tryz.func112,Tryz.ntmps112
 go_wp2_with fail;refine(aM4 _ _ _).mono ?_;rintro e d ⟨rfl,rfl⟩;go_wp2;exact⟨rfl, .tuple #[],by simp[results,Tryz.results112],rfl,rfl⟩
theorem Iy(n:Int)(w:World):Calls Tryz.prog 123 #[.int .i64 n] w fun e b=>e=.returned (.bool (dJ n))/\b=w:=by
 unfold dJ dT;by_cases h: -1000000<=n
 ·go_enter Tryz.func123,Tryz.ntmps123
  go_wp2;go_ret;exact⟨by simp[h],rfl⟩
 have c:decide (-1000000<=n)=false:=by simpa using h
 go_enter Tryz.func123,Tryz.ntmps123
 go_wp2;go_ret;exact⟨rfl,rfl⟩
theorem GT(b:List Int)(ao:Option Addr)(cap:Nat)(vn vr:Value)(k:Int)(w:World):Calls Tryz.prog 120 #[gU (.slice ao b.length cap) vn vr, .int .i64 k] w fun e c=>e=.returned (.bool (nX b k))/\Below w.heap.size w c:=by
 unfold nX dT;by_cases h:0<=k
 ·go_enter Tryz.func120,Tryz.ntmps120
  go_wp2;go_ret;refine⟨?_,(aG _ _).alloc (aH _) _⟩
  congr 2
  simp[h];omega
 have d:decide (0<=k)=false:=by simpa using h
 go_enter Tryz.func120,Tryz.ntmps120
 go_wp2;go_ret;exact⟨rfl,(aG _ _).alloc (aH _) _⟩
theorem Sk(l:List eE)(c:Int)(w:World)(n b off cap:Nat)(N:l.length=n)(X:n<=9223372036854775807)(D:∀i,i<n->ND w b (off+i*2) (cQ l i)):
 Calls Tryz.prog 154 #[.slice (some ⟨b,off,none⟩) n cap, .int .i64 c] w fun e T=>e=Ig (fL c l)/\Below w.heap.size w T:=by
 have E:O (l.length=n):=N;clear N
 go_enter Tryz.func154,Tryz.ntmps154
 go_wp2_with fail;go_loopw [8] (fun i wr=>∃k:Nat,k<=n/\i=.int .i64 k/\fL c l=aW (mZ c) (l.drop k)/\Below w.heap.size w wr) (fun i _=>n-(intOf i).toNat);case atStart=>exact⟨0,bL _,rfl,rfl,aG _ _⟩
 case round=>
  obtain⟨k,W,rfl,K,d⟩:=hrel;have x:O (fL c l=aW (mZ c) (l.drop k)):=K;clear K;by_cases M:k<n
  ·obtain⟨C,F⟩:=D k M;have L:b<w.heap.size:=jR w _ C;have U:=(d.cell (p:=⟨b,off+k*2,none⟩) L).trans C;have V:=(d.cell (p:=⟨b,off+k*2+1,none⟩) L).trans F;have f:O (fL c l=iV (mZ c (cQ l k)) (aW (mZ c) (l.drop (k+1)))):=x.o.trans (yD _ _ _ k (by rw[E.o];exact M));clear C F D x;generalize cQ l k=t at *;by_cases H:t.var< -1
   ·(have HV:O (fL c l=5):=by show _=_;rw[f.o];have :¬(-1:Int)<=t.var:=oM;simp[mZ,iV,dT,this]);clear f;have P:decide (t.var< -1)=true:=aP H;go_wp2_with fail;refine(iY 5 _).mono ?_;rintro e r ⟨rfl,m⟩;have g:=d.trans ((mE m).mono d.size);go_wp2_with fail;exact⟨rfl,rV,g⟩
   have P:decide (t.var< -1)=false:=aF H;by_cases I:c<=t.var
   ·(have HV:O (fL c l=5):=by show _=_;rw[f.o];have :¬t.var<=c-1:=oM;simp[mZ,iV,dT,this]);clear f;have Q:decide (c<=t.var)=true:=aP I;go_wp2_with fail;refine(iY 5 _).mono ?_;rintro e r ⟨rfl,m⟩;have g:=d.trans ((mE m).mono d.size);go_wp2_with fail;exact⟨rfl,rV,g⟩
   have Q:decide (c<=t.var)=false:=aF I;(have j:O (mZ c t=if !dJ t.n||(decide (0<=t.var)&&t.n != 0)then 3 else 0):=by show _=_;have R:(-1:Int)<=t.var:=oM;have S:t.var<=c-1:=oM;simp[mZ,dT,R,S]);go_wp2_with fail;refine(kN 5 _).mono ?_;rintro e r ⟨rfl,rfl⟩;go_wp2_with fail;refine(Iy t.n _).mono ?_;rintro e Y ⟨u,rfl⟩;cases q:dJ t.n
   ·rw[q]at u;subst u;(have HV:O (fL c l=3):=by show _=_;rw[f.o,j.o,q];rfl);clear f j;go_wp2_with fail;refine(iY 3 _).mono ?_;rintro e r ⟨rfl,m⟩;have g:=d.trans ((mE m).mono d.size);go_wp2_with fail;exact⟨rfl,rV,g⟩
   rw[q]at u;subst u;by_cases J:0<=t.var
   ·have s:decide (0<=t.var)=true:=aP J;cases G:(t.n != 0)
    ·(have HV:O (fL c l=aW (mZ c) (l.drop (k+1))):=by show _=_;rw[f.o,j.o,q,s,G];rfl);clear f j;go_wp2_with fail;refine(kN 3 _).mono ?_;rintro e r ⟨rfl,rfl⟩;go_wp2_with fail;have g:=d.alloc d.size (.cells #[.int .i64 t.var, .int .i64 t.n] 107);go_roundw;(case rel=>exact⟨k+1,oM,gN,HV.o,g⟩);case measure=>exact mI
    (have HV:O (fL c l=3):=by show _=_;rw[f.o,j.o,q,s,G];rfl);clear f j;go_wp2_with fail;refine(iY 3 _).mono ?_;rintro e r ⟨rfl,m⟩;have g:=d.trans ((mE m).mono d.size);go_wp2_with fail;exact⟨rfl,rV,g⟩
   have s:decide (0<=t.var)=false:=aF J;(have HV:O (fL c l=aW (mZ c) (l.drop (k+1))):=by show _=_;rw[f.o,j.o,q,s];rfl);clear f j;go_wp2_with fail;refine(kN 3 _).mono ?_;rintro e r ⟨rfl,rfl⟩;go_wp2_with fail;have g:=d.alloc d.size (.cells #[.int .i64 t.var, .int .i64 t.n] 107);go_roundw;(case rel=>exact⟨k+1,oM,gN,HV.o,g⟩);case measure=>exact mI
  (have HV:O (fL c l=0):=by show _=_;rw[x.o,bG (by rw[E.o];omega)];rfl);clear D;go_wp2_with fail;exact⟨rfl, .tuple #[],by simp[results,Tryz.results154],rV,d⟩
theorem Sj(w:World)(b:Int)(ao:Option Addr)(cap:Nat):Calls Tryz.prog 154 #[.slice ao 0 cap, .int .i64 b] w fun e c=>e=Lx/\Below w.heap.size w c:=by
 go_enter Tryz.func154,Tryz.ntmps154
 go_wp2_with fail;refine nF 1 ?_;rw[rounds_succ];go_wp2_with fail;exact⟨rfl, .tuple #[],by simp[results,Tryz.results154],rfl,aG _ _⟩
theorem WM(l:List eE)(d:Int)(v:Value)(w:World)(g:l.length<=9223372036854775807)(c:iX w v l):
 Calls Tryz.prog 154 #[v, .int .i64 d] w fun e j=>e=Ig (fL d l)/\Below w.heap.size w j:=by
 obtain⟨f,cap,rfl,_,c⟩:=c;rcases c with rfl|⟨b,i,rfl,c⟩
 ·exact Sj w d f cap
 exact Sk l d w l.length b i cap rfl g c
theorem Cw{b:List Int}{k:Int}(h:nX b k=true):∃n:Nat,k=n/\n<b.length:=by unfold nX dT at h;simp at h;exact⟨k.toNat,oM,oM⟩
theorem EB(w:World)(o1 o2:Obj):Below w.heap.size w ((w.alloc o1).alloc o2):=((aG _ _).alloc (aH _) _).alloc sI _
theorem xE{w b:World}{o1 o2:Obj}(c:Below ((w.alloc o1).alloc o2).heap.size ((w.alloc o1).alloc o2) b):b.heap[w.heap.size]?=some o1/\b.heap[w.heap.size+1]?=some o2:=by
 constructor
 ·exact(c.block _ sO).trans ((((aG _ (w.alloc o1)).alloc (aH _) o2).block _ sI).trans (bA w o1))
 have :=bA (w.alloc o1) o2;exact(c.block _ sI).trans (by simpa using this)
theorem aCG(c:List Int)(ao:Option Addr)(cap:Nat)(vn vr:Value)(kind f k:Int)(ts:List eE)(at_:Option Addr)(u:Nat)(w:World)(F:vS w ao c)(J:kind=1\/kind=2):
 Calls Tryz.prog 155 #[gU (.slice ao c.length cap) vn vr,sH ⟨kind,f,k,ts⟩ (.slice at_ ts.length u)] w fun e w'=>e=Ig (eW c ⟨kind,f,k,ts⟩)/\Below w.heap.size w w':=by
 have g:Below w.heap.size w ((w.alloc (.cells #[.slice ao c.length cap,vn,vr] 26)).alloc (.cells #[.int .i64 kind, .int .i64 f, .int .i64 k, .slice at_ ts.length u] 109)):=EB w _ _;(have l:O (eW c ⟨kind,f,k,ts⟩=if f≠0 then 3 else if nX c k then(if(ts.length:Int)≠cI c k.toNat then 1 else 0)else 5):=by show _=_;simp only[eW];rw[if_pos J]);(have G:kind=1\/(kind==1)=false/\kind=2:=by rcases J with h|h<;>simp[h]);clear J;cases M:(f != 0)
 ·(have x:f=0:=by simpa using M);cases q:nX c k
  ·(have HV:O (eW c ⟨kind,f,k,ts⟩=5):=by show _=_;rw[l.o,x,q];rfl);clear l F x;rcases G with rfl|⟨H,rfl⟩
   all_goals
    go_enter Tryz.func155,Tryz.ntmps155
    go_wp2_with fail;refine(kN 3 _).mono ?_;rintro e L ⟨rfl,rfl⟩;go_wp2_with fail;refine(GT c ao cap vn vr k _).mono ?_;rintro e Q ⟨m,j⟩;rw[q]at m;subst m;go_wp2_with fail;refine(iY 5 _).mono ?_;rintro e p ⟨rfl,W⟩;go_wp2_with fail;have V:=j.trans (W.mono j.size);exact⟨rfl,rV,g.trans (V.mono g.size)⟩
  obtain⟨n,rfl,Y⟩:=Cw q;obtain⟨b,r,rfl,I⟩:=sY F n Y;have a1:b<w.heap.size:=jR w _ I;have P:∀y,Below w.heap.size w y->y.cell? ⟨b,r+n,none⟩=some (.int .i64 (cI c n)):=fun y hy=>aB hy I;have E:O _:=P;clear P I F;cases N:((ts.length:Int) != cI c n)
  ·(have HV:O (eW c ⟨kind,f,n,ts⟩=0):=by show _=_;rw[l.o,x,q];(have :(ts.length:Int)=cI c n:=by simpa using N);simp[this]);clear l x;rcases G with rfl|⟨H,rfl⟩
   all_goals
    go_enter Tryz.func155,Tryz.ntmps155
    go_wp2_with fail;refine(kN 3 _).mono ?_;rintro e L ⟨rfl,rfl⟩;go_wp2_with fail;refine(GT c _ cap vn vr n _).mono ?_;rintro e Q ⟨m,j⟩;rw[q]at m;subst m;go_wp2_with fail;refine(kN 5 _).mono ?_;rintro e p ⟨rfl,rfl⟩;have C:=g.trans (j.mono g.size);have Z:=E.o _ C;obtain⟨D,s⟩:=xE j;(have c0:p.cell? ⟨w.heap.size,0,none⟩=some (.slice (some ⟨b,r,none⟩) c.length cap):=cH D);(have R:p.cell? ⟨w.heap.size+1,2,none⟩=some (.int .i64 n):=cH s);(have T:p.cell? ⟨w.heap.size+1,3,none⟩=some (.slice at_ ts.length u):=cH s);clear D s j g E;go_upto_region 7 with fail;go_region_held3 (fun y=>y.cell? ⟨w.heap.size,0,none⟩=some (.slice (some ⟨b,r,none⟩) c.length cap)/\y.cell? ⟨w.heap.size+1,2,none⟩=some (.int .i64 n)/\y.cell? ⟨w.heap.size+1,3,none⟩=some (.slice at_ ts.length u)/\y.cell? ⟨b,r+n,none⟩=some (.int .i64 (cI c n))) (go_keep) ((go_at_call 112;refine Calls.mono (kN 1 _) ?_;rintro e y ⟨rfl,rfl⟩));(all_goals go_wp2_with fail);all_goals exact⟨rfl, .tuple #[],by simp[results,Tryz.results155],rV,below_drewN C _⟩
  (have HV:O (eW c ⟨kind,f,n,ts⟩=1):=by show _=_;rw[l.o,x,q];(have :¬(ts.length:Int)=cI c n:=by simpa using N);simp[this]);clear l x;rcases G with rfl|⟨H,rfl⟩
  all_goals
   go_enter Tryz.func155,Tryz.ntmps155
   go_wp2_with fail;refine(kN 3 _).mono ?_;rintro e L ⟨rfl,rfl⟩;go_wp2_with fail;refine(GT c _ cap vn vr n _).mono ?_;rintro e Q ⟨m,j⟩;rw[q]at m;subst m;go_wp2_with fail;refine(kN 5 _).mono ?_;rintro e p ⟨rfl,rfl⟩;have C:=g.trans (j.mono g.size);have Z:=E.o _ C;obtain⟨D,s⟩:=xE j;(have c0:p.cell? ⟨w.heap.size,0,none⟩=some (.slice (some ⟨b,r,none⟩) c.length cap):=cH D);(have R:p.cell? ⟨w.heap.size+1,2,none⟩=some (.int .i64 n):=cH s);(have T:p.cell? ⟨w.heap.size+1,3,none⟩=some (.slice at_ ts.length u):=cH s);clear D s j g E;go_upto_region 7 with fail;refine JX (S:=(fun y=>y.cell? ⟨w.heap.size,0,none⟩=some (.slice (some ⟨b,r,none⟩) c.length cap)/\y.cell? ⟨w.heap.size+1,2,none⟩=some (.int .i64 n)/\y.cell? ⟨w.heap.size+1,3,none⟩=some (.slice at_ ts.length u)/\y.cell? ⟨b,r+n,none⟩=some (.int .i64 (cI c n)))) kR (by go_keep) (fun a0=>?_);refine iM (i:=0) (v:=?v0x0) rfl kR kR kR (fun _ _ _ h=>h) (Or.inl ⟨by rfl,?hy0x0⟩) (by assumption) ?_;(case hy0x0=>intro w d;(try dsimp only at d);go_simp;try with_reducible rfl);(try simp only[Act.put,List.setIfInBounds_toArray]);refine iM (i:=1) (v:=?v1x1) rfl kR kR kR (fun _ _ _ h=>h) (Or.inl ⟨by rfl,?hy1x1⟩) (by assumption) ?_;(case hy1x1=>intro w d;(try dsimp only at d);go_simp;try with_reducible rfl);(try simp only[Act.put]);refine iM (i:=2) (v:=?v2x2) rfl kR kR kR (fun _ _ _ h=>h) (Or.inl ⟨by rfl,?hy2x2⟩) (by assumption) ?_;(case hy2x2=>intro w d;(try dsimp only at d);go_simp;try with_reducible rfl);(try simp only[Act.put]);refine iM (i:=3) (v:=?v3x3) rfl kR kR kR (fun _ _ _ h=>h) (Or.inl ⟨by rfl,?hy3x3⟩) (by assumption) ?_;(case hy3x3=>intro w d;(try dsimp only at d);go_simp;try with_reducible rfl);(try simp only[Act.put]);refine iM (i:=4) (v:=?v4x4) rfl kR kR kR (fun _ _ _ h=>h) (Or.inl ⟨by rfl,?hy4x4⟩) (by assumption) ?_;(case hy4x4=>intro w d;(try dsimp only at d);go_simp;try with_reducible rfl);(try simp only[Act.put]);refine iM (i:=5) (v:=?v5x5) rfl kR kR kR (fun _ _ _ h=>h) (Or.inl ⟨by rfl,?hy5x5⟩) (by assumption) ?_;(case hy5x5=>intro w d;(try dsimp only at d);go_simp;try with_reducible rfl);(try simp only[Act.put]);refine iM (i:=6) (v:=?v6x6) rfl kR kR kR (fun _ _ _ h=>h) (Or.inl ⟨by rfl,?hy6x6⟩) (by assumption) ?_;(case hy6x6=>intro w d;(try dsimp only at d);go_simp;try with_reducible rfl);(try simp only[Act.put]);refine iM (i:=7) (v:=?v7x7) rfl kR kR kR (fun _ _ _ h=>h) (Or.inl ⟨by rfl,?hy7x7⟩) (by assumption) ?_;(case hy7x7=>intro w d;(try dsimp only at d);go_simp;try with_reducible rfl);(try simp only[Act.put]);refine iM (i:=8) (v:=?v8x8) rfl kR kR kR (fun _ _ _ h=>h) (Or.inl ⟨by rfl,?hy8x8⟩) (by assumption) ?_;(case hy8x8=>intro w d;(try dsimp only at d);go_simp;try with_reducible rfl);(try simp only[Act.put]);refine iM (i:=9) (v:=?v9x9) rfl kR kR kR (fun _ _ _ h=>h) (Or.inl ⟨by rfl,?hy9x9⟩) (by assumption) ?_;(case hy9x9=>intro w d;(try dsimp only at d);go_simp;try with_reducible rfl);(try simp only[Act.put]);refine EJ (rs:=[10]) kR sI ?_;refine AllReadyH.cons rfl (fun K hK=>?_) AllReadyH.nil;go_simp;go_at_call 112;refine Calls.mono (iY 1 _) ?_;rintro e y2 ⟨rfl,X⟩;exact⟨rfl,rV,C.drew.trans (X.mono C.size)⟩
 (have HV:O (eW c ⟨kind,f,k,ts⟩=3):=by show _=_;rw[l.o,if_pos (by simpa using M)]);clear l F;rcases G with rfl|⟨H,rfl⟩
 all_goals
  go_enter Tryz.func155,Tryz.ntmps155
  go_wp2_with fail;refine(iY 3 _).mono ?_;rintro e L ⟨rfl,U⟩;go_wp2_with fail;exact⟨rfl,rV,g.trans (U.mono g.size)⟩
theorem aEJ(x:Int)(w:World):Calls Tryz.prog 151 #[.int .i64 x] w fun e b=>e=.returned (.bool false)/\b=w:=by
 have h:(x != x)=false:=by simp
 go_enter Tryz.func151,Tryz.ntmps151
 go_wp2_with fail;go_ret;exact⟨rfl,rfl⟩
theorem Yg(x y:Int)(w:World):Calls Tryz.prog 109 #[.int .i64 x, .int .i64 y] w fun e f=>e=.returned (.int .i64 (fX x y))/\f=w:=by
 have b:O (fX x y=if x<y then -1 else if y<x then 1 else 0):=rfl
 go_enter Tryz.func109,Tryz.ntmps109
 go_wp2_with fail;refine(aEJ x _).mono ?_;rintro e g ⟨rfl,rfl⟩;go_wp2_with fail;refine(aEJ y _).mono ?_;rintro e g ⟨rfl,rfl⟩;by_cases c:x<y
 ·(have HV:O (fX x y= -1):=by show _=_;rw[b.o,if_pos c]);go_wp2_with fail;go_ret;exact⟨rV,rfl⟩
 by_cases d:y<x
 ·(have HV:O (fX x y=1):=by show _=_;rw[b.o,if_neg c,if_pos d]);go_wp2_with fail;go_ret;exact⟨rV,rfl⟩
 (have HV:O (fX x y=0):=by show _=_;rw[b.o,if_neg c,if_neg d]);go_wp2_with fail;go_ret;exact⟨rV,rfl⟩
theorem aD9(x y:List Int)(k:Nat)(b:k<x.length)(c:k<y.length):fP (x.drop k) (y.drop k)=if fX (cI x k) (cI y k)=0 then fP (x.drop (k+1)) (y.drop (k+1))else fX (cI x k) (cI y k):=by(have d:x.drop k=cI x k::x.drop (k+1):=by rw[dA b];simp[cI,List.getD_eq_getElem?_getD,b]);(have e:y.drop k=cI y k::y.drop (k+1):=by rw[dA c];simp[cI,List.getD_eq_getElem?_getD,c]);rw[d,e,fP]
theorem aEA(x y:List Int)(k:Nat)(b:k<x.length)(c:y.length<=k):fP (x.drop k) (y.drop k)=1:=by rw[bG c,dA b];rfl
theorem Yh(x y:List Int)(k:Nat)(b:x.length<=k)(c:k<y.length):fP (x.drop k) (y.drop k)= -1:=by rw[bG b,dA c];rfl
theorem Pz(x y:List Int)(v u:Value)(w:World)(F:eT w v x)(E:eT w u y)(L:x.length<=9223372036854775807):
 Calls Tryz.prog 110 #[v,u] w fun e G=>e=.returned (.int .i64 (fP x y))/\G=w:=by
 obtain⟨C,cap,rfl,m⟩:=F;obtain⟨D,I,rfl,n⟩:=E;have r:O (vS w C x):=m;have s:O (vS w D y):=n;clear m n
 go_enter Tryz.func110,Tryz.ntmps110
 go_wp2_with fail;go_loopw [11] (fun i wr=>∃k:Nat,k<=x.length/\k<=y.length/\i=.int .i64 k/\wr=w/\fP (x.drop k) (y.drop k)=fP x y) (fun i _=>x.length-(intOf i).toNat);case atStart=>exact⟨0,bL _,bL _,rfl,rfl,rfl⟩
 case round=>
  obtain⟨k,J,K,rfl,rfl,q⟩:=hrel;have c:O _:=q;clear q;by_cases j:k<x.length
  ·obtain⟨b,M,rfl,P⟩:=sY r.o k j;by_cases l:k<y.length
   ·obtain⟨H,N,rfl,Q⟩:=sY s.o k l;(have g:O (fP x y=if fX (cI x k) (cI y k)=0 then fP (x.drop (k+1)) (y.drop (k+1))else fX (cI x k) (cI y k)):=by show _=_;rw[<-c.o];exact aD9 x y k j l);clear c;generalize cI x k=a at *;generalize cI y k=d at *;go_wp2_with fail;refine(Yg a d _).mono ?_;rintro e R ⟨rfl,rfl⟩;cases p:(fX a d != 0)
    ·(have f:fX a d=0:=by simpa using p);(have HV:O (fP (x.drop (k+1)) (y.drop (k+1))=fP x y):=by show _=_;rw[g.o,if_pos f]);clear g f;go_wp2_with fail;go_roundw;(case rel=>exact⟨k+1,oM,oM,gN,trivial,HV.o⟩);case measure=>exact mI
    (have f:¬fX a d=0:=by simpa using p);(have HV:O (fP x y=fX a d):=by show _=_;rw[g.o,if_neg f]);clear g f;go_wp2_with fail;go_ret;exact⟨rV,rfl⟩
   (have HV:O (fP x y=1):=by show _=_;rw[<-c.o];exact aEA x y k j oM);go_wp2_with fail;go_ret;exact⟨rV,rfl⟩
  by_cases l:x.length<y.length
  ·(have HV:O (fP x y= -1):=by show _=_;rw[<-c.o];exact Yh x y k oM oM);go_wp2_with fail;go_ret;exact⟨rV,rfl⟩
  (have HV:O (fP x y=0):=by show _=_;rw[<-c.o,bG oM,bG oM];rfl);go_wp2_with fail;go_ret;exact⟨rV,rfl⟩
abbrev lT(p:Int)(v:Value):Value:=.agg #[.int .i64 p,v]
def Bb(x y:Int):Int:=if x=0 then y else x
theorem aTS(b:Nat)(x y:Int)(w:World)(h0:w.cell? ⟨b,0,none⟩=some (.int .i64 x))(h1:w.cell? ⟨b,1,none⟩=some (.int .i64 y)):
 Calls Tryz.prog 108 #[.slice (some ⟨b,0,none⟩) 2 2] w fun e p=>e=.returned (.int .i64 (Bb x y))/\p=w:=by
 go_enter Tryz.func108,Tryz.ntmps108
 go_wp2_with fail;go_loopw [8] (fun i wr=>∃k:Nat,k<=2/\i=.int .i64 k/\wr=w/\(1<=k->x=0)/\(2<=k->y=0)) (fun i _=>2-(intOf i).toNat);case atStart=>exact⟨0,oM,rfl,rfl,oM,oM⟩
 case round=>
  obtain⟨k,n,rfl,rfl,j,l⟩:=hrel;have d:O _:=j;have m:O _:=l;clear j l
  match k,n with
  |0,_=>
   cases c:(x != 0)
   ·(have g:x=0:=by simpa using c);have f:O (x=0):=g;clear g;go_wp2_with fail;go_roundw;(case rel=>exact⟨1,oM,gN,trivial,fun _=>f.o,fun h=>absurd h oM⟩);case measure=>simp[intOf]
   have HV:O (Bb x y=x):=if_neg (by simpa using c);go_wp2_with fail;go_ret;exact⟨rV,rfl⟩
  |1,_=>
   have HV:O (Bb x y=y):=if_pos (d.o oM);cases c:(y != 0)
   ·(have f:O (y=0):=by show y=0;simpa using c);go_wp2_with fail;go_roundw;(case rel=>exact⟨2,oM,gN,trivial,fun _=>d.o oM,fun _=>f.o⟩);case measure=>simp[intOf]
   go_wp2_with fail;go_ret;exact⟨rV,rfl⟩
  |2,_=>
   (have HV:O (Bb x y=0):=by show _=_;unfold Bb;rw[if_pos (d.o oM)];exact m.o oM);go_wp2_with fail;go_ret;exact⟨rV,rfl⟩
theorem GH(f g:aQ)(v u:Value)(w:World)(m:eT w v f.args)(l:eT w u g.args)(H:gD f)(S:gD g):
 Calls Tryz.prog 69 #[lT f.g v,lT g.g u] w fun e k=>e=.returned (.int .i64 (eU f g))/\Gr w k:=by
 obtain⟨p,x⟩:=f;obtain⟨q,y⟩:=g;have m:eT w v x:=m;have l:eT w u y:=l;obtain⟨d,cap,rfl,_⟩:=id m;obtain⟨i,j,rfl,_⟩:=id l;have HV:O (∀z,Below w.heap.size w z->Calls Tryz.prog 110 #[.slice d x.length cap, .slice i y.length j] z fun e k=>e=.returned (.int .i64 (fP x y))/\k=z):=fun z s=>Pz x y _ _ z (bC m s) (bC l s) H;have D:O (Gr w (((w.alloc (.cells #[.int .i64 p, .slice d x.length cap] 72)).alloc (.cells #[.int .i64 q, .slice i y.length j] 72)))):=((Gr.refl w).alloc _).alloc _;have n:=xE (w:=w) (o1:=.cells #[.int .i64 p, .slice d x.length cap] 72) (o2:=.cells #[.int .i64 q, .slice i y.length j] 72) (aG _ _);have N:O (eU ⟨p,x⟩ ⟨q,y⟩=Bb (fX p q) (fP x y)):=rfl;clear m l H S
 go_enter Tryz.func69,Tryz.ntmps69
 go_upto_region 1 with fail;generalize (w.alloc (.cells #[.int .i64 p, .slice d x.length cap] 72)).alloc (.cells #[.int .i64 q, .slice i y.length j] 72)=c at *;(have c0:c.cell? ⟨w.heap.size,0,none⟩=some (.int .i64 p):=cH n.1);(have P:c.cell? ⟨w.heap.size,1,none⟩=some (.slice d x.length cap):=cH n.1);(have Q:c.cell? ⟨w.heap.size+1,0,none⟩=some (.int .i64 q):=cH n.2);(have R:c.cell? ⟨w.heap.size+1,1,none⟩=some (.slice i y.length j):=cH n.2);have C:O (Below w.heap.size w c):=D.o.z;clear n;generalize fP x y=cl at *;have E:O (∀z,Calls Tryz.prog 109 #[.int .i64 p, .int .i64 q] z fun e k=>e=.returned (.int .i64 (fX p q))/\k=z):=fun z=>Yg p q z;generalize fX p q=G at *;have K:∀a b o,Gr a b->Gr a (b.alloc o):=fun _ _ o h=>h.alloc o;have L:∀a b,Gr a b->Gr a b.drew:=fun _ _ h=>h.drew;have M:Gr c c:=Gr.refl c;have F:O (∀z,Gr c z->Calls Tryz.prog 110 #[.slice d x.length cap, .slice i y.length j] z fun e k=>e=.returned (.int .i64 cl)/\k=z):=fun z s=>HV.o z (C.o.trans (s.z.mono C.o.size))
 go_region_held3 (fun r=>r.cell? ⟨w.heap.size,0,none⟩=some (.int .i64 p)/\r.cell? ⟨w.heap.size,1,none⟩=some (.slice d x.length cap)/\r.cell? ⟨w.heap.size+1,0,none⟩=some (.int .i64 q)/\r.cell? ⟨w.heap.size+1,1,none⟩=some (.slice i y.length j)/\Gr c r) (go_keep) (first
  |(go_at_call 109;refine Calls.mono (E.o _) ?_;rintro e I ⟨rfl,rfl⟩)
  |(go_at_call 110;refine Calls.mono (F.o _ ?_) ?_;(simp[*]);rintro e I ⟨rfl,rfl⟩)
  |(go_at_call 108;refine Calls.mono (aTS _ G cl _ ?_ ?_) ?_;(simp);(simp);rintro e I ⟨rfl,rfl⟩))
 have J:O (Gr w (c.alloc (.cells #[.int .i64 G, .int .i64 cl] 3)).drew):=(D.o.alloc _).drew;clear K L M F HV E C c0 P Q R D;go_wp2_with fail;go_ret;exact⟨by rw[N.o];rfl,J.o⟩
theorem aAH(f g:aQ)(v u:Value)(w:World)(c:eT w v f.args)(b:eT w u g.args)(r:gD f)(s:gD g):
 Calls Tryz.prog 106 #[lT f.g v,lT g.g u] w fun e l=>e=.returned (.bool (eU f g==0))/\Gr w l:=by
 obtain⟨p,x⟩:=f;obtain⟨q,y⟩:=g;have c:eT w v x:=c;have b:eT w u y:=b;obtain⟨d,cap,rfl,_⟩:=id c;obtain⟨i,j,rfl,_⟩:=id b;have k:Gr w (((w.alloc (.cells #[.int .i64 p, .slice d x.length cap] 72)).alloc (.cells #[.int .i64 q, .slice i y.length j] 72))):=((Gr.refl w).alloc _).alloc _;have m:O (Calls Tryz.prog 69 #[lT p (.slice d x.length cap),lT q (.slice i y.length j)] (((w.alloc (.cells #[.int .i64 p, .slice d x.length cap] 72)).alloc (.cells #[.int .i64 q, .slice i y.length j] 72))) fun e l=>e=.returned (.int .i64 (eU ⟨p,x⟩ ⟨q,y⟩))/\Gr (((w.alloc (.cells #[.int .i64 p, .slice d x.length cap] 72)).alloc (.cells #[.int .i64 q, .slice i y.length j] 72))) l):=GH ⟨p,x⟩ ⟨q,y⟩ _ _ _ (bC c k.z) (bC b k.z) r s;clear c b r s
 go_enter Tryz.func106,Tryz.ntmps106
 go_wp2_with fail;refine Calls.mono m.o ?_;rintro e D ⟨rfl,n⟩;have C:=k.trans n;clear m k n;go_wp2_with fail;go_ret;exact⟨rfl,C⟩
end Go.Proofs.YtfljoehbbncooaaGreat
namespace Go.Proofs
open Go.Shelf
def Tryz.sortF_ren:Go.Shelf.Ren:=⟨fun |6=>104|15=>150|14=>149|28=>184|29=>185|20=>176|21=>177|22=>178|23=>179|24=>180|25=>181|26=>182|27=>183|46=>202|47=>203|48=>204|49=>205|50=>206|57=>228|n=>n,fun |22=>30|24=>72|25=>75|3=>3|39=>155|0=>0|53=>223|55=>225|4=>4|46=>217|45=>216|50=>114|5=>5|9=>9|66=>245|70=>249|76=>267|77=>183|n=>n,fun |n=>n⟩
theorem Tryz.sortF:Go.Proofs.SlLaysF0.n6 Tryz.prog Tryz.sortF_ren:={
 mixed:=by kernel_rfl
 f6:=⟨Tryz.f104.name,by decide,Tryz.func104.trans (congrArg some (by kernel_rfl))⟩
 f14:=⟨Tryz.f149.name,by decide,Tryz.func149.trans (congrArg some (by kernel_rfl))⟩
 f15:=Tryz.func150.trans (congrArg some (by kernel_rfl))
 f20:=⟨Tryz.f176.name,by decide,Tryz.func176.trans (congrArg some (by kernel_rfl))⟩
 f21:=⟨Tryz.f177.name,by decide,Tryz.func177.trans (congrArg some (by kernel_rfl))⟩
 f22:=⟨Tryz.f178.name,by decide,Tryz.func178.trans (congrArg some (by kernel_rfl))⟩
 f23:=⟨Tryz.f179.name,by decide,Tryz.func179.trans (congrArg some (by kernel_rfl))⟩
 f24:=⟨Tryz.f180.name,by decide,Tryz.func180.trans (congrArg some (by kernel_rfl))⟩
 f25:=⟨Tryz.f181.name,by decide,Tryz.func181.trans (congrArg some (by kernel_rfl))⟩
 f26:=⟨Tryz.f182.name,by decide,Tryz.func182.trans (congrArg some (by kernel_rfl))⟩
 f27:=⟨Tryz.f183.name,by decide,Tryz.func183.trans (congrArg some (by kernel_rfl))⟩
 f28:=Tryz.func184.trans (congrArg some (by kernel_rfl))
 f29:=Tryz.func185.trans (congrArg some (by kernel_rfl))
 f46:=⟨Tryz.f202.name,by decide,Tryz.func202.trans (congrArg some (by kernel_rfl))⟩
 f47:=Tryz.func203.trans (congrArg some (by kernel_rfl))
 f48:=Tryz.func204.trans (congrArg some (by kernel_rfl))
 f49:=⟨Tryz.f205.name,by decide,Tryz.func205.trans (congrArg some (by kernel_rfl))⟩
 f50:=⟨Tryz.f206.name,by decide,Tryz.func206.trans (congrArg some (by kernel_rfl))⟩
 f57:=⟨Tryz.f228.name,by decide,Tryz.func228.trans (congrArg some (by kernel_rfl))⟩
 t0:=Tryz.underlying0
 a0:=Tryz.isAgg0
 z0:=Tryz.sizeOf0
 v0:=Tryz.zeroValue0
 t3:=Tryz.underlying3
 a3:=Tryz.isAgg3
 z3:=Tryz.sizeOf3
 v3:=Tryz.zeroValue3
 t4:=Tryz.underlying4
 a4:=Tryz.isAgg4
 z4:=Tryz.sizeOf4
 v4:=Tryz.zeroValue4
 t5:=Tryz.underlying5
 a5:=Tryz.isAgg5
 z5:=Tryz.sizeOf5
 v5:=Tryz.zeroValue5
 t9:=Tryz.underlying9
 a9:=Tryz.isAgg9
 z9:=Tryz.sizeOf9
 v9:=Tryz.zeroValue9
 t22:=Tryz.underlying30
 a22:=Tryz.isAgg30
 z22:=Tryz.sizeOf30
 v22:=Tryz.zeroValue30
 t25:=Tryz.underlying75
 a25:=Tryz.isAgg75
 z25:=Tryz.sizeOf75
 v25:=Tryz.zeroValue75
 t39:=Tryz.underlying155
 a39:=Tryz.isAgg155
 z39:=Tryz.sizeOf155
 v39:=Tryz.zeroValue155
 t45:=Tryz.underlying216
 a45:=Tryz.isAgg216
 z45:=Tryz.sizeOf216
 v45:=Tryz.zeroValue216
 t46:=Tryz.underlying217
 a46:=Tryz.isAgg217
 z46:=Tryz.sizeOf217
 v46:=Tryz.zeroValue217
 t50:=Tryz.underlying114
 a50:=Tryz.isAgg114
 z50:=Tryz.sizeOf114
 v50:=Tryz.zeroValue114
 t53:=Tryz.underlying223
 a53:=Tryz.isAgg223
 z53:=Tryz.sizeOf223
 v53:=Tryz.zeroValue223
 t55:=Tryz.underlying225
 a55:=Tryz.isAgg225
 z55:=Tryz.sizeOf225
 v55:=Tryz.zeroValue225
 t66:=Tryz.underlying245
 a66:=Tryz.isAgg245
 z66:=Tryz.sizeOf245
 v66:=Tryz.zeroValue245
 t70:=Tryz.underlying249
 a70:=Tryz.isAgg249
 z70:=Tryz.sizeOf249
 v70:=Tryz.zeroValue249
 t76:=Tryz.underlying267
 a76:=Tryz.isAgg267
 z76:=Tryz.sizeOf267
 v76:=Tryz.zeroValue267
 t77:=Tryz.underlying183
 a77:=Tryz.isAgg183
 z77:=Tryz.sizeOf183
 v77:=Tryz.zeroValue183}
end Go.Proofs

namespace Go.Proofs.YtfljoehbbncooaaGreat
open Go.RowKit
theorem rX{w w':World}(h:Below w.heap.size w w')(row:Option Nat):w.grownBy w' row:=
 ⟨h.os,h.tape,h.output,h.size,fun k b _=>h.block k b⟩
theorem wI{a b c:World}{row:Option Nat}(h:a.grownBy b row)(k:b.grownBy c row):a.grownBy c row:=
 ⟨k.os.trans h.os,k.tape.trans h.tape,k.output.trans h.output,bP h.size k.size,fun i d e=>(k.block i (dS d h.size) e).trans (h.block i d e)⟩
theorem zH{w:World}{P:Nat}(o:Nat)(v:Value):w.grownBy (w.setCell ⟨P,o,none⟩ v) (some P):=
 ⟨rfl,rfl,rfl,by simp[World.setCell],fun k _ b=>iG _ _ _ _ (fun e=>b (by rw[e]))⟩
theorem uS{B:Nat}{a w:World}(h:Below B a w)(n:Nat):Below B a (w.drewN n):=⟨h.os,h.tape,h.output,h.size,h.block⟩
end Go.Proofs.YtfljoehbbncooaaGreat

namespace Go.Proofs.YtfljoehbbncooaaGreat
open Go.RowKit
abbrev bID(w:World)(x:gK):World:=w.alloc (.cells #[.int .i64 x.kind, .int .i64 x.at_, .string ⟨x.text.toArray⟩] 286)
abbrev aIN:Obj:=.cells #[.string {data:=#[]}, .int .i64 0] 271
theorem Qc(k:Nat):∀cs:List (List Value),(∀c,c∈cs->c.length=k)->cs.flatten.length=cs.length*k:=by
 intro cs
 induction cs with
 |nil=>intro _;simp
 |cons c r ih=>
  intro h;rw[qG,aV,ih (fun c hc=>h c (bY _ hc)),h c dL,nJ,OH];omega
theorem WO(k:Nat):∀(cs:List (List Value)),(∀c,c∈cs->c.length=k)->∀i c j u,cs[i]?=some c->c[j]?=some u->cs.flatten[i*k+j]?=some u:=by
 intro cs
 induction cs with
 |nil=>intro _ i c j u h;simp at h
 |cons a r ih=>
  intro h i c j u hi hj;have ha:=h a dL;have hjk:j<c.length:=by
   rcases lP j c.length with h|h
   ·exact h
   rw[dK h]at hj;cases hj
  rw[qG]
  cases i with
  |zero=>
   (have hac:a=c:=by simpa using hi);subst hac;rw[BR,eP,lB hjk];exact hj
  |succ i=>
   rw[kS (by rw[ha,OH];omega),ha,show(i+1)*k+j-k=i*k+j from by rw[OH];omega];exact ih (fun c hc=>h c (bY _ hc)) i c j u (by simpa using hi) hj
def PP(B:Nat)(w w':World)(E:TypeId->Prop):Prop:=∀b cur e fz,E e->B<=b->w.heap[b]?=some (.cells cur e fz)->w'.heap[b]?=w.heap[b]?
theorem cV{w:World}{b:Nat}{o:Obj}(h:w.heap[b]?=some o):b<w.heap.size:=by
 rcases lP b w.heap.size with h1|h1
 ·exact h1
 rw[zC h1]at h;cases h
theorem aW4{B base k n:Nat}{w w':World}{E:TypeId->Prop}{e1:TypeId}{v:Value}{xs:List Value}(h:w.grownBy w' v.ownBlock)(hown:w.ownsRow base e1 k v n xs)(hE:¬E e1):PP B w w' E:=by
 intro b cur e fz he hb hh;refine h.block b (cV hh) ?_;intro hv;rcases hown.2 with⟨rfl,h0⟩|⟨g,cap,cur',rfl,hg,hbk,r⟩
 ·cases hv
 (have hbg:b=g:=by simpa[Value.ownBlock]using hv);subst hbg;rw[hbk]at hh;injection hh with hh;injection hh with h1 h2 h3;exact hE (h2▸he)
theorem aNA{w:World}{b:Nat}{o:Obj}(h:w.heap[b]?=some o):b<w.heap.size:=by
 rcases lP b w.heap.size with c|c
 ·exact c
 rw[zC c]at h;cases h
theorem iC(w:World)(o:Obj):(w.alloc o).heap[w.heap.size]?=some o:=by show(w.heap.push o)[w.heap.size]?=some o;simp
theorem aM5{w0 y:World}{b o:Nat}{v:Value}(h:w0.cell? ⟨b,o,none⟩=some v)(c:∀k,k<w0.heap.size->y.heap[k]?=w0.heap[k]?):y.cell? ⟨b,o,none⟩=some v:=(qI (a:=⟨b,o,none⟩) (c b (jR w0 _ h))).trans h
theorem XG{w0 y:World}(d:∀k,k<w0.heap.size->y.heap[k]?=w0.heap[k]?):w0.heap.size<=y.heap.size:=by
 rcases Dm w0.heap.size with h|h
 ·omega
 have b:=d (w0.heap.size-1) oM;have c:w0.heap[w0.heap.size-1]?=some w0.heap[w0.heap.size-1]:=jO oM;have :=aNA (b.trans c);omega
theorem oF{w w':World}{B k n:Nat}{e:TypeId}{v:Value}{xs:List Value}(h:w.ownsRow B e k v n xs)(j:∀g,v.ownBlock=some g->w'.heap[g]?=w.heap[g]?):w'.ownsRow B e k v n xs:=by
 obtain⟨d,b⟩:=h;refine⟨d,?_⟩;rcases b with b|⟨g,cap,c,rfl,f,i,r⟩
 ·exact .inl b
 exact .inr ⟨g,cap,c,rfl,f,(j g rfl).trans i,r⟩
theorem EF{w0 w:World}{v:Value}{l:List Int}(h:eT w0 v l)(f:∀k,k<w0.heap.size->w.heap[k]?=w0.heap[k]?):eT w v l:=by
 obtain⟨c,cap,rfl,h⟩:=h;refine⟨c,cap,rfl,?_⟩;rcases h with h|⟨b,g,rfl,d⟩
 ·exact .inl h
 exact .inr ⟨b,g,rfl,fun i e=>aM5 (d i e) f⟩
abbrev Fv:=aQ×Value
def eO(x:Fv):List Value:=[.int .i64 x.1.g,x.2]
theorem aHP(q:List Fv):∀c,c∈q.map eO->c.length=2:=by intro c b;obtain⟨t,_,rfl⟩:=cJ.mp b;rfl
theorem NW(q:List Fv)(t:Nat)(ht:t<q.length*2):∃x,q[t/2]?=some x/\((q.map eO).flatten)[t]?=(eO x)[t% 2]?:=by
 have b:t/2<q.length:=oM;refine⟨q[t/2],aM b,?_⟩;have c:(eO q[t/2])[t% 2]?=some ((eO q[t/2])[t% 2]'(by show _<2;omega)):=aM _;have :=WO 2 (q.map eO) (aHP q) (t/2) (eO q[t/2]) (t% 2) _ (by rw[dW,aM b];rfl) c;rw[c,<-this]
 congr 1
 omega
theorem rW(q:List Fv):((q.map eO).flatten).length=q.length*2:=by rw[Qc 2 _ (aHP q),aY]
abbrev wS(w:World)(B g cap:Nat)(q:List Fv):Prop:=w.ownsRow B 72 2 (.slice (some ⟨g,0,none⟩) q.length cap) q.length (q.map eO).flatten
section
variable {w w':World} {B g cap:Nat} {q:List Fv}
theorem wS.cell(h:wS w B g cap q){i:Nat}{x:Fv}(c:q[i]?=some x):w.cell? ⟨g,i*2,none⟩=some (.int .i64 x.1.g)/\w.cell? ⟨g,i*2+1,none⟩=some x.2:=by
 have f:i<q.length:=by
  rcases lP i q.length with b|b
  ·exact b
  rw[dK b]at c;cases c
 (have d:(q.map eO)[i]?=some (eO x):=by rw[dW,c];rfl);have c0:=WO 2 (q.map eO) (aHP q) i (eO x) 0 (.int .i64 x.1.g) d rfl;have e:=WO 2 (q.map eO) (aHP q) i (eO x) 1 x.2 d rfl;exact⟨(World.ownsRow.cellAt h (i*2) oM).trans c0,(World.ownsRow.cellAt h (i*2+1) oM).trans e⟩
theorem wS.frozen(h:wS w B g cap q)(j:Nat):w.frozen? ⟨g,j,none⟩=false:=World.ownsRow.frozenAt h j
theorem wS.lt(h:wS w B g cap q):B<=g/\g<w.heap.size:=World.ownsRow.lt h g rfl
theorem wS.keep(h:wS w B g cap q)(d:w'.heap[g]?=w.heap[g]?):wS w' B g cap q:=oF h fun b c=>by
 (have :g=b:=by simpa[Value.ownBlock]using c);subst this
 exact d
theorem bAS(q:List Fv)(i:Nat)(n:i<q.length)(y:Fv):((((q.map eO).flatten).set (i*2) (.int .i64 y.1.g)).set (i*2+1) y.2)=(((q.set i y).map eO).flatten):=by
 apply kP;intro t;by_cases ht:t<q.length*2
 ·obtain⟨x,k,l⟩:=NW q t ht;obtain⟨z,b,m⟩:=NW (q.set i y) t (by rw[iS];exact ht);rw[m];rw[fU]at b;rw[fU,fU,iS,rW];by_cases d:i=t/2
  ·rw[if_pos d,if_pos oM]at b;(obtain rfl:y=z:=by simpa using b);by_cases f:t% 2=0
   ·have c:¬i*2+1=t:=oM;have e:i*2=t:=oM;rw[if_neg c,if_pos e,if_pos oM,f];rfl
   have j:t% 2=1:=oM;have c:i*2+1=t:=oM;rw[if_pos c,if_pos oM,j];rfl
  rw[if_neg d,k]at b;(obtain rfl:x=z:=by simpa using b);rw[if_neg oM,if_neg oM,l]
 rw[dK,dK]
 ·rw[rW,iS];omega
 rw[iS,iS,rW];omega
theorem wS.put(h:wS w B g cap q)(i:Nat)(d:i<q.length)(y:Fv):wS ((w.setCell ⟨g,i*2,none⟩ (.int .i64 y.1.g)).setCell ⟨g,i*2+1,none⟩ y.2) B g cap (q.set i y):=by have b:=(World.ownsRow.stored h (i*2) (.int .i64 y.1.g)).1;have c:=(World.ownsRow.stored b (i*2+1) y.2).1;unfold wS;rw[iS,<-bAS q i d y];exact c
end
end Go.Proofs.YtfljoehbbncooaaGreat
namespace Go.Proofs.YtfljoehbbncooaaGreat
open Go.Shelf Go.RowKit Go.Lib Go.Sort
def AK(w:World)(x:Fv):Prop:=eT w x.2 x.1.args/\gD x.1
abbrev FvS(w:World):={x:Fv//AK w x}
theorem bAW(w:World):AK w (⟨0,[]⟩, .slice none 0 0):=⟨⟨none,0,rfl, .inl rfl⟩,by show([]:List Int).length<=_;decide⟩
theorem bEL{w:World}:∀{q:List Fv},(∀p,p∈q->AK w p)->∃Q:List (FvS w),Q.map (·.1)=q:=by
 intro q
 induction q with
 |nil=>intro _;exact⟨[],rfl⟩
 |cons a r ih=>
  intro h;obtain⟨Q,hQ⟩:=ih (fun p hp=>h p (by simp[hp]));exact⟨⟨a,h a sI⟩::Q,by simp[hQ]⟩
abbrev Yy(w:World):Inhabited (FvS w):=⟨⟨_,bAW w⟩⟩
def WP{w:World}(x:FvS w):List Value:=eO x.1
def Yx{w:World}(x y:FvS w):Int:=eU x.1.1 y.1.1
theorem bHV(w:World):SWO (ltOf (Yx (w:=w)))where
 irrefl x:=by unfold ltOf Yx;rw[zD];decide
 trans x y z h1 h2:=by unfold ltOf Yx at *;simp only[decide_eq_true_eq]at *;exact vV h1 h2
 ntrans x y z h1 h2:=by
  unfold ltOf Yx at *;simp only[decide_eq_false_iff_not]at *;intro h3;rcases LP x.1.1 y.1.1 with h4|h4|h4
  ·exact h1 h4
  ·rw[h4]at h3;exact h2 h3
  exact h2 (vV h4 h3)
theorem bHU{w:World}(x:FvS w):∀v∈WP x,v.oneCell'=true:=by intro v hv;obtain⟨⟨⟨p,a⟩,u⟩,h⟩:=x;obtain⟨⟨ao,cap,hu,_⟩,_⟩:=h;have hu:u=.slice ao a.length cap:=hu;subst hu;simp[WP,eO]at hv;rcases hv with rfl|rfl<;>rfl
theorem zA{α:Type}[Inhabited α](enc:α->List Value)(k:Nat)(w:World)(g m:Nat)(d:Array α)(os:Array Obj)(i:Nat)(hi:i<w.heap.size)(hne:¬i=g):(sortWorldK enc k w g 0 m d os).heap[i]?=w.heap[i]?:=by unfold sortWorldK putRowK putRow mapBlock Sort.ahead grow;show((w.heap.modify g _)++os)[i]?=_;rw[sA (by simpa using hi),zY,if_neg (fun e=>hne e.symm)]
theorem JP{α:Type}[Inhabited α](enc:α->List Value)(k:Nat)(w:World)(g m:Nat)(d:Array α)(os:Array Obj):w.heap.size<=(sortWorldK enc k w g 0 m d os).heap.size:=by unfold sortWorldK putRowK putRow mapBlock Sort.ahead grow;show _<=((w.heap.modify g _)++os).size;simp
theorem bAG{w0 w:World}{g:Nat}(hg:w0.heap.size<=g)(hlow:∀k,k<w0.heap.size->w.heap[k]?=w0.heap[k]?)(size:Nat):@CmpLays (FvS w0) (Yy w0) Tryz.prog 69 #[] WP 2 Yx g 0 size w:=by
 letI:Inhabited (FvS w0):=Yy w0
 intro m os dk _ x y;have hl:∀k,k<w0.heap.size->(sortWorldK (WP (w:=w0)) 2 w g 0 m dk os).heap[k]?=w0.heap[k]?:=fun k hk=>(zA _ _ _ _ _ _ _ k (dS hk (XG hlow)) oM).trans (hlow k hk);exact GH x.1.1 y.1.1 x.1.2 y.1.2 _ (EF x.2.1 hl) (EF y.2.1 hl) x.2.2 y.2.2
theorem aWX{w0 w:World}{B g cap:Nat}{Q:List (FvS w0)}(h:wS w B g cap (Q.map (·.1))):@HoldsK (FvS w0) (Yy w0) WP 2 w g 0 Q.toArray:=by
 letI:Inhabited (FvS w0):=Yy w0
 intro t ht;(have ht2:t<Q.length*2:=by simpa using ht);refine⟨?_,by rw[eP];exact h.frozen t⟩;rw[eP];have hc:=World.ownsRow.cellAt h t (by rw[aY];exact ht2);obtain⟨x,hx,hx2⟩:=NW (Q.map (·.1)) t (by rw[aY];exact ht2);rw[hc,hx2];have h1:t/2<Q.length:=oM;rw[dW,aM h1]at hx;(have hx3:Q[t/2].1=x:=by simpa using hx);show(eO x)[t% 2]?=some ((flatK WP 2 Q.toArray)[t]!);rw[get_flatK WP 2 Q.toArray t (by simpa using ht2)];(have h2:(Q.toArray)[t/2]! =Q[t/2]:=by simp[h1]);rw[h2];show _=some ((eO Q[t/2].1)[t% 2]!);rw[hx3];(have h3:t% 2<(eO x).length:=by show t% 2<2;omega);rw[aM h3,getElem!_pos (eO x) (t% 2) h3]
theorem aR3{w0 w:World}{B g cap n:Nat}{Q:List (FvS w0)}{d:Array (FvS w0)}{os:Array Obj}(h:wS w B g cap (Q.map (·.1)))(hd:d.size=Q.length):
 wS (@sortWorldK (FvS w0) (Yy w0) WP 2 w g 0 n d os) B g cap (d.toList.map (·.1)):=by
 letI:Inhabited (FvS w0):=Yy w0
 have hg:=h.lt;obtain⟨h1,h2⟩:=h;rcases h2 with⟨h2,_⟩|⟨g',cap',cur,hv,hb,hh,hc1,hc2,hc3,hc4⟩
 ·cases h2
 injection hv with e1 _ e3;injection e1 with e1;injection e1 with e1;subst e1 e3;(have hl:(d.toList.map (·.1)).length=Q.length:=by rw[aY,vM,hd]);refine⟨rW _, .inr ⟨g,cap,putCells id 0 (flatK WP 2 d) cur,rfl,hb,?_,by rw[hl];simpa using hc1,hc2,by simpa[putCells]using hc3,?_⟩⟩
 ·unfold sortWorldK putRowK putRow mapBlock Sort.ahead grow;show((w.heap.modify g _)++os)[g]?=_;rw[sA (by simpa using hg.2),zY,if_pos rfl,hh];rfl
 apply kP;intro t;rw[jA,fZ,hl];by_cases ht:t<Q.length*2
 ·rw[if_pos ht];have hq:(Q.map (·.1)).length=Q.length:=aY _;(have hcs:t<cur.size:=by rw[hc3];(have :Q.length<=cap:=by simpa using hc1);omega);obtain⟨x,hx,hx2⟩:=NW (d.toList.map (·.1)) t (by rw[hl];exact ht);rw[hx2];unfold putCells;rw[QF,jO hcs,nU,if_pos (by rw[size_flatK,hd];omega)];have h4:t/2<d.size:=oM;rw[dW,fZ,jO h4]at hx;(have hx3:d[t/2].1=x:=by simpa using hx);rw[Nat.sub_zero,get_flatK WP 2 d t (by rw[hd];exact ht),getElem!_pos d _ h4];show some ((eO d[t/2].1)[t% 2]!)=_;rw[hx3];(have h3:t% 2<(eO x).length:=by show t% 2<2;omega);rw[aM h3,getElem!_pos (eO x) (t% 2) h3]
 rw[if_neg ht,dK];rw[rW,hl];omega
theorem bB5(w0 w:World)(B g cap:Nat)(q:List Fv)(h0:w0.heap.size<=g)(hlow:∀k,k<w0.heap.size->w.heap[k]?=w0.heap[k]?)(hown:wS w B g cap q)(hq:∀p,p∈q->AK w0 p)(hn:q.length<4611686018427387904):
 Calls Tryz.prog 104 #[.slice (some ⟨g,0,none⟩) q.length cap, .func (.func 69) #[] #[]] w fun e w'=>e=.returned (.tuple #[])/\∃q',q'.Perm q/\(q'.map (·.1)).Pairwise (fun a b=>¬CO b a)/\wS w' B g cap q'/\w.grownBy w' (some g):=by
 obtain⟨Q,rfl⟩:=bEL hq
 letI:Inhabited (FvS w0):=Yy w0
 have eg:∀args w,(callFunc 69 args).run Tryz.prog w=.ok (.enter 69 args) w:=oQ Tryz.func69 kR rfl;(have hsz:Q.toArray.size=Q.length:=by simp);have hcon:=AnyQ.slices_SortFunc Tryz.sortF 2 Tryz.isAgg72 Tryz.sizeOf72 WP (fun _=>rfl) bHU Yx (bHV w0) 69 #[] g 0 cap Q.toArray w eg (bAG h0 hlow _) (aWX hown) hown.lt.2 (by rw[hsz];simpa using hn);rw[hsz]at hcon;change Calls Tryz.prog 104 _ _ _ at hcon;rw[aY];refine hcon.mono ?_;rintro e w' ⟨rfl,d',n,os,hp,hs,rfl⟩;obtain⟨p1,p2,p3⟩:=hp;(have hds:d'.size=Q.length:=by rw[p1];simp);(have e1:d'.extract 0 Q.length=d':=by rw[<-hds];simp);(have e2:Q.toArray.extract 0 Q.length=Q.toArray:=by simp);rw[e1,e2]at p3;refine⟨rfl,d'.toList.map (·.1),?_,?_,aR3 hown hds,rfl,rfl,rfl,JP _ _ _ _ _ _ _,fun k hk hne=>zA _ _ _ _ _ _ _ k hk (fun e=>hne (by rw[e]))⟩
 ·exact p3.map _
 rw[wN];intro i j hi hj hij;(have hi2:i<d'.size:=by simpa using hi);(have hj2:j<d'.size:=by simpa using hj);have :=hs i j (bL _) hij oM;rw[getElem!_pos d' j hj2,getElem!_pos d' i hi2]at this;unfold ltOf Yx at this;simp only[decide_eq_false_iff_not]at this;simpa[CO]using this
end Go.Proofs.YtfljoehbbncooaaGreat
namespace Go.Proofs.YtfljoehbbncooaaGreat
def tU(p:aQ):List Fv->List Fv
 |[]=>[]
 |x::r=>if eU x.1 p=0 then tU x.1 r else x::tU x.1 r
def wU:List Fv->List Fv
 |[]=>[]
 |x::r=>x::tU x.1 r
def BA(p:aQ):List Fv->aQ
 |[]=>p
 |x::r=>BA x.1 r
theorem aF3:∀(l:List Fv)(p:aQ)(x:Fv),tU p (l++[x])=if eU x.1 (BA p l)=0 then tU p l else tU p l++[x]:=by
 intro l
 induction l with
 |nil=>intro p x;by_cases h:eU x.1 p=0<;>simp[tU,BA,h]
 |cons y r d=>
  intro p x;have c:=d y.1 x;by_cases h:eU y.1 p=0
  ·by_cases b:eU x.1 (BA y.1 r)=0
   ·rw[if_pos b]at c;simp[tU,BA,h,b,c]
   rw[if_neg b]at c;simp[tU,BA,h,b,c]
  by_cases b:eU x.1 (BA y.1 r)=0
  ·rw[if_pos b]at c;simp[tU,BA,h,b,c]
  rw[if_neg b]at c;simp[tU,BA,h,b,c]
theorem aF5:∀(l:List Fv)(p:aQ)(y:Fv),l.getLast?=some y->BA p l=y.1:=by
 intro l
 induction l with
 |nil=>intro p y h;cases h
 |cons x r b=>
  intro p y h
  cases r with
  |nil=>
   simp at h;rw[<-h];rfl
  |cons z r=>
   rw[List.getLast?_cons_cons]at h;exact b x.1 y h
theorem aPM(l:List Fv)(x y:Fv)(h:l.getLast?=some y):wU (l++[x])=if eU x.1 y.1=0 then wU l else wU l++[x]:=by
 cases l with
 |nil=>cases h
 |cons a r=>
  simp only[List.cons_append,wU,aF3];have d:BA a.1 r=y.1:=by
   cases r with
   |nil=>simp at h;rw[<-h];rfl
   |cons b r=>
    rw[List.getLast?_cons_cons]at h;exact aF5 (b::r) a.1 y h
  rw[d];by_cases c:eU x.1 y.1=0
  ·rw[if_pos c,if_pos c]
  rw[if_neg c,if_neg c]
theorem Az(q:List Fv)(m:Nat)(x y:Fv)(h1:1<=m)(b:q[m]?=some x)(d:q[m-1]?=some y):wU (q.take (m+1))=if eU x.1 y.1=0 then wU (q.take m)else wU (q.take m)++[x]:=by
 rw[gQ,b];refine aPM (q.take m) x y ?_;have c:m<=q.length:=by
  rcases lP m q.length with h|h
  ·omega
  rw[dK h]at b;cases b
 rw[List.getLast?_eq_getElem?,dV,FT c,jA,if_pos oM];exact d
theorem aJU:∀(l:List Fv)(p:aQ)(x:Fv),x∈tU p l->x∈l:=by
 intro l
 induction l with
 |nil=>intro p x h;exact h
 |cons y r b=>
  intro p x h;simp only[tU]at h;split at h
  ·exact bY _ (b _ _ h)
  rcases eA.mp h with rfl|h
  ·simp
  exact bY _ (b _ _ h)
theorem aDQ(l:List Fv)(x:Fv)(h:x∈wU l):x∈l:=by
 cases l with
 |nil=>exact h
 |cons a r=>
  rcases eA.mp h with rfl|h
  ·simp
  exact bY _ (aJU _ _ _ h)
theorem aF4(l:List Fv):(wU l).length<=l.length:=by
 have h:∀(l:List Fv)(p:aQ),(tU p l).length<=l.length:=by
  intro l
  induction l with
  |nil=>intro p;exact aH _
  |cons y r b=>
   intro p;simp only[tU];split
   ·have :=b y.1;simp;omega
   have :=b y.1;simp;omega
 cases l with
 |nil=>exact aH _
 |cons a r=>simp only[wU,List.length_cons];have :=h r a.1;omega
theorem aJT:∀(l:List Fv)(p:aQ),(∀x,x∈l->¬CO x.1 p)->(l.map (·.1)).Pairwise (fun a b=>¬CO b a)->
 dD ((tU p l).map (·.1))/\(∀x,x∈(tU p l).map (·.1)->CO p x)/\∀x,x∈l.map (·.1)->x=p\/x∈(tU p l).map (·.1):=by
 intro l
 induction l with
 |nil=>intro p _ _;exact⟨List.Pairwise.nil,fun x h=>by simp[tU]at h,fun x h=>by simp at h⟩
 |cons y r m=>
  intro p k e;rw[jN,nP]at e;obtain⟨i,f,j⟩:=m y.1 (fun x c=>e.1 x.1 (cJ.mpr ⟨x,c,rfl⟩)) e.2;simp only[tU];by_cases h:eU y.1 p=0
  ·rw[if_pos h];rw[uP]at h;refine⟨i,fun x c=>by rw[<-h];exact f x c,fun x c=>?_⟩;rw[jN]at c;rcases eA.mp c with c|c
   ·exact .inl (c.trans h)
   rcases j x c with d|d
   ·exact .inl (d.trans h)
   exact .inr d
  rw[if_neg h];have g:CO p y.1:=by
   rcases LP p y.1 with d|d|d
   ·exact d
   ·exact absurd (uP.mpr d.symm) h
   exact absurd d (k y sI)
  rw[jN];refine⟨nP.mpr ⟨f,i⟩,fun x c=>?_,fun x c=>?_⟩
  ·rcases eA.mp c with rfl|c
   ·exact g
   exact g.trans (f x c)
  rw[jN]at c;rcases eA.mp c with c|c
  ·exact .inr (by simp[c])
  rcases j x c with d|d
  ·exact .inr (by simp[d])
  exact .inr (bY _ d)
theorem aVA(l:List Fv)(h:(l.map (·.1)).Pairwise (fun a b=>¬CO b a)):AW ((wU l).map (·.1)) (l.map (·.1)):=by
 cases l with
 |nil=>exact⟨List.Pairwise.nil,fun x=>Iff.rfl⟩
 |cons a r=>
  rw[jN,nP]at h;obtain⟨f,g,i⟩:=aJT r a.1 (fun x c=>h.1 x.1 (cJ.mpr ⟨x,c,rfl⟩)) h.2;refine⟨?_,fun x=>⟨fun c=>?_,fun c=>?_⟩⟩
  ·show dD (a.1::(tU a.1 r).map (·.1));exact nP.mpr ⟨g,f⟩
  ·obtain⟨y,e,rfl⟩:=cJ.mp c;exact cJ.mpr ⟨y,aDQ _ _ e,rfl⟩
  rw[jN]at c;show x∈a.1::(tU a.1 r).map (·.1);rcases eA.mp c with c|c
  ·simp[c]
  rcases i x c with d|d
  ·simp[d]
  exact bY _ d
end Go.Proofs.YtfljoehbbncooaaGreat
namespace Go.Proofs.YtfljoehbbncooaaGreat
open Go.RowKit Go.Lib
theorem aMS{B e k n g cap:Nat}:∀(f:List Value)(o:Nat)(w:World)(xs:List Value),w.ownsRow B e k (.slice (some ⟨g,0,none⟩) n cap) n xs->
 ∃d,d.length=xs.length/\(∀j,j<o->d[j]?=xs[j]?)/\(w.setCells g o f).ownsRow B e k (.slice (some ⟨g,0,none⟩) n cap) n d/\w.grownBy (w.setCells g o f) (some g):=by
 intro f
 induction f with
 |nil=>intro o w xs h;exact⟨xs,rfl,fun _ _=>rfl,h,rfl,rfl,rfl,aH _,fun _ _ _=>rfl⟩
 |cons v r x=>
  intro o w xs h;obtain⟨u,b⟩:=World.ownsRow.stored h o v;obtain⟨d,p,q,s,c⟩:=x (o+1) _ _ u;refine⟨d,by rw[p,iS],fun j C=>?_,s,⟨c.os.trans b.os,c.tape.trans b.tape,c.output.trans b.output,bP b.size c.size,fun i l m=>(c.block i (dS l b.size) m).trans (b.block i l m)⟩⟩;rw[q j oM,fU,if_neg oM]
theorem bE7{w:World}{B g cap n:Nat}{xs:List Value}{q:List Fv}(h:w.ownsRow B 72 2 (.slice (some ⟨g,0,none⟩) n cap) n xs)(D:q.length<=n)(p:∀j,j<q.length*2->xs[j]?=((q.map eO).flatten)[j]?):wS w B g cap q:=by
 obtain⟨x,c⟩:=h;rcases c with⟨c,_⟩|⟨u,s,d,r,f,m,C,i,k,l⟩
 ·cases c
 injection r with b _ e;injection b with b;injection b with b;subst b e;refine⟨rW _, .inr ⟨g,cap,d,rfl,f,m,oM,i,k,?_⟩⟩;apply kP;intro t;rw[jA];by_cases ht:t<q.length*2
 ·rw[if_pos ht,<-p t ht,<-l,jA,if_pos oM]
 rw[if_neg ht,dK];rw[rW];omega
theorem aD8(w:World)(B g cap:Nat)(q:List Fv)(k:Nat)(h:wS w B g cap q)(L:k<q.length):
 ∃n,(∀s,(Builtin.clear_ #[30] s #[.slice (some ⟨g,k*2,none⟩) (q.length-k) (cap-k)]).run Tryz.prog w=.ok (.tuple #[]) n)/\wS n B g cap (q.take k)/\w.grownBy n (some g):=by
 obtain⟨m,G⟩:∃m,q.length-k=m+1:=⟨q.length-k-1,oM⟩;obtain⟨b,i⟩:∃b,b=(Builtin.zeroCells (Value.agg #[.int .i64 0, .slice none 0 0]).cells (m+1)).toList:=⟨_,rfl⟩;(have F:b.length=(m+1)*2:=by rw[i];simp[Builtin.zeroCells,Value.cells]);have H:∀v∈b,v.oneCell'=true:=by
  intro v f;rw[i]at f;simp[Builtin.zeroCells,Value.cells]at f;obtain⟨a,K,rfl⟩:=f;rcases Nat.mod_two_eq_zero_or_one a with d|d
  ·simp[d];rfl
  simp[d];rfl
 have p:=run_storeCells_cells (P:=Tryz.prog) g (k*2) b 0 w (by
  intro j e;rw[F]at e;have E:=World.ownsRow.cellAt h (k*2+j) oM;obtain⟨x,r,l⟩:=NW q (k*2+j) oM;rw[BQ,E,l,aM (show(k*2+j)% 2<(eO x).length by show _<2;omega)]
  rfl) (by intro j _;exact h.frozen _) H
 simp only[Nat.add_zero]at p;obtain⟨M,J,u,C,D⟩:=aMS b (k*2) w _ h;refine⟨w.setCells g (k*2) b,?_,bE7 (q:=q.take k) C (by rw[dV];omega) (fun j e=>?_),D⟩
 ·intro s;have c:∀w,(zeroValue 72).run Tryz.prog w=.ok (.agg #[.int .i64 0, .slice none 0 0]) w:=fun w=>kR;rw[G];simp[Builtin.clear_,run_underlying Tryz.underlying30,c,<-i,p]
 rw[dV]at e;rw[u j oM];obtain⟨x,r,l⟩:=NW q j oM;obtain⟨z,c,I⟩:=NW (q.take k) j (by rw[dV];omega);rw[jA,if_pos oM,r]at c;(obtain rfl:x=z:=by simpa using c);rw[l,I]
structure CI (w0 w:World) (B g cap:Nat) (R:List Fv) (wr:World):Prop where
 row:wS wr B g cap R
 gr:w.grownBy wr (some g)
 low:∀k,k<w0.heap.size->wr.heap[k]?=w0.heap[k]?
theorem CI.z{w0 w wr d:World}{B g cap:Nat}{R:List Fv}(h:CI w0 w B g cap R wr)(b:Below wr.heap.size wr d):CI w0 w B g cap R d:=
 ⟨h.row.keep (b.block g h.row.lt.2),wI h.gr (rX b _),fun k c=>(b.block k (dS c (XG h.low))).trans (h.low k c)⟩
theorem CI.put{w0 w wr:World}{B g cap:Nat}{R:List Fv}(h:CI w0 w B g cap R wr)(hg:w0.heap.size<=g)(i:Nat)(d:i<R.length)(y:Fv):CI w0 w B g cap (R.set i y) ((wr.setCell ⟨g,i*2,none⟩ (.int .i64 y.1.g)).setCell ⟨g,i*2+1,none⟩ y.2):=by have b:wr.grownBy ((wr.setCell ⟨g,i*2,none⟩ (.int .i64 y.1.g)).setCell ⟨g,i*2+1,none⟩ y.2) (some g):=wI (zH _ _) (zH _ _);exact⟨h.row.put i d y,wI h.gr b,fun k c=>(b.block k (dS c (XG h.low)) (by intro e;injection e;omega)).trans (h.low k c)⟩
theorem DT{q:List Fv}{i:Nat}(h:i<q.length):∃x,q[i]?=some x/\x∈q:=⟨q[i],aM h,fG h⟩
theorem aLJ(w0 w:World)(B g cap:Nat)(q:List Fv)(h0:w0.heap.size<=g)(aq:∀k,k<w0.heap.size->w.heap[k]?=w0.heap[k]?)(ac:wS w B g cap q)(hq:∀p,p∈q->AK w0 p)(hn:q.length<4611686018427387904):
 Calls Tryz.prog 105 #[.slice (some ⟨g,0,none⟩) q.length cap, .func (.func 106) #[] #[]] w fun e u=>e=.returned (.slice (some ⟨g,0,none⟩) (wU q).length cap)/\wS u B g cap (wU q)/\w.grownBy u (some g):=by
 have he:∀args w,(callFunc 106 args).run Tryz.prog w=.ok (.enter 106 args) w:=oQ Tryz.func106 kR rfl;have hC:CI w0 w B g cap q w:=⟨ac,⟨rfl,rfl,rfl,aH _,fun _ _ _=>rfl⟩,aq⟩;have C:O (∀p,p∈q->AK w0 p):=hq;have b2:q.length<=cap:=by
  obtain⟨_,F⟩:=ac;rcases F with⟨F,_⟩|⟨g',aT,b0,hv,_,_,b1,_⟩
  ·cases F
  injection hv with _ _ e3;omega
 clear ac aq hq;by_cases F:q.length<2
 ·have HD:O (wU q=q):=by
   show _=_
   match q,F with
   |[],_=>rfl
   |[x],_=>rfl
  go_enter Tryz.func105,Tryz.ntmps105
  go_wp2_with fail;go_ret;exact⟨by rw[HD.o];rfl,by rw[HD.o];exact hC.row,hC.gr⟩
 go_enter Tryz.func105,Tryz.ntmps105
 go_wp2_with fail;go_loopw [5] (fun i wr=>∃k:Nat,1<=k/\k<=q.length/\i=.int .i64 k/\CI w0 w B g cap q wr/\wU (q.take k)=q.take k) (fun i _=>q.length-(intOf i).toNat);case atStart=>exact⟨1,aH _,oM,rfl,hC,by
  match q,F with
  |x::r,_=>rfl
  |[],h=>exact absurd (show([]:List Fv).length<2 by decide) h⟩
 case round=>
  clear hC;obtain⟨T,aO⟩:∃T,T=wr:=⟨_,rfl⟩;subst aO;obtain⟨k,am,hk,rfl,m,ak⟩:=hrel;have a4:O _:=ak;clear ak;obtain⟨s,an⟩:∃s,s+1=k:=⟨k-1,oM⟩;(have aS:IntKind.i64.wrap ((k:Int)-1)=(s:Int):=by have h9:(k:Int)-1=(s:Int):=oM;rw[h9];simp[IntKind.wrap,IntKind.bits,IntKind.signed];omega);by_cases aJ:k<q.length
  ·obtain⟨x,W,J⟩:=DT aJ;obtain⟨y,X,L⟩:=DT (q:=q) (i:=s) oM;obtain⟨c0,P⟩:=m.row.cell W;obtain⟨d0,Q⟩:=m.row.cell X;have I:O (q[k]?=some x/\q[s]?=some y):=⟨W,X⟩;(have H:O (∀z,Gr T z->Calls Tryz.prog 106 #[lT x.1.g x.2,lT y.1.g y.2] z fun e u=>e=.returned (.bool (eU x.1 y.1==0))/\Gr T u/\u.cell? ⟨g,k*2,none⟩=some (.int .i64 x.1.g)/\u.cell? ⟨g,k*2+1,none⟩=some x.2/\u.cell? ⟨g,s*2,none⟩=some (.int .i64 y.1.g)/\u.cell? ⟨g,s*2+1,none⟩=some y.2):=by intro z hz;have hl:∀j,j<w0.heap.size->z.heap[j]?=w0.heap[j]?:=(m.z hz.z).low;refine(aAH x.1 y.1 x.2 y.2 z (EF (C.o x J).1 hl) (EF (C.o y L).1 hl) (C.o x J).2 (C.o y L).2).mono ?_;rintro e u ⟨h1,F⟩;have D:=hz.trans F;exact⟨h1,D,aB D.z c0,aB D.z P,aB D.z d0,aB D.z Q⟩);(obtain⟨xa,xn,xc,K⟩:∃a n c,x.2=.slice a n c:=by obtain⟨⟨a,c,h,_⟩,_⟩:=C.o x J;exact⟨a,_,c,h⟩);(obtain⟨ya,yn,yc,S⟩:∃a n c,y.2=.slice a n c:=by obtain⟨⟨a,c,h,_⟩,_⟩:=C.o y L;exact⟨a,_,c,h⟩);have HY:O (y=(y.1,y.2)):=rfl;have ab:O (x.2=.slice xa xn xc/\y.2=.slice ya yn yc):=⟨K,S⟩;rw[K]at P;rw[S]at Q;rw[K,S]at H;clear W X J L K S;have HO:O (∃o,o=eU x.1 y.1):=⟨_,rfl⟩;obtain⟨o,ho⟩:=HO.o;rw[<-ho]at H;have Z:O (o=eU x.1 y.1):=ho;clear ho HO;generalize a2:x.1.g=xp at *;generalize a6:y.1.g=yp at *;have HP:O (x.1.g=xp/\y.1.g=yp):=⟨a2,a6⟩;clear a2 a6;have b3:s<q.length:=oM;have b4:(0:Int)<=(s:Int):=oM;have b5:(s:Int)<(q.length:Int):=oM;have ag:O (s+1=k):=an;clear an;go_upto_region 6 with fail;have a7:∀a b o,Gr a b->Gr a (b.alloc o):=fun _ _ o h=>h.alloc o;have a8:∀a b,Gr a b->Gr a b.drew:=fun _ _ h=>h.drew;have a9:Gr T T:=Gr.refl T
   go_region_held3 (fun E=>E.cell? ⟨g,k*2,none⟩=some (.int .i64 xp)/\E.cell? ⟨g,k*2+1,none⟩=some (.slice xa xn xc)/\E.cell? ⟨g,s*2,none⟩=some (.int .i64 yp)/\E.cell? ⟨g,s*2+1,none⟩=some (.slice ya yn yc)/\Gr T E) (go_keep) (
    (go_at_call 106;refine Calls.mono (H.o _ ?_) ?_;(simp[*]);rintro e z1 ⟨rfl,a3,av,aw,ad,ae⟩))
   have G:=m.z a3.z;clear a7 a8 a9 a3 av aw ad ae c0 P d0 Q H;cases ho:(o==0)
   ·(have U:O (wU (q.take (k+1))=q.take (k+1)):=by show _=_;rw[Az q k x y am I.o.1 (by rw[show k-1=s by have :=ag.o;omega];exact I.o.2),if_neg (by rw[<-Z.o];simpa using ho),a4.o,gQ,I.o.1];rfl);clear m;go_wp2_with fail;go_roundw;(case rel=>exact⟨k+1,oM,oM,gN,G,U.o⟩);case measure=>exact mI
   (have U:O (q.take k=wU (q.take (k+1))):=by show _=_;rw[Az q k x y am I.o.1 (by rw[show k-1=s by have :=ag.o;omega];exact I.o.2),if_pos (by rw[<-Z.o];simpa using ho),a4.o]);clear m a4 I HP Z ab HY aS;go_wp2_with fail;go_loopw [5,7] (fun i5 i7 wr=>∃(f d:Nat)(R:List Fv),i5=.int .i64 f/\i7=.int .i64 d/\1<=d/\k+d<=q.length/\f<k+d/\CI w0 w B g cap R wr/\R.length=q.length/\R.take f=wU (q.take (k+d))/\∀j,k+d<=j+1->R[j]?=q[j]?) (fun _ i7 _=>q.length-(k+(intOf i7).toNat));case atStart=>exact⟨k,1,q,rfl,rfl,aH _,oM,oM,G,rfl,U.o,fun _ _=>rfl⟩
   case round=>
    clear G;obtain⟨M,aR⟩:∃M,M=wr:=⟨_,rfl⟩;subst aR;obtain⟨f,d,R,rfl,rfl,b6,hm,bc,m,ai,aj,ah⟩:=hrel;have a0:O _:=aj;have V:O _:=ah;have N:O (R.length=q.length):=ai;clear aj ah ai;by_cases aL:k+d<q.length
    ·obtain⟨l,ao⟩:∃l,l+1=d:=⟨d-1,oM⟩;(have bd:IntKind.i64.wrap ((d:Int)-1)=(l:Int):=by have h9:(d:Int)-1=(l:Int):=oM;rw[h9];simp[IntKind.wrap,IntKind.bits,IntKind.signed];omega);(obtain⟨x,W,J⟩:=DT aL;obtain⟨y,X,L⟩:=DT (q:=q) (i:=k+l) oM;obtain⟨c0,P⟩:=m.row.cell ((V.o (k+d) oM).trans W);obtain⟨d0,Q⟩:=m.row.cell ((V.o (k+l) oM).trans X);rw[show(k+d)*2=k*2+d*2 by omega]at c0 P;rw[show(k+l)*2=k*2+l*2 by omega]at d0 Q;have I:O (q[k+d]?=some x/\q[k+l]?=some y):=⟨W,X⟩;have H:O (∀z,Gr M z->Calls Tryz.prog 106 #[lT x.1.g x.2,lT y.1.g y.2] z fun e u=>e=.returned (.bool (eU x.1 y.1==0))/\Gr M u/\u.cell? ⟨g,k*2+d*2,none⟩=some (.int .i64 x.1.g)/\u.cell? ⟨g,k*2+d*2+1,none⟩=some x.2/\u.cell? ⟨g,k*2+l*2,none⟩=some (.int .i64 y.1.g)/\u.cell? ⟨g,k*2+l*2+1,none⟩=some y.2):=by intro z hz;have hl:∀j,j<w0.heap.size->z.heap[j]?=w0.heap[j]?:=(m.z hz.z).low;refine(aAH x.1 y.1 x.2 y.2 z (EF (C.o x J).1 hl) (EF (C.o y L).1 hl) (C.o x J).2 (C.o y L).2).mono ?_;rintro e u ⟨h1,F⟩;have D:=hz.trans F;exact⟨h1,D,aB D.z c0,aB D.z P,aB D.z d0,aB D.z Q⟩);((obtain⟨xa,xn,xc,K⟩:∃a n c,x.2=.slice a n c:=by obtain⟨⟨a,c,h,_⟩,_⟩:=C.o x J;exact⟨a,_,c,h⟩);obtain⟨ya,yn,yc,S⟩:∃a n c,y.2=.slice a n c:=by obtain⟨⟨a,c,h,_⟩,_⟩:=C.o y L;exact⟨a,_,c,h⟩);have ab:O (x.2=.slice xa xn xc):=K;rw[K]at P;rw[S]at Q;rw[K,S]at H;clear W X J L K S;have HO:O (∃o,o=eU x.1 y.1):=⟨_,rfl⟩;obtain⟨o2,a1⟩:=HO.o;rw[<-a1]at H;have Z:O (o2=eU x.1 y.1):=a1;clear a1 HO;generalize a2:x.1.g=xp at *;generalize a6:y.1.g=yp at *;have HP:O (x.1.g=xp):=a2;clear a2 a6;have b8:l<q.length-k:=oM;have b9:(0:Int)<=(l:Int):=oM;have ba:(l:Int)<((q.length-k:Nat):Int):=oM;have b7:(d:Int)<((q.length-k:Nat):Int):=oM;have ax:O (l+1=d):=ao;clear ao;go_upto_region 11 with fail;have a7:∀a b o,Gr a b->Gr a (b.alloc o):=fun _ _ o h=>h.alloc o;have a8:∀a b,Gr a b->Gr a b.drew:=fun _ _ h=>h.drew;have a9:Gr M M:=Gr.refl M
     go_region_held3 (fun E=>E.cell? ⟨g,k*2+d*2,none⟩=some (.int .i64 xp)/\E.cell? ⟨g,k*2+d*2+1,none⟩=some (.slice xa xn xc)/\E.cell? ⟨g,k*2+l*2,none⟩=some (.int .i64 yp)/\E.cell? ⟨g,k*2+l*2+1,none⟩=some (.slice ya yn yc)/\Gr M E) (go_keep) (
      (go_at_call 106;refine Calls.mono (H.o _ ?_) ?_;(simp[*]);rintro e z1 ⟨rfl,a3,av,aw,ad,ae⟩))
     have G:=m.z a3.z;clear a7 a8 a9 a3 ad ae c0 P d0 Q H m;have a5:O (wU (q.take (k+d+1))=if eU x.1 y.1=0 then wU (q.take (k+d))else wU (q.take (k+d))++[x]):=Az q (k+d) x y oM I.o.1 (by rw[show k+d-1=k+l by have :=ax.o;omega];exact I.o.2);cases a1:(o2==0)
     ·(have aa:O ((R.set f x).take (f+1)=wU (q.take (k+(d+1)))):=by show _=_;rw[<-FY,a5.o,if_neg (by rw[<-Z.o];simpa using a1),<-a0.o,gQ,List.take_set_of_le (aH _),fU,if_pos rfl,if_pos (by rw[N.o];omega)];rfl);(have U:O (∀j,k+(d+1)<=j+1->(R.set f x)[j]?=q[j]?):=fun j hj=>by rw[fU,if_neg oM];exact V.o j oM);have ar:=G.put h0 f (by rw[N.o];omega) x;rw[HP.o,ab.o]at ar;obtain⟨r,hr,_⟩:=DT (q:=R) (i:=f) (by rw[N.o];omega);obtain⟨r0,r1⟩:=G.row.cell hr;have be:=G.row.frozen (f*2);have bf:=G.row.frozen (f*2+1);have aD:f<q.length:=oM;clear a5 G a0 V hr;go_wp2_with fail;go_roundw;(case rel=>exact⟨f+1,d+1,R.set f x,gN,gN,oM,oM,oM,ar,by rw[iS];exact N.o,aa.o,U.o⟩);case measure=>exact mI
     (have aa:O (R.take f=wU (q.take (k+(d+1)))):=by show _=_;rw[<-FY,a5.o,if_pos (by rw[<-Z.o];simpa using a1),a0.o]);have U:O (∀j,k+(d+1)<=j+1->R[j]?=q[j]?):=fun j hj=>V.o j oM;clear a5 a0 V;go_wp2_with fail;go_roundw;(case rel=>exact⟨f,d+1,R,gN,gN,oM,oM,oM,G,N.o,aa.o,U.o⟩);case measure=>exact mI
    have aN:k+d=q.length:=oM;obtain⟨w9,az,au,al⟩:=aD8 M B g cap R f m.row (by rw[N.o];omega);rw[N.o]at az;(have Y:O (R.take f=wU q):=by show _=_;rw[a0.o,aN,nK]);(have ay:O ((wU q).length=f):=by show _=_;rw[<-Y.o,dV,N.o];omega);have af:O (wS w9 B g cap (wU q)/\w.grownBy w9 (some g)):=⟨by rw[<-Y.o];exact au,wI m.gr al⟩;clear m au al a0 V Y;have aD:f<=q.length:=oM;have bb:f<=cap:=oM;go_wp2_with fail;go_ret;exact⟨by rw[ay.o];rfl,af.o.1,af.o.2⟩
  have aC:k=q.length:=oM;(have Y:O (wU q=q):=by show _=_;have :=a4.o;rw[aC,nK]at this;exact this);go_wp2_with fail;go_ret;exact⟨by rw[Y.o];rfl,by rw[Y.o];exact m.row,m.gr⟩
end Go.Proofs.YtfljoehbbncooaaGreat
namespace Go.Proofs.YtfljoehbbncooaaGreat
open Go.RowKit
theorem MN:(Tryz.prog.info? 3).map (fun i=>(i.zero,i.size,i.bytes))=some (some (.int .i64 0),1,8):=kR
theorem Py(l:List Int)(v:Value)(w:World)(K:eT w v l)(hl:l.length<=17592186044416):
 Calls Tryz.prog 107 #[v] w fun e G=>∃r,e=.returned r/\G.ownsRow w.heap.size 3 1 r l.length (l.map (Value.int .i64))/\Below w.heap.size w G:=by
 obtain⟨V,N,S,T,U⟩:=jY MN;obtain⟨C,cap,rfl,E⟩:=K;have a0:∀(w:World)(a:Option Addr)(n c:Nat),(binOp .eql 22 (.slice a n c) (.slice none 0 0)).run Tryz.prog w=.ok (.bool a.isNone) w:=fun w a n c=>QG w 22 3 a n c 0 0 Tryz.underlying22;have a1:∀w,Sem.run Tryz.prog (underlying 22) w=.ok (TypeDesc.slice 3) w:=run_underlying Tryz.underlying22;have g:O (vS w C l):=E;clear E
 cases C with
 |none=>
  have Q:l=[]:=by
   rcases g.o with h|⟨b,f,h,_⟩
   ·exact h
   cases h
  subst Q
  go_enter Tryz.func107,Tryz.ntmps107
  go_wp2_with fail;go_ret;exact⟨_,rfl,eS _ _ _ _,aG _ _⟩
 |some a=>
  obtain⟨b,f,Z⟩:∃b f,l=[]\/a=⟨b,f,none⟩:=by
   rcases g.o with h|⟨b,f,h,_⟩
   ·exact⟨0,0, .inl h⟩
   exact⟨b,f, .inr (Option.some.inj h)⟩
  have s:O (∀j u,(l.map (Value.int .i64))[j]?=some u->w.cell? (a.add j)=some u):=by
   intro j u d;rcases g.o with h|⟨b,f,h,M⟩
   ·rw[h]at d;simp at d
   have L:=Option.some.inj h;have m:j<l.length:=by
    rcases lP j l.length with i|i
    ·exact i
    rw[dK (by simpa using i)]at d;cases d
   rw[dW,aM m]at d;(have q:Value.int .i64 l[j]=u:=by simpa using d);rw[<-q,L];have D:=M j m;(have J:cI l j=l[j]:=by simp[cI,m]);rw[J]at D;rw[Addr.add_lit];exact D
  clear g
  go_enter Tryz.func107,Tryz.ntmps107
  go_wp2_with(at_builtin;refine iD _ rfl _ _ 22 rfl w.heap.size 3 V _ 1 8 Tryz.underlying22 N S T U rfl dE _ _ _ rfl (mQ w #[] 0 (aH _) (bL _) sI) a l.length cap (l.map (Value.int .i64)) rfl ?qc1 ?qc2 ?qc3 ?qc4 ?qc5 ?qc6 ?_);(case qc1=>rw[aY,Nat.mul_one]);(case qc2=>intro j u d;exact TM _ (s.o j u d));(case qc3=>intro u q;obtain⟨x,_,rfl⟩:=cJ.mp q;rfl);(case qc4=>unfold maxLen;omega);(case qc5=>omega);(case qc6=>simp);intro r W p F R;obtain⟨X,Y,rfl⟩:=bR p;have H:O (Below w.heap.size w W):=((aG _ w).alloc (aH _) _).grown F sI (by intro k P;simp[Value.ownBlock]at P;omega);have I:O _:=p;clear p F R s;go_wp2_with fail;go_ret;exact⟨_,rfl,I.o,H.o⟩
theorem SD(l:List Int)(v:Value)(w:World)(d:eT w v l)(f:l.length<=1048576):
 Calls Tryz.prog 107 #[v] w fun e c=>∃b,e=.returned b/\c.ownsRow w.heap.size 3 1 b l.length (l.map (Value.int .i64))/\Below w.heap.size w c:=
 Py l v w d oM
theorem yZ:(Tryz.prog.info? 72).map (fun i=>(i.zero,i.size,i.bytes))=some (some (.agg #[.int .i64 0, .slice none 0 0]),2,32):=kR
def pQ(B:Nat)(w:World)(v:Value)(s:List aQ):Prop:=
 ∃q:List Fv,q.map (·.1)=s/\w.ownsRow B 72 2 v q.length (q.map eO).flatten/\∀p,p∈q->w.ownsRow B 3 1 p.2 p.1.args.length (p.1.args.map (Value.int .i64))
def OL(h:Nat)(cb:Array Value)(w:World)(P:aQ->Bool):Prop:=
 ∀(z:World)(f:aQ)(b:Option Addr)(cap:Nat),Below w.heap.size w z->eT z (.slice b f.args.length cap) f.args->gD f->Calls Tryz.prog h (#[lT f.g (.slice b f.args.length cap)]++cb) z fun e c=>e=.returned (.bool (P f))/\Below z.heap.size z c
theorem wS.put1{w:World}{B g cap:Nat}{q:List Fv}(h:wS w B g cap q){i:Nat}{x:Fv}(c:q[i]?=some x)(u:Value):wS (w.setCell ⟨g,i*2+1,none⟩ u) B g cap (q.set i (x.1,u)):=by
 have f:i<q.length:=by
  rcases lP i q.length with b|b
  ·exact b
  rw[dK b]at c;cases c
 have b:=(World.ownsRow.stored h (i*2+1) u).1;unfold wS;rw[iS,<-bAS q i f (x.1,u)];have e:((q.map eO).flatten).set (i*2) (.int .i64 x.1.g)=(q.map eO).flatten:=by
  apply kP;intro t;rw[fU];split
  ·rename_i ht;obtain⟨y,d,j⟩:=NW q t oM;rw[<-ht,Nat.mul_div_cancel _ dE,c]at d;(obtain rfl:x=y:=by simpa using d);rw[j,if_pos (by rw[rW];omega),<-ht,Nat.mul_mod_left];rfl
  rfl
 show World.ownsRow _ B 72 2 _ q.length ((((q.map eO).flatten).set (i*2) (.int .i64 x.1.g)).set (i*2+1) u);rw[e];exact b
theorem Jd{w:World}{B g cap n:Nat}{q:List Fv}{v:Value}{xs:List Value}(h:w.ownsRow B 3 1 v n xs)(hr:wS w B g cap q)(o:Nat)(u:Value):(w.setCell ⟨g,o,none⟩ u).ownsRow B 3 1 v n xs:=by
 refine oF h fun j c=>iG _ _ _ _ (fun e=>?_);subst e;obtain⟨_,f⟩:=h;rcases f with⟨f,_⟩|⟨k,r,x,m,_,l,_⟩
 ·rw[f]at c;cases c
 rw[m]at c;(have b:k=j:=by simpa[Value.ownBlock]using c);subst b;obtain⟨_,i⟩:=hr;rcases i with⟨i,_⟩|⟨D,s,C,p,_,d,_⟩
 ·cases i
 injection p with b _ _;injection b with b;injection b with b;subst b;rw[l]at d;injection d with d;injection d with _ q _;cases q
theorem gP{w:World}{base base' size n:Nat}{e:TypeId}{v:Value}{xs:List Value}(h:w.ownsRow base e size v n xs)(f:base'<=base):w.ownsRow base' e size v n xs:=by
 obtain⟨d,b⟩:=h;refine⟨d,?_⟩;rcases b with b|⟨g,cap,c,j,i,r⟩
 ·exact .inl b
 exact .inr ⟨g,cap,c,j,bP f i,r⟩
theorem lJ{w:World}{base size n:Nat}{e:TypeId}{v:Value}{xs:List Value}(h:w.ownsRow base e size v n xs):(v=.slice none 0 0/\n=0)\/∃g cap,v=.slice (some ⟨g,0,none⟩) n cap:=by
 rcases h.2 with b|⟨g,cap,d,c,_⟩
 ·exact .inl b
 exact .inr ⟨g,cap,c⟩
theorem aES(w:World)(a b:Value)(e:TypeId):∀j z,[a,b][j]?=some z->(w.alloc (.cells #[a,b] e)).cell? ((⟨w.heap.size,0,none⟩:Addr).add j)=some z:=by
 intro j z c;have f:=iC w (.cells #[a,b] e)
 match j,c with
 |0,c=>
  (have d:a=z:=by simpa using c);subst d;rw[Addr.add_lit,cM f];rfl
 |1,c=>
  (have d:b=z:=by simpa using c);subst d;rw[Addr.add_lit,cM f];rfl
theorem aLK(w:World)(ao:Option Addr)(cap:Nat)(b:Value):Calls Tryz.prog 105 #[.slice ao 0 cap,b] w fun e c=>e=.returned (.slice ao 0 cap)/\c=w:=by
 go_enter Tryz.func105,Tryz.ntmps105
 go_wp2_with fail;go_ret;exact⟨rfl,rfl⟩
theorem WR{w:World}{x:Fv}(h:AK w x):∃a c,x.2=.slice a x.1.args.length c:=by obtain⟨⟨a,c,h,_⟩,_⟩:=h;exact⟨a,c,h⟩
theorem Mb(l:List aQ)(v:Value)(w:World)(h:Nat)(cb:Array Value)(P:aQ->Bool)(hV:bS w v l)(hl:l.length<=4398046511103)(hf:∀f,f∈l->f.args.length<=17592186044416)(he:∀args w,(callFunc h args).run Tryz.prog w=.ok (.enter h args) w)(hK:OL h cb w P):
 Calls Tryz.prog 66 #[v, .func (.func h) #[] cb] w fun e w'=>∃v',e=.returned v'/\pQ w.heap.size w' v' (eZ (l.filter P))/\Below w.heap.size w w':=by
 obtain⟨i0,hi,bp,bq,br⟩:=jY yZ;obtain⟨ao,cap,rfl,bw,hA⟩:=hV;have HA:O (lD w ao l):=hA;have HF:O (∀f,f∈l->f.args.length<=17592186044416):=hf;have HK:O (OL h cb w P):=hK;clear hA hf hK
 go_enter Tryz.func66,Tryz.ntmps66
 go_wp2_with fail;go_loopw [5,11] (fun vs i wr=>∃(k:Nat)(q:List Fv),k<=l.length/\i=.int .i64 k/\wr.ownsRow w.heap.size 72 2 vs q.length (q.map eO).flatten/\q.map (·.1)=(l.take k).filter P/\(∀p,p∈q->AK w p/\p.1∈l)/\Below w.heap.size w wr/\q.length<=k) (fun _ i _=>l.length-(intOf i).toNat);case atStart=>exact⟨0,[],bL _,rfl,eS _ _ _ _,rfl,fun _ d=>absurd d sI,aG _ _,aH _⟩
 case round=>
  obtain⟨C,bn⟩:∃C,C=wr:=⟨_,rfl⟩;subst bn;obtain⟨k,q,s,rfl,E,aT,b0,c,bU⟩:=hrel;have N:O _:=aT;have G:O _:=b0;clear aT b0;obtain⟨bs,a4,rfl⟩:=bR E;by_cases L:k<l.length
  ·obtain⟨b,bW,rfl,p0,fv,p1,az⟩:=nM HA.o k L;have am:=lU l k L;(have Q:O ((l.take (k+1)).filter P=(l.take k).filter P++if P (bF l k)then [bF l k] else []):=by show _=_;rw[gQ,ED l k L,nN];simp only[Option.toList_some,List.filter_cons,List.filter_nil]);have av:O (eT w fv (bF l k).args):=az;(have au:O (gD (bF l k)):=by have :=HF.o _ am;show _<=_;omega);have HM:O (bF l k∈l):=am;obtain⟨n,r,rfl,_⟩:=az;have q0:=aB c p0;have q1:=aB c p1;clear p0 p1 am;generalize bF l k=f at *;go_upto_region 5 with fail;have ai:Below C.heap.size C (C.alloc (.cells #[.int .i64 f.g, .slice n f.args.length r] 72)):=(aG _ _).alloc (aH _) _;have Z:=iC C (.cells #[.int .i64 f.g, .slice n f.args.length r] 72);have aS:=bO E ai;have X:=c.trans (ai.mono c.size);clear E ai c q0 q1;generalize bh:C.heap.size=FB at *;generalize C.alloc (.cells #[.int .i64 f.g, .slice n f.args.length r] 72)=wa at *;clear bh;(have c0:wa.cell? ⟨FB,0,none⟩=some (.int .i64 f.g):=cH Z);(have S:wa.cell? ⟨FB,1,none⟩=some (.slice n f.args.length r):=cH Z);go_wp2_with fail;refine Calls.mono (HK.o wa f n r X (bC av.o X) au.o) ?_;rintro e w1 ⟨bg,a5⟩;subst bg;have aj:=(a5.block _ (aNA Z)).trans Z;have a8:=bO aS a5;have Y:=X.trans (a5.mono X.size);clear aS a5 X Z c0 S;(have c0:w1.cell? ⟨FB,0,none⟩=some (.int .i64 f.g):=cH aj);(have S:w1.cell? ⟨FB,1,none⟩=some (.slice n f.args.length r):=cH aj);cases d:P f
   ·rw[d]at Q;(have ag:O (q.map (·.1)=(l.take (k+1)).filter P):=by show _=_;rw[Q.o,N.o];simp);clear Q N;go_wp2_with fail;go_roundw;(case rel=>exact⟨k+1,q,oM,gN,a8,ag.o,G.o,Y,oM⟩);case measure=>exact mI
   rw[d]at Q;(have ag:O ((q++[(f,Value.slice n f.args.length r)]).map (·.1)=(l.take (k+1)).filter P):=by show _=_;rw[Q.o,<-N.o];simp);have b8:O (∀p,p∈q++[(f,Value.slice n f.args.length r)]->AK w p/\p.1∈l):=by
    intro p d;rcases cW.mp d with d|d
    ·exact G.o p d
    (obtain rfl:p=(f,Value.slice n f.args.length r):=by simpa using d);exact⟨⟨av.o,au.o⟩,HM.o⟩
   clear Q N G;have bv:=Y.size;go_wp2_with(at_builtin;refine iD _ rfl (.tmp 18) (.tmp 20) 30 rfl w.heap.size 72 i0 _ 2 32 Tryz.underlying30 hi bp bq br rfl dE _ _ _ rfl (a8.alloc _) ⟨w1.heap.size,0,none⟩ 1 1 (eO (f, .slice n f.args.length r)) rfl rfl ?c1 ?c2 ?c3 ?c4 ?c5 ?_);(case c1=>exact aES w1 _ _ 72);(case c2=>intro u hu;simp[eO]at hu;rcases hu with rfl|rfl<;>rfl);(case c3=>unfold maxLen;omega);(case c4=>omega);(case c5=>simp;omega);intro bZ w4 an aN _;obtain⟨bc,bd,rfl⟩:=bR an;have be:Below w.heap.size w w4:=(Y.alloc Y.size _).grown aN sO (fun k s=>(a8.lt k s).1);(have bi:w4.ownsRow w.heap.size 72 2 (.slice bc (q.length+1) bd) (q++[(f,Value.slice n f.args.length r)]).length ((q++[(f,Value.slice n f.args.length r)]).map eO).flatten:=by rw[aV,dC,iL];simpa using an);clear an aN a8 Y c0 S aj;go_wp2_with fail;go_roundw;(case rel=>exact⟨k+1,_,oM,gN,bi,ag.o,b8.o,be,by rw[aV];simp;omega⟩);case measure=>exact mI
  (have ac:O (q.map (·.1)=l.filter P):=by show _=_;rw[N.o,dM oM]);clear N;rcases lJ E with⟨hv,bk⟩|⟨g,bt,hv⟩
  ·injection hv with e1 e2 e3;subst e1 e3;have bl:q=[]:=dQ bk;subst bl;(have HS:O (eZ (l.filter P)=[]):=by show _=_;rw[<-ac.o];rfl);have hs:=AnyF.slices_SortFunc_none Tryz.sortF none 0 (.func (.func 69) #[] #[]) C;change Calls Tryz.prog 104 _ _ _ at hs;have bb:O _:=hs;clear hs E;simp only[List.length_nil];go_wp2_with fail;refine Calls.mono bb.o ?_;rintro e w5 ⟨rfl,rfl⟩;go_wp2_with fail;refine Calls.mono (aLK _ _ _ _) ?_;rintro e w5 ⟨rfl,rfl⟩;go_wp2_with fail;refine nF 1 ?_;rw[rounds_succ];go_wp2_with fail;go_ret;exact⟨_,rfl,by rw[HS.o];exact⟨[],rfl,eS _ _ _ _,fun _ d=>absurd d sI⟩,c⟩
  injection hv with e1 e2 e3;subst e1 e3;have aL:=E.lt g rfl;have bm:q.length<4611686018427387904:=oM;have ax:O _:=bB5 w C w.heap.size g a4 q aL.1 c.block E (fun p d=>(G.o p d).1) bm;go_wp2_with fail;refine Calls.mono ax.o ?_;rintro e w5 ⟨rfl,F,a0,b4,b2,T⟩;have aR:F.length=q.length:=a0.length_eq;have ak:∀k,k<w.heap.size->w5.heap[k]?=w.heap[k]?:=fun k s=>(T.block k (dS s c.size) (by intro e;injection e;omega)).trans (c.block k s);have aa:O _:=aLJ w w5 w.heap.size g a4 F aL.1 ak b2 (fun p d=>(G.o p (a0.mem_iff.mp d)).1) oM;rw[aR]at aa;(have ba:O ((wU F).map (·.1)=eZ (l.filter P)):=by show _=_;rw[IW (aVA F b4),<-ac.o];exact UL fun x=>(a0.map (·.1)).mem_iff);have ab:O (∀p,p∈wU F->AK w p/\p.1∈l):=fun p d=>G.o p (a0.mem_iff.mp (aDQ _ _ d));(have bz:(wU F).length<=4398046511103:=by have :=aF4 F;omega);have J:Below w.heap.size w w5:=⟨T.os.trans c.os,T.tape.trans c.tape,T.output.trans c.output,bP c.size T.size,ak⟩;clear a0 b4 b2 T ak ax E c G ac aR;go_wp2_with fail;refine Calls.mono aa.o ?_;rintro e w6 ⟨rfl,b3,U⟩;have aJ:Below w.heap.size w w6:=⟨U.os.trans J.os,U.tape.trans J.tape,U.output.trans J.output,bP J.size U.size,fun k s=>(U.block k (dS s J.size) (by intro e;injection e;omega)).trans (J.block k s)⟩;clear J U aa;generalize wU F=D at *;go_wp2_with fail;go_loopw [29] (fun i wr=>∃(m:Nat)(R:List Fv),m<=D.length/\i=.int .i64 m/\wS wr w.heap.size g a4 R/\R.map (·.1)=D.map (·.1)/\(∀j,m<=j->R[j]?=D[j]?)/\(∀j p,j<m->R[j]?=some p->wr.ownsRow w.heap.size 3 1 p.2 p.1.args.length (p.1.args.map (Value.int .i64)))/\Below w.heap.size w wr) (fun i _=>D.length-(intOf i).toNat);case atStart=>exact⟨0,D,bL _,rfl,b3,rfl,fun _ _=>rfl,fun j p hj=>absurd hj oM,aJ⟩
  case round=>
   clear b3 aJ;obtain⟨wp,bo⟩:∃wp,wp=wr:=⟨_,rfl⟩;subst bo;obtain⟨m,R,hm,rfl,M,al,b1,aD,c⟩:=hrel;(have aC:R.length=D.length:=by have :=congrArg List.length al;simpa using this);have ad:O (R.length=D.length):=aC;have a2:O _:=al;have a3:O _:=b1;have a1:O _:=aD;clear al b1 aD aC;by_cases L:m<D.length
   ·obtain⟨x,hx,a9⟩:=DT L;have ah:R[m]?=some x:=(a3.o m (aH _)).trans hx;obtain⟨c0,S⟩:=M.cell ah;obtain⟨xa,xc,ar⟩:=WR (ab.o x a9).1;have aw:O (eT w x.2 x.1.args/\x.1.args.length<=17592186044416):=⟨(ab.o x a9).1.1,HF.o _ (ab.o x a9).2⟩;have ay:O (x.2=.slice xa x.1.args.length xc):=ar;rw[ar]at S;have ae:O (R[m]?=some x/\D[m]?=some x):=⟨ah,hx⟩;clear ah hx a9 ar;have f1:=M.frozen (m*2+1);(have bT:m<R.length:=by rw[ad.o];exact L);go_wp2_with fail;refine Calls.mono (Py x.1.args _ wp (by have h3:=bC aw.o.1 c;rw[ay.o]at h3;exact h3) aw.o.2) ?_;rintro e w7 ⟨v7,rfl,aq,a6⟩;obtain⟨H,I,rfl⟩:=bR aq;have V:=M.keep (a6.block g M.lt.2);have bj:=V.put1 ae.o.1 (.slice H x.1.args.length I);obtain⟨d0,d1⟩:=V.cell ae.o.1;rw[ay.o]at d1;have bu:=V.frozen (m*2+1);(have bf:Below w.heap.size w (w7.setCell ⟨g,m*2+1,none⟩ (.slice H x.1.args.length I)):=by have W:=c.trans (a6.mono c.size);exact⟨W.os,W.tape,W.output,by simpa[World.setCell]using W.size,fun k s=>(iG _ _ _ _ (show¬k=g by omega)).trans (W.block k s)⟩);have b5:O (∀j p,j<m+1->(R.set m (x.1,Value.slice H x.1.args.length I))[j]?=some p->(w7.setCell ⟨g,m*2+1,none⟩ (.slice H x.1.args.length I)).ownsRow w.heap.size 3 1 p.2 p.1.args.length (p.1.args.map (Value.int .i64))):=by
     intro j p hj K;rw[fU]at K;by_cases aO:m=j
     ·rw[if_pos aO,if_pos oM]at K;(obtain rfl:(x.1,Value.slice H x.1.args.length I)=p:=by simpa using K);exact Jd (gP aq c.size) V _ _
     rw[if_neg aO]at K;exact Jd (bO (a1.o j p oM K) a6) V _ _
    have b7:O ((R.set m (x.1,Value.slice H x.1.args.length I)).map (·.1)=D.map (·.1)):=by
     show _=_;rw[yB,a2.o];apply kP;intro t;rw[fU];split
     ·rename_i ht;subst ht;rw[if_pos (by simpa using L),dW,ae.o.2];rfl
     rfl
    (have b9:O (∀j,m+1<=j->(R.set m (x.1,Value.slice H x.1.args.length I))[j]?=D[j]?):=fun j hj=>by rw[fU,if_neg oM];exact a3.o j oM);clear M aq a6 V c a1 a2 a3 c0 S f1;go_wp2_with fail;go_roundw;(case rel=>exact⟨m+1,_,oM,gN,bj,b7.o,b9.o,b5.o,bf⟩);case measure=>exact mI
   have bN:m=D.length:=oM;(have b6:O (pQ w.heap.size wp (.slice (some ⟨g,0,none⟩) D.length a4) (eZ (l.filter P))):=by refine⟨R,a2.o.trans ba.o,by rw[<-ad.o];exact M,fun p d=>?_⟩;obtain⟨j,hj,K⟩:=tO d;exact a1.o j p (by have :=ad.o;omega) (by rw[aM hj,K]));clear M a1 a2 a3;go_wp2_with fail;go_ret;exact⟨_,rfl,b6.o,c⟩
theorem aM9{w:World}{B:Nat}{v:Value}{l:List Int}(h:w.ownsRow B 3 1 v l.length (l.map (Value.int .i64))):eT w v l:=by
 rcases h.2 with⟨b,c⟩|⟨g,cap,e,b,n,p,f,j,k,m⟩
 ·exact⟨none,0,by rw[b,c], .inl (dQ c)⟩
 subst b;refine⟨_,_,rfl, .inr ⟨g,0,rfl,fun i d=>?_⟩⟩;rw[eP,World.ownsRow.cellAt h i oM,dW,aM d];simp[cI,d]
theorem pQ.toV{B:Nat}{w:World}{v:Value}{s:List aQ}(h:pQ B w v s):bS w v s:=by
 obtain⟨q,rfl,d,k⟩:=h;rcases lJ d with⟨b,j⟩|⟨g,cap,b⟩
 ·have e:q=[]:=dQ j;subst e;exact⟨none,0,b,⟨aH _,fun _=>rfl⟩, .inl rfl⟩
 subst b;have l:q.length<=cap:=by
  rcases d.2 with⟨b,_⟩|⟨_,_,_,b,_,_,p,_⟩
  ·cases b
  injection b with _ _ n;omega
 refine⟨_,cap,by rw[aY],⟨by rw[aY];exact l,fun h=>by cases h⟩, .inr ⟨g,0,rfl,fun i c=>?_⟩⟩;rw[aY]at c;have e:q[i]?=some q[i]:=aM c;(have m:bF (q.map (·.1)) i=q[i].1:=by simp[bF,c]);obtain⟨c0,f⟩:=wS.cell d e;rw[eP,m];exact⟨c0,q[i].2,f,aM9 (k _ (fG c))⟩
theorem pQ.nil(B:Nat)(w:World):pQ B w (.slice none 0 0) []:=⟨[],rfl,eS _ _ _ _,fun _ b=>absurd b sI⟩
theorem bBZ(w:World):OL 102 #[] w (fun _=>true):=by
 intro z f b cap _ _ _;show Calls Tryz.prog 102 #[lT f.g (.slice b f.args.length cap)] z _;have c:∀o,Below z.heap.size z (z.alloc o):=fun o=>(aG _ _).alloc (aH _) o
 go_enter Tryz.func102,Tryz.ntmps102
 go_wp2_with fail;go_ret;exact⟨rfl,by first|exact c _|exact aG _ _⟩
theorem aM6:∀args w,(callFunc 102 args).run Tryz.prog w=.ok (.enter 102 args) w:=oQ Tryz.func102 kR rfl
theorem Xb(l:List aQ)(v:Value)(w:World)(i:bS w v l)(n:l.length<=4398046511103)(m:∀f,f∈l->f.args.length<=17592186044416):
 Calls Tryz.prog 64 #[v] w fun e c=>∃b,e=.returned b/\pQ w.heap.size c b (eZ l)/\Below w.heap.size w c:=by
 (have HK:O (Calls Tryz.prog 66 #[v, .func (.func 102) #[] #[]] w fun e c=>∃b,e=.returned b/\pQ w.heap.size c b (eZ l)/\Below w.heap.size w c):=by have h:=Mb l v w 102 #[] (fun _=>true) i n m aM6 (bBZ w);rw[YP.mpr (fun _ _=>rfl)]at h;exact h);obtain⟨r,cap,rfl,_⟩:=i;have u:∀(g:Fn)(first cap:Array Value)(w:World),(Instr.makeFunc g first cap).run Tryz.prog w=.ok (.func g first cap) w:=fun _ _ _ _=>rfl
 go_enter Tryz.func64,Tryz.ntmps64
 go_wp2_with fail;refine Calls.mono HK.o ?_;rintro e C ⟨b,rfl,d,k⟩;obtain⟨q,x,j,_⟩:=id d;obtain⟨p,s,rfl⟩:=bR j;have HP:O _:=d;clear d j HK;go_wp2_with fail;go_ret;exact⟨_,rfl,HP.o,k⟩
theorem XS(l:List aQ)(v:Value)(w:World)(d:bS w v l)(i:l.length<=2097152)(g:∀f,f∈l->f.args.length<=1048576):
 Calls Tryz.prog 64 #[v] w fun e c=>∃b,e=.returned b/\pQ w.heap.size c b (eZ l)/\Below w.heap.size w c:=
 Xb l v w d oM (fun f h=>bP (g f h) dE)
theorem aQ8(l:List aQ)(ao:Option Addr)(cap:Nat)(w:World)(h:Nat)(cb:Array Value)(P:aQ->Bool)(n:lD w ao l)(U:l.length<=9223372036854775807)(x:∀f,f∈l->gD f)(S:∀args w,(callFunc h args).run Tryz.prog w=.ok (.enter h args) w)(q:OL h cb w P):
 Calls Tryz.prog 118 #[.slice ao l.length cap, .func (.func h) #[] cb] w fun e N=>∃r:Int,e=.returned (.int .i64 r)/\decide (0<=r)=l.any P/\Below w.heap.size w N:=by
 have G:O (lD w ao l):=n;have H:O (∀f,f∈l->gD f):=x;have HK:O (OL h cb w P):=q;clear n x q
 go_enter Tryz.func118,Tryz.ntmps118
 go_wp2_with fail;go_loopw [8] (fun i wr=>∃k:Nat,k<=l.length/\i=.int .i64 k/\l.any P=(l.drop k).any P/\Below w.heap.size w wr) (fun i _=>l.length-(intOf i).toNat);case atStart=>exact⟨0,bL _,rfl,rfl,aG _ _⟩
 case round=>
  obtain⟨k,T,rfl,s,c⟩:=hrel;have g:O _:=s;clear s;by_cases j:k<l.length
  ·obtain⟨b,V,rfl,E,K,F,p⟩:=nM G.o k j;have C:=lU l k j;(have d:O (l.any P=(P (bF l k)||(l.drop (k+1)).any P)):=by show _=_;rw[g.o,SG l k j,List.any_cons]);have m:O (eT w K (bF l k).args/\gD (bF l k)):=⟨p,H.o _ C⟩;obtain⟨I,J,rfl,_⟩:=p;have Q:=aB c E;have R:=aB c F;clear E F g C;generalize bF l k=f at *;go_wp2_with fail;refine Calls.mono (HK.o wr f I J c (bC m.o.1 c) m.o.2) ?_;rintro e W ⟨M,L⟩;subst M;have u:=c.trans (L.mono c.size);cases D:P f
   ·(have HV:O (l.any P=(l.drop (k+1)).any P):=by show _=_;rw[d.o,D];rfl);clear d;go_wp2_with fail;go_roundw;(case rel=>exact⟨k+1,oM,gN,HV.o,u⟩);case measure=>exact mI
   (have HV:O (l.any P=true):=by show _=_;rw[d.o,D];rfl);clear d;go_wp2_with fail;go_ret;exact⟨k,rfl,by rw[HV.o];simp,u⟩
  (have HV:O (l.any P=false):=by show _=_;rw[g.o,bG oM];rfl);go_wp2_with fail;go_ret;exact⟨-1,rfl,rV,c⟩
theorem aCM(l:List aQ)(v:Value)(w:World)(h:Nat)(cb:Array Value)(P:aQ->Bool)(j:bS w v l)(n:l.length<=9223372036854775807)(d:∀f,f∈l->gD f)(m:∀args w,(callFunc h args).run Tryz.prog w=.ok (.enter h args) w)(c:OL h cb w P):
 Calls Tryz.prog 133 #[v, .func (.func h) #[] cb] w fun e q=>e=.returned (.bool (l.any P))/\Below w.heap.size w q:=by
 obtain⟨i,cap,rfl,_,b⟩:=j;have g:O _:=aQ8 l i cap w h cb P b n d m c;clear b d c
 go_enter Tryz.func133,Tryz.ntmps133
 go_wp2_with fail;refine Calls.mono g.o ?_;rintro e s ⟨r,rfl,p,k⟩;go_wp2_with fail;go_ret;exact⟨by rw[<-p];rfl,k⟩
theorem DW(f g:aQ)(v u:Value)(w:World)(Y:eT w v f.args)(X:eT w u g.args)(hx:gD f)(hy:gD g):
 Calls Tryz.prog 33 #[lT f.g v,lT g.g u] w fun e w'=>e=.returned (.int .i64 (eU f g))/\Below w.heap.size w w':=by
 obtain⟨p,x⟩:=f;obtain⟨q,y⟩:=g;have Y:eT w v x:=Y;have X:eT w u y:=X;have hx:x.length<=9223372036854775807:=hx;have hy:y.length<=9223372036854775807:=hy;obtain⟨m,cap,rfl,hA⟩:=Y;obtain⟨r,l,rfl,hB⟩:=X;have HA:O (vS w m x):=hA;have HB:O (vS w r y):=hB;have N:=xE (w:=w) (o1:=.cells #[.int .i64 p, .slice m x.length cap] 72) (o2:=.cells #[.int .i64 q, .slice r y.length l] 72) (aG _ _);have C:=EB w (.cells #[.int .i64 p, .slice m x.length cap] 72) (.cells #[.int .i64 q, .slice r y.length l] 72);have P:O (eU ⟨p,x⟩ ⟨q,y⟩=if fX p q=0 then fP x y else fX p q):=rfl;clear hA hB;(have c0:((w.alloc (.cells #[.int .i64 p, .slice m x.length cap] 72)).alloc (.cells #[.int .i64 q, .slice r y.length l] 72)).cell? ⟨w.heap.size,0,none⟩=some (.int .i64 p):=cH N.1);(have c1:((w.alloc (.cells #[.int .i64 p, .slice m x.length cap] 72)).alloc (.cells #[.int .i64 q, .slice r y.length l] 72)).cell? ⟨w.heap.size,1,none⟩=some (.slice m x.length cap):=cH N.1);(have d0:((w.alloc (.cells #[.int .i64 p, .slice m x.length cap] 72)).alloc (.cells #[.int .i64 q, .slice r y.length l] 72)).cell? ⟨w.heap.size+1,0,none⟩=some (.int .i64 q):=cH N.2);(have d1:((w.alloc (.cells #[.int .i64 p, .slice m x.length cap] 72)).alloc (.cells #[.int .i64 q, .slice r y.length l] 72)).cell? ⟨w.heap.size+1,1,none⟩=some (.slice r y.length l):=cH N.2);clear N;by_cases a1:p=q
 ·subst a1;(have E:O (eU ⟨p,x⟩ ⟨p,y⟩=fP x y):=by show _=_;rw[P.o,if_pos (EX p)]);(have g0:(p != p)=false:=by simp);clear P
  go_enter Tryz.func33,Tryz.ntmps33
  go_wp2_with fail;generalize (w.alloc (.cells #[.int .i64 p, .slice m x.length cap] 72)).alloc (.cells #[.int .i64 p, .slice r y.length l] 72)=d at *;(have a6:O (∀k,k<x.length->∃b c,m=some ⟨b,c,none⟩/\d.cell? ⟨b,c+k,none⟩=some (.int .i64 (cI x k))):=fun k Q=>by obtain⟨b,c,s,H⟩:=sY HA.o k Q;exact⟨b,c,s,aB C H⟩);(have a7:O (∀k,k<y.length->∃b c,r=some ⟨b,c,none⟩/\d.cell? ⟨b,c+k,none⟩=some (.int .i64 (cI y k))):=fun k Q=>by obtain⟨b,c,s,H⟩:=sY HB.o k Q;exact⟨b,c,s,aB C H⟩);clear HA HB;have J:O (∀n,Below w.heap.size w (d.drewN n)):=fun n=>⟨C.os,C.tape,C.output,C.size,C.block⟩;clear C;go_loopw [5] (fun i wr=>∃k nq:Nat,k<=x.length/\k<=y.length/\i=.int .i64 k/\wr=d.drewN nq/\fP (x.drop k) (y.drop k)=fP x y) (fun i _=>x.length-(intOf i).toNat);case atStart=>exact⟨0,0,bL _,bL _,rfl,rfl,rfl⟩
  case round=>
   obtain⟨k,nq,Q,a9,rfl,rfl,hq⟩:=hrel;have K:O _:=hq;clear hq;by_cases Z:k<x.length
   ·by_cases a0:k<y.length
    ·obtain⟨b,c,rfl,p0⟩:=a6.o k Z;obtain⟨G,I,rfl,p1⟩:=a7.o k a0;(have R:O (fP x y=if fX (cI x k) (cI y k)=0 then fP (x.drop (k+1)) (y.drop (k+1))else fX (cI x k) (cI y k)):=by show _=_;rw[<-K.o];exact aD9 x y k Z a0);clear K;generalize cI x k=a at *;generalize cI y k=j at *;have a2:∀n,(d.drewN n).cell? ⟨w.heap.size,1,none⟩=some (.slice (some ⟨b,c,none⟩) x.length cap):=fun _=>c1;have a3:∀n,(d.drewN n).cell? ⟨w.heap.size+1,1,none⟩=some (.slice (some ⟨G,I,none⟩) y.length l):=fun _=>d1;have a4:∀n,(d.drewN n).cell? ⟨b,c+k,none⟩=some (.int .i64 a):=fun _=>p0;have a5:∀n,(d.drewN n).cell? ⟨G,I+k,none⟩=some (.int .i64 j):=fun _=>p1;go_upto_region 8 with fail;have T:=a2 nq;have U:=a3 nq;have V:=a4 nq;have W:=a5 nq;generalize L:d.drewN nq=z at *;go_region_held3 (fun D=>D.cell? ⟨w.heap.size,1,none⟩=some (.slice (some ⟨b,c,none⟩) x.length cap)/\D.cell? ⟨w.heap.size+1,1,none⟩=some (.slice (some ⟨G,I,none⟩) y.length l)/\D.cell? ⟨b,c+k,none⟩=some (.int .i64 a)/\D.cell? ⟨G,I+k,none⟩=some (.int .i64 j)) (go_keep) (fail);clear T U V W;(have M:z.drew=d.drewN (nq+1):=by rw[<-L];rfl);rw[M];clear L M;have S:O (fX a j=if a<j then -1 else if j<a then 1 else 0):=rfl;by_cases s:a<j
     ·(have HV:O (fP x y= -1):=by show _=_;(have F:fX a j= -1:=by rw[S.o,if_pos s]);rw[R.o,if_neg (by rw[F];decide),F]);go_wp2_with fail;go_ret;exact⟨by rw[E.o,HV.o];rfl,J.o _⟩
     go_upto_region 10 with fail;have T:=a2 (nq+1);have U:=a3 (nq+1);have V:=a4 (nq+1);have W:=a5 (nq+1);generalize L:d.drewN (nq+1)=z at *;go_region_held3 (fun D=>D.cell? ⟨w.heap.size,1,none⟩=some (.slice (some ⟨b,c,none⟩) x.length cap)/\D.cell? ⟨w.heap.size+1,1,none⟩=some (.slice (some ⟨G,I,none⟩) y.length l)/\D.cell? ⟨b,c+k,none⟩=some (.int .i64 a)/\D.cell? ⟨G,I+k,none⟩=some (.int .i64 j)) (go_keep) (fail);clear T U V W;(have M:z.drew=d.drewN (nq+1+1):=by rw[<-L];rfl);rw[M];clear L M;by_cases H:j<a
     ·(have HV:O (fP x y=1):=by show _=_;(have F:fX a j=1:=by rw[S.o,if_neg s,if_pos H]);rw[R.o,if_neg (by rw[F];decide),F]);go_wp2_with fail;go_ret;exact⟨by rw[E.o,HV.o];rfl,J.o _⟩
     (have HV:O (fP (x.drop (k+1)) (y.drop (k+1))=fP x y):=by show _=_;(have F:fX a j=0:=by rw[S.o,if_neg s,if_neg H]);rw[R.o,if_pos F]);go_wp2_with fail;go_roundw;(case rel=>exact⟨k+1,nq+1+1,oM,oM,gN,rfl,HV.o⟩);case measure=>exact mI
    (have HV:O (fP x y=1):=by show _=_;rw[<-K.o];exact aEA x y k Z oM);have a8:y.length<x.length:=oM;have aa:¬x.length<y.length:=oM;go_wp2_with fail;go_ret;exact⟨by rw[E.o,HV.o];rfl,J.o _⟩
   by_cases a0:x.length<y.length
   ·(have HV:O (fP x y= -1):=by show _=_;rw[<-K.o];exact Yh x y k oM oM);go_wp2_with fail;go_ret;exact⟨by rw[E.o,HV.o];rfl,J.o _⟩
   (have HV:O (fP x y=0):=by show _=_;rw[<-K.o,bG oM,bG oM];rfl);have a8:¬y.length<x.length:=oM;go_wp2_with fail;go_ret;exact⟨by rw[E.o,HV.o];rfl,J.o _⟩
 (have g0:(p != q)=true:=by simpa using a1);(have E:O (eU ⟨p,x⟩ ⟨q,y⟩=fX p q):=by show _=_;rw[P.o,if_neg (fun h=>a1 (mR.mp h))]);have HC:O (fX p q=if p<q then -1 else if q<p then 1 else 0):=rfl;clear P;by_cases s:p<q
 ·have HV:O (fX p q= -1):=by show _=_;rw[HC.o,if_pos s]
  go_enter Tryz.func33,Tryz.ntmps33
  go_wp2_with fail;go_ret;exact⟨by rw[E.o,HV.o];rfl,C⟩
 have HV:O (fX p q=1):=by show _=_;rw[HC.o,if_neg s,if_pos oM]
 go_enter Tryz.func33,Tryz.ntmps33
 go_wp2_with fail;go_ret;exact⟨by rw[E.o,HV.o];rfl,C⟩
theorem bEA(l:List aQ)(f:aQ):l.any (fun g=>eU f g==0)=mJ l f:=by
 unfold mJ
 congr 1
 funext g;rw[IX g f];by_cases h:eU g f=0
 ·rw[h];rfl
 have b:¬(-eU g f)=0:=oM;rw[MS b,MS h]
theorem bA0(w:World)(d:Nat)(f:aQ)(a:Option Addr)(c:Nat)(p:w.heap[d]?=some (.cells #[.int .i64 f.g, .slice a f.args.length c] 72))(D:eT w (.slice a f.args.length c) f.args)(x:gD f):OL 279 #[.pointer (some ⟨d,0,none⟩)] w (fun g=>eU f g==0):=by
 intro z g b cap m q C;show Calls Tryz.prog 279 #[lT g.g (.slice b g.args.length cap), .pointer (some ⟨d,0,none⟩)] z _;have k:=(m.block d (aNA p)).trans p;have i:Below z.heap.size z (z.alloc (.cells #[.int .i64 g.g, .slice b g.args.length cap] 72)):=(aG _ _).alloc (aH _) _;have j:=(i.block d (aNA k)).trans k;have l:=iC z (.cells #[.int .i64 g.g, .slice b g.args.length cap] 72);have n:O (Calls Tryz.prog 106 #[lT f.g (.slice a f.args.length c),lT g.g (.slice b g.args.length cap)] (z.alloc (.cells #[.int .i64 g.g, .slice b g.args.length cap] 72)) fun e G=>e=.returned (.bool (eU f g==0))/\Gr (z.alloc (.cells #[.int .i64 g.g, .slice b g.args.length cap] 72)) G):=aAH f g _ _ _ (bC (bC D m) i) (bC q i) x C;(have c0:(z.alloc (.cells #[.int .i64 g.g, .slice b g.args.length cap] 72)).cell? ⟨d,0,none⟩=some (.int .i64 f.g):=cH j);(have r:(z.alloc (.cells #[.int .i64 g.g, .slice b g.args.length cap] 72)).cell? ⟨d,1,none⟩=some (.slice a f.args.length c):=cH j);(have s:(z.alloc (.cells #[.int .i64 g.g, .slice b g.args.length cap] 72)).cell? ⟨z.heap.size,0,none⟩=some (.int .i64 g.g):=cH l);(have u:(z.alloc (.cells #[.int .i64 g.g, .slice b g.args.length cap] 72)).cell? ⟨z.heap.size,1,none⟩=some (.slice b g.args.length cap):=cH l);clear k j l q m
 go_enter Tryz.func279,Tryz.ntmps279
 go_wp2_with fail;refine Calls.mono n.o ?_;rintro e H ⟨rfl,F⟩;have E:=i.trans (F.z.mono i.size);clear n c0 r s u;go_wp2_with fail;go_ret;exact⟨rfl,E⟩
theorem aM7:∀args w,(callFunc 279 args).run Tryz.prog w=.ok (.enter 279 args) w:=oQ Tryz.func279 kR rfl
theorem aS1(l:List aQ)(f:aQ)(v u:Value)(w:World)(m:bS w v l)(d:eT w u f.args)(s:l.length<=9223372036854775807)(p:∀f,f∈l->gD f)(q:gD f):
 Calls Tryz.prog 266 #[v,lT f.g u] w fun e i=>e=.returned (.bool (mJ l f))/\Below w.heap.size w i:=by
 obtain⟨a,c,rfl,_⟩:=id d;have C:∀(k:Fn)(first cap:Array Value)(w:World),(Instr.makeFunc k first cap).run Tryz.prog w=.ok (.func k first cap) w:=fun _ _ _ _=>rfl;have b:Below w.heap.size w (w.alloc (.cells #[.int .i64 f.g, .slice a f.args.length c] 72)):=(aG _ _).alloc (aH _) _;(have j:O (Calls Tryz.prog 133 #[v, .func (.func 279) #[] #[.pointer (some ⟨w.heap.size,0,none⟩)]] (w.alloc (.cells #[.int .i64 f.g, .slice a f.args.length c] 72)) fun e i=>e=.returned (.bool (mJ l f))/\Below (w.alloc (.cells #[.int .i64 f.g, .slice a f.args.length c] 72)).heap.size (w.alloc (.cells #[.int .i64 f.g, .slice a f.args.length c] 72)) i):=by rw[<-bEA];exact aCM l v _ 279 _ _ (bQ m b) s p aM7 (bA0 _ w.heap.size f a c (iC w _) (bC d b) q));obtain⟨x,cap,rfl,_⟩:=m;clear d p
 go_enter Tryz.func266,Tryz.ntmps266
 go_wp2_with fail;refine Calls.mono j.o ?_;rintro e D ⟨rfl,n⟩;have r:=b.trans (n.mono b.size);clear j n b;go_wp2_with fail;go_ret;exact⟨rfl,r⟩
theorem wY(l:List aQ)(v u:Value)(w:World)(hV:bS w v l)(hU:bS w u l)(hl:l.length<=9223372036854775807)(R:∀f,f∈l->gD f):
 Calls Tryz.prog 15 #[v,u] w fun e d=>e=.returned (.bool true)/\Below w.heap.size w d:=by
 obtain⟨ao,cap,rfl,_,L⟩:=hV;obtain⟨bo,aa,rfl,_,M⟩:=hU;have Y:O (lD w ao l):=L;have Z:O (lD w bo l):=M;have HF:O (∀f,f∈l->gD f):=R;(have ab:((l.length:Int) != (l.length:Int))=false:=by simp);clear L M R
 go_enter Tryz.func15,Tryz.ntmps15
 go_wp2_with fail;go_loopw [5] (fun i wr=>∃k:Nat,k<=l.length/\i=.int .i64 k/\Below w.heap.size w wr) (fun i _=>l.length-(intOf i).toNat);case atStart=>exact⟨0,bL _,rfl,aG _ _⟩
 case round=>
  obtain⟨k,hk,rfl,c⟩:=hrel;by_cases E:k<l.length
  ·obtain⟨b,q,rfl,U,fv,V,N⟩:=nM Y.o k E;obtain⟨p,r,rfl,W,gv,X,P⟩:=nM Z.o k E;have S:=lU l k E;have n:O (eT w fv (bF l k).args/\eT w gv (bF l k).args/\gD (bF l k)):=⟨N,P,HF.o _ S⟩;obtain⟨s,C,rfl,_⟩:=N;obtain⟨x,D,rfl,_⟩:=P;have H:=aB c U;have I:=aB c V;have c0:=aB c W;have J:=aB c X;clear U V W X S;generalize bF l k=g at *;(have G:O (∀z,Below wr.heap.size wr z->Calls Tryz.prog 33 #[lT g.g (.slice s g.args.length C),lT g.g (.slice x g.args.length D)] z fun e d=>e=.returned (.int .i64 0)/\Below wr.heap.size wr d/\d.cell? ⟨b,q+k*2,none⟩=some (.int .i64 g.g)/\d.cell? ⟨b,q+k*2+1,none⟩=some (.slice s g.args.length C)/\d.cell? ⟨p,r+k*2,none⟩=some (.int .i64 g.g)/\d.cell? ⟨p,r+k*2+1,none⟩=some (.slice x g.args.length D)):=by intro z F;have T:=c.trans (F.mono c.size);refine(DW g g _ _ z (bC n.o.1 T) (bC n.o.2.1 T) n.o.2.2 n.o.2.2).mono ?_;rintro e d ⟨K,h2⟩;have j:=F.trans (h2.mono F.size);rw[zD]at K;exact⟨K,j,aB j H,aB j I,aB j c0,aB j J⟩);have a2:∀b o,Below wr.heap.size wr b->Below wr.heap.size wr (b.alloc o):=fun _ o h=>h.alloc h.size o;have a3:∀b,Below wr.heap.size wr b->Below wr.heap.size wr b.drew:=fun _ h=>⟨h.os,h.tape,h.output,h.size,h.block⟩;have a4:Below wr.heap.size wr wr:=aG _ _;go_upto_region 6 with fail
   go_region_held3 (fun m=>m.cell? ⟨b,q+k*2,none⟩=some (.int .i64 g.g)/\m.cell? ⟨b,q+k*2+1,none⟩=some (.slice s g.args.length C)/\m.cell? ⟨p,r+k*2,none⟩=some (.int .i64 g.g)/\m.cell? ⟨p,r+k*2+1,none⟩=some (.slice x g.args.length D)/\Below wr.heap.size wr m) (go_keep) (
    (go_at_call 33;refine Calls.mono (G.o _ ?_) ?_;(simp[*]);rintro e w2 ⟨rfl,Q,a6,a7,a8,a9⟩))
   clear a2 a3 a4 G a6 a7 a8 a9;have a5:=c.trans (Q.mono c.size);clear H I c0 J Q c;go_wp2_with fail;go_roundw;(case rel=>exact⟨k+1,oM,gN,a5⟩);case measure=>exact mI
  go_wp2_with fail;go_ret;exact⟨rfl,c⟩
theorem Fd{l m:List aQ}{k:Nat}(h:l.take k=m.take k)(c:k<l.length)(d:k<m.length)(b:bF l k=bF m k):l.take (k+1)=m.take (k+1):=by rw[gQ,gQ,ED l k c,ED m k d,h,b]
theorem Ob{l m:List aQ}{k:Nat}(h:l.take k=m.take k)(c:l.length=m.length)(b:¬k<l.length):l=m:=by rw[dM oM,dM oM]at h;exact h
def aZC(h:Nat)(w:World):Prop:=
 ∀(z:World)(f g:aQ)(b c:Option Addr)(d i:Nat),Below w.heap.size w z->eT z (.slice b f.args.length d) f.args->eT z (.slice c g.args.length i) g.args->gD f->gD g->Calls Tryz.prog h #[lT f.g (.slice b f.args.length d),lT g.g (.slice c g.args.length i)] z fun e j=>e=.returned (.bool (eU f g==0))/\Below z.heap.size z j
theorem ZL(l m:List aQ)(v u:Value)(w:World)(hV:bS w v l)(hU:bS w u m)(hl:l.length<=9223372036854775807)(hf:∀f,f∈l->gD f)(hg:∀f,f∈m->gD f):
 Calls Tryz.prog 15 #[v,u] w fun e n=>∃t,e=.returned (.bool t)/\(t=true↔l=m)/\Below w.heap.size w n:=by
 obtain⟨ao,cap,rfl,_,hA⟩:=hV;obtain⟨bo,aa,rfl,_,hB⟩:=hU;have HA:O (lD w ao l):=hA;have HB:O (lD w bo m):=hB;have HF:O ((∀f,f∈l->gD f)/\∀f,f∈m->gD f):=⟨hf,hg⟩;clear hA hB hf hg;by_cases r:l.length=m.length
 ·rw[<-r];have a5:O (l.length=m.length):=r;(have a9:((l.length:Int) != (l.length:Int))=false:=by simp);clear r
  go_enter Tryz.func15,Tryz.ntmps15
  go_wp2_with fail;go_loopw [5] (fun i wr=>∃k:Nat,k<=l.length/\i=.int .i64 k/\O (l.take k=m.take k)/\Below w.heap.size w wr) (fun i _=>l.length-(intOf i).toNat);case atStart=>exact⟨0,bL _,rfl,rfl,aG _ _⟩
  case round=>
   obtain⟨k,hk,rfl,Q,d⟩:=hrel;by_cases G:k<l.length
   ·obtain⟨b,x,rfl,p0,fv,p1,a6⟩:=nM HA.o k G;(have M:k<m.length:=by rw[<-a5.o];exact G);obtain⟨q,C,rfl,r0,gv,r1,a7⟩:=nM HB.o k M;have H:O (eT w fv (bF l k).args/\eT w gv (bF m k).args/\gD (bF l k)/\gD (bF m k)):=⟨a6,a7,HF.o.1 _ (lU l k G),HF.o.2 _ (lU m k M)⟩;have P:O (bF l k=bF m k->l.take (k+1)=m.take (k+1)):=fun e=>Fd Q.o G M e;have N:O (¬bF l k=bF m k->¬l=m):=fun h e=>h (by rw[e]);obtain⟨I,K,rfl,_⟩:=a6;obtain⟨J,L,rfl,_⟩:=a7;have R:=aB d p0;have S:=aB d p1;have c0:=aB d r0;have T:=aB d r1;clear p0 p1 r0 r1 M Q;generalize bF l k=g at *;generalize bF m k=c at *;(have D:O (∀z,Below wr.heap.size wr z->Calls Tryz.prog 33 #[lT g.g (.slice I g.args.length K),lT c.g (.slice J c.args.length L)] z fun e n=>e=.returned (.int .i64 (eU g c))/\Below wr.heap.size wr n/\n.cell? ⟨b,x+k*2,none⟩=some (.int .i64 g.g)/\n.cell? ⟨b,x+k*2+1,none⟩=some (.slice I g.args.length K)/\n.cell? ⟨q,C+k*2,none⟩=some (.int .i64 c.g)/\n.cell? ⟨q,C+k*2+1,none⟩=some (.slice J c.args.length L)):=by intro z V;have a8:=d.trans (V.mono d.size);refine(DW g c _ _ z (bC H.o.1 a8) (bC H.o.2.1 a8) H.o.2.2.1 H.o.2.2.2).mono ?_;rintro e n ⟨h1,h2⟩;have E:=V.trans (h2.mono V.size);exact⟨h1,E,aB E R,aB E S,aB E c0,aB E T⟩);have a2:∀b o,Below wr.heap.size wr b->Below wr.heap.size wr (b.alloc o):=fun _ o h=>h.alloc h.size o;have a3:∀b,Below wr.heap.size wr b->Below wr.heap.size wr b.drew:=fun _ h=>⟨h.os,h.tape,h.output,h.size,h.block⟩;have a4:Below wr.heap.size wr wr:=aG _ _;by_cases s:eU g c=0
    ·have p:O _:=P.o (uP.mp s);rw[s]at D;clear s P N;go_upto_region 6 with fail
     go_region_held3 (fun j=>j.cell? ⟨b,x+k*2,none⟩=some (.int .i64 g.g)/\j.cell? ⟨b,x+k*2+1,none⟩=some (.slice I g.args.length K)/\j.cell? ⟨q,C+k*2,none⟩=some (.int .i64 c.g)/\j.cell? ⟨q,C+k*2+1,none⟩=some (.slice J c.args.length L)/\Below wr.heap.size wr j) (go_keep) (
      (go_at_call 33;refine Calls.mono (D.o _ ?_) ?_;(simp[*]);rintro e w2 ⟨rfl,F,W,X,Y,Z⟩))
     clear a2 a3 a4 D W X Y Z;have U:=d.trans (F.mono d.size);clear R S c0 T F d;go_wp2_with fail;go_roundw;(case rel=>exact⟨k+1,oM,gN,p.o,U⟩);case measure=>exact mI
    have p:O (¬l=m):=N.o (fun e=>s (uP.mpr e));(have ab:(eU g c != 0)=true:=by simpa using s);generalize eU g c=od at *;clear s P N;go_upto_region 6 with fail
    go_region_held3 (fun j=>j.cell? ⟨b,x+k*2,none⟩=some (.int .i64 g.g)/\j.cell? ⟨b,x+k*2+1,none⟩=some (.slice I g.args.length K)/\j.cell? ⟨q,C+k*2,none⟩=some (.int .i64 c.g)/\j.cell? ⟨q,C+k*2+1,none⟩=some (.slice J c.args.length L)/\Below wr.heap.size wr j) (go_keep) (
     (go_at_call 33;refine Calls.mono (D.o _ ?_) ?_;(simp[*]);rintro e w2 ⟨rfl,F,W,X,Y,Z⟩))
    clear a2 a3 a4 D W X Y Z;have U:=d.trans (F.mono d.size);clear R S c0 T F d;go_wp2_with fail;go_ret;exact⟨false,rfl,⟨fun h=>(by cases h),fun h=>absurd h p.o⟩,U⟩
   have p:O (l=m):=Ob Q.o a5.o G;go_wp2_with fail;go_ret;exact⟨true,rfl,⟨fun _=>p.o,fun _=>rfl⟩,d⟩
 have p:O (¬l=m):=fun e=>r (by rw[e]);(have a9:((l.length:Int) != (m.length:Int))=true:=by simp;omega);(have ac:(l.length != m.length)=true:=by simpa using r);clear r
 go_enter Tryz.func15,Tryz.ntmps15
 go_wp2_with fail;go_ret;exact⟨false,rfl,⟨fun h=>(by cases h),fun h=>absurd h p.o⟩,aG _ _⟩
theorem aOT(h:Nat)(l m:List aQ)(v u:Value)(w:World)(hV:bS w v l)(hU:bS w u m)(hl:l.length<=9223372036854775807)(hf:∀f,f∈l->gD f)(hg:∀f,f∈m->gD f)(he:∀args w,(callFunc h args).run Tryz.prog w=.ok (.enter h args) w)(hC:aZC h w):
 Calls Tryz.prog 100 #[v,u, .func (.func h) #[] #[]] w fun e w'=>∃t,e=.returned (.bool t)/\(t=true↔l=m)/\Below w.heap.size w w':=by
 obtain⟨ao,cap,rfl,_,hA⟩:=hV;obtain⟨bo,a7,rfl,_,hB⟩:=hU;have HA:O (lD w ao l):=hA;have HB:O (lD w bo m):=hB;have X:O ((∀f,f∈l->gD f)/\∀f,f∈m->gD f):=⟨hf,hg⟩;have HC:O (aZC h w):=hC;clear hA hB hf hg hC;by_cases n:l.length=m.length
 ·rw[<-n];have Y:O (l.length=m.length):=n;(have a6:((l.length:Int) != (l.length:Int))=false:=by simp);clear n
  go_enter Tryz.func100,Tryz.ntmps100
  go_wp2_with fail;go_loopw [17] (fun i wr=>∃k:Nat,k<=l.length/\i=.int .i64 k/\O (l.take k=m.take k)/\Below w.heap.size w wr) (fun i _=>l.length-(intOf i).toNat);case atStart=>exact⟨0,bL _,rfl,rfl,aG _ _⟩
  case round=>
   obtain⟨k,hk,rfl,N,j⟩:=hrel;by_cases D:k<l.length
   ·obtain⟨b,a9,rfl,p0,fv,p1,a3⟩:=nM HA.o k D;(have I:k<m.length:=by rw[<-Y.o];exact D);obtain⟨b2,aa,rfl,r0,gv,r1,a4⟩:=nM HB.o k I;have G:O (eT w fv (bF l k).args/\eT w gv (bF m k).args/\gD (bF l k)/\gD (bF m k)):=⟨a3,a4,X.o.1 _ (lU l k D),X.o.2 _ (lU m k I)⟩;have M:O (bF l k=bF m k->l.take (k+1)=m.take (k+1)):=fun e=>Fd N.o D I e;have L:O (¬bF l k=bF m k->¬l=m):=fun h e=>h (by rw[e]);obtain⟨r,x,rfl,_⟩:=a3;obtain⟨s,C,rfl,_⟩:=a4;have a0:=aB j p0;have a1:=aB j p1;have c0:=aB j r0;have Z:=aB j r1;have K:O _:=j;clear p0 p1 r0 r1 I N j;generalize bF l k=g at *;generalize bF m k=c at *;go_upto_region 6 with fail;have H:=(aG wr.heap.size wr).alloc (aH _) (.cells #[.int .i64 g.g, .slice r g.args.length x] 72);have P:O _:=bA wr (.cells #[.int .i64 g.g, .slice r g.args.length x] 72);have J:O (Below w.heap.size w _):=K.o.trans (H.mono K.o.size);have d0:=aB H c0;have d1:=aB H Z;clear a0 a1 c0 Z H K;generalize wr.alloc (.cells #[.int .i64 g.g, .slice r g.args.length x] 72)=E at *;generalize wr.heap.size=T at *;go_upto_region 7 with fail;have S:=(aG E.heap.size E).alloc (aH _) (.cells #[.int .i64 c.g, .slice s c.args.length C] 72);have R:O _:=bA E (.cells #[.int .i64 c.g, .slice s c.args.length C] 72);have Q:O _:=(S.block _ (cV P.o)).trans P.o;have q:O (Below w.heap.size w _):=J.o.trans (S.mono J.o.size);clear d0 d1 S J P;generalize E.alloc (.cells #[.int .i64 c.g, .slice s c.args.length C] 72)=F at *;generalize E.heap.size=V at *;(have e0:F.cell? ⟨T,0,none⟩=some (.int .i64 g.g):=cH Q.o);(have e1:F.cell? ⟨T,1,none⟩=some (.slice r g.args.length x):=cH Q.o);(have e2:F.cell? ⟨V,0,none⟩=some (.int .i64 c.g):=cH R.o);(have e3:F.cell? ⟨V,1,none⟩=some (.slice s c.args.length C):=cH R.o);have W:O _:=HC.o F g c r s x C q.o (bC G.o.1 q.o) (bC G.o.2.1 q.o) G.o.2.2.1 G.o.2.2.2;clear Q R;go_wp2_with fail;refine Calls.mono W.o ?_;rintro _ w3 ⟨rfl,a5⟩;have U:O (Below w.heap.size w w3):=q.o.trans (a5.mono q.o.size);clear a5 W e0 e1 e2 e3;by_cases p:eU g c=0
    ·have d:O _:=M.o (uP.mp p);rw[p];clear p M L;go_wp2_with fail;go_roundw;(case rel=>exact⟨k+1,oM,gN,d.o,U.o⟩);case measure=>exact mI
    have d:O (¬l=m):=L.o (fun e=>p (uP.mpr e));(have a2:(eU g c==0)=false:=by simpa using p);rw[a2];clear p M L a2;go_wp2_with fail;go_ret;exact⟨false,rfl,⟨fun h=>(by cases h),fun h=>absurd h d.o⟩,U.o⟩
   have d:O (l=m):=Ob N.o Y.o D;go_wp2_with fail;go_ret;exact⟨true,rfl,⟨fun _=>d.o,fun _=>rfl⟩,j⟩
 have d:O (¬l=m):=fun e=>n (by rw[e]);(have a6:((l.length:Int) != (m.length:Int))=true:=by simp;omega);(have a8:(l.length != m.length)=true:=by simpa using n);clear n
 go_enter Tryz.func100,Tryz.ntmps100
 go_wp2_with fail;go_ret;exact⟨false,rfl,⟨fun h=>(by cases h),fun h=>absurd h d.o⟩,aG _ _⟩
theorem MH{w w':World}{ao:Option Addr}{l:List aQ}(h:lD w ao l)(c:Below w.heap.size w w'):lD w' ao l:=by
 rcases h with h|⟨b,e,rfl,h⟩
 ·exact .inl h
 exact .inr ⟨b,e,rfl,fun i d=>SH (h i d) c⟩
theorem bCA{l:List aQ}(h:dD l){a b:Nat}(g:a<b)(c:b<l.length):eU (bF l a) (bF l b)<0:=by have f:=wN.mp h a b oM c g;(have d:bF l a=l[a]'oM:=by simp[bF,show a<l.length by omega]);(have e:bF l b=l[b]'c:=by simp[bF,c]);rw[d,e];exact f
theorem bHY{l:List aQ}{f:aQ}{i:Nat}(h:dD l)(m:∀a,a<i->eU (bF l a) f<0)(j:∀a,i<=a->a<l.length->0<=eU (bF l a) f):mJ l f=(decide (i<l.length)&&eU (bF l i) f==0):=by
 rw[sL,qD,eI,BL,nQ,uP];constructor
 ·intro n;obtain⟨a,e,g⟩:=tO n;(have c:bF l a=f:=by simp[bF,e,g]);rcases Nat.lt_trichotomy a i with b|b|b
  ·have d:=m a b;rw[c,zD]at d;omega
  ·subst b;exact⟨e,c⟩
  have d:=bCA h b e;rw[c]at d;have p:=j i (aH _) oM;omega
 rintro⟨k,g⟩;rw[<-g];exact lU l i k
theorem Hw(l:List aQ)(f:aQ)(ao k:Option Addr)(cap fc:Nat)(w:World)(ad:dD l)(hA:lD w ao l)(hI:eT w (.slice k f.args.length fc) f.args)(hl:l.length<=4398046511103)(hf:∀f,f∈l->gD f)(hF:gD f):
 Calls Tryz.prog 68 #[.slice ao l.length cap,lT f.g (.slice k f.args.length fc), .func (.func 69) #[] #[]] w fun e m=>∃i:Int,e=.returned (.tuple #[.int .i64 i, .bool (mJ l f)])/\Below w.heap.size w m:=by
 have HA:O (lD w ao l):=hA;have G:O (eT w (.slice k f.args.length fc) f.args/\gD f/\∀f,f∈l->gD f):=⟨hI,hF,hf⟩;have a1:O (dD l):=ad;clear hA hI hf hF ad
 go_enter Tryz.func68,Tryz.ntmps68
 have C:Below w.heap.size w (w.alloc (.cells #[.int .i64 f.g, .slice k f.args.length fc] 72)):=(aG _ _).alloc (aH _) _;have a2:=iC w (.cells #[.int .i64 f.g, .slice k f.args.length fc] 72);go_wp2_with fail;generalize al:w.alloc (.cells #[.int .i64 f.g, .slice k f.args.length fc] 72)=J at *;(have e0:J.cell? ⟨w.heap.size,0,none⟩=some (.int .i64 f.g):=cH a2);(have e1:J.cell? ⟨w.heap.size,1,none⟩=some (.slice k f.args.length fc):=cH a2);have U:O (J.cell? ⟨w.heap.size,0,none⟩=some (.int .i64 f.g)/\J.cell? ⟨w.heap.size,1,none⟩=some (.slice k f.args.length fc)):=⟨e0,e1⟩;clear al a2 e0 e1;go_loopw [9,10] (fun iv jv wr=>∃i j:Nat,i<=j/\j<=l.length/\iv=.int .i64 i/\jv=.int .i64 j/\(∀a,a<i->eU (bF l a) f<0)/\(∀a,j<=a->a<l.length->0<=eU (bF l a) f)/\Below J.heap.size J wr) (fun iv jv _=>(intOf jv).toNat-(intOf iv).toNat);case atStart=>exact⟨0,l.length,bL _,aH _,rfl,rfl,fun a h=>absurd h (yR _),fun a H M=>absurd M oM,aG _ _⟩
 case round=>
  obtain⟨c,am⟩:∃c,c=wr:=⟨_,rfl⟩;subst am;obtain⟨i,j,ar,hj,rfl,rfl,ac,ab,n⟩:=hrel;have aa:O _:=ac;have a9:O _:=ab;clear ac ab;by_cases au:i<j
  ·go_upto_region 5 with fail;obtain⟨h,ah⟩:∃h:Nat,h=(i+j)/2:=⟨_,rfl⟩;have hh:((i:Int)+(j:Int))/2=(h:Int):=oM;have ai:i<=h:=oM;have aq:h<j:=oM;have a3:h<l.length:=oM;obtain⟨b,p,rfl,S,fv,T,E⟩:=nM HA.o h a3;have X:O (gD (bF l h)):=G.o.2.2 _ (lU l h a3);have r:=C.trans (n.mono C.size);obtain⟨u,x,rfl,_⟩:=id E;have c0:=aB r S;have L:=aB r T;have d0:=aB n U.o.1;have d1:=aB n U.o.2;(have D:O (∀d,d.cell? ⟨b,p+h*2,none⟩=some (.int .i64 (bF l h).g)/\d.cell? ⟨b,p+h*2+1,none⟩=some (.slice u (bF l h).args.length x)/\d.cell? ⟨w.heap.size,0,none⟩=some (.int .i64 f.g)/\d.cell? ⟨w.heap.size,1,none⟩=some (.slice k f.args.length fc)/\Below c.heap.size c d->Calls Tryz.prog 69 #[lT (bF l h).g (.slice u (bF l h).args.length x),lT f.g (.slice k f.args.length fc)] d fun e m=>e=.returned (.int .i64 (eU (bF l h) f))/\Below c.heap.size c m/\m.cell? ⟨b,p+h*2,none⟩=some (.int .i64 (bF l h).g)/\m.cell? ⟨b,p+h*2+1,none⟩=some (.slice u (bF l h).args.length x)/\m.cell? ⟨w.heap.size,0,none⟩=some (.int .i64 f.g)/\m.cell? ⟨w.heap.size,1,none⟩=some (.slice k f.args.length fc)):=by intro d a4;obtain⟨y0,y1,y2,y3,F⟩:=a4;have Q:=r.trans (F.mono r.size);refine Calls.mono (GH _ f _ _ d (bC E Q) (bC G.o.1 Q) X.o G.o.2.1) ?_;rintro e m ⟨rfl,s⟩;have q:=s.z;exact⟨rfl,F.trans (q.mono F.size),aB q y0,aB q y1,aB q y2,aB q y3⟩);have Y:∀b o,Below c.heap.size c b->Below c.heap.size c (b.alloc o):=fun _ o h=>h.alloc h.size o;have Z:∀b,Below c.heap.size c b->Below c.heap.size c b.drew:=fun _ h=>⟨h.os,h.tape,h.output,h.size,h.block⟩;have a0:Below c.heap.size c c:=aG _ _;obtain⟨g,s⟩:∃g,g=bF l h:=⟨_,rfl⟩;have V:O (g=bF l h):=s;rw[<-s]at D c0 L;clear s S T E;rw[hh];clear hh ah
   go_region_held3 (fun d=>d.cell? ⟨b,p+h*2,none⟩=some (.int .i64 g.g)/\d.cell? ⟨b,p+h*2+1,none⟩=some (.slice u g.args.length x)/\d.cell? ⟨w.heap.size,0,none⟩=some (.int .i64 f.g)/\d.cell? ⟨w.heap.size,1,none⟩=some (.slice k f.args.length fc)/\Below c.heap.size c d) (go_keep) (
    (go_at_call 69;refine Calls.mono (D.o _ ?_) ?_;(simp[*]);rintro e w2 ⟨rfl,P,a5,a6,a7,a8⟩))
   have I:=n.trans (P.mono n.size);clear Y Z a0 D a5 a6 a7 a8 c0 L d0 d1 n r P;by_cases R:eU g f<0
   ·have af:O (∀a,a<h+1->eU (bF l a) f<0):=by
     intro a ha;rw[V.o]at R;rcases lP a h with H|H
     ·exact vV (bCA a1.o H a3) R
     rw[show a=h by omega];exact R
    go_wp2_with fail;go_roundw;(case rel=>exact⟨h+1,j,oM,hj,gN,rfl,af.o,a9.o,I⟩);case measure=>exact mI
   have ae:O (∀a,h<=a->a<l.length->0<=eU (bF l a) f):=by
    intro a an ag;rw[V.o]at R;rcases lP h a with H|H
    ·rcases(show eU (bF l a) f<0\/0<=eU (bF l a) f by omega)with M|M
     ·exact absurd (vV (bCA a1.o H ag) M) R
     exact M
    rw[show a=h by omega];omega
   go_wp2_with fail;go_roundw;(case rel=>exact⟨i,h,ai,oM,rfl,rfl,aa.o,ae.o,I⟩);case measure=>exact mI
  have ak:j=i:=oM;subst ak;have K:O _:=bHY a1.o aa.o a9.o;go_upto_region 8 with fail;by_cases W:j<l.length
  ·rw[aP W,qJ]at K;obtain⟨b,p,rfl,S,fv,T,E⟩:=nM HA.o j W;have X:O (gD (bF l j)):=G.o.2.2 _ (lU l j W);have r:=C.trans (n.mono C.size);obtain⟨u,x,rfl,_⟩:=id E;have c0:=aB r S;have L:=aB r T;have d0:=aB n U.o.1;have d1:=aB n U.o.2;(have D:O (∀d,d.cell? ⟨b,p+j*2,none⟩=some (.int .i64 (bF l j).g)/\d.cell? ⟨b,p+j*2+1,none⟩=some (.slice u (bF l j).args.length x)/\d.cell? ⟨w.heap.size,0,none⟩=some (.int .i64 f.g)/\d.cell? ⟨w.heap.size,1,none⟩=some (.slice k f.args.length fc)/\Below c.heap.size c d->Calls Tryz.prog 69 #[lT (bF l j).g (.slice u (bF l j).args.length x),lT f.g (.slice k f.args.length fc)] d fun e m=>e=.returned (.int .i64 (eU (bF l j) f))/\Below c.heap.size c m/\m.cell? ⟨b,p+j*2,none⟩=some (.int .i64 (bF l j).g)/\m.cell? ⟨b,p+j*2+1,none⟩=some (.slice u (bF l j).args.length x)/\m.cell? ⟨w.heap.size,0,none⟩=some (.int .i64 f.g)/\m.cell? ⟨w.heap.size,1,none⟩=some (.slice k f.args.length fc)):=by intro d a4;obtain⟨y0,y1,y2,y3,F⟩:=a4;have Q:=r.trans (F.mono r.size);refine Calls.mono (GH _ f _ _ d (bC E Q) (bC G.o.1 Q) X.o G.o.2.1) ?_;rintro e m ⟨rfl,s⟩;have q:=s.z;exact⟨rfl,F.trans (q.mono F.size),aB q y0,aB q y1,aB q y2,aB q y3⟩);have Y:∀b o,Below c.heap.size c b->Below c.heap.size c (b.alloc o):=fun _ o h=>h.alloc h.size o;have Z:∀b,Below c.heap.size c b->Below c.heap.size c b.drew:=fun _ h=>⟨h.os,h.tape,h.output,h.size,h.block⟩;have a0:Below c.heap.size c c:=aG _ _;obtain⟨g,s⟩:∃g,g=bF l j:=⟨_,rfl⟩;have V:O (g=bF l j):=s;rw[<-s]at D c0 L;clear s S T E;rw[<-V.o]at K
   go_region_held3 (fun d=>d.cell? ⟨b,p+j*2,none⟩=some (.int .i64 g.g)/\d.cell? ⟨b,p+j*2+1,none⟩=some (.slice u g.args.length x)/\d.cell? ⟨w.heap.size,0,none⟩=some (.int .i64 f.g)/\d.cell? ⟨w.heap.size,1,none⟩=some (.slice k f.args.length fc)/\Below c.heap.size c d) (go_keep) (
    (go_at_call 69;refine Calls.mono (D.o _ ?_) ?_;(simp[*]);rintro e w2 ⟨rfl,P,a5,a6,a7,a8⟩))
   have I:=C.trans ((n.trans (P.mono n.size)).mono C.size);clear Y Z a0 D a5 a6 a7 a8 c0 L d0 d1 n r P;go_wp2_with fail;go_ret2;exact⟨j,by rw[K.o];rfl,I⟩
  have aj:decide (j<l.length)=false:=aF W;rw[aj,Bool.false_and]at K;(have I:Below w.heap.size w c.drew:=by have N:=C.trans (n.mono C.size);exact⟨N.os,N.tape,N.output,N.size,N.block⟩);go_region;go_wp2_with fail;go_ret2;exact⟨j,by rw[K.o];rfl,I⟩
theorem Qp(w:World)(B:Nat)(m:List aQ)(c:Option Addr)(l:Nat)(h0:w.cell? ⟨B,0,none⟩=some (.slice c (eZ m).length l))(C:lD w c (eZ m))(M:(eZ m).length<=4398046511103)(E:∀f,f∈eZ m->gD f):
 OL 67 #[.pointer (some ⟨B,0,none⟩)] w (fun x=> !mJ m x):=by
 intro v g b cap d D J;show Calls Tryz.prog 67 #[lT g.g (.slice b g.args.length cap), .pointer (some ⟨B,0,none⟩)] v _;have q:Below v.heap.size v (v.alloc (.cells #[.int .i64 g.g, .slice b g.args.length cap] 72)):=(aG _ _).alloc (aH _) _;have c0:=aB q (aB d h0);have G:=aB d h0;have p:=iC v (.cells #[.int .i64 g.g, .slice b g.args.length cap] 72);(have H:(v.alloc (.cells #[.int .i64 g.g, .slice b g.args.length cap] 72)).cell? ⟨v.heap.size,0,none⟩=some (.int .i64 g.g):=cH p);(have I:(v.alloc (.cells #[.int .i64 g.g, .slice b g.args.length cap] 72)).cell? ⟨v.heap.size,1,none⟩=some (.slice b g.args.length cap):=cH p);(have s:O (mJ (eZ m) g=mJ m g):=by show _=_;rw[sL,qD,qD,lM]);(have r:O (∀k,Below v.heap.size v k->Calls Tryz.prog 68 #[.slice c (eZ m).length l,lT g.g (.slice b g.args.length cap), .func (.func 69) #[] #[]] k fun e F=>∃i:Int,e=.returned (.tuple #[.int .i64 i, .bool (mJ m g)])/\Below v.heap.size v F):=by intro k j;refine Calls.mono (Hw (eZ m) g c b l cap k (kU m).1 (MH (MH C d) j) (bC D j) M E J) ?_;rintro e F ⟨i,rfl,K⟩;exact⟨i,by rw[s.o],j.trans (K.mono j.size)⟩);have N:∀(u:Fn)(first cap:Array Value)(w:World),(Instr.makeFunc u first cap).run Tryz.prog w=.ok (.func u first cap) w:=fun _ _ _ _=>rfl;clear C E p h0 D s;generalize (eZ m).length=n at *
 go_enter Tryz.func67,Tryz.ntmps67
 go_wp2_with fail;refine Calls.mono (r.o _ q) ?_;rintro e P ⟨i,rfl,L⟩;clear r q c0 G H I d;go_wp2_with fail;go_ret;exact⟨rfl,L⟩
theorem aM8:∀args w,(callFunc 67 args).run Tryz.prog w=.ok (.enter 67 args) w:=oQ Tryz.func67 kR rfl
theorem DU(l:List aQ):(eZ l).length<=l.length:=by
 have c:∀(f:aQ)(s:List aQ),(oU f s).length<=s.length+1:=by
  intro f s
  induction s with
  |nil=>simp[oU]
  |cons a s b=>
   unfold oU;split
   ·simp
   split
   ·simp
   simp only[List.length_cons];omega
 induction l with
 |nil=>exact aH _
 |cons a l b=>
  have d:=c a (eZ l);show(oU a (eZ l)).length<=l.length+1;omega
theorem QU(l m:List aQ)(v u:Value)(w:World)(r:bS w v l)(q:bS w u m)(X:l.length<=4398046511103)(Y:m.length<=4398046511103)(J:∀f,f∈l->f.args.length<=17592186044416)(hg:∀f,f∈m->f.args.length<=17592186044416):
 Calls Tryz.prog 47 #[v,u] w fun e N=>∃M,e=.returned M/\bS N M (eM l m)/\Below w.heap.size w N:=by
 have Z:∀(F:Fn)(first cap:Array Value)(w:World),(Instr.makeFunc F first cap).run Tryz.prog w=.ok (.func F first cap) w:=fun _ _ _ _=>rfl;have g:O _:=Xb m u w q oM hg;have d:O ((∀f,f∈l->f.args.length<=17592186044416)/\(∀f,f∈eZ m->gD f)/\(eZ m).length<=4398046511103):=⟨J,fun f h=>bP (hg f (lM.mp h)) dE,by have :=DU m;omega⟩;have HV:O (bS w v l):=r;obtain⟨T,cap,rfl,_,_⟩:=id r;obtain⟨U,W,rfl,_,_⟩:=id q;clear r q J hg
 go_enter Tryz.func47,Tryz.ntmps47
 go_wp2_with fail;refine Calls.mono g.o ?_;rintro e b ⟨v1,rfl,H,s⟩;obtain⟨c,i,rfl,_,G⟩:=H.toV;have D:O (lD b c (eZ m)):=G;clear H G g;generalize K:(eZ m).length=n at *;have k:O ((eZ m).length=n):=K;clear K;go_wp2_with fail;have C:Below b.heap.size b (b.alloc (Obj.cells #[Value.slice c n i] 30)):=(aG _ _).alloc (aH _) _;have j:=s.trans (C.mono s.size);(have E:(b.alloc (Obj.cells #[Value.slice c n i] 30)).cell? ⟨b.heap.size,0,none⟩=some (.slice c (eZ m).length i):=by rw[cM (iC b _),k.o];rfl);refine Calls.mono (Mb l _ _ 67 _ (fun x=> !mJ m x) (bQ HV.o j) oM d.o.1 aM8 (Qp _ b.heap.size m c i E (MH D.o C) (by rw[k.o];exact d.o.2.2) d.o.2.1)) ?_;rintro e R ⟨Q,rfl,p,I⟩;have g:O (bS R Q (eM l m)):=p.toV;obtain⟨q3,_,L,_⟩:=id p;obtain⟨S,V,rfl⟩:=bR L;have P:=j.trans (I.mono j.size);clear L p I s C j E HV d D k;go_wp2_with fail;go_ret;exact⟨_,rfl,g.o,P⟩
theorem aUS(l m:List aQ)(v u:Value)(w:World)(g:bS w v l)(d:bS w u m)(j:l.length<=1048576)(k:m.length<=1048576)(i:∀f,f∈l->f.args.length<=1048576)(hg:∀f,f∈m->f.args.length<=1048576):
 Calls Tryz.prog 47 #[v,u] w fun e c=>∃b,e=.returned b/\bS c b (eM l m)/\Below w.heap.size w c:=
 QU l m v u w g d oM oM (fun f h=>bP (i f h) dE) (fun f h=>bP (hg f h) dE)
theorem xC{w w':World}{B:Nat}{v:Value}{q:List Fv}(d:w'.ownsRow B 72 2 v q.length (q.map eO).flatten)(k:∀p,p∈q->AK w p)(l:Below w.heap.size w w'):bS w' v (q.map (·.1)):=by
 rcases lJ d with⟨b,j⟩|⟨g,cap,b⟩
 ·have e:q=[]:=dQ j;subst e;exact⟨none,0,b,⟨aH _,fun _=>rfl⟩, .inl rfl⟩
 subst b;have m:q.length<=cap:=by
  rcases d.2 with⟨b,_⟩|⟨_,_,_,b,_,_,s,_⟩
  ·cases b
  injection b with _ _ r;omega
 refine⟨_,cap,by rw[aY],⟨by rw[aY];exact m,fun h=>by cases h⟩, .inr ⟨g,0,rfl,fun i c=>?_⟩⟩;rw[aY]at c;have e:q[i]?=some q[i]:=aM c;(have n:bF (q.map (·.1)) i=q[i].1:=by simp[bF,c]);obtain⟨c0,f⟩:=wS.cell d e;rw[eP,n];exact⟨c0,q[i].2,f,bC (k _ (fG c)).1 l⟩
theorem aLQ{w:World}{ao:Option Addr}{l:List aQ}(h:lD w ao l)(K:∀f,f∈l->gD f):
 ∃q:List Fv,q.map (·.1)=l/\(∀p,p∈q->AK w p)/\(l=[]\/∃b e,ao=some ⟨b,e,none⟩/\∀j u,((q.map eO).flatten)[j]?=some u->w.cell? ⟨b,e+j,none⟩=some u):=by
 rcases h with rfl|⟨b,e,rfl,D⟩
 ·exact⟨[],rfl,fun _ r=>absurd r sI, .inl rfl⟩
 have G:∀i,i<l.length->∃v,w.cell? ⟨b,e+i*2+1,none⟩=some v/\eT w v (bF l i).args:=fun i c=>(D i c).2;(have J:∃V:Nat->Value,∀i,i<l.length->w.cell? ⟨b,e+i*2+1,none⟩=some (V i)/\eT w (V i) (bF l i).args:=by refine⟨fun i=>(w.cell? ⟨b,e+i*2+1,none⟩).getD (.slice none 0 0),fun i c=>?_⟩;obtain⟨v,H,k⟩:=G i c;simp only[H,Option.getD_some];exact⟨trivial,k⟩);obtain⟨V,C⟩:=J;refine⟨(List.range l.length).map fun i=>(bF l i,V i),?_,?_, .inr ⟨b,e,rfl,fun j u d=>?_⟩⟩
 ·apply kP;intro i;rw[dW,dW];by_cases c:i<l.length
  ·rw[CR c,ED l i c];rfl
  rw[dK (by simpa using c),dK (by simpa using c)];rfl
 ·intro p r;obtain⟨i,c,rfl⟩:=cJ.mp r;have c:i<l.length:=lL.mp c;exact⟨(C i c).2,K _ (lU l i c)⟩
 have E:j<((List.range l.length).map fun i=>(bF l i,V i)).length*2:=by
  rcases lP j (((List.range l.length).map fun i=>(bF l i,V i)).length*2)with k|k
  ·exact k
  rw[dK (by rw[rW];exact k)]at d;cases d
 obtain⟨x,F,L⟩:=NW _ j E;rw[L]at d;(have n:j/2<l.length:=by(have I:((List.range l.length).map fun i=>(bF l i,V i)).length=l.length:=by simp);rw[I]at E;omega);rw[dW,CR n]at F;(have M:(bF l (j/2),V (j/2))=x:=by simpa using F);subst M;rcases Nat.mod_two_eq_zero_or_one j with m|m
 ·rw[m]at d;(have s:Value.int .i64 (bF l (j/2)).g=u:=by simpa[eO]using d);rw[<-s,<-(D (j/2) n).1]
  congr 2
  omega
 rw[m]at d;(have s:V (j/2)=u:=by simpa[eO]using d);rw[<-s,<-(C (j/2) n).1]
 congr 2
 omega
theorem ZS{w w':World}{ao:Option Addr}{l:List aQ}(h:lD w ao l)(c:Below w.heap.size w w'):lD w' ao l:=by
 rcases h with h|⟨b,e,rfl,h⟩
 ·exact .inl h
 exact .inr ⟨b,e,rfl,fun i d=>SH (h i d) c⟩
def aT0(W:World)(q:List Fv)(l:List aQ)(c:Value)(w':World)(b:List Fv):Prop:=
 b.map (·.1)=l/\(∀p,p∈b->AK W p)/\w'.ownsRow W.heap.size 72 2 c (q++b).length ((q++b).map eO).flatten/\Below W.heap.size W w'
theorem xM{W w:World}{E:Array Oper}{rest:List Oper}{o:Oper}{a:Act}{Q:Exit->Act->World->Prop}(P:o.guard=none)(s x:Operand)
 (T:o.op=.call {callee:=.builtin .append,args:=#[s,x],argTypes:=#[30,30]}) (i:Below W.heap.size W w) (v:Value) (n:Nat) (q:List Fv) (U:a.eval s=v) (S:n=q.length)
 (C:w.ownsRow W.heap.size 72 2 v n (q.map eO).flatten) (ao:Option Addr) (cap:Nat) (l:List aQ) (V:a.eval x=.slice ao l.length cap) (Z:ao=none->cap=0) (N:lD W ao l) (hf:∀f,f∈l->gD f)
 (hb:n+l.length<=4194304)
 (h:∀F G d,aT0 W q l F G d->wpList Tryz.prog E Q rest (a.put o.dst F) G):wpList Tryz.prog E Q (o::rest) a w:=by
 obtain⟨X,R,a3,a4,a5⟩:=jY yZ;obtain⟨d,H,I,Y⟩:=aLQ N hf;(have r:d.length=l.length:=by rw[<-H,aY]);(have a6:l=[]->ao=none->wpList Tryz.prog E Q (o::rest) a w:=by intro g m;have M:d=[]:=dQ (by rw[r,g];rfl);subst S;refine PI P s x 30 T W.heap.size 72 X 2 Tryz.underlying30 R v q.length _ U C (by rw[V,g,m,Z m];rfl) ?_;refine h v w d ⟨H,I,?_,i⟩;rw[M,iZ];exact C);have a8:∀e,ao=some e->(∀j u,((d.map eO).flatten)[j]?=some u->w.cell? (e.add j)=some u)->wpList Tryz.prog E Q (o::rest) a w:=by
  intro e m a0;refine iD w P s x 30 T W.heap.size 72 X _ 2 32 Tryz.underlying30 R a3 a4 a5 rfl dE v n _ U C e l.length cap ((d.map eO).flatten) (by rw[V,m]) (by rw[rW,r]) a0 ?_ (by unfold maxLen;omega) oM i.size ?_
  ·intro u D;obtain⟨c,K,D⟩:=zT.mp D;obtain⟨p,hp,rfl⟩:=cJ.mp K;obtain⟨a9,c9,a2⟩:=WR (I p hp);simp[eO,a2]at D;rcases D with rfl|rfl<;>rfl
  intro F G a1 hg _;refine h F G d ⟨H,I,?_,i.grown hg i.size (fun k hk=>(C.lt k hk).1)⟩;rw[aV,dC,iL,r,<-S];exact a1
 cases ao with
 |none=>
  rcases N with g|⟨b,a7,J,_⟩
  ·exact a6 g rfl
  cases J
 |some e=>
  refine a8 e rfl ?_;intro j u L;rcases Y with g|⟨b,a7,J,K⟩
  ·have M:d=[]:=dQ (by rw[r,g];rfl);rw[M]at L;simp at L
  rw[Option.some.inj J,Addr.add_lit];exact aB i (K j u L)
theorem bAY(w:World)(n:Nat)(C:n<=4194304):
 Calls Tryz.prog 103 #[.slice none 0 0, .int .i64 n] w fun e f=>∃d,e=.returned d/\f.ownsRow w.heap.size 72 2 d 0 []/\Below w.heap.size w f:=by
 obtain⟨u,m,q,r,s⟩:=jY yZ;by_cases j:n=0
 ·subst j
  go_enter Tryz.func103,Tryz.ntmps103
  go_wp2_with fail;go_ret;exact⟨_,rfl,eS _ _ _ _,aG _ _⟩
 have p:0<n:=oM;have i:O _:=Jw w 30 3 30 72 u _ .i64 .i64 Tryz.underlying30 Tryz.underlying3 m q n p (by rw[r];decide) oM (by rw[s];omega)
 go_enter Tryz.func103,Tryz.ntmps103
 go_wp2_with(at_builtin;refine Lib.wpList_append_run _ rfl _ _ 30 3 rfl _ _ rfl rfl _ _ i.o ?_);(have g:O (∀b:Array Value,b.size=grownCap w n 0 72*2->(w.alloc (.cells b 72)).drew.ownsRow w.heap.size 72 2 (.slice (some ⟨w.heap.size,0,none⟩) 0 (grownCap w n 0 72)) 0 []/\Below w.heap.size w (w.alloc (.cells b 72)).drew):=by intro b l;have k:=mQ (base:=w.heap.size) (e:=72) (size:=2) w b (grownCap w n 0 72) (aH _) (grownCap_le_maxLen _ _ _ _ (by unfold maxLen;omega)) l;have c:Below w.heap.size w (w.alloc (.cells b 72)):=(aG _ _).alloc (aH _) _;exact⟨k,c.os,c.tape,c.output,c.size,c.block⟩);have x:=grownCap_ge w n 0 72;go_ret;refine⟨_,rfl,g.o _ ?_⟩;simp[Builtin.zeroCells];omega
theorem Yj(l m:List aQ)(b:Nat)(ao n:Option Addr)(cap cbp:Nat)(w:World)(R:lD w ao l/\(ao=none->cap=0))(S:lD w n m/\(n=none->cbp=0))(C:w.cell? ⟨b,0,none⟩=some (.slice ao l.length cap))(D:w.cell? ⟨b,1,none⟩=some (.slice n m.length cbp))(hl:l.length<=1048576)(hm:m.length<=1048576)(U:∀f,f∈l->gD f)(hg:∀f,f∈m->gD f):
 Calls Tryz.prog 65 #[.slice (some ⟨b,0,none⟩) 2 2] w fun e Y=>∃X,e=.returned X/\bS Y X (l++m)/\Below w.heap.size w Y:=by
 have I:O (lD w ao l/\(ao=none->cap=0)):=R;have J:O (lD w n m/\(n=none->cbp=0)):=S;have L:O ((∀f,f∈l->gD f)/\∀f,f∈m->gD f):=⟨U,hg⟩;clear R S U hg
 go_enter Tryz.func65,Tryz.ntmps65
 go_wp2_with fail;go_loopw [3,11] (fun G i wr=>w=wr/\((i=.int .i64 (0:Nat)/\G=.int .i64 0)\/(i=.int .i64 (1:Nat)/\G=.int .i64 (l.length:Nat))\/(i=.int .i64 (2:Nat)/\G=.int .i64 ((l.length+m.length:Nat):Int)))) (fun _ i _=>2-(intOf i).toNat);case atStart=>exact⟨rfl, .inl ⟨rfl,rfl⟩⟩
 case round=>
  obtain⟨rfl,⟨rfl,rfl⟩|⟨rfl,rfl⟩|⟨rfl,rfl⟩⟩:=hrel
  ·go_wp2_with fail;go_roundw;(case rel=>exact⟨by trivial, .inr (.inl ⟨by first|rfl|go_num,by first|rfl|go_num|simp⟩)⟩);case measure=>simp[intOf]
  ·go_wp2_with fail;go_roundw;(case rel=>exact⟨by trivial, .inr (.inr ⟨by first|rfl|go_num,by first|rfl|go_num|simp⟩)⟩);case measure=>simp[intOf]
  go_wp2_with fail;refine Calls.mono (bAY _ (l.length+m.length) oM) ?_;rintro e w1 ⟨v1,rfl,V,E⟩;obtain⟨a1,c1,rfl⟩:=bR V;have u:=aB E C;have x:=aB E D;go_wp2_with fail;clear u x;go_loopw [6,27] (fun ns i wr=>(i=.int .i64 (0:Nat)/\wr.ownsRow w.heap.size 72 2 ns 0 []/\Below w.heap.size w wr)\/(i=.int .i64 (1:Nat)/\∃c,aT0 w [] l ns wr c)\/(i=.int .i64 (2:Nat)/\∃c g,c.map (·.1)=l/\(∀p,p∈c->AK w p)/\aT0 w c m ns wr g)) (fun _ i _=>2-(intOf i).toNat);case atStart=>exact .inl ⟨rfl,V,E⟩
  case round=>
   rcases hrel with⟨rfl,k,j⟩|⟨rfl,c,Z⟩|⟨rfl,c,g,q,s,d⟩
   ·have u:=aB j C;have x:=aB j D;obtain⟨M,N,rfl⟩:=bR k;go_wp2_with(at_builtin;refine xM rfl (.tmp 31) (.tmp 32) rfl j _ 0 [] rfl rfl k ao cap l rfl I.o.2 I.o.1 L.o.1 ?c1 ?_);(case c1=>omega);intro v2 H g d;obtain⟨a3,c3,rfl⟩:=bR d.2.2.1;have d:O (aT0 w [] l _ H g):=d;go_wp2_with fail;go_roundw;(case rel=>exact .inr (.inl ⟨by first|rfl|go_num,g,d.o⟩));case measure=>simp[intOf]
   ·obtain⟨q,s,k,j⟩:=Z;have k:wr.ownsRow w.heap.size 72 2 _ c.length (c.map eO).flatten:=k;have u:=aB j C;have x:=aB j D;obtain⟨M,N,rfl⟩:=bR k;(have a4:O (c.length=l.length):=by show _=_;rw[<-q,aY]);have K:O (c.map (·.1)=l/\(∀p,p∈c->AK w p)):=⟨q,s⟩;clear q s;go_wp2_with(at_builtin;refine xM rfl (.tmp 31) (.tmp 32) rfl j _ c.length c rfl rfl k n cbp m rfl J.o.2 J.o.1 L.o.2 ?c1 ?_);(case c1=>have :=a4.o;omega);intro v2 H g d;obtain⟨a3,c3,rfl⟩:=bR d.2.2.1;have d:O (aT0 w c m _ H g):=d;go_wp2_with fail;go_roundw;(case rel=>exact .inr (.inr ⟨by first|rfl|go_num,c,g,K.o.1,K.o.2,d.o⟩));case measure=>simp[intOf]
   obtain⟨P,W,F,T⟩:=d;have a0:O (bS wr u6 (l++m)):=by
    have Q:=xC F (fun p r=>by
     rcases cW.mp r with r|r
     ·exact s p r
     exact W p r) T
    rw[dC,q,P]at Q;exact Q
   obtain⟨M,N,rfl⟩:=bR F;clear q P s W F;go_wp2_with fail;go_ret;exact⟨_,rfl,a0.o,T⟩
theorem zW(w:World)(C:Array Value)(t:TypeId)(j:Nat):(w.alloc (.cells C t)).cell? ⟨w.heap.size,j,none⟩=C[j]?:=World.cell?_alloc_mark w C t _ j
theorem Lj(l m:List aQ)(v u:Value)(w:World)(P:bS w v l)(N:bS w u m)(R:l.length<=1048576)(S:m.length<=1048576)(x:∀f,f∈l->f.args.length<=1048576)(hg:∀f,f∈m->f.args.length<=1048576):
 Calls Tryz.prog 46 #[v,u] w fun e I=>∃H,e=.returned H/\bS I H (jS l m)/\Below w.heap.size w I:=by
 obtain⟨c,cap,rfl,i,C⟩:=P;obtain⟨d,q,rfl,F,D⟩:=N;have j:O (lD w c l/\(c=none->cap=0)):=⟨C,i.2⟩;have k:O (lD w d m/\(d=none->q=0)):=⟨D,F.2⟩;have n:O ((∀f,f∈l->gD f)/\∀f,f∈m->gD f):=⟨fun f h=>bP (x f h) dE,fun f h=>bP (hg f h) dE⟩;have p:O ((l++m).length<=2097152/\∀f,f∈l++m->f.args.length<=1048576):=by
  refine⟨by rw[aV];omega,fun f h=>?_⟩;rcases cW.mp h with h|h
  ·exact x f h
  exact hg f h
 clear C D i F x hg
 go_enter Tryz.func46,Tryz.ntmps46
 go_wp2_with fail;have b:Below w.heap.size w (w.alloc (Obj.cells #[Value.slice c l.length cap,Value.slice d m.length q] 30)):=(aG _ _).alloc (aH _) _;refine Calls.mono (Yj l m w.heap.size c d cap q _ ⟨ZS j.o.1 b,j.o.2⟩ ⟨ZS k.o.1 b,k.o.2⟩ (zW w _ 30 0) (zW w _ 30 1) R S n.o.1 n.o.2) ?_;rintro e U ⟨Z,rfl,s,g⟩;have g:=b.trans (g.mono (by have :=b.size;omega));clear b j k;obtain⟨K,L,rfl,i,M⟩:=id s;have HV:O (bS U (.slice K (l++m).length L) (l++m)):=s;rw[aV]at HV;clear s i M n;go_wp2_with fail;refine Calls.mono (XS (l++m) _ _ HV.o p.o.1 p.o.2) ?_;rintro e V ⟨T,rfl,r,E⟩;have J:O (bS V T (jS l m)):=r.toV;obtain⟨Y,_,G,_⟩:=id r;obtain⟨W,X,rfl⟩:=bR G;have Q:=g.trans (E.mono g.size);clear G r E p HV;go_wp2_with fail;go_ret;exact⟨_,rfl,J.o,Q⟩
end Go.Proofs.YtfljoehbbncooaaGreat
