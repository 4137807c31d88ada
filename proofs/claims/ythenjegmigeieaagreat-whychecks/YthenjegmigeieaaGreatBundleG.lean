/- Own texts, one behind the other (part 7). -/
import Derived.Test.YthenjegmigeieaaGreatBundleF
import Derived.Test.YthenjegmigeieaaGreatRows
set_option maxRecDepth 100000
set_option maxHeartbeats 8000000
namespace Go.Proofs.YthenjegmigeieaaGreat
open Go.RowKit
theorem yT{S:List aN}{k:Nat}(b:k<S.length):S.drop k=aZ S k::S.drop (k+1):=by rw[dB b];unfold aZ;rw[aC,aD b];rfl
theorem LU(f:Int){S:List aN}{k:Nat}(b:k+1<S.length)(d:aK (aZ S k).args=aK (aZ S (k+1)).args)(ns:List Int):iB f (S.drop k) ns=iB f (S.drop (k+1)) (ns++[oO (aZ S k).args]):=by rw[yT (show k<S.length by omega),yT b];show(if aK (aZ S k).args=aK (aZ S (k+1)).args then _ else _)=_;rw[if_pos d]
theorem JQ(f:Int){S:List aN}{k:Nat}(d:k<S.length)(g:¬(k+1<S.length/\aK (aZ S k).args=aK (aZ S (k+1)).args))(ns:List Int):iB f (S.drop k) ns=uU f (aZ S k).z (aK (aZ S k).args) (ns++[oO (aZ S k).args])++iB f (S.drop (k+1)) []:=by
 by_cases b:k+1<S.length
 ·rw[yT d,yT b];show(if aK (aZ S k).args=aK (aZ S (k+1)).args then _ else _)=_;rw[if_neg (fun e=>g ⟨b,e⟩)];rfl
 rw[yT d,bD (show S.length<=k+1 by omega)];show _=uU f _ _ _++[];rw[jM];rfl
theorem YB(l:List Int):oO l=bM l (l.length-1):=by unfold oO bM;rw[List.getLastD_eq_getLast?,List.getLast?_eq_getElem?,aC]
theorem xC(l:List Int):(aK l).length=l.length-1:=List.length_dropLast
theorem aEG{l:List Int}{i:Nat}(h:i<l.length-1):bM (aK l) i=bM l i:=by unfold aK bM;rw[aC,aC,List.getElem?_dropLast,if_pos h]
theorem TG{l:List Int}(h:0<l.length)(b:∀n,n∈l->cP n=true):cP (oO l)=true:=by refine b _ ?_;rw[YB];unfold bM;rw[aC,aD oM];exact dY _
theorem OM(f b:Int)(p ns:List Int):(uU f b p ns).length<=1:=by unfold uU;split<;>simp
theorem CM(f:Int):∀(S:List aN)(ns:List Int),(iB f S ns).length<=S.length
 |[],_=>aE _
 |h::t,ns=>by
  by_cases b:0+1<(h::t).length/\aK (aZ (h::t) 0).args=aK (aZ (h::t) (0+1)).args
  ·have :=LU f (S:=h::t) (k:=0) b.1 b.2 ns;rw[gJ]at this;rw[this];have :=CM f t (ns++[oO (aZ (h::t) 0).args]);show(iB f t _).length<=t.length+1;omega
  have :=JQ f (S:=h::t) (k:=0) sI b ns;rw[gJ]at this;rw[this,bA];have d:=OM f (aZ (h::t) 0).z (aK (aZ (h::t) 0).args) (ns++[oO (aZ (h::t) 0).args]);have :=CM f t [];show _+(iB f t []).length<=t.length+1;omega
theorem GH(f:Int)(T:Nat):∀(S:List aN)(ns:List Int),(∀g,g∈S->g.args.length=T)->∀g,g∈iB f S ns->g.args.length<=T+1
 |[],_,_,g,b=>by cases b
 |h::t,ns,hS,g,b=>by
  by_cases d:0+1<(h::t).length/\aK (aZ (h::t) 0).args=aK (aZ (h::t) (0+1)).args
  ·have :=LU f (S:=h::t) (k:=0) d.1 d.2 ns;rw[gJ]at this;rw[this]at b;exact GH f T t _ (fun x e=>hS x (bO _ e)) g b
  have :=JQ f (S:=h::t) (k:=0) sI d ns;rw[gJ]at this;rw[this]at b;rcases dP.mp b with b|b
  ·unfold uU at b;split at b
   ·rw[cQ.mp b];show(aK h.args++_).length<=_;rw[bA,xC,hS h dC];simp
   cases b
  exact GH f T t _ (fun x e=>hS x (bO _ e)) g b
theorem PZ{w:World}{ao:Option Addr}{l:List Int}(d:Nat)(h:pH w ao l):dM w (.slice ao (l.length-1) d) (aK l):=by
 refine⟨ao,d,by rw[xC],?_⟩;rcases h with h|⟨b,j,f,g⟩
 ·exact .inl (by rw[h];rfl)
 refine .inr ⟨b,j,f,fun i e=>?_⟩;rw[xC]at e;rw[aEG e];exact g i oM

def RE(b:Array Oper)(S:Nat)(d:Nat->Bool):Bool:=(List.range b.size).all fun i=>i==S||zN b 12 i S||((b[i]?).map fun o=>(o.dst.map d).getD true).getD true
section
variable {P:Program} {ops:Array Oper} {Q:Exit->Act->World->Prop}
theorem ST(T y:Nat->Value->World->Prop)(L S:Nat)(F:Nat->Bool){id:Nat}{g:Act}{d:World}(Z:L<ops.size)(aa:tN ops L=true)(hm:P.follows .mixedOrders=true)
 (N:uK ops g.tmps.size=true) (a3:RE ops S F=true)
 (H:∀t v w b,Below w.heap.size w b->T t v w->T t v b) (a5:∀t v w b,Below w.heap.size w b->y t v w->y t v b)
 (a6:∀t v w b,F t=true->Below d.heap.size w b->T t v w->T t v b)
 (hop:xK (fun i o=>∀a w,LR ops T g d o a w->(∀t,t∉(ops.toList.take L).filterMap (·.dst)->a.tmps.getD t undef=g.tmps.getD t undef)->if i=S then(LR ops y g d o a w->Region.wanted o (yielded ops a.tmps)=true/\o.wp P a w (fun K b=>∃v,K=a.put o.dst v/\(∀t,o.dst=some t->T t v b)/\w.heap.size<=b.heap.size/\Below d.heap.size w b) Q)else((zN ops 12 S i=true->LR ops y g d o a w)->DS P ops Q (fun t v w=>T t v w/\y t v w) o a w)) 0 (ops.toList.take L))
 (htail:∀a w,Tz ops T g d L a w->(∀t,t∉(ops.toList.take L).filterMap (·.dst)->a.tmps.getD t undef=g.tmps.getD t undef)->wpOps P ops Q (List.range' L (ops.size-L)) a w):
 (Code.region id ops true).wp P Q g d:=by
 (have a4:∀(i:Nat)(o:Oper)(t:Nat),ops[i]?=some o->o.dst=some t->¬i=S->zN ops 12 i S=false->F t=true:=fun i o t n m a7 hr=>by have h:=eX.mp a3 i (jV.mpr (aG.mp n).1);rw[n,hr]at h;simp only[Option.map_some,Option.getD_some,m,Bool.or_false,Bool.or_eq_true,beq_iff_eq]at h;exact h.resolve_left a7);have R:∀i j,MV ops (fun _=>true) (fun _ _=>true) i j=false:=fun i j=>by
  unfold MV
  cases n:ops[j]? with
  |none=>simp
  |some o=>cases m:o.dst<;>simp[m]
 refine IE (fun s a w=>(∀t,t∉(ops.toList.take L).filterMap (·.dst)->a.tmps.getD t undef=g.tmps.getD t undef)/\(s[S]?=some false->DJ (Below d.heap.size) (fun _ _=>True) ops (fun _=>true) (fun _ _=>true) y g d s a w)/\DJ (Below d.heap.size) (fun _ _=>True) ops (fun _=>true) (fun _ _=>true) T g d s a w) L (wR Z) (fun _=>aa) hm N ?_ ?_
  ⟨fun _ _=>rfl,fun _=>DJ.start ⟨rfl,rfl,rfl,aE _,fun _ _=>rfl⟩,DJ.start ⟨rfl,rfl,rfl,aE _,fun _ _=>rfl⟩⟩
 ·rintro s a w i o hs M ⟨hO,G,f⟩ U z n a1;have W:∀(v:Value)(t:Nat),t∉(ops.toList.take L).filterMap (·.dst)->(a.put o.dst v).tmps.getD t undef=g.tmps.getD t undef:=fun v=>YR (fun u x=>gT.mpr ⟨o,XG U n,x⟩) hO;have J:∀{T:Nat->Value->World->Prop},DJ (Below d.heap.size) (fun _ _=>True) ops (fun _=>true) (fun _ _=>true) T g d s a w->LR ops T g d o a w:=fun f=>⟨f.u,f.still,fun e he l o' t a8 m=>f.done e.on o' t (a1 e he l) a8 m (fun k B=>by rw[R]at B;cases B)⟩
  have I:∀{T:Nat->Value->World->Prop}{v:Value}{b:World},DJ (Below d.heap.size) (fun _ _=>True) ops (fun _=>true) (fun _ _=>true) T g d s a w->(∀t,o.dst=some t->T t v b)->Below d.heap.size w b->(∀(j:Nat)(p:Oper)(t:Nat),s[j]?=some true->ops[j]?=some p->p.dst=some t->∀u,T t u w->T t u b)->DJ (Below d.heap.size) (fun _ _=>True) ops (fun _=>true) (fun _ _=>true) T g d (s.setIfInBounds i true) (a.put o.dst v) b:=
   fun f A l H=>f.set (fun _ _ _ X Y=>X.trans Y) N z n A l (fun _ h=>h) (fun _=>trivial) (fun h=>absurd rfl h) (fun j p t r C m _=>H j p t r C m)
  have D:=xK.get _ 0 hop i o (by rw[gS,if_pos U,fH];exact n) a w (J f) hO;rw[dV]at D;by_cases q:i=S
  ·rw[if_pos q]at D;obtain⟨hw,ab⟩:=D (J (G (q▸z)));refine QN n hw (Oper.wp_mono ?_ ab);rintro K b ⟨v,rfl,A,ad,l⟩;refine⟨W v,fun h=>?_,I f A l (fun j p t r C m u x=>a6 t u w b (a4 j p t C m (fun e=>by rw[e,<-q,z]at r;cases r) (XF M r (q▸z))) l x)⟩;rw[<-q,QH z]at h;cases h
  rw[if_neg q]at D;refine aLF n (D fun E=>J (G ?_)) fun v b A l=>⟨W v,fun h=>?_,I f (fun t ht=>(A t ht).1) (l.mono f.u.size) (fun _ _ t _ _ _ u x=>H t u w b l x)⟩
  ·have ac:S<ops.size:=by
    cases V:ops[S]? with
    |none=>unfold zN at E;rw[V]at E;cases E
    |some oS=>exact(aG.mp V).1
   refine(Kw (s:=s) (i:=S) oM).resolve_right fun a9=>?_;rw[XF M a9 z]at E;cases E
  rw[MY (Ne.symm q)]at h;exact I (G h) (fun t ht=>(A t ht).2) (l.mono f.u.size) (fun _ _ t _ _ _ u x=>a5 t u w b l x)
 rintro s a w a2 ⟨hO,_,f⟩;exact htail a w ⟨f.u,f.defers,f.size,f.still,fun j p t r C m=>f.done j p t (a2 j r) C m (fun k B=>by rw[R]at B;cases B)⟩ hO
theorem xK.imp{Φ Ψ:Nat->Oper->Prop}(h:∀i o,Φ i o->Ψ i o):∀(l:List Oper)(i:Nat),xK Φ i l->xK Ψ i l
 |[],_,_=>trivial
 |_::l,i,hA=>⟨h _ _ hA.1,xK.imp h l (i+1) hA.2⟩
theorem ZD(T g:Nat->Value->World->Prop)(L S:Nat)(k:Nat->Bool){id:Nat}{d:Act}{f:World}(n:L<ops.size)(z:tN ops L=true)(r:P.follows .mixedOrders=true)
 (q:uK ops d.tmps.size=true) (p:RE ops S k=true)
 (s:∀t v w b,Below w.heap.size w b->T t v w->T t v b) (x:∀t v w b,Below w.heap.size w b->g t v w->g t v b)
 (y:∀t v w b,k t=true->Below f.heap.size w b->T t v w->T t v b)
 (hop:xK (fun i o=>∀a w,LR ops T d f o a w->(∀t,t∉(ops.toList.take L).filterMap (·.dst)->a.tmps.getD t undef=d.tmps.getD t undef)->if i=S then(LR ops g d f o a w->Region.wanted o (yielded ops a.tmps)=true/\o.wp P a w (fun l b=>∃v,l=a.put o.dst v/\(∀t,o.dst=some t->T t v b)/\w.heap.size<=b.heap.size/\Below f.heap.size w b) Q)else DS P ops Q (fun t v w=>T t v w/\g t v w) o a w) 0 (ops.toList.take L))
 (htail:∀a w,Tz ops T d f L a w->(∀t,t∉(ops.toList.take L).filterMap (·.dst)->a.tmps.getD t undef=d.tmps.getD t undef)->wpOps P ops Q (List.range' L (ops.size-L)) a w):
 (Code.region id ops true).wp P Q d f:=by
 refine ST T g L S k n z r q p s x y (xK.imp (fun i o h a w m hO=>?_) _ _ hop) htail;have j:=h a w m hO;by_cases e:i=S
 ·rw[if_pos e]at j ⊢;exact j
 rw[if_neg e]at j ⊢;exact fun _=>j
theorem NO(T f:Nat->Value->World->Prop)(L S:Nat)(g:Nat->Bool){id:Nat}{d:Act}{e:World}(k:L<ops.size)(s:tN ops L=true)(n:P.follows .mixedOrders=true)
 (m:DM ops d.tmps.size=true) (l:RE ops S g=true)
 (p:∀t v w b,Below w.heap.size w b->T t v w->T t v b) (q:∀t v w b,Below w.heap.size w b->f t v w->f t v b)
 (r:∀t v w b,g t=true->Below e.heap.size w b->T t v w->T t v b)
 (hop:xK (fun i o=>∀a w,LR ops T d e o a w->(∀t,t∉(ops.toList.take L).filterMap (·.dst)->a.tmps.getD t undef=d.tmps.getD t undef)->if i=S then(LR ops f d e o a w->Region.wanted o (yielded ops a.tmps)=true/\o.wp P a w (fun j b=>∃v,j=a.put o.dst v/\(∀t,o.dst=some t->T t v b)/\w.heap.size<=b.heap.size/\Below e.heap.size w b) Q)else DS P ops Q (fun t v w=>T t v w/\f t v w) o a w) 0 (ops.toList.take L))
 (htail:∀a w,Tz ops T d e L a w->(∀t,t∉(ops.toList.take L).filterMap (·.dst)->a.tmps.getD t undef=d.tmps.getD t undef)->wpOps P ops Q (List.range' L (ops.size-L)) a w):
 (Code.region id ops true).wp P Q d e:=
 ZD T f L S g k s n (YW m) l p q r hop htail
end
theorem aOO(x y:List Int)(v u:Value)(w:World)(C:dM w v x)(B:dM w u y)(Q:x.length<=1000000):Calls Tryz.prog 107 #[v,u] w fun e E=>e=.returned (.bool (decide (x=y)))/\∃n,E=w.drewN n:=by
 obtain⟨F,J,rfl,m⟩:=C;obtain⟨I,K,rfl,p⟩:=B;have q:O _:=m;have r:O _:=p;clear m p;by_cases f:x.length=y.length
 ·have i:O _:=f;(have z:((x.length:Int) != (y.length:Int))=false:=by rw[f];simp);clear f
  go_enter Tryz.func107,Tryz.ntmps107
  go_wp2_with fail;go_loopw [13] (fun iv wr=>∃k nq:Nat,k<=x.length/\iv=.int .i64 k/\O (x=y↔x.drop k=y.drop k)/\wr=w.drewN nq) (fun iv _=>x.length-(intOf iv).toNat);case atStart=>exact⟨0,0,oM,rfl,Iff.rfl,rfl⟩
  case round=>
   obtain⟨k,nq,P,rfl,j,rfl⟩:=hrel;by_cases g:k<x.length
   ·(have D:k<y.length:=by have :=i.o;omega);obtain⟨G,R,rfl,L⟩:=pF q.o g;obtain⟨H,S,rfl,M⟩:=pF r.o D;have l:O _:=TE i.o g;generalize bM x k=a at *;generalize bM y k=c at *;by_cases b:a=c
    ·(have A:(a != c)=false:=by simpa using b);have s:O (x=y↔x.drop (k+1)=y.drop (k+1)):=j.o.trans (l.o.trans ⟨fun h=>h.2,fun h=>⟨b,h⟩⟩);clear b;go_upto_region 6 with fail;go_quiet(fail);go_wp2_with fail;go_roundw;(case rel=>exact⟨k+1,_,g,gN,s.o,rfl⟩);case measure=>exact mI
    (have A:(a != c)=true:=by simpa using b);have d:O (decide (x=y)=false):=aJ (fun h=>b (l.o.mp (j.o.mp h)).1);clear b;go_upto_region 6 with fail;go_quiet(fail);go_wp2_with fail;go_ret;exact⟨by rw[d.o];rfl,_,CE _ _ _⟩
   have N:decide (k<x.length)=false:=aJ g;have d:O (decide (x=y)=true):=aQ (j.o.mpr (by have :=i.o;rw[bD oM,bD oM]));go_wp2_with fail;go_ret;exact⟨by rw[d.o];rfl,_,rfl⟩
 have d:O (decide (x=y)=false):=aJ (fun h=>f (by rw[h]));(have z:((x.length:Int) != (y.length:Int))=true:=by simp;omega);clear f
 go_enter Tryz.func107,Tryz.ntmps107
 go_wp2_with fail;go_ret;exact⟨by rw[d.o];rfl,0,rfl⟩
def aRU(g:Value)(d e f m:Nat)(j i:Int)(k:Nat)(b:Value):Prop:=
 match k with
 |57=>b=(g:Value)
 |58=>b=(.pointer (some ⟨d,0,none⟩):Value)
 |59=>b=(.int .i64 j:Value)
 |60=>b=(.pointer (some ⟨d,1,none⟩):Value)
 |61=>b=(.slice (some ⟨e,0,none⟩) (m+1) f:Value)
 |62=>b=(.int .i64 (m:Nat):Value)
 |63=>b=(.slice (some ⟨e,0,none⟩) m f:Value)
 |65=>b=(.int .i64 i:Value)
 |_=>True
def JG(k:Value)(j n p m:Nat)(g b:Int)(B:Nat)(l:List Int)(e:Nat)(f:Value)(d:World):Prop:=
 if e=67 then d.ownsRow B 3 1 f (l++[b]).length ((l++[b]).map (Value.int .i64))
 else if e=68 then∃u,f=.agg #[.int .i64 g,u]/\d.ownsRow B 3 1 u (l++[b]).length ((l++[b]).map (Value.int .i64))
 else if e=69 then∃i u,f=.slice (some ⟨i,0,none⟩) 1 1/\d.heap[i]?=some (.cells #[.int .i64 g,u] 55)/\d.ownsRow B 3 1 u (l++[b]).length ((l++[b]).map (Value.int .i64))else aRU k j n p m g b e f
theorem WU(i:Value)(g k n m:Nat)(s r:Int)(B:Nat)(l:List Int)(b:Nat)(v:Value)(W W':World)(e:Below W.heap.size W W')(h:JG i g k n m s r B l b v W):JG i g k n m s r B l b v W':=by
 unfold JG at h ⊢;by_cases ht:b=67
 ·rw[if_pos ht]at h ⊢;exact bI h e
 rw[if_neg ht]at h ⊢;by_cases p:b=68
 ·rw[if_pos p]at h ⊢;obtain⟨u,f,d⟩:=h;exact⟨u,f,bI d e⟩
 rw[if_neg p]at h ⊢;by_cases q:b=69
 ·rw[if_pos q]at h ⊢;obtain⟨j,u,f,d,w⟩:=h;exact⟨j,u,f,(e.block j (aG.mp d).1).trans d,bI w e⟩
 rw[if_neg q]at h ⊢;exact h
def Dp(t:Nat):Bool:= !(t==67||t==68||t==69)
theorem SO(f:Value)(e g i m:Nat)(k j:Int)(B:Nat)(l:List Int)(d:Nat)(n:Value)(W W':World)(b:Dp d=true)(h:JG f e g i m k j B l d n W):JG f e g i m k j B l d n W':=by unfold Dp at b;simp only[Bool.not_eq_true',Bool.or_eq_false_iff,beq_eq_false_iff_ne]at b;unfold JG at h ⊢;rw[if_neg b.1.1,if_neg b.1.2,if_neg b.2]at h ⊢;exact h
def WV(g:Int)(B:Nat)(l:List Int)(e:Nat)(f:Value)(b:World):Prop:=
 if e=64 then b.ownsRow B 3 1 f l.length (l.map (Value.int .i64))
 else if e=66 then∃d,f=.slice (some ⟨d,0,none⟩) 1 1/\b.heap[d]?=some (.cells #[.int .i64 g] 3)else True
theorem WW(i:Int)(B:Nat)(l:List Int)(b:Nat)(j:Value)(W W':World)(f:Below W.heap.size W W')(h:WV i B l b j W):WV i B l b j W':=by
 unfold WV at h ⊢;by_cases ht:b=64
 ·rw[if_pos ht]at h ⊢;exact bI h f
 rw[if_neg ht]at h ⊢;by_cases g:b=66
 ·rw[if_pos g]at h ⊢;obtain⟨d,k,e⟩:=h;exact⟨d,k,(f.block d (aG.mp e).1).trans e⟩
 rw[if_neg g]at h ⊢;exact h
theorem aKH(p:Option Addr)(b:Nat)(d:Value)(w:World):Calls Tryz.prog 106 #[.slice p 0 b,d] w fun e g=>e=.returned (.tuple #[])/\g=w:=by have f:=AnyF.slices_SortFunc_none Tryz.sortF p b d w;exact f
theorem LF{w:World}{B n:Nat}{v:Value}{l:List Int}(h:w.ownsRow B 3 1 v l.length (l.map (Value.int .i64)))(e:l.length=n+1):∃g c,v=.slice (some ⟨g,0,none⟩) (n+1) c/\n+1<=c/\∀i,i<n+1->w.cell? ⟨g,i,none⟩=some (.int .i64 (bM l i)):=by
 have j:=h;obtain⟨_,b⟩:=h;rcases b with⟨_,b⟩|⟨g,f,k,rfl,_,_,d,_⟩
 ·omega
 rw[e]at d;refine⟨g,f,by rw[e],d,fun i m=>?_⟩;rw[World.ownsRow.cellAt j i oM,cY,aD oM];unfold bM;rw[aC,aD oM];rfl
theorem aI3(f:Int)(m:Nat)(q:List Fv)(v:Value)(B:Nat)(w:World)(hq:w.ownsRow B 55 2 v q.length (q.map dW).flatten)(bg:∀p,p∈q->w.ownsRow B 3 1 p.2 p.1.args.length (p.1.args.map (Value.int .i64)))(hl:q.length<=2000)(hm:m<=1000)(hA:∀p,p∈q->p.1.args.length=m+1/\∀n,n∈p.1.args->cP n=true):
 Calls Tryz.prog 58 #[.int .i64 f,v] w fun e w'=>∃v' S,e=.returned v'/\S.Perm (q.map (·.1))/\S.Pairwise (fun a b=>eV a b<=0)/\tG w.heap.size w' v' (iB f S [])/\Below B w w':=by
 obtain⟨i0,hi,cw,cx,cy⟩:=iT vK;obtain⟨j0,hj,c7,c8,ca⟩:=iT IC;rcases jJ hq with⟨hv,cr⟩|⟨g,bt,hv⟩
 ·have da:q=[]:=eB cr;subst da hv;clear hq bg hA hl cr
  go_enter Tryz.func58,Tryz.ntmps58
  go_wp2_with fail;refine Calls.mono (aKH _ _ _ _) ?_;rintro e w5 ⟨rfl,rfl⟩;go_wp2_with fail;refine mG 1 ?_;rw[rounds_succ];go_wp2_with fail;go_ret;exact⟨_,[],rfl,List.Perm.refl _,List.Pairwise.nil,⟨[],rfl,eD _ _ _ _,fun _ s=>absurd s sI⟩,aH _ _⟩
 subst hv;have cl:O _:=aN1 w B g bt q hq (fun p s=>⟨fun w' db=>oU (gR (bg p s) (fun k c D=>(db k (bP D) (fun e=>by have :=xJ hq (k:=k) (by rw[e];rfl) D;cases this)).trans D)),by have :=(hA p s).1;show _<=_;omega⟩) oM;have HQ:O (vL w B g bt q):=hq;have ck:O _:=bg;have cb:O _:=hA;clear hq bg hA
 go_enter Tryz.func58,Tryz.ntmps58
 go_wp2_with fail;refine Calls.mono cl.o ?_;rintro e E ⟨rfl,Q,b2,ct,cs,ad⟩;have bz:Q.length=q.length:=b2.length_eq;have cm:∀p,p∈Q->E.ownsRow B 3 1 p.2 p.1.args.length (p.1.args.map (Value.int .i64)):=fun p s=>gR (ck.o p (b2.mem_iff.mp s)) (fun k c D=>(ad.block k (bP D) (fun e=>by have :=xJ HQ.o (k:=k) e.symm D;cases this)).trans D);have ci:O _:=cm;have a4:O (∀p,p∈Q->p.1.args.length=m+1/\∀n,n∈p.1.args->cP n=true):=fun p s=>cb.o p (b2.mem_iff.mp s);have cG:O ((Q.map (·.1)).Perm (q.map (·.1))):=b2.map _;(have cK:O ((Q.map (·.1)).Pairwise (fun a b=>eV a b<=0)):=ct.imp fun {a b} d7=>by have h1:¬eV b a<0:=d7;have :=DV a b;omega);have cj:O (vL E B g bt Q):=cs;have cz:O (Below B w E):=⟨ad.os,ad.tape,ad.output,ad.size,fun k D=>ad.block k (by have :=HQ.o.lt;omega) (fun e=>by injection e with e;have :=HQ.o.lt.1;omega)⟩;have br:O (w.heap.size<=E.heap.size):=ad.size;(have cE:O (B<=w.heap.size):=by have :=HQ.o.lt;show _<=_;omega);rw[<-bz]at hl ⊢;have dh:O _:=bz;clear b2 ct cs ad cm ck cb cl HQ bz;go_wp2_with fail;go_loopw [5,6,15] (fun vo vn iv wr=>∃(k:Nat)(d:List Fv)(L:List Int)(Bn:Nat),k<=Q.length/\iv=.int .i64 k/\O (iB f (Q.map (·.1)) []=d.map (·.1)++iB f ((Q.map (·.1)).drop k) L)/\O (wr.ownsRow E.heap.size 55 2 vo d.length (d.map dW).flatten)/\O (∀p,p∈d->wr.ownsRow E.heap.size 3 1 p.2 p.1.args.length (p.1.args.map (Value.int .i64))/\∀k,p.2.ownBlock=some k->k<Bn)/\O (wr.ownsRow Bn 3 1 vn L.length (L.map (Value.int .i64)))/\O (Bn<=wr.heap.size/\E.heap.size<=Bn)/\d.length<=k/\L.length<=k/\O (∀n,n∈L->cP n=true)/\O (Below E.heap.size E wr)) (fun _ _ iv _=>Q.length-(intOf iv).toNat);case atStart=>exact⟨0,[],[],E.heap.size,bG _,rfl,by show _=_;rw[gJ];rfl,eD _ _ _ _,fun _ s=>absurd s sI,eD _ _ _ _,⟨aE _,aE _⟩,aE _,aE _,fun _ h=>absurd h sI,aH _ _⟩
 case round=>
  obtain⟨wo,dc⟩:∃wo,wo=wr:=⟨_,rfl⟩;subst dc;obtain⟨k,d,L,Bn,D,rfl,HE,HO,bc,HN,bi,b3,d9,cg,HB⟩:=hrel;obtain⟨T,U,rfl⟩:=bJ HO.o;obtain⟨an,cn,rfl⟩:=bJ HN.o;by_cases ae:k<Q.length
  ·obtain⟨x,hx,ab⟩:=EN ae;obtain⟨N,M,cu,dk,c6⟩:=LF (ci.o x ab) (a4.o x ab).1;obtain⟨c0,c1⟩:=cj.o.cell hx;rw[cu]at c1;have q0:=aB HB.o c0;have q1:=aB HB.o c1;have l1:=aB HB.o (c6 m (Nat.lt_succ_self m));(have cN:O (dM E (.slice (some ⟨N,0,none⟩) m M) (aK x.1.args)):=by have :=PZ (w:=E) (ao:=some ⟨N,0,none⟩) (l:=x.1.args) M (.inr ⟨N,0,rfl,fun i hi=>by rw[(a4.o x ab).1]at hi;rw[dV];exact c6 i hi⟩);rw[(a4.o x ab).1]at this;exact this);((have cd:O (aZ (Q.map (·.1)) k=x.1):=by show _=_;unfold aZ;rw[aC,cY,hx];rfl);(have cf:O (oO x.1.args=bM x.1.args m):=by show _=_;rw[YB,(a4.o x ab).1];rfl);have ce:O (cP (oO x.1.args)=true):=TG (by have :=(a4.o x ab).1;omega) (a4.o x ab).2;(have af:O ((aK x.1.args).length=m):=by show _=_;rw[xC,(a4.o x ab).1];rfl);rw[<-cf.o]at l1;have bo:O (k+1<Q.length->∃gb gc,E.cell? ⟨g,(k+1)*2+1,none⟩=some (.slice (some ⟨gb,0,none⟩) (m+1) gc)/\m+1<=gc/\dM E (.slice (some ⟨gb,0,none⟩) m gc) (aK (aZ (Q.map (·.1)) (k+1)).args)):=fun h1=>by obtain⟨y,hy,bh⟩:=EN h1;obtain⟨gb,gc,de,cp,dd⟩:=LF (ci.o y bh) (a4.o y bh).1;obtain⟨_,d1⟩:=cj.o.cell hy;rw[de]at d1;have :=PZ (w:=E) (ao:=some ⟨gb,0,none⟩) (l:=y.1.args) gc (.inr ⟨gb,0,rfl,fun i hi=>by rw[(a4.o y bh).1]at hi;rw[dV];exact dd i hi⟩);rw[(a4.o y bh).1]at this;refine⟨gb,gc,d1,cp,?_⟩;rw[show aZ (Q.map (·.1)) (k+1)=y.1 from by unfold aZ;rw[aC,cY,hy];rfl];exact this);have ap:O _:=fun h1 s=>LU f (S:=Q.map (·.1)) (k:=k) h1 s L;have ba:O _:=fun s=>JQ f (S:=Q.map (·.1)) (k:=k) (by rw[aP];exact ae) s L;rw[cd.o,aP]at ap ba;clear c0 c1 c6 hx ab cu cd cf;obtain⟨⟨H,C⟩,xv⟩:=x;dsimp only at *;generalize oO C=X at *;go_upto_region 7 with fail;have Y:Below wo.heap.size wo (wo.alloc (.cells #[.int .i64 H, .slice (some ⟨N,0,none⟩) (m+1) M] 55)):=(aH _ _).alloc (aE _) _;have bf:=aR wo (.cells #[.int .i64 H, .slice (some ⟨N,0,none⟩) (m+1) M] 55);have ch:O ((wo.alloc (.cells #[.int .i64 H, .slice (some ⟨N,0,none⟩) (m+1) M] 55)).ownsRow E.heap.size 55 2 (.slice T d.length U) d.length (d.map dW).flatten):=bI HO.o Y;have bb:O ((wo.alloc (.cells #[.int .i64 H, .slice (some ⟨N,0,none⟩) (m+1) M] 55)).ownsRow Bn 3 1 (.slice an L.length cn) L.length (L.map (Value.int .i64))):=bI HN.o Y;have al:O (∀p,p∈d->(wo.alloc (.cells #[.int .i64 H, .slice (some ⟨N,0,none⟩) (m+1) M] 55)).ownsRow E.heap.size 3 1 p.2 p.1.args.length (p.1.args.map (Value.int .i64))/\∀k,p.2.ownBlock=some k->k<Bn):=fun p s=>⟨bI (bc.o p s).1 Y,(bc.o p s).2⟩;have b8:O _:=HB.o.trans (Y.mono HB.o.size);have bj:O _:=bH bi.o.1 Y.size;have d6:=bi.o.2;have l2:=aB Y l1;clear q0 q1 l1 HO HN bc HB bi Y;generalize d8:wo.heap.size=P at *;generalize wo.alloc (.cells #[.int .i64 H, .slice (some ⟨N,0,none⟩) (m+1) M] 55)=wa at *;clear d8;(have f0:wa.cell? ⟨P,0,none⟩=some (.int .i64 H):=cH bf);(have f1:wa.cell? ⟨P,1,none⟩=some (.slice (some ⟨N,0,none⟩) (m+1) M):=cH bf);have cc:O _:=bf;clear bf;have di:=bj.o;go_wp2_with(at_builtin;refine fX _ rfl (.tmp 24) (.tmp 30) 22 rfl Bn 3 j0 _ 1 8 Tryz.underlying22 hj c7 c8 ca rfl dE _ _ _ rfl (bb.o.alloc _) ⟨wa.heap.size,0,none⟩ 1 1 [.int .i64 X] rfl rfl ?c1 ?c2 ?c3 ?c4 ?c5 ?_);(case c2=>rfl);(case c3=>unfold maxLen;omega);(case c4=>omega);(case c5=>omega);intro dl J bW aV _;obtain⟨bs,bu,rfl⟩:=bJ bW;have Y:Below wa.heap.size wa (wa.alloc (.cells #[.int .i64 X] 3)):=(aH _ _).alloc (aE _) _;have bU:=bI bb.o Y;have bY:∀(k:Nat)(c:Array Value)(t:TypeId),wa.heap[k]?=some (.cells c t)->t≠3->J.heap[k]?=some (.cells c t):=fun k c t D ht=>(aV.block k (dQ (bP D) Y.size) (fun e=>ht (xJ bb.o e.symm D))).trans ((Y.block k (bP D)).trans D);have ar:O (J.ownsRow E.heap.size 55 2 (.slice T d.length U) d.length (d.map dW).flatten):=gR ch.o (fun k c D=>bY k c 55 D dE);(have aq:O (J.ownsRow Bn 3 1 (.slice bs (L.length+1) bu) (L++[X]).length ((L++[X]).map (Value.int .i64))):=by show World.ownsRow _ _ _ _ _ _ _;rw[bA,cB];exact bW);have ac:O (∀p,p∈d->J.ownsRow E.heap.size 3 1 p.2 p.1.args.length (p.1.args.map (Value.int .i64))/\∀k,p.2.ownBlock=some k->k<Bn):=fun p s=>⟨kH (al.o p s).1 (fun g hg=>(aV.block g (dQ ((al.o p s).1.lt g hg).2 Y.size) (fun e=>by have :=(al.o p s).2 g hg;have :=(bU.lt g e.symm).1;omega)).trans (Y.block g ((al.o p s).1.lt g hg).2)),(al.o p s).2⟩;have a1:O (Below E.heap.size E J):=(b8.o.trans (Y.mono b8.o.size)).grown aV (by have :=b8.o.size;have :=Y.size;omega) (fun k D=>by have :=(bU.lt k D).1;omega);have bk:O (Bn<=J.heap.size):=bH bj.o (bH Y.size aV.size);have b9:O _:=bY _ _ _ cc.o dE;have bm:O (∀n,n∈L++[X]->cP n=true):=fun n hn=>by
    rcases dP.mp hn with hn|hn
    ·exact cg.o n hn
    rw[cQ.mp hn];exact ce.o
   have aw:O (dM J (.slice (some ⟨N,0,none⟩) m M) (aK C)):=aM cN.o a1.o;(have bd:J.cell? ⟨P,0,none⟩=some (.int .i64 H):=cH b9.o);(have be:J.cell? ⟨P,1,none⟩=some (.slice (some ⟨N,0,none⟩) (m+1) M):=cH b9.o);clear f0 f1 bW aV Y bU bY ch bb al b8 bj cc l2 cg ce;by_cases h1:k+1<Q.length
   ·obtain⟨gb,gc,d1,cp,cq⟩:=bo.o h1;have d4:=aB a1.o d1;have ax:O (∀j,Calls Tryz.prog 107 #[.slice (some ⟨N,0,none⟩) m M, .slice (some ⟨gb,0,none⟩) m gc] (J.drewN j) fun e w'=>e=.returned (.bool (decide (aK C=aK (aZ (Q.map (·.1)) (k+1)).args)))/\∃n,w'=(J.drewN j).drewN n):=fun j=>aOO _ _ _ _ _ (aM aw.o (eO _ _)) (aM (aM cq a1.o) (eO _ _)) (by have :=af.o;omega);have g1:decide ((k:Int)+1<(Q.length:Int))=true:=aQ oM;clear cq d1 bo;by_cases s:aK C=aK (aZ (Q.map (·.1)) (k+1)).args
    ·rw[aQ s]at ax;(have a5:O (iB f (Q.map (·.1)) []=d.map (·.1)++iB f ((Q.map (·.1)).drop (k+1)) (L++[X])):=by show _=_;rw[HE.o,ap.o h1 s]);clear s HE ap ba;go_upto_region 9 with fail;go_quiet(first|(go_at_call 107;exact uO (ax.o _)));go_wp2_with fail;go_roundw;(case rel=>exact⟨k+1,d,L++[X],Bn,ae,gN,a5.o,bI ar.o (eO _ _),fun p s=>⟨bI (ac.o p s).1 (eO _ _),(ac.o p s).2⟩,bI aq.o (eO _ _),⟨bH bk.o (eO _ _).size,d6⟩,KO b3,by rw[bA];exact zX d9,bm.o,a1.o.trans ((eO _ _).mono a1.o.size)⟩);case measure=>exact mI
    rw[aJ s]at ax;have bn:O (¬(k+1<Q.length/\aK C=aK (aZ (Q.map (·.1)) (k+1)).args)):=fun h=>s h.2;clear s ap;go_upto_region 9 with fail;go_quiet(first|(go_at_call 107;exact uO (ax.o _)));clear ax d4;have au:O ((J.drewN nq).ownsRow E.heap.size 55 2 (.slice T d.length U) d.length (d.map dW).flatten):=bI ar.o (eO J nq);have bl:O ((J.drewN nq).ownsRow Bn 3 1 (.slice bs (L.length+1) bu) (L++[X]).length ((L++[X]).map (Value.int .i64))):=bI aq.o (eO J nq);have ag:O (∀p,p∈d->(J.drewN nq).ownsRow E.heap.size 3 1 p.2 p.1.args.length (p.1.args.map (Value.int .i64))/\∀k,p.2.ownBlock=some k->k<Bn):=fun p s=>⟨bI (ac.o p s).1 (eO J nq),(ac.o p s).2⟩;have a2:O _:=a1.o.trans ((eO J nq).mono a1.o.size);have bq:O _:=aM aw.o (eO J nq);have f0:=aB (eO J nq) bd;have f1:=aB (eO J nq) be;clear bd be ar aq ac a1 aw b9 bk;generalize J.drewN nq=wd at *;have HF:O _:=LD f (L++[X]) _ wd (oU bl.o) (by rw[bA];exact yR _) (by rw[bA,qZ];omega) bm.o;go_wp2_with fail;refine Calls.mono HF.o ?_;rintro _ z ⟨rfl,rfl⟩;clear HF;(have a6:O (iB f (Q.map (·.1)) []=d.map (·.1)++((if cP (fE f (L++[X]))=true then [(⟨H,aK C++[fE f (L++[X])]⟩:aN)] else [])++iB f ((Q.map (·.1)).drop (k+1)) [])):=by show _=_;rw[HE.o,ba.o bn.o];rfl);generalize fE f (L++[X])=A at *;have HI:O _:=YM A z;go_wp2_with fail;refine Calls.mono HI.o ?_;rintro _ wd ⟨rfl,rfl⟩;clear HI;cases hn:cP A
    ·(have a5:O (iB f (Q.map (·.1)) []=d.map (·.1)++iB f ((Q.map (·.1)).drop (k+1)) []):=by show _=_;rw[a6.o,hn];rfl);clear a6 hn;go_wp2_with fail;go_roundw;(case rel=>exact⟨k+1,d,[],wd.heap.size,ae,gN,a5.o,au.o,fun p s=>⟨(ag.o p s).1,fun k D=>((ag.o p s).1.lt k D).2⟩,eD _ _ _ _,⟨aE _,a2.o.size⟩,KO b3,bG _,fun _ h=>absurd h sI,a2.o⟩);case measure=>exact mI
    (have a5:O (∀u:Value,iB f (Q.map (·.1)) []=(d++[((⟨H,aK C++[A]⟩:aN),u)]).map (·.1)++iB f ((Q.map (·.1)).drop (k+1)) []):=fun u=>by rw[a6.o,hn,if_pos rfl,cB,iP];rfl);clear a6 hn;go_upto_region 12 with fail;obtain⟨K,a3⟩:∃K,O (K=wd.heap.size):=⟨_,rfl⟩;refine NO (JG (.slice T d.length U) P N M m H A K (aK C)) (WV A K (aK C)) 13 10 Dp dE kR kR kR kR (WU (.slice T d.length U) P N M m H A K (aK C)) (WW A K (aK C)) (fun t v w w' he _ h=>SO (.slice T d.length U) P N M m H A K (aK C) t v w w' he h) ?hopA ?htailA
    case hopA=>
     refine xK.cons (fun a r h hO=>by rw[if_neg dE];have e5:a.eval (.tmp 5)=(.slice T d.length U:Value):=hO 5 dE;exact jC (.slice T d.length U)) ?_;refine xK.cons (fun a r h hO=>by rw[if_neg dE];have e8:a.eval (.tmp 8)=(.pointer (some ⟨P,0,none⟩):Value):=h.old 8;exact jC (.pointer (some ⟨P,0,none⟩))) ?_;refine xK.cons (fun a r h hO=>by rw[if_neg dE];have cT:a.eval (.tmp 58)=(.pointer (some ⟨P,0,none⟩):Value):=h.of 58;have c0:=aB h.u f0;exact jC (.int .i64 H)) ?_;refine xK.cons (fun a r h hO=>by rw[if_neg dE];have e8:a.eval (.tmp 8)=(.pointer (some ⟨P,0,none⟩):Value):=h.old 8;exact jC (.pointer (some ⟨P,1,none⟩))) ?_;refine xK.cons (fun a r h hO=>by rw[if_neg dE];have cV:a.eval (.tmp 60)=(.pointer (some ⟨P,1,none⟩):Value):=h.of 60;have c0:=aB h.u f1;exact jC (.slice (some ⟨N,0,none⟩) (m+1) M)) ?_;refine xK.cons (fun a r h hO=>by rw[if_neg dE];have e9:a.eval (.tmp 9)=(.int .i64 (m:Nat):Value):=h.old 9;exact jC (.int .i64 (m:Nat))) ?_;refine xK.cons (fun a r h hO=>by rw[if_neg dE];have cX:a.eval (.tmp 61)=(.slice (some ⟨N,0,none⟩) (m+1) M:Value):=h.of 61;have d0:a.eval (.tmp 62)=(.int .i64 (m:Nat):Value):=h.of 62;have g0:(0:Int)<=(m:Int):=oM;have g8:(m:Int)<=(M:Int):=oM;exact jC (.slice (some ⟨N,0,none⟩) m M)) ?_;refine xK.cons (fun a r h hO=>?_) ?_
     ·rw[if_neg dE];have d2:a.eval (.tmp 63)=(.slice (some ⟨N,0,none⟩) m M:Value):=h.of 63;refine iC (f:=77) (args:=#[.slice (some ⟨N,0,none⟩) m M]) (bF rfl) ?_ ?_
      ·have ec:=qM a;have ef:=IM a;generalize a.eval=ev at *;clear h hO;go_simp
      refine Calls.mono (GU (aK C) _ r (aM bq.o h.u) (by have :=af.o;omega)) ?_;rintro _ y2 ⟨v',rfl,bZ,bT⟩;refine⟨_,rfl,fun t ht=>?_,bT⟩;cases ht;exact⟨trivial,gL bZ (by rw[a3.o];exact h.u.size)⟩
     refine xK.cons (fun a r h hO=>by rw[if_neg dE];have cS:a.eval (.tmp 10)=(.int .i64 A:Value):=h.old 10;exact jC (.int .i64 A)) ?_;refine xK.cons (fun a r h hO=>by rw[if_neg dE];have d3:a.eval (.tmp 65)=(.int .i64 A:Value):=h.of 65;refine fC (v:=.slice (some ⟨r.heap.size,0,none⟩) 1 1) (w':=r.alloc (.cells #[.int .i64 A] 3)) (bF rfl) ?_ (fun t ht=>by cases ht;exact⟨trivial,⟨_,rfl,aR r _⟩⟩) ((aH _ _).alloc (aE _) _);have ec:=qM a;generalize a.eval=ev at *;clear h hO;go_simp) ?_;refine xK.cons (fun a r h hO=>by rw[if_pos dE];intro h1;refine⟨bF rfl,?_⟩;have b0:r.ownsRow K 3 1 (a.eval (.tmp 64)) (aK C).length ((aK C).map (Value.int .i64)):=h1.of 64 kR;obtain⟨V,bv,a7⟩:∃V,a.eval (.tmp 66)=.slice (some ⟨V,0,none⟩) 1 1/\r.heap[V]?=some (.cells #[.int .i64 A] 3):=h1.of 66 kR;(have aT:K<=r.heap.size:=by rw[a3.o];exact h.u.size);refine wU r (.tmp 64) (.tmp 66) 22 rfl K 3 j0 _ 1 8 Tryz.underlying22 hj c7 c8 ca rfl dE _ _ _ rfl b0 ⟨V,0,none⟩ 1 1 (#[Value.int .i64 A]:Array Value).toList bv rfl (zV a7) (fun u hu=>by simp only[List.mem_cons,List.not_mem_nil,or_false]at hu;subst hu;rfl) (by have :=af.o;unfold maxLen;omega) (by have :=af.o;omega) aT ?_;intro v9 w9 bX a0 _;refine⟨v9,rfl,fun t ht=>?_,a0.size,a0.os,a0.tape,a0.output,a0.size,fun k D=>a0.block k (by rw[a3.o]at aT;omega) (fun e=>by have :=(b0.lt k e.symm).1;rw[a3.o]at this;omega)⟩;cases ht;show w9.ownsRow K 3 1 v9 ((aK C)++[A]).length (((aK C)++[A]).map (Value.int .i64));rw[bA,cB];exact bX) ?_;refine xK.cons (fun a r h hO=>by rw[if_neg dE];have ho:r.ownsRow K 3 1 (a.eval (.tmp 67)) ((aK C)++[A]).length (((aK C)++[A]).map (Value.int .i64)):=h.of 67;have cU:a.eval (.tmp 59)=(.int .i64 H:Value):=h.of 59;obtain⟨a9,c9,bw⟩:=bJ ho;rw[bw]at ho;refine fC (v:=.agg #[.int .i64 H, .slice a9 ((aK C)++[A]).length c9]) (w':=r) (bF rfl) ?_ (fun t ht=>by cases ht;exact⟨⟨_,rfl,ho⟩,trivial⟩) (aH _ _);have ec:=qM a;generalize a.eval=ev at *;clear h hO;go_simp) ?_;refine xK.cons (fun a r h hO=>by rw[if_neg dE];obtain⟨u,d5,ho⟩:∃u,a.eval (.tmp 68)=.agg #[.int .i64 H,u]/\r.ownsRow K 3 1 u ((aK C)++[A]).length (((aK C)++[A]).map (Value.int .i64)):=h.of 68;obtain⟨a9,c9,rfl⟩:=bJ ho;refine fC (v:=.slice (some ⟨r.heap.size,0,none⟩) 1 1) (w':=r.alloc (.cells #[.int .i64 H, .slice a9 ((aK C)++[A]).length c9] 55)) (bF rfl) ?_ (fun t ht=>by cases ht;exact⟨⟨_,_,rfl,aR r _,ho.alloc _⟩,trivial⟩) ((aH _ _).alloc (aE _) _);have ec:=qM a;generalize a.eval=ev at *;clear h hO;go_simp) ?_;exact xK.nil
    case htailA=>
     rintro⟨I,W⟩ r R _;have aF:Act.eval ⟨I,W⟩ (.tmp 57)=(.slice T d.length U):=R.all 0 _ 57 dE rfl rfl;obtain⟨V,u9,aI,a7,ak⟩:∃V u,Act.eval ⟨I,W⟩ (.tmp 69)=.slice (some ⟨V,0,none⟩) 1 1/\r.heap[V]?=some (.cells #[.int .i64 H,u] 55)/\r.ownsRow K 3 1 u (aK C++[A]).length ((aK C++[A]).map (Value.int .i64)):=R.all 12 _ 69 dE rfl rfl;have aa:=bI au.o R.u;have a8:Below E.heap.size E r:=a2.o.trans (R.u.mono a2.o.size);(have bN:E.heap.size<=K:=by rw[a3.o];exact a2.o.size);have b7:E.heap.size<=r.heap.size:=a8.size;have b5:I.size=73:=R.size;obtain⟨a9,c9,aS⟩:=bJ ak;show wpOps Tryz.prog _ _ [13,14] _ _;rw[iO];refine CA rfl (bF rfl) (wU r (.tmp 57) (.tmp 69) 27 rfl E.heap.size 55 i0 _ 2 32 Tryz.underlying27 hi cw cx cy rfl dE (.slice T d.length U) d.length _ aF aa ⟨V,0,none⟩ 1 1 (#[Value.int .i64 H,u9]:Array Value).toList aI rfl (zV a7) ?h1B ?h63B ?hbyB b7 ?_)
     case h1B=>
      intro u hu;simp only[List.mem_cons,List.not_mem_nil,or_false]at hu;rcases hu with rfl|rfl
      ·rfl
      rw[aS];rfl
     (case h63B=>unfold maxLen;omega);(case hbyB=>omega);intro dg Z aj ai _;obtain⟨F,G,rfl⟩:=bJ aj;have b1:∀kQ,((.slice T d.length U):Value).ownBlock=some kQ->E.heap.size<=kQ:=fun kQ D=>(aa.lt kQ D).1;have h3:∀(B':Nat)(l:List Int)(u:Value),r.ownsRow B' 3 1 u l.length (l.map (Value.int .i64))->Z.ownsRow B' 3 1 u l.length (l.map (Value.int .i64)):=fun B' l u hu=>gR hu (fun k c D=>(ai.block k (bP D) (fun e=>by have :=xJ aa e.symm D;cases this)).trans D);have am:O (Below E.heap.size E Z):=a8.grown ai a8.size (fun kQ D=>b1 kQ D);have ay:O (Z.ownsRow E.heap.size 3 1 u9 (aK C++[A]).length ((aK C++[A]).map (Value.int .i64))):=gL (h3 _ _ _ ak) bN;have az:O (∀p,p∈d->Z.ownsRow E.heap.size 3 1 p.2 p.1.args.length (p.1.args.map (Value.int .i64))):=fun p s=>h3 _ _ _ (bI (ag.o p s).1 R.u);(have bp:O (Z.ownsRow E.heap.size 55 2 (.slice F (d.length+1) G) (d++[((⟨H,aK C++[A]⟩:aN),u9)]).length ((d++[((⟨H,aK C++[A]⟩:aN),u9)]).map dW).flatten):=by show World.ownsRow _ _ _ _ _ _ _;rw[bA,cB,fZ];exact aj);have bx:Act.eval (Act.put ⟨I,W⟩ (some 70) (.slice F (d.length+1) G)) (.tmp 70)=(.slice F (d.length+1) G):=iF (by show 70<I.size;omega);rw[iO];refine uM (v:=(.slice F (d.length+1) G)) (w':=Z) rfl (bF rfl) ?_ ?_
     ·show Sem.run Tryz.prog (execOp (Act.eval (Act.put ⟨I,W⟩ (some 70) (.slice F (d.length+1) G))) _) Z=_;generalize Act.eval (Act.put ⟨I,W⟩ (some 70) (.slice F (d.length+1) G))=ev at *;clear R;go_simp
     (have b6:∀t,t∉[57,58,59,60,61,62,63,64,65,66,67,68,69,70,5]->((I.setIfInBounds 70 (.slice F (d.length+1) G)).setIfInBounds 5 (.slice F (d.length+1) G)).getD t undef=_:=fun t ht=>by have hB:t≠70:=fun e=>ht (by rw[e];decide);have hC:t≠5:=fun e=>ht (by rw[e];decide);exact((gB (a:=Act.put ⟨I,W⟩ (some 70) (.slice F (d.length+1) G)) hC).trans (gB (a:=⟨I,W⟩) hB)).trans (R.still t ht));(have b4:((I.setIfInBounds 70 (.slice F (d.length+1) G)).setIfInBounds 5 (.slice F (d.length+1) G)).size=73:=by simp[b5]);have h5:((I.setIfInBounds 70 (.slice F (d.length+1) G)).setIfInBounds 5 (.slice F (d.length+1) G)).getD 5 undef=(.slice F (d.length+1) G):=iF (a:=Act.put ⟨I,W⟩ (some 70) (.slice F (d.length+1) G)) (by rw[uJ];show 5<I.size;omega);obtain rfl:W=[]:=R.defers;clear R aF aI a7 ak aa a8 b7 b5 aS aj ai b1 h3 bx;show Exit.then _ _ Exit.normal ⟨(I.setIfInBounds 70 (.slice F (d.length+1) G)).setIfInBounds 5 (.slice F (d.length+1) G),[]⟩ _;generalize (I.setIfInBounds 70 (.slice F (d.length+1) G)).setIfInBounds 5 (.slice F (d.length+1) G)=tm at *;obtain⟨fQ,hQ,ah⟩:=pQ [57,58,59,60,61,62,63,64,65,66,67,68,69,70,5] tm _ (b4.trans rF) b6;clear b4 b6;simp only[List.foldl_cons,List.foldl_nil,(hQ 5).trans h5]at ah;clear h5 hQ;simp only[List.setIfInBounds_toArray,List.set_cons_zero,List.set_cons_succ]at ah;subst ah;go_wp2_with fail;go_roundw;case rel=>exact⟨k+1,d++[((⟨H,aK C++[A]⟩:aN),u9)],[],Z.heap.size,ae,gN,a5.o _,bp.o,fun p s=>by
      rcases dP.mp s with s|s
      ·exact⟨az.o p s,fun k D=>((az.o p s).lt k D).2⟩
      rcases cQ.mp s with rfl
      exact⟨ay.o,fun k D=>(ay.o.lt k D).2⟩,eD _ _ _ _,⟨aE _,am.o.size⟩,by rw[bA];exact zX b3,bG _,fun _ h=>absurd h sI,am.o⟩
     case measure=>exact mI
   have bn:O (¬(k+1<Q.length/\aK C=aK (aZ (Q.map (·.1)) (k+1)).args)):=fun h=>h1 h.1;have g1:decide ((k:Int)+1<(Q.length:Int))=false:=aJ oM;clear ap bo h1;go_upto_region 9 with fail;go_quiet(fail);have au:O ((J.drewN nq).ownsRow E.heap.size 55 2 (.slice T d.length U) d.length (d.map dW).flatten):=bI ar.o (eO J nq);have bl:O ((J.drewN nq).ownsRow Bn 3 1 (.slice bs (L.length+1) bu) (L++[X]).length ((L++[X]).map (Value.int .i64))):=bI aq.o (eO J nq);have ag:O (∀p,p∈d->(J.drewN nq).ownsRow E.heap.size 3 1 p.2 p.1.args.length (p.1.args.map (Value.int .i64))/\∀k,p.2.ownBlock=some k->k<Bn):=fun p s=>⟨bI (ac.o p s).1 (eO J nq),(ac.o p s).2⟩;have a2:O _:=a1.o.trans ((eO J nq).mono a1.o.size);have bq:O _:=aM aw.o (eO J nq);have f0:=aB (eO J nq) bd;have f1:=aB (eO J nq) be;clear bd be ar aq ac a1 aw b9 bk;generalize J.drewN nq=wd at *;have HF:O _:=LD f (L++[X]) _ wd (oU bl.o) (by rw[bA];exact yR _) (by rw[bA,qZ];omega) bm.o;go_wp2_with fail;refine Calls.mono HF.o ?_;rintro _ z ⟨rfl,rfl⟩;clear HF;(have a6:O (iB f (Q.map (·.1)) []=d.map (·.1)++((if cP (fE f (L++[X]))=true then [(⟨H,aK C++[fE f (L++[X])]⟩:aN)] else [])++iB f ((Q.map (·.1)).drop (k+1)) [])):=by show _=_;rw[HE.o,ba.o bn.o];rfl);generalize fE f (L++[X])=A at *;have HI:O _:=YM A z;go_wp2_with fail;refine Calls.mono HI.o ?_;rintro _ wd ⟨rfl,rfl⟩;clear HI;cases hn:cP A
   ·(have a5:O (iB f (Q.map (·.1)) []=d.map (·.1)++iB f ((Q.map (·.1)).drop (k+1)) []):=by show _=_;rw[a6.o,hn];rfl);clear a6 hn;go_wp2_with fail;go_roundw;(case rel=>exact⟨k+1,d,[],wd.heap.size,ae,gN,a5.o,au.o,fun p s=>⟨(ag.o p s).1,fun k D=>((ag.o p s).1.lt k D).2⟩,eD _ _ _ _,⟨aE _,a2.o.size⟩,KO b3,bG _,fun _ h=>absurd h sI,a2.o⟩);case measure=>exact mI
   (have a5:O (∀u:Value,iB f (Q.map (·.1)) []=(d++[((⟨H,aK C++[A]⟩:aN),u)]).map (·.1)++iB f ((Q.map (·.1)).drop (k+1)) []):=fun u=>by rw[a6.o,hn,if_pos rfl,cB,iP];rfl);clear a6 hn;go_upto_region 12 with fail;obtain⟨K,a3⟩:∃K,O (K=wd.heap.size):=⟨_,rfl⟩;refine NO (JG (.slice T d.length U) P N M m H A K (aK C)) (WV A K (aK C)) 13 10 Dp dE kR kR kR kR (WU (.slice T d.length U) P N M m H A K (aK C)) (WW A K (aK C)) (fun t v w w' he _ h=>SO (.slice T d.length U) P N M m H A K (aK C) t v w w' he h) ?hopA ?htailA
   case hopA=>
    refine xK.cons (fun a r h hO=>by rw[if_neg dE];have e5:a.eval (.tmp 5)=(.slice T d.length U:Value):=hO 5 dE;exact jC (.slice T d.length U)) ?_;refine xK.cons (fun a r h hO=>by rw[if_neg dE];have e8:a.eval (.tmp 8)=(.pointer (some ⟨P,0,none⟩):Value):=h.old 8;exact jC (.pointer (some ⟨P,0,none⟩))) ?_;refine xK.cons (fun a r h hO=>by rw[if_neg dE];have cT:a.eval (.tmp 58)=(.pointer (some ⟨P,0,none⟩):Value):=h.of 58;have c0:=aB h.u f0;exact jC (.int .i64 H)) ?_;refine xK.cons (fun a r h hO=>by rw[if_neg dE];have e8:a.eval (.tmp 8)=(.pointer (some ⟨P,0,none⟩):Value):=h.old 8;exact jC (.pointer (some ⟨P,1,none⟩))) ?_;refine xK.cons (fun a r h hO=>by rw[if_neg dE];have cV:a.eval (.tmp 60)=(.pointer (some ⟨P,1,none⟩):Value):=h.of 60;have c0:=aB h.u f1;exact jC (.slice (some ⟨N,0,none⟩) (m+1) M)) ?_;refine xK.cons (fun a r h hO=>by rw[if_neg dE];have e9:a.eval (.tmp 9)=(.int .i64 (m:Nat):Value):=h.old 9;exact jC (.int .i64 (m:Nat))) ?_;refine xK.cons (fun a r h hO=>by rw[if_neg dE];have cX:a.eval (.tmp 61)=(.slice (some ⟨N,0,none⟩) (m+1) M:Value):=h.of 61;have d0:a.eval (.tmp 62)=(.int .i64 (m:Nat):Value):=h.of 62;have g0:(0:Int)<=(m:Int):=oM;have g8:(m:Int)<=(M:Int):=oM;exact jC (.slice (some ⟨N,0,none⟩) m M)) ?_;refine xK.cons (fun a r h hO=>?_) ?_
    ·rw[if_neg dE];have d2:a.eval (.tmp 63)=(.slice (some ⟨N,0,none⟩) m M:Value):=h.of 63;refine iC (f:=77) (args:=#[.slice (some ⟨N,0,none⟩) m M]) (bF rfl) ?_ ?_
     ·have ec:=qM a;have ef:=IM a;generalize a.eval=ev at *;clear h hO;go_simp
     refine Calls.mono (GU (aK C) _ r (aM bq.o h.u) (by have :=af.o;omega)) ?_;rintro _ y2 ⟨v',rfl,bZ,bT⟩;refine⟨_,rfl,fun t ht=>?_,bT⟩;cases ht;exact⟨trivial,gL bZ (by rw[a3.o];exact h.u.size)⟩
    refine xK.cons (fun a r h hO=>by rw[if_neg dE];have cS:a.eval (.tmp 10)=(.int .i64 A:Value):=h.old 10;exact jC (.int .i64 A)) ?_;refine xK.cons (fun a r h hO=>by rw[if_neg dE];have d3:a.eval (.tmp 65)=(.int .i64 A:Value):=h.of 65;refine fC (v:=.slice (some ⟨r.heap.size,0,none⟩) 1 1) (w':=r.alloc (.cells #[.int .i64 A] 3)) (bF rfl) ?_ (fun t ht=>by cases ht;exact⟨trivial,⟨_,rfl,aR r _⟩⟩) ((aH _ _).alloc (aE _) _);have ec:=qM a;generalize a.eval=ev at *;clear h hO;go_simp) ?_;refine xK.cons (fun a r h hO=>by rw[if_pos dE];intro h1;refine⟨bF rfl,?_⟩;have b0:r.ownsRow K 3 1 (a.eval (.tmp 64)) (aK C).length ((aK C).map (Value.int .i64)):=h1.of 64 kR;obtain⟨V,bv,a7⟩:∃V,a.eval (.tmp 66)=.slice (some ⟨V,0,none⟩) 1 1/\r.heap[V]?=some (.cells #[.int .i64 A] 3):=h1.of 66 kR;(have aT:K<=r.heap.size:=by rw[a3.o];exact h.u.size);refine wU r (.tmp 64) (.tmp 66) 22 rfl K 3 j0 _ 1 8 Tryz.underlying22 hj c7 c8 ca rfl dE _ _ _ rfl b0 ⟨V,0,none⟩ 1 1 (#[Value.int .i64 A]:Array Value).toList bv rfl (zV a7) (fun u hu=>by simp only[List.mem_cons,List.not_mem_nil,or_false]at hu;subst hu;rfl) (by have :=af.o;unfold maxLen;omega) (by have :=af.o;omega) aT ?_;intro v9 w9 bX a0 _;refine⟨v9,rfl,fun t ht=>?_,a0.size,a0.os,a0.tape,a0.output,a0.size,fun k D=>a0.block k (by rw[a3.o]at aT;omega) (fun e=>by have :=(b0.lt k e.symm).1;rw[a3.o]at this;omega)⟩;cases ht;show w9.ownsRow K 3 1 v9 ((aK C)++[A]).length (((aK C)++[A]).map (Value.int .i64));rw[bA,cB];exact bX) ?_;refine xK.cons (fun a r h hO=>by rw[if_neg dE];have ho:r.ownsRow K 3 1 (a.eval (.tmp 67)) ((aK C)++[A]).length (((aK C)++[A]).map (Value.int .i64)):=h.of 67;have cU:a.eval (.tmp 59)=(.int .i64 H:Value):=h.of 59;obtain⟨a9,c9,bw⟩:=bJ ho;rw[bw]at ho;refine fC (v:=.agg #[.int .i64 H, .slice a9 ((aK C)++[A]).length c9]) (w':=r) (bF rfl) ?_ (fun t ht=>by cases ht;exact⟨⟨_,rfl,ho⟩,trivial⟩) (aH _ _);have ec:=qM a;generalize a.eval=ev at *;clear h hO;go_simp) ?_;refine xK.cons (fun a r h hO=>by rw[if_neg dE];obtain⟨u,d5,ho⟩:∃u,a.eval (.tmp 68)=.agg #[.int .i64 H,u]/\r.ownsRow K 3 1 u ((aK C)++[A]).length (((aK C)++[A]).map (Value.int .i64)):=h.of 68;obtain⟨a9,c9,rfl⟩:=bJ ho;refine fC (v:=.slice (some ⟨r.heap.size,0,none⟩) 1 1) (w':=r.alloc (.cells #[.int .i64 H, .slice a9 ((aK C)++[A]).length c9] 55)) (bF rfl) ?_ (fun t ht=>by cases ht;exact⟨⟨_,_,rfl,aR r _,ho.alloc _⟩,trivial⟩) ((aH _ _).alloc (aE _) _);have ec:=qM a;generalize a.eval=ev at *;clear h hO;go_simp) ?_;exact xK.nil
   case htailA=>
    rintro⟨I,W⟩ r R _;have aF:Act.eval ⟨I,W⟩ (.tmp 57)=(.slice T d.length U):=R.all 0 _ 57 dE rfl rfl;obtain⟨V,u9,aI,a7,ak⟩:∃V u,Act.eval ⟨I,W⟩ (.tmp 69)=.slice (some ⟨V,0,none⟩) 1 1/\r.heap[V]?=some (.cells #[.int .i64 H,u] 55)/\r.ownsRow K 3 1 u (aK C++[A]).length ((aK C++[A]).map (Value.int .i64)):=R.all 12 _ 69 dE rfl rfl;have aa:=bI au.o R.u;have a8:Below E.heap.size E r:=a2.o.trans (R.u.mono a2.o.size);(have bN:E.heap.size<=K:=by rw[a3.o];exact a2.o.size);have b7:E.heap.size<=r.heap.size:=a8.size;have b5:I.size=73:=R.size;obtain⟨a9,c9,aS⟩:=bJ ak;show wpOps Tryz.prog _ _ [13,14] _ _;rw[iO];refine CA rfl (bF rfl) (wU r (.tmp 57) (.tmp 69) 27 rfl E.heap.size 55 i0 _ 2 32 Tryz.underlying27 hi cw cx cy rfl dE (.slice T d.length U) d.length _ aF aa ⟨V,0,none⟩ 1 1 (#[Value.int .i64 H,u9]:Array Value).toList aI rfl (zV a7) ?h1B ?h63B ?hbyB b7 ?_)
    case h1B=>
     intro u hu;simp only[List.mem_cons,List.not_mem_nil,or_false]at hu;rcases hu with rfl|rfl
     ·rfl
     rw[aS];rfl
    (case h63B=>unfold maxLen;omega);(case hbyB=>omega);intro dg Z aj ai _;obtain⟨F,G,rfl⟩:=bJ aj;have b1:∀kQ,((.slice T d.length U):Value).ownBlock=some kQ->E.heap.size<=kQ:=fun kQ D=>(aa.lt kQ D).1;have h3:∀(B':Nat)(l:List Int)(u:Value),r.ownsRow B' 3 1 u l.length (l.map (Value.int .i64))->Z.ownsRow B' 3 1 u l.length (l.map (Value.int .i64)):=fun B' l u hu=>gR hu (fun k c D=>(ai.block k (bP D) (fun e=>by have :=xJ aa e.symm D;cases this)).trans D);have am:O (Below E.heap.size E Z):=a8.grown ai a8.size (fun kQ D=>b1 kQ D);have ay:O (Z.ownsRow E.heap.size 3 1 u9 (aK C++[A]).length ((aK C++[A]).map (Value.int .i64))):=gL (h3 _ _ _ ak) bN;have az:O (∀p,p∈d->Z.ownsRow E.heap.size 3 1 p.2 p.1.args.length (p.1.args.map (Value.int .i64))):=fun p s=>h3 _ _ _ (bI (ag.o p s).1 R.u);(have bp:O (Z.ownsRow E.heap.size 55 2 (.slice F (d.length+1) G) (d++[((⟨H,aK C++[A]⟩:aN),u9)]).length ((d++[((⟨H,aK C++[A]⟩:aN),u9)]).map dW).flatten):=by show World.ownsRow _ _ _ _ _ _ _;rw[bA,cB,fZ];exact aj);have bx:Act.eval (Act.put ⟨I,W⟩ (some 70) (.slice F (d.length+1) G)) (.tmp 70)=(.slice F (d.length+1) G):=iF (by show 70<I.size;omega);rw[iO];refine uM (v:=(.slice F (d.length+1) G)) (w':=Z) rfl (bF rfl) ?_ ?_
    ·show Sem.run Tryz.prog (execOp (Act.eval (Act.put ⟨I,W⟩ (some 70) (.slice F (d.length+1) G))) _) Z=_;generalize Act.eval (Act.put ⟨I,W⟩ (some 70) (.slice F (d.length+1) G))=ev at *;clear R;go_simp
    (have b6:∀t,t∉[57,58,59,60,61,62,63,64,65,66,67,68,69,70,5]->((I.setIfInBounds 70 (.slice F (d.length+1) G)).setIfInBounds 5 (.slice F (d.length+1) G)).getD t undef=_:=fun t ht=>by have hB:t≠70:=fun e=>ht (by rw[e];decide);have hC:t≠5:=fun e=>ht (by rw[e];decide);exact((gB (a:=Act.put ⟨I,W⟩ (some 70) (.slice F (d.length+1) G)) hC).trans (gB (a:=⟨I,W⟩) hB)).trans (R.still t ht));(have b4:((I.setIfInBounds 70 (.slice F (d.length+1) G)).setIfInBounds 5 (.slice F (d.length+1) G)).size=73:=by simp[b5]);have h5:((I.setIfInBounds 70 (.slice F (d.length+1) G)).setIfInBounds 5 (.slice F (d.length+1) G)).getD 5 undef=(.slice F (d.length+1) G):=iF (a:=Act.put ⟨I,W⟩ (some 70) (.slice F (d.length+1) G)) (by rw[uJ];show 5<I.size;omega);obtain rfl:W=[]:=R.defers;clear R aF aI a7 ak aa a8 b7 b5 aS aj ai b1 h3 bx;show Exit.then _ _ Exit.normal ⟨(I.setIfInBounds 70 (.slice F (d.length+1) G)).setIfInBounds 5 (.slice F (d.length+1) G),[]⟩ _;generalize (I.setIfInBounds 70 (.slice F (d.length+1) G)).setIfInBounds 5 (.slice F (d.length+1) G)=tm at *;obtain⟨fQ,hQ,ah⟩:=pQ [57,58,59,60,61,62,63,64,65,66,67,68,69,70,5] tm _ (b4.trans rF) b6;clear b4 b6;simp only[List.foldl_cons,List.foldl_nil,(hQ 5).trans h5]at ah;clear h5 hQ;simp only[List.setIfInBounds_toArray,List.set_cons_zero,List.set_cons_succ]at ah;subst ah;go_wp2_with fail;go_roundw;case rel=>exact⟨k+1,d++[((⟨H,aK C++[A]⟩:aN),u9)],[],Z.heap.size,ae,gN,a5.o _,bp.o,fun p s=>by
     rcases dP.mp s with s|s
     ·exact⟨az.o p s,fun k D=>((az.o p s).lt k D).2⟩
     rcases cQ.mp s with rfl
     exact⟨ay.o,fun k D=>(ay.o.lt k D).2⟩,eD _ _ _ _,⟨aE _,am.o.size⟩,by rw[bA];exact zX b3,bG _,fun _ h=>absurd h sI,am.o⟩
    case measure=>exact mI
  (have cF:O (iB f (Q.map (·.1)) []=d.map (·.1)):=by show _=_;rw[HE.o,bD (by rw[aP];omega)];exact jM _);have dj:decide (k<Q.length)=false:=aJ ae;clear HE;go_wp2_with fail;go_ret;exact⟨_,rfl,Q.map (·.1),cG.o,cK.o,⟨d,cF.o.symm,gL HO.o br.o,fun p s=>gL (bc.o p s).1 br.o⟩,cz.o.trans (HB.o.mono (bH cE.o br.o))⟩
theorem AK.less{m e:Nat}{w:World}{v:Value}{l:List aN}(h:AK m w v l)(B:e<=m):AK e w v l:=by
 obtain⟨f,g,s,d⟩:=h;refine⟨f,g,s,?_⟩;rcases d with d|⟨b,x,q,d⟩
 ·exact .inl d
 refine .inr ⟨b,x,q,fun i r=>?_⟩;obtain⟨j,y,z,k,n,p,A⟩:=d i r;exact⟨j,y,z,k,n,p,oM⟩
theorem AK.u{m:Nat}{w w':World}{v:Value}{l:List aN}(h:AK m w v l)(e:Below w.heap.size w w'):AK m w' v l:=by
 obtain⟨f,g,x,d⟩:=h;refine⟨f,g,x,?_⟩;rcases d with d|⟨b,y,r,d⟩
 ·exact .inl d
 refine .inr ⟨b,y,r,fun i s=>?_⟩;obtain⟨j,z,A,k,n,p,q⟩:=d i s;exact⟨aB e j,z,A,aB e k,aM n e,p,q⟩
theorem aKW{W:World}{d b o:Nat}{a:Option Addr}{n c:Nat}{t:TypeId}{f:IntKind}{i:Int}(e:W.heap[d]?=some (.cells #[.slice a n c] t))(h:W.cell? ⟨b,o,none⟩=some (.int f i)):b≠d:=by
 rintro rfl;rw[cD e]at h
 match o,h with
 |0,h=>cases h
 |o+1,h=>simp at h
theorem YG{W:World}{d b o:Nat}{v u:Value}(e:b≠d)(h:W.cell? ⟨b,o,none⟩=some v):(W.setCell ⟨d,0,none⟩ u).cell? ⟨b,o,none⟩=some v:=
 (lQ (a:=⟨b,o,none⟩) (gE _ _ _ _ e)).trans h
theorem Vh{W:World}{d:Nat}{a:Option Addr}{n c:Nat}{t:TypeId}{u:Value}(j:W.heap[d]?=some (.cells #[.slice a n c] t)){v:Value}{l:List Int}(h:dM W v l):dM (W.setCell ⟨d,0,none⟩ u) v l:=by
 obtain⟨f,g,rfl,h⟩:=h;refine⟨f,g,rfl,?_⟩;rcases h with h|⟨b,k,rfl,h⟩
 ·exact .inl h
 exact .inr ⟨b,k,rfl,fun i e=>YG (aKW j (h i e)) (h i e)⟩
theorem AK.box1{m:Nat}{W:World}{e:Nat}{a:Option Addr}{n c:Nat}{t:TypeId}{u:Value}(g:W.heap[e]?=some (.cells #[.slice a n c] t)){v:Value}{l:List aN}(h:AK m W v l):AK m (W.setCell ⟨e,0,none⟩ u) v l:=by
 obtain⟨k,p,z,d⟩:=h;refine⟨k,p,z,?_⟩;rcases d with d|⟨b,A,x,d⟩
 ·exact .inl d
 refine .inr ⟨b,A,x,fun i y=>?_⟩;obtain⟨f,B,C,q,r,s,w⟩:=d i y;have j:=aKW g f;exact⟨YG j f,B,C,YG j q,Vh g r,s,w⟩
theorem aPN(p:Int)(v:Value)(w:World):(Instr.field 55 (.agg #[.int .i64 p,v]) 1).run Tryz.prog w=.ok v w:=kR
theorem aI6(r:bB)(x:List Int)(l:List aN)(vt vb vx vh:Value)(w:World)(hT:fT w vt r.p)(hB:pI w vb r.body)(hX:dM w vx x)(ar:r.p.length<=1000)(a7:gX x.length r.p)(Z:AK r.p.length w vh l)(hl:l.length<=9223372036854775807)(j:¬r.x=0->0<r.p.length):
 Calls Tryz.prog 169 #[lP r vt vb,vx,vh] w fun e w'=>∃z,e=.returned (.int .i64 z)/\Vc l (lT (oZ r x)) z/\Below w.heap.size w w':=by
 have ao:∀(fn:Fn)(first a6:Array Value)(w:World),(Instr.makeFunc fn first a6).run Tryz.prog w=.ok (.func fn first a6) w:=fun _ _ _ _=>rfl;obtain⟨at_,M,rfl,_⟩:=id hT;obtain⟨V,W,rfl,_⟩:=id hB;obtain⟨ax,cx,rfl,_⟩:=id hX;obtain⟨B,C,rfl,_⟩:=id Z;have D:=dD w (.cells #[.int .i64 r.z, .slice at_ r.p.length M, .int .i64 r.x, .slice V r.body.length W, .int .i64 r.vars] 40);have P:=aR w (.cells #[.int .i64 r.z, .slice at_ r.p.length M, .int .i64 r.x, .slice V r.body.length W, .int .i64 r.vars] 40);have HF:O _:=BF r.z r.p x _ _ _ (dS hT D) (aM hX D) oM a7;have a3:O (AK r.p.length _ (.slice B l.length C) l):=Z.u D;have a0:O _:=D;have af:O _:=j;clear hT hB hX Z D a7 j
 go_enter Tryz.func169,Tryz.ntmps169
 go_upto_region 1 with fail;generalize w.alloc (.cells #[.int .i64 r.z, .slice at_ r.p.length M, .int .i64 r.x, .slice V r.body.length W, .int .i64 r.vars] 40)=w1 at *;(have c0:w1.cell? ⟨w.heap.size,0,none⟩=some (.int .i64 r.z):=cH P);(have c1:w1.cell? ⟨w.heap.size,1,none⟩=some (.slice at_ r.p.length M):=cH P);(have q:w1.cell? ⟨w.heap.size,2,none⟩=some (.int .i64 r.x):=cH P);clear P;go_wp2_with fail;refine Calls.mono HF.o ?_;rintro _ d ⟨v2,rfl,R,Q⟩;obtain⟨A,b,rfl⟩:=bJ R;have e2:=aB Q q;have a4:O _:=oU R;have a1:O (AK r.p.length d (.slice B l.length C) l):=a3.o.u Q;have H:O (Below w.heap.size w d):=a0.o.trans (Q.mono a0.o.size);have T:O ((bQ r.p x).length=r.p.length):=vF _ _;have ak:O _:=R;clear c0 c1 q Q HF a3 R;go_wp2_with fail;simp only[aPN];go_upto_region 2 with fail;have E:=dD d (.cells #[.slice A (bQ r.p x).length b] 22);have k:=aR d (.cells #[.slice A (bQ r.p x).length b] 22);have K:O _:=aM a4.o E;have J:O (AK r.p.length _ (.slice B l.length C) l):=a1.o.u E;have v:O (Below w.heap.size w _):=H.o.trans (E.mono H.o.size);have q:=aB E e2;have ag:O (w.heap.size<=d.heap.size):=H.o.size;clear E e2 a4 a1 H;by_cases j:r.x=0
 ·(have S:O (oZ r x=bQ r.p x):=by show _=_;unfold oZ;rw[if_pos j]);rw[j]at q;generalize d.alloc (.cells #[.slice A (bQ r.p x).length b] 22)=n at *;(have N:n.cell? ⟨d.heap.size,0,none⟩=some (.slice A (bQ r.p x).length b):=cH k);have y:O _:=Jm l _ n d.heap.size (bQ r.p x) A b N K.o (J.o.less (by rw[T.o];exact aE _)) hl (by rw[T.o];omega);clear j k;go_wp2_with fail;refine Calls.mono y.o ?_;rintro _ s ⟨z,rfl,G,a8⟩;have U:O _:=G;have I:O (Below w.heap.size w s):=v.o.trans (a8.mono v.o.size);clear y N q G a8;go_wp2_with fail;go_ret;exact⟨z,rfl,by rw[S.o];exact U.o,I.o⟩
 (have g:(r.x != 0)=true:=by simpa using j);(have S:O (oZ r x=aK (bQ r.p x)):=by show _=_;unfold oZ;rw[if_neg j]);obtain⟨m,hm⟩:∃m,r.p.length=m+1:=⟨r.p.length-1,by have :=af.o j;omega⟩;(have F:(bQ r.p x).length=m+1:=by rw[T.o];exact hm);obtain⟨f,ka,ac,am,_⟩:=LF ak.o F;rw[F]at ac k K J v q ⊢;injection ac with X _ Y;subst X Y;have HM:O (m<=r.p.length/\m<=1000):=⟨oM,oM⟩;(have a5:O (dM (d.alloc (.cells #[.slice (some ⟨f,0,none⟩) (m+1) b] 22)) (.slice (some ⟨f,0,none⟩) m b) (aK (bQ r.p x))):=by obtain⟨x1,x2,an,al⟩:=K.o;injection an with X _ Y;subst X Y;have h9:=PZ b al;rw[F,BC]at h9;exact h9);(have L:O ((aK (bQ r.p x)).length=m):=by show _=_;unfold aK;rw[List.length_dropLast,F];rfl);(have au:IntKind.i64.wrap (((m+1:Nat):Int)-1)=(m:Int):=by simp[IntKind.wrap,IntKind.bits,IntKind.signed];omega);(have av:IntKind.i64.wrap ((m:Int)+1-1)=(m:Int):=by simp[IntKind.wrap,IntKind.bits,IntKind.signed];omega);(have aw:wrap64 (m:Int)=(m:Int):=by first|(unfold wrap64;omega)|(simp[wrap64];omega)|go_num);have ap:m<=b:=oM;have aq:(m:Int)<=(b:Int):=oM;generalize d.alloc (.cells #[.slice (some ⟨f,0,none⟩) (m+1) b] 22)=n at *;(have N:n.cell? ⟨d.heap.size,0,none⟩=some (.slice (some ⟨f,0,none⟩) (m+1) b):=cH k);have f0:=cM k 0;have ad:O _:=bV k (.slice (some ⟨f,0,none⟩) m b) (i:=0);have ai:O (AK r.p.length (n.setCell ⟨d.heap.size,0,none⟩ (.slice (some ⟨f,0,none⟩) m b)) (.slice B l.length C) l):=J.o.box1 k;have aj:O (dM (n.setCell ⟨d.heap.size,0,none⟩ (.slice (some ⟨f,0,none⟩) m b)) (.slice (some ⟨f,0,none⟩) m b) (aK (bQ r.p x))):=Vh k a5.o;have aa:w.heap.size<=d.heap.size:=ag.o;have I:O (Below w.heap.size w (n.setCell ⟨d.heap.size,0,none⟩ (.slice (some ⟨f,0,none⟩) m b))):=v.o.setCell (p:=⟨d.heap.size,0,none⟩) aa _;clear j hm F a5 K J v k am aa;go_upto_region 4 with fail;generalize n.setCell ⟨d.heap.size,0,none⟩ (.slice (some ⟨f,0,none⟩) m b)=s at *;have d4:s.cell? ⟨d.heap.size,0,none⟩=some (.slice (some ⟨f,0,none⟩) m b):=cH ad.o
 have y:O (Calls Tryz.prog 179 #[.slice B l.length C, .func (.func 205) #[] #[.pointer (some ⟨d.heap.size,0,none⟩)]] s fun e w'=>∃r',e=.returned (.int .i64 r')/\Vc l (lT (aK (bQ r.p x))) r'/\Below s.heap.size s w'):=
  Jm l _ s d.heap.size (aK (bQ r.p x)) (some ⟨f,0,none⟩) b (by rw[L.o];exact d4) (by rw[L.o];exact aj.o) (ai.o.less (by rw[L.o];exact HM.o.1)) hl (by rw[L.o];have :=HM.o.2;omega)
 clear N f0 d4 q;go_wp2_with fail;refine Calls.mono y.o ?_;rintro _ w5 ⟨z,rfl,G,a9⟩;have U:O _:=G;have ae:O (Below w.heap.size w w5):=I.o.trans (a9.mono I.o.size);clear y G a9;go_wp2_with fail;go_ret;exact⟨z,rfl,by rw[S.o];exact U.o,ae.o⟩
structure Sv where
 s:eC
 f:Value
 v:Value
abbrev Xy(x:Sv):Value:=.agg #[.int .i64 x.s.d.z,x.f, .int .i64 x.s.c,x.v]
def jO(x:Sv):List Value:=[.int .i64 x.s.d.z,x.f, .int .i64 x.s.c,x.v]
def nY(w:World)(x:Sv):Prop:=(dM w x.f x.s.d.args/\fW x.s.d)/\dM w x.v x.s.vars/\x.s.vars.length<=9223372036854775807
def tW(q:List Sv)(i:Nat):Sv:=q.getD i ⟨⟨⟨0,[]⟩,0,[]⟩, .slice none 0 0, .slice none 0 0⟩
def Hm(w:World)(b o:Nat)(x:Sv):Prop:=
 w.cell? ⟨b,o,none⟩=some (.int .i64 x.s.d.z)/\w.cell? ⟨b,o+1,none⟩=some x.f/\w.cell? ⟨b,o+2,none⟩=some (.int .i64 x.s.c)/\w.cell? ⟨b,o+3,none⟩=some x.v
def AA(w:World)(ao:Option Addr)(q:List Sv):Prop:=q=[]\/∃b d,ao=some ⟨b,d,none⟩/\∀i,i<q.length->Hm w b (d+i*4) (tW q i)
def lR(w:World)(v:Value)(q:List Sv):Prop:=∃b d,v=.slice b q.length d/\(q.length<=d/\(b=none->d=0))/\AA w b q
theorem nY.u{w w':World}{x:Sv}(h:nY w x)(b:Below w.heap.size w w'):nY w' x:=⟨⟨aM h.1.1 b,h.1.2⟩,aM h.2.1 b,h.2.2⟩
theorem Hm.u{w w':World}{b o:Nat}{x:Sv}(h:Hm w b o x)(d:Below w.heap.size w w'):Hm w' b o x:=⟨aB d h.1,aB d h.2.1,aB d h.2.2.1,aB d h.2.2.2⟩
theorem lR.u{w w':World}{v:Value}{q:List Sv}(h:lR w v q)(f:Below w.heap.size w w'):lR w' v q:=by
 obtain⟨d,e,rfl,g,h⟩:=h;refine⟨d,e,rfl,g,?_⟩;rcases h with h|⟨b,k,rfl,h⟩
 ·exact .inl h
 exact .inr ⟨b,k,rfl,fun i j=>(h i j).u f⟩
theorem EG{w:World}{ao:Option Addr}{q:List Sv}(h:AA w ao q)(i:Nat)(e:i<q.length):∃b d,ao=some ⟨b,d,none⟩/\Hm w b (d+i*4) (tW q i):=by
 rcases h with h|⟨b,d,f,g⟩
 ·rw[h]at e;exact absurd e sI
 exact⟨b,d,f,g i e⟩
theorem aQR(q:List Sv)(k:Nat)(b:k<q.length):q.drop k=tW q k::q.drop (k+1):=by rw[dB b];simp[tW,List.getD_eq_getElem?_getD,b]
theorem uY(q:List Sv)(k:Nat)(b:k<q.length):tW q k∈q:=by simp[tW,b]
theorem wN(q:List Sv)(k:Nat)(b:k<q.length):q[k]?=some (tW q k):=by simp[tW,b]
def Yj(h:Nat)(cb:Array Value)(w:World)(C:eC->Prop)(P:eC->Bool):Prop:=
 ∀(z:World)(p:Int)(b:List Int)(f:Int)(d:List Int)(g:Option Addr)(j:Nat)(i:Option Addr)(k:Nat),Below w.heap.size w z->nY z ⟨⟨⟨p,b⟩,f,d⟩, .slice g b.length j, .slice i d.length k⟩->C ⟨⟨p,b⟩,f,d⟩->
  Calls Tryz.prog h (#[.agg #[.int .i64 p, .slice g b.length j, .int .i64 f, .slice i d.length k]]++cb) z fun e l=>e=.returned (.bool (P ⟨⟨p,b⟩,f,d⟩))/\Below z.heap.size z l
theorem Jv(x:Sv)(g:aN)(u:Value)(w:World)(S:nY w x)(D:dM w u g.args)(J:fW g):
 Calls Tryz.prog 91 #[Xy x,kS g.z u] w fun e T=>e=.returned (.bool (rQ x.s g))/\Below w.heap.size w T:=by
 obtain⟨⟨⟨p,b⟩,k,l⟩,V,W⟩:=x;obtain⟨⟨v,E⟩,F,L⟩:=S;dsimp only at v E F L;obtain⟨d,f,rfl,_⟩:=id v;obtain⟨i,j,rfl,_⟩:=id F;obtain⟨m,n,rfl,_⟩:=id D;have A:=(aH w.heap.size w).alloc (aE _) (.cells #[.int .i64 p, .slice d b.length f, .int .i64 k, .slice i l.length j] 80);have q:=A.alloc A.size (.cells #[.int .i64 g.z, .slice m g.args.length n] 55);have I:O (Below w.heap.size w _):=q;have B:=aR w (.cells #[.int .i64 p, .slice d b.length f, .int .i64 k, .slice i l.length j] 80);have r:=aR (w.alloc (.cells #[.int .i64 p, .slice d b.length f, .int .i64 k, .slice i l.length j] 80)) (.cells #[.int .i64 g.z, .slice m g.args.length n] 55);have H:=dD (w.alloc (.cells #[.int .i64 p, .slice d b.length f, .int .i64 k, .slice i l.length j] 80)) (.cells #[.int .i64 g.z, .slice m g.args.length n] 55);have C:=(H.block _ (bP B)).trans B;(have M:(w.alloc (.cells #[.int .i64 p, .slice d b.length f, .int .i64 k, .slice i l.length j] 80)).heap.size=w.heap.size+1:=by simp);rw[M]at r;have G:O _:=CL ⟨p,b⟩ g _ _ _ (aM v q) (aM D q) E J;clear v F D E L A q H B M J
 go_enter Tryz.func91,Tryz.ntmps91
 go_upto_region 1 with fail;generalize (w.alloc (.cells #[.int .i64 p, .slice d b.length f, .int .i64 k, .slice i l.length j] 80)).alloc (.cells #[.int .i64 g.z, .slice m g.args.length n] 55)=y at *;(have c0:y.cell? ⟨w.heap.size,0,none⟩=some (.int .i64 p):=cH C);(have P:y.cell? ⟨w.heap.size,1,none⟩=some (.slice d b.length f):=cH C);(have Q:y.cell? ⟨w.heap.size+1,0,none⟩=some (.int .i64 g.z):=cH r);(have R:y.cell? ⟨w.heap.size+1,1,none⟩=some (.slice m g.args.length n):=cH r);clear C r;go_wp2_with fail;refine Calls.mono G.o ?_;rintro _ U ⟨rfl,K⟩;have N:O (Below w.heap.size w U):=I.o.trans (K.u.mono I.o.size);clear G c0 P Q R K;go_wp2_with fail;go_ret;exact⟨rfl,N.o⟩
theorem LG:(Tryz.prog.info? 80).map (fun i=>(i.zero,i.size,i.bytes))=some (some (.agg #[.int .i64 0, .slice none 0 0, .int .i64 0, .slice none 0 0]),4,64):=kR
theorem aJQ(w:World)(a b c d:Value)(e:TypeId):∀j z,[a,b,c,d][j]?=some z->(w.alloc (.cells #[a,b,c,d] e)).cell? ((⟨w.heap.size,0,none⟩:Addr).add j)=some z:=by
 intro j z i;have g:=aR w (.cells #[a,b,c,d] e);(have f:(⟨w.heap.size,0,none⟩:Addr).add j=⟨w.heap.size,j,none⟩:=by unfold Addr.add;split<;>simp_all);rw[f,cD g]
 match j,i with
 |0,h=>exact h
 |1,h=>exact h
 |2,h=>exact h
 |3,h=>exact h
 |n+4,h=>simp at h
theorem Xz(q:List Sv):((q.map jO).flatten).length=q.length*4:=by rw[JF 4 _ (fun c b=>by obtain⟨t,_,rfl⟩:=cR.mp b;rfl),aP]
theorem aQS{w:World}{q:List Sv}(h:∀x,x∈q->nY w x):∀u,u∈(q.map jO).flatten->u.oneCell'=true:=by
 intro u b;obtain⟨c,f,b⟩:=wT.mp b;obtain⟨x,g,rfl⟩:=cR.mp f;obtain⟨⟨⟨i,k,d,_⟩,_⟩,⟨j,l,e,_⟩,_⟩:=h x g;unfold jO at b;simp only[List.mem_cons,List.not_mem_nil,or_false]at b;rcases b with rfl|rfl|rfl|rfl
 ·rfl
 ·rw[d];rfl
 ·rfl
 rw[e];rfl
theorem FW{B:Nat}{w:World}{v:Value}{q:List Sv}(h:w.ownsRow B 80 4 v q.length (q.map jO).flatten):lR w v q:=by
 rcases jJ h with⟨b,l⟩|⟨g,f,b⟩
 ·have r:q=[]:=eB l;subst r;exact⟨none,0,b,⟨aE _,fun _=>rfl⟩, .inl rfl⟩
 subst b;have n:q.length<=f:=by
  rcases h.2 with⟨b,_⟩|⟨A,x,y,b,G,H,C,D,E,F⟩
  ·cases b
  injection b with _ _ j;subst j;omega
 refine⟨_,f,rfl,⟨n,fun e=>by cases e⟩, .inr ⟨g,0,rfl,fun i p=>?_⟩⟩;(have d:∀k z,k<4->(jO (tW q i))[k]?=some z->w.cell? ⟨g,0+i*4+k,none⟩=some z:=fun k z I s=>by rw[dV,World.ownsRow.cellAt h (i*4+k) oM];exact GX 4 (q.map jO) (fun c m=>by obtain⟨t,_,rfl⟩:=cR.mp m;rfl) i _ k z (by rw[cY,wN q i p];rfl) s);exact⟨d 0 _ dE rfl,d 1 _ dE rfl,d 2 _ dE rfl,d 3 _ dE rfl⟩
def nH(p:bC)(i:Int)(l:List aN):List aN:=mP (gV p i) (jD p i l)
theorem aAM(r:bB):mP r []=[]:=by unfold mP mQ;split<;>rfl
theorem Gd{p:bC}{i:Int}{l:List aN}(d:tI p i l){x:List Int}(b:x∈jD p i l):mV (dR l) (gV p i) x:=by
 unfold jD at b;split at b
 ·cases b
 exact(lV (gC d.c d.set) (gF d.set) x).mp (xT.mp b)
theorem JY{p:bC}{i:Int}{l:List aN}(h:gM p i l=0):tI p i l:=by refine IT (Classical.byContradiction fun b=>?_);unfold gM at h;rw[if_pos b]at h;exact b h
theorem Nj{p:bC}{i:Int}{l:List aN}(h:gM p i l=0):(jD p i l).length<=2000:=by
 have b:=JY h;unfold jD;rw[if_neg (fun d=>d h)];have e:=rP (gC b.c b.set) (gF b.set) (wK l);rw[(AS e).length_eq];unfold gM at h;split at h
 ·exact absurd h (by assumption)
 split at h
 ·cases h
 omega
theorem JW{b:List Int}{r:bB}(e:kX b r):gX r.vars.toNat r.p:=fun t ht=>by
 have h:=e.tm t ht;by_cases d:t.var<0
 ·exact .inl d
 exact .inr (by have :=h.hi;omega)
theorem JV{p:bC}(h:sC p){r:bB}(b:kX p.g r):r.p.length<=3:=by have d:=h.ar r.z.toNat (by have :=b.p0;have :=b.p1;omega);have :=b.tl;omega
theorem iR.u{w w':World}{vr:Value}{l:List bB}(h:iR w vr)(s:EU w vr l)(x:Below w.heap.size w w'):iR w' vr:=by intro b z n q j k i v y;obtain⟨A,c,m,r⟩:=s;rw[j]at m;injection m with e f C;subst e f;obtain⟨B,D,g,_,_,_,⟨E,p,_⟩,_⟩:=rH r k i;injection g with g;injection g with e f;subst e f;have d:=aB x p;rw[y]at d;injection d with d;subst d;exact h b z l.length q j k i _ p
theorem FT{B:Nat}{w:World}{v:Value}{q:List (List Int×Value)}(h:vC B w v q){k:Nat}(b:k<q.length):∃g d y,v=.slice (some ⟨g,0,none⟩) q.length d/\q[k]?=some y/\y∈q/\w.cell? ⟨g,k,none⟩=some y.2/\w.ownsRow B 3 1 y.2 y.1.length (y.1.map (Value.int .i64)):=by
 rcases jJ h.1 with⟨_,f⟩|⟨g,d,e⟩
 ·omega
 subst e;refine⟨g,d,q[k],rfl,aD b,dY b,?_,h.2 _ (dY b)⟩;rw[World.ownsRow.cellAt h.1 k oM,cY,aD b];rfl
theorem QQ(p:bC)(i:Int)(facts:List aN)(va vn vr vf:Value)(w:World)(U:iU w va vn vr p)(hF:jK p)(bj:iR w vr)(hV:dA w vf facts)(bx:facts.length<=9223372036854775807)(be:∀f,f∈facts->fW f):
 Calls Tryz.prog 15 #[eN va vn vr, .int .i64 i,vf] w fun e w'=>∃v,e=.returned (.tuple #[v, .int .i64 (gM p i facts)])/\tG w.heap.size w' v (nH p i facts)/\Below w.heap.size w w':=by
 obtain⟨i0,hi,c9,ca,cc⟩:=iT vK;obtain⟨a0,n0,rfl,_⟩:=id U.ar;obtain⟨a1,n1,rfl,_⟩:=id U.nm;obtain⟨a2,n2,rfl,bg⟩:=id U.rl;obtain⟨af,cf,rfl,_,bw⟩:=id hV;have Z:=(aH w.heap.size w).alloc (aE _) (pB a0 n0 a1 n1 a2 n2 p);have P:O _:=aR w (pB a0 n0 a1 n1 a2 n2 p);have HB:O _:=Z;have HC:O _:=Hv p i facts _ _ _ _ _ (U.u Z) hF (bj.u U.rl Z) (bR hV Z) bx be;have b7:O _:=bg;have am:O (nH p i facts=mP (gV p i) (jD p i facts)):=rfl;clear U hF hV bw be Z bj bg
 go_enter Tryz.func15,Tryz.ntmps15
 go_upto_region 1 with fail;generalize w.alloc (pB a0 n0 a1 n1 a2 n2 p)=w1 at *;(have c0:w1.cell? ⟨w.heap.size,0,none⟩=some (.slice a0 p.g.length n0):=cH P.o);(have c1:w1.cell? ⟨w.heap.size,1,none⟩=some (.slice a1 p.q.length n1):=cH P.o);(have c2:w1.cell? ⟨w.heap.size,2,none⟩=some (.slice a2 p.m.length n2):=cH P.o);go_wp2_with fail;refine Calls.mono HC.o ?_;rintro _ E ⟨v,q,rfl,hN,hq,aq⟩;have F:O (Below w.heap.size w E):=HB.o.trans (aq.mono HB.o.size);have aV:O _:=(aq.block _ (bP P.o)).trans P.o;have HQ:O _:=hq;have ce:O (w.heap.size<=E.heap.size):=F.o.size;obtain⟨av,cv,rfl⟩:=bJ hN.1;have HN:O (vC w1.heap.size E (.slice av q.length cv) q):=hN;clear c0 c1 c2 aq HB P HC hN hq;by_cases J:gM p i facts=0
 ·have G:=JY J;(have ci:q.length<=2000:=by have :=Nj J;rw[<-HQ.o,aP]at this;exact this);have an:O (∀y,y∈q->mV (dR facts) (gV p i) y.1):=fun y H=>Gd G (by rw[<-HQ.o];exact sP H);have b9:O (∀y,y∈q->iQ p.g (eU (gV p i) y.1)):=fun y H=>JR G.c G.set (an.o y H);(have bb:O (∀y,y∈q->gX y.1.length (gV p i).p):=fun y H=>by rw[(an.o y H).1];exact JW G.c);have bY:=JV G.ok G.c;have b3:O (¬(gV p i).x=0->¬(gV p i).p.length=0):=fun h=>(G.c.ff h).1;obtain⟨k,rfl⟩:∃k:Nat,i=k:=⟨i.toNat,by have :=G.lo;omega⟩;(have K:k<p.m.length:=by have :=G.hi;omega);(have ba:O (gV p (k:Int)=aW p.m k):=by show _=_;unfold gV;rw[fJ]);rw[ba.o]at an b9 bb b3 bY am;obtain⟨b,cd,rfl,q0,⟨vt,q1,hT⟩,q2,⟨vb,q3,hL⟩,q4⟩:=rH b7.o k K;obtain⟨at_,ct,rfl,_⟩:=id hT;obtain⟨ab,cb,rfl,_⟩:=id hL;have HT:O _:=hT;have p0:=aB F.o q0;have p1:=aB F.o q1;have p2:=aB F.o q2;have p3:=aB F.o q3;have p4:=aB F.o q4;(have c2:E.cell? ⟨w.heap.size,2,none⟩=some (.slice (some ⟨b,cd,none⟩) p.m.length n2):=cH aV.o);clear q0 q1 q2 q3 q4 hT hL G b7 ba aV;generalize aW p.m k=r at *;have b0:O _:=J;rw[J];clear J;go_upto_region 5 with fail;have N:Below E.heap.size E (E.alloc (.cells #[.int .i64 r.z, .slice at_ r.p.length ct, .int .i64 r.x, .slice ab r.body.length cb, .int .i64 r.vars] 40)):=(aH _ _).alloc (aE _) _;have ae:O _:=aR E (.cells #[.int .i64 r.z, .slice at_ r.p.length ct, .int .i64 r.x, .slice ab r.body.length cb, .int .i64 r.vars] 40);have b4:O (vC w1.heap.size (E.alloc (.cells #[.int .i64 r.z, .slice at_ r.p.length ct, .int .i64 r.x, .slice ab r.body.length cb, .int .i64 r.vars] 40)) (.slice av q.length cv) q):=vC.u HN.o N;have a9:O _:=F.o.trans (N.mono F.o.size);have bs:O _:=dS HT.o a9.o;clear p0 p1 p2 p3 p4 c2 F HN HT N;generalize bz:E.heap.size=RB at *;generalize E.alloc (.cells #[.int .i64 r.z, .slice at_ r.p.length ct, .int .i64 r.x, .slice ab r.body.length cb, .int .i64 r.vars] 40)=s at *;clear bz;(have r0:s.cell? ⟨RB,0,none⟩=some (.int .i64 r.z):=cH ae.o);(have r1:s.cell? ⟨RB,1,none⟩=some (.slice at_ r.p.length ct):=cH ae.o);(have r2:s.cell? ⟨RB,2,none⟩=some (.int .i64 r.x):=cH ae.o);clear ae;go_wp2_with fail;go_loopw [11,31] (fun vh iv wr=>∃(j:Nat)(d:List Fv),j<=q.length/\iv=.int .i64 j/\O (wr.ownsRow s.heap.size 55 2 vh d.length (d.map dW).flatten)/\O (d.map (·.1)=(q.take j).map (fun y=>eU r y.1))/\O (∀p,p∈d->wr.ownsRow s.heap.size 3 1 p.2 p.1.args.length (p.1.args.map (Value.int .i64)))/\d.length<=j/\O (Below s.heap.size s wr)) (fun _ iv _=>q.length-(intOf iv).toNat);case atStart=>exact⟨0,[],bG _,rfl,eD _ _ _ _,rfl,fun _ A=>absurd A sI,aE _,aH _ _⟩
  case round=>
   obtain⟨L,bZ⟩:∃L,L=wr:=⟨_,rfl⟩;subst bZ;obtain⟨j,d,hj,rfl,W,X,ag,bU,C⟩:=hrel;obtain⟨ao,co,rfl⟩:=bJ W.o;have t0:=aB C.o r0;have t1:=aB C.o r1;have t2:=aB C.o r2;by_cases az:j<q.length
   ·obtain⟨g,cg,y,hv,H,bk,aS,aT⟩:=FT b4.o az;injection hv with e1 e2 e3;subst e1 e3;obtain⟨ay,cy,bl⟩:=bJ aT;have ap:O (dM L y.2 y.1):=aM (oU aT) C.o;rw[bl]at aS ap;have yc:=aB C.o aS;have b2:O _:=BF r.z r.p y.1 _ _ L (dS bs.o C.o) ap.o oM (bb.o y bk);(have bc:O ((q.take (j+1)).map (fun y=>eU r y.1)=(q.take j).map (fun y=>eU r y.1)++[(⟨r.z,bQ r.p y.1⟩:aN)]):=by show _=_;rw[eI,H,cB];rfl);(clear H bk aS aT bl ap;generalize bQ r.p y.1=B at *;generalize y.1.length=yl at *;go_wp2_with fail;refine Calls.mono b2.o ?_;rintro _ I ⟨u,rfl,aI,aj⟩;have ad:O (I.ownsRow s.heap.size 55 2 (.slice ao d.length co) d.length (d.map dW).flatten):=bI W.o aj;have b8:O (∀p,p∈d->I.ownsRow s.heap.size 3 1 p.2 p.1.args.length (p.1.args.map (Value.int .i64))):=fun p A=>bI (ag.o p A) aj;have aa:O _:=C.o.trans (aj.mono C.o.size);have b6:O (I.ownsRow s.heap.size 3 1 u B.length (B.map (Value.int .i64))):=gL aI C.o.size;obtain⟨Q,R,rfl⟩:=bJ aI;have cj:=aa.o.size;clear aI aj b2 W ag C t0 t1 t2 yc;go_wp2_with(at_builtin;refine fX _ rfl (.tmp 35) (.tmp 42) 27 rfl s.heap.size 55 i0 _ 2 32 Tryz.underlying27 hi c9 ca cc rfl dE _ _ _ rfl (ad.o.alloc _) ⟨I.heap.size,0,none⟩ 1 1 (dW (⟨r.z,B⟩, .slice Q B.length R)) rfl rfl ?c1 ?c2 ?c3 ?c4 ?c5 ?_);(case c1=>exact Wx I _ _ 55);(case c2=>intro u hu;simp[dW]at hu;rcases hu with rfl|rfl<;>rfl);(case c3=>unfold maxLen;omega);(case c4=>omega);(case c5=>simp;omega);intro ck w6 aF ax _;obtain⟨bu,bv,rfl⟩:=bJ aF;have N:Below I.heap.size I (I.alloc (.cells #[.int .i64 r.z, .slice Q B.length R] 55)):=(aH _ _).alloc (aE _) _;have h3:∀(l:List Int)(u:Value),I.ownsRow s.heap.size 3 1 u l.length (l.map (Value.int .i64))->w6.ownsRow s.heap.size 3 1 u l.length (l.map (Value.int .i64)):=fun l u hu=>gR hu (fun k c K=>(ax.block k (dQ (bP K) N.size) (fun e=>by have :=xJ ad.o e.symm K;cases this)).trans ((N.block k (bP K)).trans K));have bm:O (Below s.heap.size s w6):=(aa.o.alloc aa.o.size _).grown ax sO (fun k K=>(ad.o.lt k K).1);have bn:O (w6.ownsRow s.heap.size 55 2 (.slice bu (d.length+1) bv) (d++[((⟨r.z,B⟩:aN),Value.slice Q B.length R)]).length ((d++[((⟨r.z,B⟩:aN),Value.slice Q B.length R)]).map dW).flatten):=by show World.ownsRow _ _ _ _ _ _ _;rw[bA,cB,fZ];simpa using aF);have bo:O (∀p,p∈d++[((⟨r.z,B⟩:aN),Value.slice Q B.length R)]->w6.ownsRow s.heap.size 3 1 p.2 p.1.args.length (p.1.args.map (Value.int .i64))):=fun p A=>by
     rcases dP.mp A with A|A
     ·exact h3 _ _ (b8.o p A)
     rcases cQ.mp A with rfl;exact h3 _ _ b6.o
    (have br:O ((d++[((⟨r.z,B⟩:aN),Value.slice Q B.length R)]).map (·.1)=(q.take (j+1)).map (fun y=>eU r y.1)):=by show _=_;rw[bc.o,<-X.o,cB];rfl);clear aF ax ad b8 aa b6 h3 N bc X;go_wp2_with fail;go_roundw;(case rel=>exact⟨j+1,_,az,gN,bn.o,br.o,bo.o,by rw[bA];exact zX bU,bm.o⟩);case measure=>exact mI
   have ch:decide (j<q.length)=false:=aJ az;(have b5:O (d.map (·.1)=(jD p k facts).map (eU r)):=by show _=_;rw[X.o,dU oM,<-HQ.o,SU];rfl);(have a6:O (∀p,p∈d->p.1.args.length=r.p.length/\∀n,n∈p.1.args->cP n=true):=fun f D=>by have h1:f.1∈d.map (·.1):=sP D;rw[X.o]at h1;obtain⟨y,H,c6⟩:=cR.mp h1;have h2:=b9.o y (jG H);rw[<-c6];exact⟨by show(bQ r.p y.1).length=_;unfold bQ;rw[aP],h2.nm⟩);have bW:d.length<=2000:=oM;have V:O (Below w.heap.size w L):=a9.o.trans (C.o.mono a9.o.size);clear X b4;by_cases D:r.x=0
   ·(have g0:(r.x != 0)=false:=by simpa using D);(have ah:O (dR (d.map (·.1))=nH p k facts):=by show _=_;rw[am.o,b5.o];unfold mP mQ;rw[if_pos D]);have T:tG s.heap.size L (.slice ao d.length co) (d.map (·.1)):=⟨d,rfl,W.o,ag.o⟩;have Y:O _:=ME (d.map (·.1)) _ L T.toV (by rw[aP];omega) (fun f aw=>by
     obtain⟨z,hz,rfl⟩:=cR.mp aw;have :=(a6.o z hz).1
     omega)
    clear D T;go_wp2_with fail;refine Calls.mono Y.o ?_;rintro _ w8 ⟨v',rfl,T,a5⟩;obtain⟨q8,a3,M,a4⟩:=T;obtain⟨a8,c8,rfl⟩:=bJ M;have al:O (tG w.heap.size w8 (.slice a8 q8.length c8) (nH p k facts)):=⟨q8,by rw[a3];exact ah.o,gL M V.o.size,fun p A=>gL (a4 p A) V.o.size⟩;have ak:O (Below w.heap.size w w8):=V.o.trans (a5.mono V.o.size);clear a3 M a4 a5 Y;go_wp2_with fail;refine dF (fM rfl _ _ _) rfl ?_;exact⟨_,by rw[b0.o];rfl,al.o,ak.o⟩
   (have g0:(r.x != 0)=true:=by simpa using D);have bX:=b3.o D;have b1:O _:=aI3 r.x (r.p.length-1) d (.slice ao d.length co) s.heap.size L W.o ag.o bW oM (fun p A=>⟨by have :=(a6.o p A).1;omega,(a6.o p A).2⟩);(have ah:O (∀S:List aN,S.Perm (d.map (·.1))->S.Pairwise (fun a b=>eV a b<=0)->dR (iB r.x S [])=nH p k facts):=fun S h1 h2=>by rw[am.o];exact Cb D (by rw[<-b5.o];exact h1) h2);have bt:O (w.heap.size<=s.heap.size):=a9.o.size;clear D bX;go_wp2_with fail;refine Calls.mono b1.o ?_;rintro _ w7 ⟨v7,S,rfl,ai,bh,bf,bi⟩;have bq:O _:=ah.o S ai bh;(have bN:S.length=d.length:=by have :=ai.length_eq;rw[aP]at this;exact this);have ac:O (Below w.heap.size w w7):=V.o.trans (bi.mono bt.o);(have bp:O (∀f,f∈S->f.args.length=r.p.length):=fun f D=>by obtain⟨z,hz,rfl⟩:=cR.mp (ai.mem_iff.mp D);exact(a6.o z hz).1);have Y:O _:=ME (iB r.x S []) _ w7 bf.toV (by have :=CM r.x S [];omega) (fun f aw=>by
    have :=GH r.x r.p.length S [] bp.o f aw
    omega)
   obtain⟨q7,_,bd,_⟩:=bf;obtain⟨a7,c7,rfl⟩:=bJ bd;clear ai bh bd bi b1 ah bN;go_wp2_with fail;refine Calls.mono Y.o ?_;rintro _ w8 ⟨v',rfl,T,a5⟩;obtain⟨q8,a3,M,a4⟩:=T;obtain⟨a8,c8,rfl⟩:=bJ M;have al:O (tG w.heap.size w8 (.slice a8 q8.length c8) (nH p k facts)):=⟨q8,by rw[a3];exact bq.o,gL M ac.o.size,fun p A=>gL (a4 p A) ac.o.size⟩;have ak:O (Below w.heap.size w w8):=ac.o.trans (a5.mono ac.o.size);clear a3 M a4 a5 Y;go_wp2_with fail;refine dF (fM rfl _ _ _) rfl ?_;exact⟨_,by rw[b0.o];rfl,al.o,ak.o⟩
 (have g0:(gM p i facts != 0)=true:=by simpa using J);(have HE:O (nH p i facts=[]):=by show _=_;unfold nH jD;rw[if_pos J];exact aAM _);clear J;go_wp2_with fail;refine dF (fM rfl _ _ _) rfl ?_;exact⟨_,rfl,by rw[HE.o];exact tG.nil _ _,F.o⟩
end Go.Proofs.YthenjegmigeieaaGreat
namespace Go.Proofs.YthenjegmigeieaaGreat
theorem CK{T:List aN}(h:vN T):dR T=T:=(DU ⟨h,fun _=>Iff.rfl⟩).symm
theorem UL{p:bC}(b:dJ p=0){f:aN}:nP p f.z f.args=0↔iQ p.g f:=by unfold nP iD;rw[if_pos b];exact UZ
theorem OD{α:Type}{f:α->Int}:∀{l:List α},(∀x,x∈l->f x=0)->aU f l=0
 |[],_=>rfl
 |x::r,h=>by unfold aU;rw[if_pos (h x dC)];exact OD fun y b=>h y (bO _ b)
theorem KS{p:bC}(d:dJ p=0){l:List aN}:kK p l=0↔∀f,f∈l->iQ p.g f:=by unfold kK;exact⟨fun h f b=>(UL d).mp (AR h f b),fun h=>OD fun f b=>(UL d).mpr (h f b)⟩
section
variable {p:bC} {T:List aN} {i:Nat}
theorem LP(f:dJ p=0)(e:jL p T)(k:i<p.m.length):
 (gM p i T=0/\T.length<=60/\(gP T (aW p.m i)).length<=2000)\/
 (gM p i T=2/\(60<T.length\/2000<(gP T (aW p.m i)).length)):=by
 (have g:jS p i T=if 60<T.length then 2 else 0:=by unfold jS;rw[if_neg (fun h=>h f),if_neg oM,(KS f).mpr e.right]);(have j:gV p (i:Int)=aW p.m i:=by unfold gV;rw[fJ]);unfold gM;rw[g,CK e.up,j];by_cases b:60<T.length
 ·right;rw[if_pos b];exact⟨rfl, .inl b⟩
 rw[if_neg b];by_cases d:2000<(gP T (aW p.m i)).length
 ·right;rw[if_neg sI,if_pos d];exact⟨rfl, .inr d⟩
 left;rw[if_neg sI,if_neg d];exact⟨rfl,oM,oM⟩
theorem FZ(f:sC p)(b:jL p T)(d:i<p.m.length)(e:gM p i T=0):nH p i T=bS T (aW p.m i):=by(have j:gV p (i:Int)=aW p.m i:=by unfold gV;rw[fJ]);have g:=f.c (aW p.m i) (by unfold aW;rw[aC,aD d];exact dY d);unfold nH jD;rw[if_neg (fun h=>h e),j,CK b.up];exact zP _ (AS (rP (gC g b.right) (gF b.right) (kW b.up)))
end
theorem pS{l:List bB}{i:Nat}(h:i<l.length):aW l i∈l:=by unfold aW;rw[aC,aD h];exact dY h
theorem yQ{l:List bB}{r:bB}(h:r∈l):∃i,i<l.length/\aW l i=r:=by obtain⟨i,b,d⟩:=mH h;exact⟨i,b,by unfold aW;rw[aC,aD b,d];rfl⟩
section
variable {p:bC} {k:Int} {S T:List aN}
theorem sR{l m:List aN}{f:aN}:f∈mO l m↔f∈l\/f∈m:=by unfold mO;rw[iK,dP]
theorem FY{r:bB}(e:r∈p.m)(d:oE p r.z=k):OA p k T (mO T (bS T r)):=by
 refine⟨fun f b=>sR.mpr (.inl b),fun f b=>?_,(kV _).1⟩;rcases sR.mp b with h|h
 ·exact .inl h
 exact .inr ⟨r,e,d,h⟩
theorem Zj{l m:List aN}:(mO l m).length<=l.length+m.length:=by have :=nW (l₂:=l++m) (kW (kV (l++m)).1) fun f b=>iK.mp b;rw[bA]at this;exact this
theorem OH(d:vN S)(e:vN T)(h:∀f,f∈S->f∈T)(l:T.length<=S.length):T=S:=by
 refine KU e d fun f=>⟨fun i=>?_,h f⟩;refine Classical.byContradiction fun j=>?_;have k:(f::S).Nodup:=List.nodup_cons.mpr ⟨j,kW d⟩;have :=k.length_le_of_subset (l₂:=T) fun g b=>by
  rcases eQ.mp b with rfl|b
  ·exact i
  exact h g b
 simp at this;omega
theorem Fd(b:vN S)(h:∀f,f∈S->f∈T):S.length<=T.length:=(kW b).length_le_of_subset h
theorem Lz(h:∀r,r∈p.m->¬oE p r.z=k){m:List aN}(j:vN m)(e:jR p k m S):S=m:=by
 induction e with
 |refl=>rfl
 |step _ b n=>
  subst n;refine KU b.up j fun f=>⟨fun g=>?_,b.sub f⟩;rcases b.new f g with d|⟨r,l,i,_⟩
  ·exact d
  exact absurd i (h r l)
theorem QR{r:bB}:(bS T r).length<=(gP T r).length:=by
 unfold bS mP;have b:=nW (l₂:=mQ r (gP T r)) (kW (kV (mQ r (gP T r))).1) fun f d=>iK.mp d;refine bH b ?_;unfold mQ;split
 ·rw[aP];exact aE _
 refine bH (yN _ _) ?_;rw[aP];exact aE _
theorem OF(g:Ym p){m:List aN}(f:jL p m)(d:jR p k m T)(h:¬OC p k T):rD p k m none:=fun _ e b i=>h (Mc g f d e b i)
def UK(p:bC)(k:Int)(S:List aN)(i:Nat):Prop:=
 ∀j,j<i->oE p (aW p.m j).z=k->S.length<=60/\(gP S (aW p.m j)).length<=2000/\∀f,f∈bS S (aW p.m j)->f∈S
theorem Zd(q:jL p T)(l:T.length<=60)(g:jR p k T S)(h:UK p k S p.m.length):rD p k T (some S):=by
 refine⟨g,fun r d b f n=>?_,⟨?_,fun r d b=>?_⟩⟩
 ·obtain⟨i,e,rfl⟩:=yQ d;exact(h i e b).2.2 f n
 ·by_cases j:∃r,r∈p.m/\oE p r.z=k
  ·obtain⟨r,d,b⟩:=j;obtain⟨i,e,rfl⟩:=yQ d;exact(h i e b).1
  rw[Lz (fun r d b=>j ⟨r,d,b⟩) q.up g];exact l
 obtain⟨i,e,rfl⟩:=yQ d;exact(h i e b).2.1
end
end Go.Proofs.YthenjegmigeieaaGreat
namespace Go.Proofs.YthenjegmigeieaaGreat
open Go.RowKit
theorem WR{B m:Nat}{w:World}{v:Value}{l:List aN}(h:tG B w v l)(E:∀f,f∈l->m<=f.args.length):AK m w v l:=by
 obtain⟨q,rfl,n,z⟩:=h;rcases jJ n with⟨b,y⟩|⟨g,x,b⟩
 ·have j:q=[]:=eB y;subst j;exact⟨none,0,b, .inl rfl⟩
 subst b;refine⟨_,x,by rw[aP], .inr ⟨g,0,rfl,fun i d=>?_⟩⟩;have D:=d;rw[aP]at d;have j:q[i]?=some q[i]:=aD d;(have C:aZ (q.map (·.1)) i=q[i].1:=by simp[aZ,d]);obtain⟨c0,k⟩:=vL.cell n j;have e:=z _ (dY d);have p:=E _ (mT _ i D);rw[dV,C]at *;rcases e.2 with⟨b,r⟩|⟨G,s,F,b,_,_,A,_⟩
 ·exact⟨c0,none,0,by rw[k,b,r],by rw[r,<-b];exact yI e,oM,p⟩
 exact⟨c0,_,s,by rw[k,b],by rw[<-b];exact yI e,A,p⟩
structure DX (B:Nat) (w:World) (x:Sv):Prop where
 f:w.ownsRow B 3 1 x.f x.s.d.args.length (x.s.d.args.map (Value.int .i64))
 v:w.ownsRow B 3 1 x.v x.s.vars.length (x.s.vars.map (Value.int .i64))
 fl:x.s.d.args.length<=3
 vl:x.s.vars.length<=8
theorem DX.ok{B:Nat}{w:World}{x:Sv}(h:DX B w x):nY w x:=⟨⟨yI h.f,bH h.fl dE⟩,yI h.v,bH h.vl dE⟩
theorem DX.u{B:Nat}{w w':World}{x:Sv}(h:DX B w x)(b:Below w.heap.size w w'):DX B w' x:=⟨bI h.f b,bI h.v b,h.fl,h.vl⟩
theorem DX.le{B b:Nat}{w:World}{x:Sv}(h:DX B w x)(d:b<=B):DX b w x:=⟨gL h.f d,gL h.v d,h.fl,h.vl⟩
def BW(B:Nat)(w:World)(v:Value)(q:List Sv):Prop:=w.ownsRow B 80 4 v q.length (q.map jO).flatten/\∀x,x∈q->DX B w x
theorem Vx{B:Nat}{w:World}{b off n p:Nat}{l:List aN}(h:tG B w (.slice (some ⟨b,off,none⟩) n p) l){j:Nat}(f:j<l.length){u:Value}(e:w.cell? ⟨b,off+j*2+1,none⟩=some u):w.ownsRow B 3 1 u (aZ l j).args.length ((aZ l j).args.map (Value.int .i64)):=by
 obtain⟨q,rfl,k,x⟩:=h;rw[aP]at f;have z:q[j]?=some q[j]:=aD f;(have y:aZ (q.map (·.1)) j=q[j].1:=by simp[aZ,f]);rcases jJ k with⟨i,_⟩|⟨g,A,i⟩
 ·cases i
 injection i with d r s;injection d with d;injection d with d v;subst d v r s;obtain⟨_,m⟩:=vL.cell k z;rw[dV,m]at e;injection e with e;rw[y,<-e];exact x _ (dY f)
theorem aG4(p:bC)(i:Nat)(M:List aN)(va vn vr vm:Value)(w:World)(I:iU w va vn vr p)(hF:jK p)(al:iR w vr)(hV:dA w vm M)(cr:M.length<=60)(ai:∀f,f∈M->fW f)
 (hi:i<p.m.length) (he:gM p i M=0) (aj:jD p i M=rX (gP M (aW p.m i))) (b1:nH p i M=bS M (aW p.m i)) (b3:(bS M (aW p.m i)).length<=2000) (cc:(rX (gP M (aW p.m i))).length<=2000)
 (b2:∀f,f∈bS M (aW p.m i)->f.args.length=(aW p.m i).p.length) (be:(aW p.m i).p.length<=3) (b5:∀x,x∈gP M (aW p.m i)->gX x.length (aW p.m i).p/\x.length<=8) (b8:¬(aW p.m i).x=0->0<(aW p.m i).p.length):
 Calls Tryz.prog 123 #[eN va vn vr, .int .i64 i,vm] w fun e w'=>∃v q,e=.returned v/\q.map (·.s)=yC p M i/\BW w.heap.size w' v q/\Below w.heap.size w w':=by
 obtain⟨i0,cd,ci,cj,ck⟩:=iT LG;obtain⟨W,n0,rfl,_⟩:=id I.ar;obtain⟨X,n1,rfl,_⟩:=id I.nm;obtain⟨a2,N,rfl,b4⟩:=id I.rl;obtain⟨am,cm,rfl,_⟩:=id hV;obtain⟨P,Q,rfl,bi,⟨cF,bj,rT⟩,bk,⟨cE,bl,rB⟩,bm⟩:=rH b4 i hi;obtain⟨at_,ct,rfl,_⟩:=id rT;obtain⟨ab,cb,rfl,_⟩:=id rB;have aS:O (fT w (.slice at_ (aW p.m i).p.length ct) (aW p.m i).p/\pI w (.slice ab (aW p.m i).body.length cb) (aW p.m i).body):=⟨rT,rB⟩;have bw:O _:=bi;have bx:O _:=bj;have bz:O _:=bk;have bN:O _:=bl;have bU:O _:=bm;clear bi bj bk bl bm rT rB;have Y:=dD w (.cells #[.slice W p.g.length n0, .slice X p.q.length n1, .slice (some ⟨P,Q,none⟩) p.m.length N] 26);have av:O _:=aR w (.cells #[.slice W p.g.length n0, .slice X p.q.length n1, .slice (some ⟨P,Q,none⟩) p.m.length N] 26);have HB:O (Below w.heap.size w _):=Y;have HP:O (iU w (.slice W p.g.length n0) (.slice X p.q.length n1) (.slice (some ⟨P,Q,none⟩) p.m.length N) p/\jK p/\iR w (.slice (some ⟨P,Q,none⟩) p.m.length N)):=⟨I,hF,al⟩;have HV:O (dA w (.slice am M.length cm) M/\∀f,f∈M->fW f):=⟨hV,ai⟩;have a9:O _:=Hv p i M _ _ _ _ _ (I.u Y) hF (al.u I.rl Y) (bR hV Y) oM ai;have au:O (gM p i M=0/\jD p i M=rX (gP M (aW p.m i))/\nH p i M=bS M (aW p.m i)):=⟨he,aj,b1⟩;have E:O ((bS M (aW p.m i)).length<=2000/\(∀f,f∈bS M (aW p.m i)->f.args.length=(aW p.m i).p.length)/\(aW p.m i).p.length<=3/\(∀x,x∈gP M (aW p.m i)->gX x.length (aW p.m i).p/\x.length<=8)/\(¬(aW p.m i).x=0->0<(aW p.m i).p.length)):=⟨b3,b2,be,b5,b8⟩;rw[he,aj]at a9;clear I hF al hV ai b4 Y he aj b1 b3 b2 be b5 b8
 go_enter Tryz.func123,Tryz.ntmps123
 go_upto_region 1 with fail;generalize w.alloc (.cells #[.slice W p.g.length n0, .slice X p.q.length n1, .slice (some ⟨P,Q,none⟩) p.m.length N] 26)=l at *;(have af:O (∀y,Below l.heap.size l y->y.cell? ⟨w.heap.size,0,none⟩=some (.slice W p.g.length n0)/\y.cell? ⟨w.heap.size,1,none⟩=some (.slice X p.q.length n1)/\y.cell? ⟨w.heap.size,2,none⟩=some (.slice (some ⟨P,Q,none⟩) p.m.length N)):=fun y L=>by have h:=(L.block _ (bP av.o)).trans av.o;exact⟨cH h,cH h,cH h⟩);have V:O (∀y,Below l.heap.size l y->Below w.heap.size w y):=fun y L=>HB.o.trans (L.mono HB.o.size);obtain⟨c0,Z,c2⟩:=af.o l (aH _ _);go_wp2_with fail;refine Calls.mono a9.o ?_;rintro _ D ⟨vw,n,rfl,hN,bd,a3⟩;have aI:O (vC l.heap.size D vw n):=hN;have ad:O (n.map (·.1)=rX (gP M (aW p.m i))):=bd;obtain⟨aw,cw,rfl⟩:=bJ hN.1;have U:O (Below l.heap.size l D):=a3;have aa:O _:=QQ p i M _ _ _ _ D (HP.o.1.u (V.o D a3)) HP.o.2.1 (HP.o.2.2.u HP.o.1.rl (V.o D a3)) (bR HV.o.1 (V.o D a3)) oM HV.o.2;rw[au.o.1,au.o.2.2]at aa;clear c0 Z c2 hN bd a3 a9;obtain⟨c0,Z,c2⟩:=af.o D U.o;go_wp2_with fail;refine Calls.mono aa.o ?_;rintro _ d ⟨vh,rfl,ag,ak⟩;have az:O (tG D.heap.size d vh (bS M (aW p.m i))):=ag;obtain⟨qh,bb,ba,_⟩:=id ag;obtain⟨ah,ch,bf⟩:=bJ ba;(have bc:qh.length=(bS M (aW p.m i)).length:=by rw[<-bb,aP]);rw[bc]at bf;subst bf;have bt:O (vC l.heap.size d (.slice aw n.length cw) n):=vC.u aI.o ak;have ae:O (Below l.heap.size l d):=U.o.trans (ak.mono U.o.size);have bq:O (l.heap.size<=D.heap.size):=U.o.size;clear c0 Z c2 ag bb ba bc ak aa aI U;go_wp2_with fail;go_loopw [31,11] (fun kv sv wr=>∃(k:Nat)(b:List Sv),k<=n.length/\kv=.int .i64 k/\O (wr.ownsRow d.heap.size 80 4 sv b.length (b.map jO).flatten)/\O (b.map (·.s)=((n.take k).map (·.1)).filterMap (tF p i (bS M (aW p.m i))))/\O (∀x,x∈b->DX l.heap.size d x)/\b.length<=k/\O (Below d.heap.size d wr)) (fun kv _ _=>n.length-(intOf kv).toNat);case atStart=>exact⟨0,[],bG _,rfl,eD _ _ _ _,rfl,fun _ C=>absurd C sI,aE _,aH _ _⟩
 case round=>
  obtain⟨k,b,hk,rfl,HO,HQ,HS,ce,G⟩:=hrel;obtain⟨ao,co,rfl⟩:=bJ HO.o;have a8:O (Below l.heap.size l wr):=ae.o.trans (G.o.mono ae.o.size);by_cases an:k<n.length
  ·obtain⟨gW,cp,y,hv,L,bg,aq,a6⟩:=FT bt.o an;injection hv with ea _ ec;subst ea ec;obtain⟨A,B,a7⟩:=bJ a6;rw[a7]at aq;(have bZ:O (d.ownsRow l.heap.size 3 1 (.slice A y.1.length B) y.1.length (y.1.map (Value.int .i64))):=by rw[<-a7];exact a6);(have bX:O (dM d (.slice A y.1.length B) y.1):=by rw[<-a7];exact oU a6);have bY:O (dM wr (.slice A y.1.length B) y.1):=aM bX.o G.o;have tj:=aB G.o aq;have bh:y.1∈gP M (aW p.m i):=xT.mp (by rw[<-ad.o];exact cR.mpr ⟨y,bg,rfl⟩);have b0:O _:=E.o.2.2.2.1 _ bh;have aV:O (((n.take (k+1)).map (·.1)).filterMap (tF p i (bS M (aW p.m i)))=((n.take k).map (·.1)).filterMap (tF p i (bS M (aW p.m i)))++(tF p i (bS M (aW p.m i)) y.1).toList):=by
    show _=_;rw[eI,L,cB,List.filterMap_append]
    congr 1
   have F:=V.o wr a8.o;have r0:=aB F bw.o;have r1:=aB F bx.o;have r2:=aB F bz.o;have r3:=aB F bN.o;have r4:=aB F bU.o;obtain⟨c0,Z,c2⟩:=af.o wr a8.o;have aF:O (AK (aW p.m i).p.length d (.slice ah (bS M (aW p.m i)).length ch) (bS M (aW p.m i))):=WR az.o (fun f hf=>by rw[E.o.2.1 f hf];exact aE _);have br:O (AK (aW p.m i).p.length wr (.slice ah (bS M (aW p.m i)).length ch) (bS M (aW p.m i))):=aF.o.u G.o;have ax:O _:=aI6 (aW p.m i) y.1 _ _ _ _ _ wr (dS aS.o.1 F) (nU aS.o.2 F) bY.o (by have :=E.o.2.2.1;omega) b0.o.1 br.o (by have :=E.o.1;omega) E.o.2.2.2.2;clear L bg aq a6 a7 bh F;have aT:O (∀z,Vc (bS M (aW p.m i)) (lT (oZ (aW p.m i) y.1)) z->(z= -1/\tF p i (bS M (aW p.m i)) y.1=none)\/∃j:Nat,z=j/\j<(bS M (aW p.m i)).length/\tF p i (bS M (aW p.m i)) y.1=some ⟨aZ (bS M (aW p.m i)) j,i,y.1⟩):=fun z hz=>by
    unfold tF;rcases hz with⟨h1,h2⟩|⟨j,h1,h2,h3⟩
    ·exact .inl ⟨h1,by rw[h2];rfl⟩
    exact .inr ⟨j,h1,h2,by rw[h3];rfl⟩
   have cl:O ((bS M (aW p.m i)).length<=2000):=E.o.1;(have bs:O (∀f,f∈bS M (aW p.m i)->f.args.length<=3):=fun f hf=>by rw[E.o.2.1 f hf];exact E.o.2.2.1);(have cx:n.length<=2000:=by(have h1:(n.map (·.1)).length=(rX (gP M (aW p.m i))).length:=by rw[ad.o]);rw[aP]at h1;have :=cc;omega);generalize tF p i (bS M (aW p.m i)) y.1=so at *;generalize bS M (aW p.m i)=H at *;generalize aW p.m i=r at *;go_wp2_with fail;refine Calls.mono ax.o ?_;rintro _ w4 ⟨z,rfl,hz,a5⟩;have J:O (Below d.heap.size d w4):=G.o.trans (a5.mono G.o.size);have ac:O (w4.ownsRow d.heap.size 80 4 (.slice ao b.length co) b.length (b.map jO).flatten):=bI HO.o a5;clear r0 r1 r2 r3 r4 c0 Z c2 tj ax;rcases aT.o z hz with⟨rfl,a4⟩|⟨j,rfl,K,a4⟩
   ·(have T:O (b.map (·.s)=((n.take (k+1)).map (·.1)).filterMap (tF p i H)):=by show _=_;rw[aV.o,a4,<-HQ.o];simp);clear hz a5 a4;go_wp2_with fail;go_roundw;(case rel=>exact⟨k+1,b,an,gN,ac.o,T.o,HS.o,oM,J.o⟩);case measure=>exact mI
   obtain⟨cn,cq,cf,b6⟩:=id aF.o;injection cf with c8 _ c9;subst c8 c9;obtain⟨cs,cv,rfl,b7⟩:=b6.resolve_left (fun h=>by rw[h]at K;cases K);obtain⟨p0,R,S,p1,ca,cg,_⟩:=b7 j K;have bu:O (DX l.heap.size d ⟨⟨aZ H j,i,y.1⟩, .slice R (aZ H j).args.length S, .slice A y.1.length B⟩):=⟨gL (Vx az.o K p1) bq.o,bZ.o,bs.o _ (mT H j K),b0.o.2⟩;have q0:=aB J.o p0;have q1:=aB J.o p1;(have T:O ((b++[(⟨⟨aZ H j,i,y.1⟩, .slice R (aZ H j).args.length S, .slice A y.1.length B⟩:Sv)]).map (·.s)=((n.take (k+1)).map (·.1)).filterMap (tF p i H)):=by show _=_;rw[aV.o,a4,<-HQ.o,cB];rfl);clear hz a5 a4 b6 b7 p0 p1 ca cg aT;have cu:j<H.length:=K;generalize aZ H j=f at *;have g1:decide ((0:Int)<=(j:Int))=true:=aQ oM;go_upto_region 8 with fail;have cz:=J.o.size;go_wp2_with(at_builtin;refine fX _ rfl (.tmp 45) (.tmp 53) 71 rfl d.heap.size 80 i0 _ 4 64 Tryz.underlying71 cd ci cj ck rfl dE _ _ _ rfl (ac.o.alloc _) ⟨w4.heap.size,0,none⟩ 1 1 [.int .i64 f.z, .slice R f.args.length S, .int .i64 i, .slice A y.1.length B] rfl rfl ?c1 ?c2 ?c3 ?c4 ?c5 ?_);(case c1=>exact aJQ w4 _ _ _ _ 80);(case c2=>intro u hu;simp at hu;rcases hu with rfl|rfl|rfl|rfl<;>rfl);(case c3=>unfold maxLen;omega);(case c4=>omega);(case c5=>first|omega|(simp;omega));intro cG w6 ap b9 _;obtain⟨c6,c7,rfl⟩:=bJ ap;have bn:O (Below d.heap.size d w6):=(J.o.alloc J.o.size _).grown b9 sO (fun k hk=>(ac.o.lt k hk).1);(have bv:O (w6.ownsRow d.heap.size 80 4 (.slice c6 (b.length+1) c7) (b++[(⟨⟨f,i,y.1⟩, .slice R f.args.length S, .slice A y.1.length B⟩:Sv)]).length ((b++[(⟨⟨f,i,y.1⟩, .slice R f.args.length S, .slice A y.1.length B⟩:Sv)]).map jO).flatten):=by show World.ownsRow _ _ _ _ _ _ _;rw[bA,cB,fZ];simpa[jO]using ap);have bW:O (∀x,x∈b++[(⟨⟨f,i,y.1⟩, .slice R f.args.length S, .slice A y.1.length B⟩:Sv)]->DX l.heap.size d x):=fun x C=>by
    rcases dP.mp C with C|C
    ·exact HS.o x C
    rcases cQ.mp C with rfl;exact bu.o
   clear ap b9 q0 q1;go_wp2_with fail;go_roundw;(case rel=>exact⟨k+1,_,an,gN,bv.o,T.o,bW.o,by rw[bA];exact zX ce,bn.o⟩);case measure=>exact mI
  (have T:O (b.map (·.s)=yC p M i):=by show _=_;rw[HQ.o,dU oM,ad.o];rfl);have bp:O (BW w.heap.size wr (.slice ao b.length co) b):=⟨gL HO.o (bH HB.o.size ae.o.size),fun x C=>((HS.o x C).u G.o).le HB.o.size⟩;have bo:O _:=V.o wr a8.o;go_wp2_with fail;go_ret;exact⟨_,b,rfl,T.o,bp.o,bo.o⟩
def IA:Value->Nat
 | .slice _ n _=>n
 |_=>0
def vB:Option (List aN)->Int
 |some _=>0
 |none=>2
theorem rO{p:bC}(b:sC p){f:aN}(h:iQ p.g f):f.args.length<=3:=by have d:=b.ar f.z.toNat (by have :=h.p0;have :=h.p1;omega);have :=h.al;omega
theorem OG{p:bC}{k:Int}{m S:List aN}(d:Ym p)(b:jL p m)(h:jR p k m S):jL p S:=(oF d b h).1
theorem aM7(p:bC)(k:Int)(d:List aN)(va vn vr vl vm:Value)(w:World)(V:iU w va vn vr p)(hF:jK p)(b6:iR w vr)(hc:dJ p=0)(a6:Ym p)(hL:dM w vl (iM p))(hM:dA w vm d)(hS:jL p d)(b0:d.length<=60):
 Calls Tryz.prog 115 #[eN va vn vr,vl, .int .i64 k,vm] w fun e w'=>∃v o,rD p k d o/\e=.returned (.tuple #[v, .int .i64 (vB o)])/\dA w' v (o.getD [])/\Below w.heap.size w w':=by
 obtain⟨J,L,rfl,_⟩:=id V.ar;obtain⟨K,M,rfl,_⟩:=id V.nm;obtain⟨E,A,rfl,b3⟩:=id V.rl;obtain⟨al,cl,rfl,b2⟩:=id hL;have b7:(iM p).length=p.g.length:=pM p;have bT:=(aH w.heap.size w).alloc (aE _) (pB J L K M E A p);have aq:O _:=aR w (pB J L K M E A p);have ap:O (Below w.heap.size w _):=bT;have aF:O _:=bR hM bT;have HP:O (iU w (.slice J p.g.length L) (.slice K p.q.length M) (.slice E p.m.length A) p/\jK p/\iR w (.slice E p.m.length A)):=⟨V,hF,b6⟩;have y:O (dJ p=0/\Ym p/\jL p d/\d.length<=60):=⟨hc,a6,hS,b0⟩;have bj:O _:=b3;have be:O _:=b2;have bf:O _:=b7;have I:O (∀T,jR p k d T->jL p T):=fun T hT=>OG a6 hS hT;have bq:d.length<=2060:=oM;have bX:p.m.length<=12:=a6.ok.r12;clear V hF b6 hM hL b3 b2 bT hS b0 a6 hc b7
 go_enter Tryz.func115,Tryz.ntmps115
 go_wp2_with fail;generalize w.alloc (pB J L K M E A p)=w1 at *;go_loopw [3] (fun m wr=>∃S:List aN,O (jR p k d S)/\S.length<=2060/\O (dA wr m S)/\O (Below w.heap.size w wr)/\O (wr.heap[w.heap.size]?=some (pB J L K M E A p))) (fun m _=>2061-IA m);case atStart=>exact⟨d,jR.refl,bq,aF.o,ap.o,aq.o⟩
 case round=>
  clear aF ap aq;obtain⟨wo,bx⟩:∃wo,wo=wr:=⟨_,rfl⟩;subst bx;obtain⟨S,Y,br,aw,n,B⟩:=hrel;obtain⟨am,cm,rfl,_⟩:=id aw.o;(have U:wo.cell? ⟨w.heap.size,2,none⟩=some (.slice E p.m.length A):=cH B.o);go_wp2_with fail;clear U;go_loopw [3,20] (fun m iv wr=>∃(i:Nat)(T:List aN),i<=p.m.length/\iv=.int .i64 i/\O (jR p k d T)/\O (∀f,f∈S->f∈T)/\T.length<=2060/\O (T=S->UK p k S i)/\O (dA wr m T)/\O (Below w.heap.size w wr)/\O (wr.heap[w.heap.size]?=some (pB J L K M E A p))) (fun _ iv _=>p.m.length-(intOf iv).toNat);case atStart=>exact⟨0,S,bG _,rfl,Y.o,fun _ h=>h,br,fun _ j hj=>absurd hj (nZ j),aw.o,n.o,B.o⟩
  case round=>
   clear n B;obtain⟨D,bw⟩:∃D,D=wr:=⟨_,rfl⟩;subst bw;obtain⟨i,T,hi,rfl,C,R,b4,ae,Q,n,B⟩:=hrel;obtain⟨bz,bN,rfl,_⟩:=id Q.o;by_cases F:i<p.m.length
   ·obtain⟨b,b9,rfl,p0,⟨vt,p1,hT⟩,p2,⟨vb,p3,bo⟩,p4⟩:=rH bj.o i F;obtain⟨at_,ct,rfl,_⟩:=hT;obtain⟨ab,cb,rfl,_⟩:=bo;have hr:kX p.g (aW p.m i):=y.o.2.1.ok.c _ (pS F);have ad:O _:=pS F;have aa:O _:=LP y.o.1 (I.o T C.o) F;have ay:O _:=FZ y.o.2.1.ok (I.o T C.o) F;obtain⟨s,ao⟩:∃s:Nat,(aW p.m i).z=s:=⟨(aW p.m i).z.toNat,by have :=hr.p0;omega⟩;(have bv:s<(iM p).length:=by have :=hr.p1;rw[bf.o];omega);obtain⟨lb,bY,rfl,an⟩:=qY be.o s bv;(have az:O (oE p (aW p.m i).z=bM (iM p) s):=by show _=_;unfold oE bM;rw[ao,fJ]);have q0:=aB n.o p0;have q1:=aB n.o p1;have q2:=aB n.o p2;have q3:=aB n.o p3;have q4:=aB n.o p4;rw[ao]at q0;(have U:D.cell? ⟨w.heap.size,2,none⟩=some (.slice (some ⟨b,b9,none⟩) p.m.length A):=cH B.o);clear p0 p1 p2 p3 p4 hr ao;generalize (aW p.m i).p.length=tl at *;generalize (aW p.m i).body.length=bl at *;generalize (aW p.m i).x=fo at *;generalize (aW p.m i).vars=vs at *;go_upto_region 5 with fail;have a5:Below D.heap.size D (D.alloc (.cells #[.int .i64 s, .slice at_ tl ct, .int .i64 fo, .slice ab bl cb, .int .i64 vs] 40)):=(aH _ _).alloc (aE _) _;have aI:O _:=aR D (.cells #[.int .i64 s, .slice at_ tl ct, .int .i64 fo, .slice ab bl cb, .int .i64 vs] 40);have G:O _:=n.o.trans (a5.mono n.o.size);have H:O _:=(a5.block _ (bP B.o)).trans B.o;have X:O _:=bR Q.o a5;clear q0 q1 q2 q3 q4 U n B Q a5;generalize bp:D.heap.size=RB at *;generalize D.alloc (.cells #[.int .i64 s, .slice at_ tl ct, .int .i64 fo, .slice ab bl cb, .int .i64 vs] 40)=W at *;clear bp;(have r0:W.cell? ⟨RB,0,none⟩=some (.int .i64 s):=cH aI.o);have l0:=aB G.o an;by_cases P:oE p (aW p.m i).z=k
    ·(have g1:(bM (iM p) s != k)=false:=by rw[<-az.o];simpa using P);(have c0:W.cell? ⟨w.heap.size,0,none⟩=some (.slice J p.g.length L):=cH H.o);(have c1:W.cell? ⟨w.heap.size,1,none⟩=some (.slice K p.q.length M):=cH H.o);(have U:W.cell? ⟨w.heap.size,2,none⟩=some (.slice (some ⟨b,b9,none⟩) p.m.length A):=cH H.o);have Z:O _:=I.o T C.o;have aS:O (∀f,f∈T->f.args.length<=3):=fun f r=>rO y.o.2.1.ok (Z.o.right f r);have HC:O _:=QQ p i T _ _ _ _ W (HP.o.1.u G.o) HP.o.2.1 (HP.o.2.2.u HP.o.1.rl G.o) X.o oM (fun f r=>by have :=aS.o f r;unfold fW;omega);have HK:O _:=P;clear P an;go_wp2_with fail;refine Calls.mono HC.o ?_;rintro _ w4 ⟨vh,rfl,a3,a4⟩;have a8:O (Below w.heap.size w w4):=G.o.trans (a4.mono G.o.size);have av:O _:=(a4.block _ (bP H.o)).trans H.o;have bc:O _:=bR X.o a4;clear a4 HC c0 c1 U r0 l0 G H X aI;rcases aa.o with⟨N,bs,hW⟩|⟨N,b5⟩
     ·have ax:O _:=ay.o N;rw[ax.o]at a3;have ac:O _:=a3.toV;obtain⟨ah,ch,rfl,_⟩:=id ac.o;have bu:(bS T (aW p.m i)).length<=2000:=bH QR hW;have aV:O _:=aMD T (bS T (aW p.m i)) _ _ w4 bc.o ac.o oM oM (fun f r=>by have :=aS.o f r;omega) (fun f r=>by have :=rO y.o.2.1.ok (tZ (y.o.2.1.ok.c _ ad.o) Z.o.right r);omega);have bm:O (jR p k d (mO T (bS T (aW p.m i)))):=jR.step C.o (FY ad.o HK.o);(have bt:(mO T (bS T (aW p.m i))).length<=2060:=by have :=Zj (l:=T) (m:=bS T (aW p.m i));omega);have bn:O (∀f,f∈S->f∈mO T (bS T (aW p.m i))):=fun f r=>sR.mpr (.inl (R.o f r));have bi:O (mO T (bS T (aW p.m i))=S->UK p k S (i+1)):=fun e j hj a7=>by
       (have af:T=S:=by refine OH (I.o S Y.o).up Z.o.up R.o ?_;have :=Fd (T:=S) Z.o.up (fun f r=>by rw[<-e];exact sR.mpr (.inl r));exact this);by_cases ak:j<i
       ·exact ae.o af j ak a7
       obtain rfl:j=i:=oM;rw[<-af];exact⟨bs,hW,fun f r=>by rw[af,<-e];exact sR.mpr (.inr r)⟩
      rw[N];clear a3 N hW bu ac ax ay aa;go_wp2_with fail;refine Calls.mono aV.o ?_;rintro _ w5 ⟨vu,rfl,ai,aj⟩;have bd:O _:=ai;obtain⟨au,cu,rfl,_⟩:=id ai;have ba:O (Below w.heap.size w w5):=a8.o.trans (aj.mono a8.o.size);have bb:O _:=(aj.block _ (bP av.o)).trans av.o;clear ai aj aV;go_wp2_with fail;go_roundw;(case rel=>exact⟨i+1,_,F,gN,bm.o,bn.o,bt,bi.o,bd.o,ba.o,bb.o⟩);case measure=>exact mI
     have bg:O (rD p k d none):=OF y.o.2.1 y.o.2.2.1 C.o (fun hs=>by
      rcases b5 with h|h
      ·have :=hs.len;omega
      have :=hs.way _ ad.o HK.o;omega)
     obtain⟨q9,_,b1,_⟩:=a3;obtain⟨a9,c9,rfl⟩:=bJ b1;rw[N];clear N b5 b1 aa;go_wp2_with fail;refine dF (fM rfl _ _ _) rfl ?_;exact⟨_,none,bg.o,rfl,⟨none,0,rfl,⟨aE _,fun _=>rfl⟩, .inl rfl⟩,a8.o⟩
    (have g1:(bM (iM p) s != k)=true:=by rw[<-az.o];simpa using P);have bh:O (T=S->UK p k S (i+1)):=fun e j hj a7=>by
     by_cases ak:j<i
     ·exact ae.o e j ak a7
     obtain rfl:j=i:=oM;exact absurd a7 P
    clear P an;go_wp2_with fail;go_roundw;(case rel=>exact⟨i+1,T,F,gN,C.o,R.o,b4,bh.o,X.o,G.o,H.o⟩);case measure=>exact mI
   have bU:decide (i<p.m.length)=false:=aJ F;obtain rfl:i=p.m.length:=oM;have b8:=Fd (I.o S Y.o).up R.o;by_cases ag:T.length=S.length
   ·have aT:O (T=S):=OH (I.o S Y.o).up (I.o T C.o).up R.o oM;(have bk:O (rD p k d (some T)):=by show rD p k d (some T);have :=ae.o aT.o;rw[<-aT.o]at this;exact Zd y.o.2.2.1 y.o.2.2.2 C.o this);(have g:((T.length:Int)==S.length)=true:=by simp[ag]);clear ag b8;go_wp2_with fail;refine dF (fM rfl _ _ _) rfl ?_;exact⟨_,some T,bk.o,rfl,Q.o,n.o⟩
   (have g:((T.length:Int)==S.length)=false:=by simp;omega);have bW:S.length<T.length:=oM;clear ag b8;go_wp2_with fail;go_roundw;(case rel=>exact⟨T,C.o,b4,Q.o,n.o,B.o⟩);case measure=>simp[IA];omega
def kM(p:bC)(l:List aN):Int:=if 60<l.length then 2 else kK p l
theorem Aw(p:bC)(facts:List aN)(va vn vr Z:Value)(w:World)(F:iU w va vn vr p)(S:jK p)(W:dA w Z facts)(a8:facts.length<=9223372036854775807)(U:∀f,f∈facts->fW f):
 Calls Tryz.prog 114 #[eN va vn vr,Z] w fun e w'=>e=.returned (.int .i64 (kM p facts))/\Below w.heap.size w w':=by
 obtain⟨l,x,rfl,_⟩:=id F.ar;obtain⟨n,y,rfl,_⟩:=id F.nm;obtain⟨r,A,rfl,_⟩:=id F.rl;obtain⟨af,cf,rfl,_,T⟩:=id W;have s:=(aH w.heap.size w).alloc (aE _) (pB l x n y r A p);have i:O _:=aR w (pB l x n y r A p);have M:O (Below w.heap.size w _):=s;have HP:O (iU w (.slice l p.g.length x) (.slice n p.q.length y) (.slice r p.m.length A) p):=F;have HF:O _:=S;have a4:O _:=T;have a5:O _:=U;clear F S W T U s
 go_enter Tryz.func114,Tryz.ntmps114
 go_upto_region 1 with fail;generalize w.alloc (pB l x n y r A p)=w2 at *;by_cases L:60<facts.length
 ·(have I:O (kM p facts=2):=by show _=_;unfold kM;rw[if_pos L]);have g6:decide (60<facts.length)=true:=aQ L;go_wp2_with fail;go_ret;exact⟨by rw[I.o];rfl,M.o⟩
 (have I:O (kM p facts=kK p facts):=by show _=_;unfold kM;rw[if_neg L]);have g6:decide (60<facts.length)=false:=aJ L;go_wp2_with fail;go_loopw [13] (fun iv wr=>∃k:Nat,k<=facts.length/\iv=.int .i64 k/\O (kK p facts=kK p (facts.drop k))/\O (Below w.heap.size w wr)/\O (wr.heap[w.heap.size]?=some (pB l x n y r A p))) (fun iv _=>facts.length-(intOf iv).toNat);case atStart=>exact⟨0,bG _,rfl,rfl,M.o,i.o⟩
 case round=>
  clear M i;obtain⟨k,hk,rfl,D,d,i⟩:=hrel;by_cases G:k<facts.length
  ·obtain⟨b,aa,rfl,X,fv,Y,V⟩:=qJ a4.o k G;have q0:=aB d.o X;have q1:=aB d.o Y;have a7:O (dM w fv (aZ facts k).args):=V;obtain⟨J,K,rfl,_⟩:=V;have a6:O (fW (aZ facts k)):=a5.o _ (mT facts k G);have H:O _:=KV p facts k G;clear X Y;generalize aZ facts k=f at *;go_upto_region 6 with fail;have s:=(aH wr.heap.size wr).alloc (aE _) (.cells #[.int .i64 f.z, .slice J f.args.length K] 55);have N:O _:=aR wr (.cells #[.int .i64 f.z, .slice J f.args.length K] 55);have C:O _:=d.o.trans (s.mono d.o.size);have j:O _:=(s.block _ (bP i.o)).trans i.o;clear q0 q1 s d i;generalize wr.alloc (.cells #[.int .i64 f.z, .slice J f.args.length K] 55)=B at *;generalize wr.heap.size=R at *;(have c0:B.cell? ⟨w.heap.size,0,none⟩=some (.slice l p.g.length x):=cH j.o);(have c1:B.cell? ⟨w.heap.size,1,none⟩=some (.slice n p.q.length y):=cH j.o);(have c2:B.cell? ⟨w.heap.size,2,none⟩=some (.slice r p.m.length A):=cH j.o);(have f0:B.cell? ⟨R,0,none⟩=some (.int .i64 f.z):=cH N.o);(have f1:B.cell? ⟨R,1,none⟩=some (.slice J f.args.length K):=cH N.o);go_wp2_with fail;refine Calls.mono (TJ p _ _ _ f.z f.args _ B (iU.u HP.o C.o) HF.o (aM a7.o C.o) a6.o) ?_;rintro _ w3 ⟨rfl,P⟩;have Q:O _:=C.o.trans (P.mono C.o.size);have a3:O _:=(P.block _ (bP j.o)).trans j.o;clear c0 c1 c2 f0 f1 P C j N;by_cases v:nP p f.z f.args=0
   ·(have ge:(nP p f.z f.args != 0)=false:=by simpa using v);(have E:O (kK p facts=kK p (facts.drop (k+1))):=by show _=_;rw[D.o,H.o,if_neg (by simpa using v)]);clear v D H;go_wp2_with fail;go_roundw;(case rel=>exact⟨k+1,G,gN,E.o,Q.o,a3.o⟩);case measure=>exact mI
   (have ge:(nP p f.z f.args != 0)=true:=by simpa using v);(have E:O (kM p facts=nP p f.z f.args):=by show _=_;rw[I.o,D.o,H.o,if_pos (by simpa using v)]);clear v D H;go_wp2_with fail;go_ret;exact⟨by rw[E.o];rfl,Q.o⟩
  have a9:decide (k<facts.length)=false:=aJ G;(have E:O (kM p facts=0):=by show _=_;rw[I.o,D.o,bD oM];rfl);go_wp2_with fail;go_ret;exact⟨by rw[E.o];rfl,d.o⟩
theorem ZM{p:bC}{m:List aN}{n:Nat}(h:qT p m n none):∀k,qT p m (n+k) none
 |0=>h
 |k+1=>⟨none,ZM h k,rfl⟩
theorem GA{p:bC}{m:List aN}{n N:Nat}(h:qT p m n none)(b:n<=N):qT p m N none:=by have :=ZM h (N-n);rwa[Nat.add_sub_cancel' b]at this
def aX(p:bC)(l o:List aN):Int:=iD (oQ p) (iD (kM p l) (kM p o))
def pX(p:bC)(l o:List aN)(e:Int)(S:List aN):Prop:=
 (¬aX p l o=0/\e=aX p l o/\S=[])\/(aX p l o=0/\∃x,oV p l x/\e=vB x/\S=x.getD [])
theorem OE{p:bC}(h:oQ p=0):dJ p=0/\uW p=true:=by
 unfold oQ at h;split at h
 ·rename_i b;refine⟨b,?_⟩;split at h
  ·assumption
  cases h
 rename_i b;exact absurd h b
theorem sQ{p:bC}{l:List aN}(b:dJ p=0)(h:kM p l=0):l.length<=60/\∀f,f∈l->iQ p.g f:=by
 unfold kM at h;split at h
 ·cases h
 exact⟨oM,(KS b).mp h⟩
theorem RQ(l:List aN):(dR l).length<=l.length:=nW (kW (kV l).1) fun _ b=>iK.mp b
theorem tY{p:bC}{l o:List aN}(h:aX p l o=0):dJ p=0/\uW p=true/\kM p l=0/\kM p o=0:=by obtain⟨b,d⟩:=xM h;obtain⟨e,f⟩:=xM d;obtain⟨g,i⟩:=OE b;exact⟨g,i,e,f⟩
theorem tX{p:bC}{l o:List aN}{e g:Int}{S f:List aN}(h:pX p l o e S)(i:pX p l o g f):e=g/\S=f:=by
 rcases h with⟨b,rfl,rfl⟩|⟨b,x,k,rfl,rfl⟩
 ·rcases i with⟨_,rfl,rfl⟩|⟨d,_⟩
  ·exact⟨rfl,rfl⟩
  exact absurd d b
 rcases i with⟨d,_⟩|⟨_,r,m,rfl,rfl⟩
 ·exact absurd b d
 obtain⟨j,n,q,_⟩:=tY b;have :=Yz (vW j n) (sQ j q).2 k m;subst this;exact⟨rfl,rfl⟩
theorem LA(p:bC)(l o:List aN)(va vn vr vl vo:Value)(w:World)(V:iU w va vn vr p)(hF:jK p)(b2:iR w vr)(hV:dA w vl l)(b0:l.length<=9223372036854775807)(aV:∀f,f∈l->fW f)(hO:dA w vo o)(aS:o.length<=9223372036854775807)(aI:∀f,f∈o->fW f):
 Calls Tryz.prog 68 #[eN va vn vr,vl,vo] w fun e w'=>∃v c S,e=.returned (.tuple #[v, .int .i64 c])/\pX p l o c S/\dA w' v S/\Below w.heap.size w w':=by
 obtain⟨G,K,rfl,_⟩:=id V.ar;obtain⟨H,L,rfl,_⟩:=id V.nm;obtain⟨B,D,rfl,_⟩:=id V.rl;obtain⟨al,cl,rfl,_⟩:=id hV;obtain⟨ao,co,rfl,_⟩:=id hO;have bT:=(aH w.heap.size w).alloc (aE _) (pB G K H L B D p);have P:O _:=aR w (pB G K H L B D p);have HB:O (Below w.heap.size w _):=bT;have HP:O (iU w (.slice G p.g.length K) (.slice H p.q.length L) (.slice B p.m.length D) p/\jK p/\iR w (.slice B p.m.length D)):=⟨V,hF,b2⟩;have HV:O (dA w (.slice al l.length cl) l/\l.length<=9223372036854775807/\∀f,f∈l->fW f):=⟨hV,b0,aV⟩;have HO:O (dA w (.slice ao o.length co) o/\o.length<=9223372036854775807/\∀f,f∈o->fW f):=⟨hO,aS,aI⟩;have HC:O _:=Eg p _ _ _ _ (V.u bT) hF;clear V hF b2 hV b0 aV hO aS aI bT
 go_enter Tryz.func68,Tryz.ntmps68
 go_upto_region 1 with fail;generalize w.alloc (pB G K H L B D p)=w1 at *;(have c0:w1.cell? ⟨w.heap.size,0,none⟩=some (.slice G p.g.length K):=cH P.o);(have I:w1.cell? ⟨w.heap.size,1,none⟩=some (.slice H p.q.length L):=cH P.o);(have J:w1.cell? ⟨w.heap.size,2,none⟩=some (.slice B p.m.length D):=cH P.o);go_wp2_with fail;refine Calls.mono HC.o ?_;rintro _ E ⟨vv,rfl,hI,ai⟩;have a4:O (Below w.heap.size w E):=HB.o.trans (ai.mono HB.o.size);have ab:O _:=(ai.block _ (bP P.o)).trans P.o;obtain⟨av,cv,rfl,_⟩:=id hI;clear c0 I J ai HC HB P;by_cases C:oQ p=0
 ·obtain⟨a3,aa⟩:=OE C;have R:O (dJ p=0/\Ym p):=⟨a3,vW a3 aa⟩;have bl:p.g.length<=10:=R.o.2.ok.a10;(have ae:O (dM E (.slice av (xE p).length cv) (iM p)):=by show dM _ _ _;rw[<-(GM a3 aa).2];exact hI);(have b3:(xE p).length=p.g.length:=by rw[(GM a3 aa).2];exact pM p);(have F:O (aX p l o=iD (kM p l) (kM p o)):=by show _=_;unfold aX;rw[C];rfl);rw[C];rw[b3]at ae ⊢;clear C a3 aa hI b3;go_wp2_with fail;have a9:Below E.heap.size E (E.alloc (.cells #[.slice al l.length cl, .slice ao o.length co] 27)):=(aH _ _).alloc (aE _) _;have aw:O _:=aR E (.cells #[.slice al l.length cl, .slice ao o.length co] 27);have N:O _:=a4.o.trans (a9.mono a4.o.size);have am:O _:=(a9.block _ (bP ab.o)).trans ab.o;have b8:O _:=aM ae.o a9;clear a4 ab ae a9;generalize E.alloc (.cells #[.slice al l.length cl, .slice ao o.length co] 27)=W at *;generalize E.heap.size=RB at *;go_loopw [27] (fun iv wr=>∃k:Nat,k<=2/\iv=.int .i64 k/\O (0<k->kM p l=0)/\O (1<k->kM p o=0)/\O (Below W.heap.size W wr)) (fun iv _=>2-(intOf iv).toNat);case atStart=>exact⟨0,oM,rfl,fun h=>absurd h oM,fun h=>absurd h oM,aH _ _⟩
  case round=>
   obtain⟨r,bi⟩:∃r,r=wr:=⟨_,rfl⟩;subst bi;obtain⟨k,hk,rfl,af,au,d⟩:=hrel;have y:O (Below w.heap.size w r):=N.o.trans (d.o.mono N.o.size);have Z:O _:=(d.o.block _ (bP aw.o)).trans aw.o;have A:O _:=(d.o.block _ (bP am.o)).trans am.o;(have c0:r.cell? ⟨w.heap.size,0,none⟩=some (.slice G p.g.length K):=cH A.o);(have I:r.cell? ⟨w.heap.size,1,none⟩=some (.slice H p.q.length L):=cH A.o);(have J:r.cell? ⟨w.heap.size,2,none⟩=some (.slice B p.m.length D):=cH A.o);(have d0:r.cell? ⟨RB,0,none⟩=some (.slice al l.length cl):=cH Z.o);(have d1:r.cell? ⟨RB,1,none⟩=some (.slice ao o.length co):=cH Z.o);have bh:k=0\/k=1\/k=2:=oM;rcases bh with rfl|rfl|rfl
   ·have X:O _:=Aw p l _ _ _ _ r (HP.o.1.u y.o) HP.o.2.1 (bR HV.o.1 y.o) HV.o.2.1 HV.o.2.2;go_wp2_with fail;refine Calls.mono X.o ?_;rintro _ j ⟨rfl,z⟩;have s:O (Below W.heap.size W j):=d.o.trans (z.mono d.o.size);have ac:O (Below w.heap.size w j):=N.o.trans (s.o.mono N.o.size);clear c0 I J d0 d1 z X Z A d y;by_cases b:kM p l=0
    ·(have g:(kM p l != 0)=false:=by simpa using b);have i:O _:=b;clear b;go_wp2_with fail;go_roundw;(case rel=>exact⟨1,oM,gN,fun _=>i.o,fun h=>absurd h oM,s.o⟩);case measure=>simp[intOf]
    (have g:(kM p l != 0)=true:=by simpa using b);have i:O (aX p l o=kM p l/\¬kM p l=0):=⟨by rw[F.o];unfold iD;rw[if_neg b],b⟩;clear b;go_wp2_with fail;refine dF (fM rfl _ _ _) rfl ?_;exact⟨_,_,[],rfl, .inl ⟨by rw[i.o.1];exact i.o.2,i.o.1.symm,rfl⟩,⟨none,0,rfl,⟨aE _,fun _=>rfl⟩, .inl rfl⟩,ac.o⟩
   ·have X:O _:=Aw p o _ _ _ _ r (HP.o.1.u y.o) HP.o.2.1 (bR HO.o.1 y.o) HO.o.2.1 HO.o.2.2;go_wp2_with fail;refine Calls.mono X.o ?_;rintro _ j ⟨rfl,z⟩;have s:O (Below W.heap.size W j):=d.o.trans (z.mono d.o.size);have ac:O (Below w.heap.size w j):=N.o.trans (s.o.mono N.o.size);have Y:O (kM p l=0):=af.o oM;clear c0 I J d0 d1 z X Z A d y af au;by_cases b:kM p o=0
    ·(have g:(kM p o != 0)=false:=by simpa using b);have i:O _:=b;clear b;go_wp2_with fail;go_roundw;(case rel=>exact⟨2,oM,gN,fun _=>Y.o,fun _=>i.o,s.o⟩);case measure=>simp[intOf]
    (have g:(kM p o != 0)=true:=by simpa using b);have i:O (aX p l o=kM p o/\¬kM p o=0):=⟨by rw[F.o];unfold iD;rw[if_pos Y.o],b⟩;clear b;go_wp2_with fail;refine dF (fM rfl _ _ _) rfl ?_;exact⟨_,_,[],rfl, .inl ⟨by rw[i.o.1];exact i.o.2,i.o.1.symm,rfl⟩,⟨none,0,rfl,⟨aE _,fun _=>rfl⟩, .inl rfl⟩,ac.o⟩
   have Y:O (kM p l=0):=af.o oM;have b6:O (kM p o=0):=au.o oM;(have HZ:O (aX p l o=0):=by show _=_;rw[F.o,Y.o,b6.o];rfl);have a7:O _:=sQ R.o.1 Y.o;have bc:O _:=nM a7.o.2;have be:=RQ l;(have ba:O ((dR l).length<=60):=by show _<=_;have :=a7.o.1;omega);have b4:O (∀f,f∈l->f.args.length<=3):=fun f hf=>rO R.o.2.ok (a7.o.2 f hf);have ay:O _:=ME l _ r (bR HV.o.1 y.o) (by have :=a7.o.1;omega) (fun f hf=>by have :=b4.o f hf;omega);have aq:O _:=aM b8.o d.o;clear c0 I J d0 d1 be;go_wp2_with fail;refine Calls.mono ay.o ?_;rintro _ j ⟨vs,rfl,aF,z⟩;have s:O (Below w.heap.size w j):=y.o.trans (z.mono y.o.size);have az:O _:=(z.block _ (bP A.o)).trans A.o;have b9:O _:=aM aq.o z;have an:O _:=aF.toV;obtain⟨bk,cs,rfl,_⟩:=id an.o;clear aF z ay Z A d y aq;go_wp2_with fail;go_loopw [13,42] (fun m iv wr=>∃(n:Nat)(T:List aN),n<=p.g.length/\iv=.int .i64 n/\O (qT p (dR l) n (some T))/\T.length<=60/\O (dA wr m T)/\O (Below j.heap.size j wr)) (fun _ iv _=>p.g.length-(intOf iv).toNat);case atStart=>exact⟨0,dR l,bG _,rfl,rfl,ba.o,an.o,aH _ _⟩
   case round=>
    obtain⟨M,bj⟩:∃M,M=wr:=⟨_,rfl⟩;subst bj;obtain⟨n,T,hn,rfl,ag,bf,ad,Q⟩:=hrel;obtain⟨aT,cT,rfl,_⟩:=id ad.o;have a6:O (Below w.heap.size w M):=s.o.trans (Q.o.mono s.o.size);have a8:O _:=(Q.o.block _ (bP az.o)).trans az.o;by_cases aj:n<p.g.length
    ·(have c0:M.cell? ⟨w.heap.size,0,none⟩=some (.slice G p.g.length K):=cH a8.o);(have I:M.cell? ⟨w.heap.size,1,none⟩=some (.slice H p.q.length L):=cH a8.o);(have J:M.cell? ⟨w.heap.size,2,none⟩=some (.slice B p.m.length D):=cH a8.o);have bd:O _:=lZ R.o.2 bc.o ag.o;have ap:O _:=aM7 p n T _ _ _ _ _ M (HP.o.1.u a6.o) HP.o.2.1 (HP.o.2.2.u HP.o.1.rl a6.o) R.o.1 R.o.2 (aM b9.o Q.o) ad.o bd.o bf;go_wp2_with fail;refine Calls.mono ap.o ?_;rintro _ w5 ⟨v5,x,hx,rfl,ah,b1⟩;have ak:O (Below j.heap.size j w5):=Q.o.trans (b1.mono Q.o.size);have b5:O (Below w.heap.size w w5):=s.o.trans (ak.o.mono s.o.size);have b7:O _:=ah;obtain⟨a5,c5,rfl,_⟩:=id ah;have ax:O (qT p (dR l) (n+1) x):=⟨some T,ag.o,hx⟩;clear ah b1 ap c0 I J a8 Q a6
     cases x with
     |some U=>
      have bg:U.length<=60:=hx.2.2.len;have b:vB (some U)=0:=rfl;rw[b];clear b hx;go_wp2_with fail;go_roundw;(case rel=>exact⟨n+1,U,aj,gN,ax.o,bg,b7.o,ak.o⟩);case measure=>exact mI
     |none=>
      have b:vB none=2:=rfl;rw[b];clear b hx;go_wp2_with fail;refine dF (fM rfl _ _ _) rfl ?_;exact⟨_,_,[],rfl, .inr ⟨HZ.o,none,GA ax.o aj,rfl,rfl⟩,⟨none,0,rfl,⟨aE _,fun _=>rfl⟩, .inl rfl⟩,b5.o⟩
    have bm:decide (n<p.g.length)=false:=aJ aj;(have bb:O (oV p l (some T)):=by have e:n=p.g.length:=oM;show qT _ _ _ _;rw[<-e];exact ag.o);go_wp2_with fail;refine dF (fM rfl _ _ _) rfl ?_;exact⟨_,_,T,rfl, .inr ⟨HZ.o,some T,bb.o,rfl,rfl⟩,ad.o,a6.o⟩
 (have g1:(oQ p != 0)=true:=by simpa using C);have F:O (aX p l o=oQ p/\¬oQ p=0):=⟨by unfold aX iD;rw[if_neg C],C⟩;clear C;go_wp2_with fail;refine dF (fM rfl _ _ _) rfl ?_;exact⟨_,_,[],rfl, .inl ⟨by rw[F.o.1];exact F.o.2,F.o.1.symm,rfl⟩,⟨none,0,rfl,⟨aE _,fun _=>rfl⟩, .inl rfl⟩,a4.o⟩
theorem QS(p:bC)(l:List aN)(va vn vr I:Value)(w:World)(b:iU w va vn vr p)(D:jK p)(H:iR w vr)(A:dA w I l)(Q:l.length<=9223372036854775807)(F:∀f,f∈l->fW f):
 Calls Tryz.prog 27 #[eN va vn vr,I] w fun e J=>∃v c S,e=.returned (.tuple #[v, .int .i64 c])/\pX p l [] c S/\dA J v S/\Below w.heap.size w J:=by
 obtain⟨j,r,rfl,_⟩:=id b.ar;obtain⟨k,s,rfl,_⟩:=id b.nm;obtain⟨n,x,rfl,_⟩:=id b.rl;obtain⟨T,V,rfl,_⟩:=id A;have d:=(aH w.heap.size w).alloc (aE _) (pB j r k s n x p);have i:O _:=aR w (pB j r k s n x p);have y:O (Below w.heap.size w _):=d;have C:O _:=LA p l [] _ _ _ _ (.slice none 0 0) _ (b.u d) D (H.u b.rl d) (bR A d) Q F ⟨none,0,rfl,⟨aE _,fun _=>rfl⟩, .inl rfl⟩ (bG _) (fun _ h=>absurd h sI);clear b D H A F d
 go_enter Tryz.func27,Tryz.ntmps27
 go_upto_region 1 with fail;generalize w.alloc (pB j r k s n x p)=B at *;(have c0:B.cell? ⟨w.heap.size,0,none⟩=some (.slice j p.g.length r):=cH i.o);(have N:B.cell? ⟨w.heap.size,1,none⟩=some (.slice k p.q.length s):=cH i.o);(have P:B.cell? ⟨w.heap.size,2,none⟩=some (.slice n p.m.length x):=cH i.o);go_wp2_with fail;refine Calls.mono C.o ?_;rintro _ R ⟨v,c,S,rfl,E,z,G⟩;have M:O _:=E;have L:O _:=z;obtain⟨U,W,rfl,_⟩:=id z;have K:O (Below w.heap.size w R):=y.o.trans (G.mono y.o.size);clear G C y i c0 N P E z;go_wp2_with fail;refine dF (fM rfl _ _ _) rfl ?_;exact⟨_,c,S,rfl,M.o,L.o,K.o⟩


theorem vX{p:bC}{l o S:List aN}{c:Int}(h:pX p l o c S)(f:c=0):aX p l o=0/\oV p l (some S):=by
 rcases h with⟨b,d,_⟩|⟨b,x,d,e,g⟩
 ·exact absurd (d.symm.trans f) b
 cases x with
 |none=>rw[f]at e;cases e
 |some T=>rw[g];exact⟨b,d⟩
theorem ZL{p:bC}{l o S:List aN}{c:Int}(h:pX p l o c S)(e:¬c=0):S=[]:=by
 rcases h with⟨_,_,h⟩|⟨_,x,_,b,d⟩
 ·exact h
 cases x with
 |none=>exact d
 |some T=>exact absurd b e
theorem aHW{p:bC}{m:List aN}(d:m.length<=60):∀{n:Nat}{S:List aN},qT p m n (some S)->S.length<=60
 |0,S,h=>by unfold qT at h;injection h with h;subst h;exact d
 |n+1,S,h=>by
  obtain⟨a,_,b⟩:=h
  cases a with
  |none=>cases b
  |some T=>exact b.2.2.len
theorem rN{p:bC}{l o S:List aN}{c:Int}(h:pX p l o c S):S.length<=60/\∀f,f∈S->f.args.length<=3:=by
 by_cases e:c=0
 ·obtain⟨j,d⟩:=vX h e;obtain⟨g,m,n,_⟩:=tY j;obtain⟨k,q⟩:=sQ g n;have i:=vW g m;exact⟨aHW (bH (RQ l) k) d,fun f b=>rO i.ok ((lZ i (nM q) d).right f b)⟩
 rw[ZL h e];exact⟨bG _,fun f b=>absurd b sI⟩
theorem DQ{p:bC}{l o S:List aN}{c:Int}(h:pX p l o c S):∀f,f∈S->fW f:=fun f b=>by have :=(rN h).2 f b;unfold fW;omega
theorem AE(n a b:Int)(w:World):Calls Tryz.prog 66 #[.int .i64 n, .int .i64 a, .int .i64 b] w fun e d=>e=.returned (.bool (dG n a b))/\d=w:=yD n a b w
theorem AN(n:Int)(w:World):Calls Tryz.prog 23 #[.int .i64 n] w fun e b=>e=.returned (.bool (cP n))/\b=w:=by
 go_enter Tryz.func23,Tryz.ntmps23
 go_wp2_with fail;refine(AE _ _ _ _).mono ?_;rintro e d ⟨rfl,rfl⟩;go_wp2_with fail;go_ret;exact⟨rfl,rfl⟩
theorem aCK(l:List dL)(d:Int)(w:World)(n b off B:Nat)(C:0<=d/\d<=8)(A:l.length=n)(H:n<=9223372036854775807)(s:∀i,i<n->IQ w b (off+i*2) (cA l i)):
 Calls Tryz.prog 165 #[.slice (some ⟨b,off,none⟩) n B, .int .i64 d] w fun e D=>e=.returned (.int .i64 (eM d l))/\D=w:=by
 have HN:O (l.length=n):=A;clear A
 go_enter Tryz.func165,Tryz.ntmps165
 go_wp2_with fail;obtain⟨I,J⟩:=C;go_loopw [5] (fun i wr=>∃k:Nat,k<=n/\i=.int .i64 k/\eM d l=aU (kO d) (l.drop k)/\wr=w) (fun i _=>n-(intOf i).toNat);case atStart=>exact⟨0,bG _,rfl,rfl,rfl⟩
 case round=>
  obtain⟨k,G,rfl,y,rfl⟩:=hrel;have r:O (eM d l=aU (kO d) (l.drop k)):=y;clear y;by_cases z:k<n
  ·obtain⟨E,F⟩:=s k z;have f:O (eM d l=iD (kO d (cA l k)) (aU (kO d) (l.drop (k+1)))):=r.o.trans (uP _ _ _ k (by rw[HN.o];exact z));clear s r;generalize cA l k=t at *;go_wp2_with fail;refine(AE _ _ _ _).mono ?_;rintro e K ⟨g,rfl⟩;cases p:dG t.var (-1) (d-1)
   ·rw[p]at g;subst g;(have HV:O (eM d l=5):=by show _=_;rw[f.o,kO,p];rfl);clear f;go_wp2_with fail;go_ret;exact⟨rV,rfl⟩
   rw[p]at g;subst g;(have j:O (kO d t=if !cP t.n||(decide (0<=t.var)&&t.n != 0)then 3 else 0):=by show _=_;rw[kO,p];rfl);clear p;go_wp2_with fail;refine(AN t.n _).mono ?_;rintro e L ⟨g,rfl⟩;cases m:cP t.n
   ·rw[m]at g;subst g;(have HV:O (eM d l=3):=by show _=_;rw[f.o,j.o,m];rfl);clear f j;go_wp2_with fail;go_ret;exact⟨rV,rfl⟩
   rw[m]at g;subst g;by_cases x:0<=t.var
   ·have q:decide (0<=t.var)=true:=aQ x;cases v:(t.n != 0)
    ·(have HV:O (eM d l=aU (kO d) (l.drop (k+1))):=by show _=_;rw[f.o,j.o,m,q,v];rfl);clear f j;go_wp2_with fail;go_roundw;(case rel=>exact⟨k+1,oM,gN,HV.o,by trivial⟩);case measure=>exact mI
    (have HV:O (eM d l=3):=by show _=_;rw[f.o,j.o,m,q,v];rfl);clear f j;go_wp2_with fail;go_ret;exact⟨rV,rfl⟩
   have q:decide (0<=t.var)=false:=aJ x;(have HV:O (eM d l=aU (kO d) (l.drop (k+1))):=by show _=_;rw[f.o,j.o,m,q];rfl);clear f j;go_wp2_with fail;go_roundw;(case rel=>exact⟨k+1,oM,gN,HV.o,by trivial⟩);case measure=>exact mI
  (have HV:O (eM d l=0):=by show _=_;rw[r.o,bD (by rw[HN.o];omega)];rfl);clear s;go_wp2_with fail;go_ret;exact⟨rV,rfl⟩
theorem aCJ(w:World)(d:Int)(ao:Option Addr)(b:Nat):Calls Tryz.prog 165 #[.slice ao 0 b, .int .i64 d] w fun e f=>e=.returned (.int .i64 0)/\f=w:=by
 go_enter Tryz.func165,Tryz.ntmps165
 go_wp2_with fail;refine mG 1 ?_;rw[rounds_succ];go_wp2_with fail;go_ret;exact⟨rfl,rfl⟩
theorem EE(l:List dL)(d:Int)(v:Value)(w:World)(k:0<=d/\d<=8)(j:l.length<=9223372036854775807)(f:fT w v l):
 Calls Tryz.prog 165 #[v, .int .i64 d] w fun e n=>e=.returned (.int .i64 (eM d l))/\n=w:=by
 obtain⟨i,g,rfl,_,f⟩:=f;rcases f with rfl|⟨b,m,rfl,f⟩
 ·exact aCJ w d i g
 exact aCK l d w l.length b m g k rfl j f
structure Mg (w:World) (rb:Obj) (R:Nat) (bs:List Bool) (wr:World):Prop where
 j:Below w.heap.size w wr
 box:wr.heap[w.heap.size]?=some rb
 row:wr.heap[R]?=some (.cells (bs.map Value.bool).toArray 4 (0,0))
 r0:w.heap.size<R
theorem Mg.u{w wr f:World}{e:Obj}{R:Nat}{d:List Bool}(h:Mg w e R d wr)(b:Below wr.heap.size wr f):Mg w e R d f:=
 ⟨h.j.trans (b.mono h.j.size),(b.block _ (bP h.box)).trans h.box,(b.block _ (bP h.row)).trans h.row,h.r0⟩
theorem Mg.set{w wr:World}{e:Obj}{R:Nat}{b:List Bool}(h:Mg w e R b wr)(k:Nat):Mg w e R (b.set k true) (wr.setCell ⟨R,k,none⟩ (.bool true)):=by
 have d:=h.r0;refine⟨h.j.setCell (p:=⟨R,k,none⟩) (wR d) _,?_,?_,d⟩
 ·rw[gE _ _ _ _ (show¬w.heap.size=R by omega)];exact h.box
 rw[bV h.row];simp[List.map_set]
theorem Mg.at_{w wr:World}{e:Obj}{R:Nat}{b:List Bool}(h:Mg w e R b wr)(i:Nat)(d:i<b.length):wr.cell? ⟨R,i,none⟩=some (.bool (b.getD i false)):=by rw[cD h.row];simp[List.getD_eq_getElem?_getD,d]
theorem aPC{b:List Bool}{x:cI}(h:x.kind=1):gY b (x.p.drop 0)=eT b x:=by unfold eT mC;rw[if_pos h,gJ]
theorem aMO{b:List Bool}{x:cI}(h:x.kind=4)(h0:cC b (cA x.p 0)=true)(h1:cC b (cA x.p 1)=true):gY b (x.p.drop 2)=eT b x:=by unfold eT mC;rw[if_neg (by rw[h];decide),if_pos ⟨h,h0,h1⟩]
theorem aE6{b:List Bool}{x:cI}(h:¬x.kind=1)(d:¬(x.kind=4/\cC b (cA x.p 0)=true/\cC b (cA x.p 1)=true)):eT b x=b:=by unfold eT mC;rw[if_neg h,if_neg d];rfl
theorem Lh(b:List Bool)(l:List dL)(m:Nat)(h:m<l.length):(l.take (m+1)).all (cC b)=((l.take m).all (cC b)&&cC b (cA l m)):=by rw[JK h,List.all_append];simp[cA,List.getD_eq_getElem?_getD,h]
theorem aKA(r:bB)(vt vb:Value)(w:World)(hL:pI w vb r.body)(hG:VQ r):
 Calls Tryz.prog 166 #[lP r vt vb] w fun e w'=>e=.returned (.bool (uC r))/\Below w.heap.size w w':=by
 obtain⟨W,ts,Q,d,b4⟩:=r;obtain⟨h0,h8,h4,hG⟩:=hG;obtain⟨n,bc⟩:∃n:Nat,b4=n:=⟨b4.toNat,by simp only at h0;omega⟩;subst bc;simp only[Int.toNat_natCast]at *;obtain⟨Z,cb,rfl,hL⟩:=hL;have bf:=run_make_row' (P:=Tryz.prog) 57 4 (.bool false) 1 Tryz.underlying57 kR rfl .i64 .i64 n oM oM;(have b1:Mg w (.cells #[.int .i64 W,vt, .int .i64 Q, .slice Z d.length cb, .int .i64 n] 40) (w.heap.size+1) (List.replicate n false) ((w.alloc (.cells #[.int .i64 W,vt, .int .i64 Q, .slice Z d.length cb, .int .i64 n] 40)).alloc (.cells (madeCells #[Value.bool false] n) 4)):=by have h:=yJ (w:=w) (o1:=(.cells #[.int .i64 W,vt, .int .i64 Q, .slice Z d.length cb, .int .i64 n] 40)) (o2:=.cells (madeCells #[Value.bool false] n) 4) (aH _ _);exact⟨AX w _ _,h.1,by rw[<-TU];exact h.2,oM⟩);(have HS:O (uC ⟨W,ts,Q,d,n⟩=(iJ d (d.length+1) (List.replicate n false)).all id):=by show _=_;rw[KX];rfl);have aI:(List.replicate n false).length=n:=by simp
 go_enter Tryz.func166,Tryz.ntmps166
 go_wp2_with fail;generalize (w.alloc (.cells #[.int .i64 W,vt, .int .i64 Q, .slice Z d.length cb, .int .i64 n] 40)).alloc (.cells (madeCells #[Value.bool false] n) 4)=w0 at *;generalize hR:w.heap.size+1=R at *;clear hR;generalize List.replicate n false=bz at *;generalize aV:Obj.cells #[.int .i64 W,vt, .int .i64 Q, .slice Z d.length cb, .int .i64 n] 40=rb at *;have af:O _:=aV;clear aV;go_loopw [4] (fun i wr=>∃(k:Nat)(C:List Bool),k<=d.length+1/\i=.int .i64 k/\Mg w rb R C wr/\C.length=n/\iJ d (d.length+1-k) C=iJ d (d.length+1) bz) (fun i _=>d.length+1-(intOf i).toNat);case atStart=>exact⟨0,bz,bG _,rfl,b1,aI,rfl⟩
 case round=>
  obtain⟨k,y,hk,rfl,l,aT,b0⟩:=hrel;have HR:O _:=b0;clear b0 b1 aI;(have ah:wr.cell? ⟨w.heap.size,3,none⟩=some (.slice Z d.length cb):=by rw[cD (l.box.trans (congrArg some af.o.symm))];rfl);by_cases aS:k<=d.length
  ·have gk:decide ((k:Int)<=(d.length:Int))=true:=aQ oM;have b5:decide (k<=d.length)=true:=aQ aS;go_wp2_with fail;go_loopw [5] (fun i wq=>∃(j:Nat)(C:List Bool),j<=d.length/\i=.int .i64 j/\Mg w rb R C wq/\C.length=n/\(d.drop j).foldl eT C=bE d y) (fun i _=>d.length-(intOf i).toNat);case atStart=>exact⟨0,y,bG _,rfl,l,aT,rfl⟩
   case round=>
    clear l ah aT;obtain⟨j,g,hj,rfl,l,a3,ay⟩:=hrel;have ad:O _:=ay;clear ay;(have ah:wr.cell? ⟨w.heap.size,3,none⟩=some (.slice Z d.length cb):=by rw[cD (l.box.trans (congrArg some af.o.symm))];rfl);by_cases am:j<d.length
    ·obtain⟨b,bg,rfl,p0,p1,p2,v,p3,hT⟩:=vH hL j am;have a0:=hT;obtain⟨at_,N,rfl,_,av⟩:=hT;have ag:O (OJ w at_ (cJ d j).p):=av;have q0:=aB l.j p0;have q1:=aB l.j p1;have q2:=aB l.j p2;have q3:=aB l.j p3;have hg:=hG j am;have a4:O ((d.drop (j+1)).foldl eT (eT g (cJ d j))=bE d y):=(GY eT ⟨0,0,0,[]⟩ d j am g).symm.trans ad.o;have ax:Below wr.heap.size wr (wr.alloc (.cells #[.int .i64 (cJ d j).kind, .int .i64 (cJ d j).op, .int .i64 (cJ d j).z, .slice at_ (cJ d j).p.length N] 49)):=(aH _ _).alloc (aE _) _;have B:=aR wr (.cells #[.int .i64 (cJ d j).kind, .int .i64 (cJ d j).op, .int .i64 (cJ d j).z, .slice at_ (cJ d j).p.length N] 49);have H:=l.u ax;(have ap:O (¬wr.heap.size=R):=by have :=bP l.row;show¬_;omega);clear p0 p1 p2 p3 ax l ad av a0;generalize hx:cJ d j=x at *;clear hx;go_upto_region 10 with fail;generalize wr.alloc (.cells #[.int .i64 x.kind, .int .i64 x.op, .int .i64 x.z, .slice at_ x.p.length N] 49)=M at *;generalize b6:wr.heap.size=F at *;clear b6 q0 q1 q2 q3 ah;(have l0:M.cell? ⟨F,0,none⟩=some (.int .i64 x.kind):=cH B);(have l3:M.cell? ⟨F,3,none⟩=some (.slice at_ x.p.length N):=cH B);cases aq:(x.kind==4)
     ·(have L:¬x.kind=4:=by simpa using aq);cases ai:(x.kind==1)
      ·(have a9:¬x.kind=1:=by simpa using ai);have a8:O (eT g x=g):=aE6 a9 (fun h=>L h.1);go_wp2_with fail;by_cases hz:x.p.length=0
       ·have gz:decide ((0:Int)<(x.p.length:Int))=false:=aJ oM;have ar:decide (0<x.p.length)=false:=aJ oM;(have HV:O ((d.drop (j+1)).foldl eT g=bE d y):=by show _=_;rw[<-a4.o,a8.o]);refine mG 1 ?_;rw[rounds_succ];go_wp2_with fail;go_roundw;(case rel=>exact⟨j+1,_,oM,gN,H,a3,HV.o⟩);case measure=>exact mI
       have gz:decide ((0:Int)<(x.p.length:Int))=true:=aQ oM;have ar:decide (0<x.p.length)=true:=aQ oM;(have HV:O ((d.drop (j+1)).foldl eT g=bE d y):=by show _=_;rw[<-a4.o,a8.o]);refine mG 1 ?_;rw[rounds_succ];go_wp2_with fail;go_roundw;(case rel=>exact⟨j+1,_,oM,gN,H,a3,HV.o⟩);case measure=>exact mI
      (have a9:x.kind=1:=by simpa using ai);have ac:O (gY g (x.p.drop 0)=eT g x):=aPC a9;have ae:O (0<=x.p.length):=bG _;have b8:=hg.2.2;clear a9 L;go_wp2_with fail;go_loopw [9] (fun i M=>∃(m:Nat)(C:List Bool),0<=m/\m<=x.p.length/\i=.int .i64 m/\Mg w rb R C M/\M.heap[F]?=some (.cells #[.int .i64 x.kind, .int .i64 x.op, .int .i64 x.z, .slice at_ x.p.length N] 49)/\C.length=n/\gY C (x.p.drop m)=eT g x) (fun i _=>x.p.length-(intOf i).toNat);case atStart=>exact⟨0,g,aE _,ae.o,rfl,H,B,a3,ac.o⟩
      case round=>
       clear H B l0 l3;obtain⟨m,A,b9,hm,rfl,l,B,a1,a7⟩:=hrel;have J:O _:=a7;clear a7;(have l0:wr.cell? ⟨F,0,none⟩=some (.int .i64 x.kind):=cH B);(have l3:wr.cell? ⟨F,3,none⟩=some (.slice at_ x.p.length N):=cH B);by_cases D:m<x.p.length
       ·obtain⟨b3,b2,rfl,S⟩:=rI ag.o m D;obtain⟨X,Y⟩:=S m D;have s0:=aB l.j X;have s1:=aB l.j Y;have V:=hg.2.1 _ (rK D);have I:O (gY (kC A (cA x.p m)) (x.p.drop (m+1))=eT g x):=(GY kC ⟨0,0⟩ x.p m D A).symm.trans J.o;clear J X Y S;have au:=bP l.row;generalize a0:cA x.p m=t0 at *;clear a0;obtain⟨s,nn⟩:=t0;have V:s<n:=V;by_cases G:0<=s
        ·have g5:decide (0<=s)=true:=aQ G;obtain⟨q,rfl⟩:∃q:Nat,s=q:=⟨s.toNat,oM⟩;have aF:q<n:=oM;have al:=l.at_ q oM;have b7:=cM l.row q;have aj:=l.set q;have an:=(gE wr ⟨R,q,none⟩ (.bool true) F ap.o).trans B;(have HV:O (gY (A.set q true) (x.p.drop (m+1))=eT g x):=by show _=_;rw[<-I.o];simp[kC]);(have ao:(A.set q true).length=n:=by rw[kL];exact a1);clear I;go_wp2_with fail;go_roundw;(case rel=>exact⟨m+1,_,oM,oM,gN,aj,an,ao,HV.o⟩);case measure=>exact mI
        have g5:decide (0<=s)=false:=aJ G;(have HV:O (gY A (x.p.drop (m+1))=eT g x):=by show _=_;rw[<-I.o];simp[kC,G]);clear I;go_wp2_with fail;go_roundw;(case rel=>exact⟨m+1,_,oM,oM,gN,l,B,a1,HV.o⟩);case measure=>exact mI
       (have T:gY A (x.p.drop m)=A:=by rw[bD oM];rfl);(have HV:O ((d.drop (j+1)).foldl eT A=bE d y):=by show _=_;rw[<-a4.o,<-J.o,T]);clear T J;go_wp2_with fail;go_roundw;(case rel=>exact⟨j+1,_,oM,gN,l,a1,HV.o⟩);case measure=>exact mI
     (have L:x.kind=4:=by simpa using aq);have ba:x.p.length=3:=hg.1 L;go_wp2_with fail;go_loopw [7,8] (fun f i wq=>∃(m K:Nat),m<=2/\i=.int .i64 m/\f=.int .i64 K/\wq=M/\K=if(x.p.take m).all (cC g)then 2 else 3) (fun _ i _=>2-(intOf i).toNat);case atStart=>exact⟨0,2,bG _,rfl,rfl,rfl,rfl⟩
     case round=>
      obtain⟨m,K,hm,rfl,rfl,rfl,az⟩:=hrel;have a2:O _:=az;clear az;by_cases be:m<2
      ·have gm:decide ((m:Int)<2)=true:=aQ oM;have D:m<x.p.length:=oM;obtain⟨b3,b2,rfl,S⟩:=rI ag.o m D;obtain⟨X,Y⟩:=S m D;have s0:=aB H.j X;have s1:=aB H.j Y;have V:=hg.2.1 _ (rK D);have E:O ((x.p.take (m+1)).all (cC g)=((x.p.take m).all (cC g)&&cC g (cA x.p m))):=Lh _ _ _ D;clear X Y S;generalize a0:cA x.p m=t0 at *;clear a0;obtain⟨s,nn⟩:=t0;have V:s<n:=V;by_cases G:0<=s
       ·have g5:decide (0<=s)=true:=aQ G;obtain⟨q,rfl⟩:∃q:Nat,s=q:=⟨s.toNat,oM⟩;have aF:q<n:=oM;have al:=H.at_ q oM;(have a6:cC g ⟨q,nn⟩=g.getD q false:=by unfold cC;have :decide ((q:Int)<0)=false:=aJ oM;simp[this]);rw[a6]at E;clear a6;generalize g.getD q false=bb at *;cases bb
        ·(have HV:O (3=if(x.p.take (m+1)).all (cC g)then 2 else 3):=by show _=_;rw[E.o,Bool.and_false];rfl);clear E;go_wp2_with fail;go_roundw;(case rel=>exact⟨m+1,3,oM,gN,by trivial,by trivial,HV.o⟩);case measure=>exact mI
        (have HV:O (K=if(x.p.take (m+1)).all (cC g)then 2 else 3):=by show _=_;rw[E.o,Bool.and_true];exact a2.o);clear E;go_wp2_with fail;go_roundw;(case rel=>exact⟨m+1,K,oM,gN,by trivial,by trivial,HV.o⟩);case measure=>exact mI
       have g5:decide (0<=s)=false:=aJ G;(have a6:cC g ⟨s,nn⟩=true:=by unfold cC;have :decide (s<0)=true:=aQ oM;simp[this]);(have HV:O (K=if(x.p.take (m+1)).all (cC g)then 2 else 3):=by show _=_;rw[E.o,a6,Bool.and_true];exact a2.o);clear E a6;go_wp2_with fail;go_roundw;(case rel=>exact⟨m+1,K,oM,gN,by trivial,by trivial,HV.o⟩);case measure=>exact mI
      have gm:decide ((m:Int)<2)=false:=aJ oM;obtain rfl:m=2:=oM;(have E:O ((x.p.take 2).all (cC g)=(cC g (cA x.p 0)&&cC g (cA x.p 1))):=by show _=_;rw[Lh _ _ 1 oM,Lh _ _ 0 oM,List.take_zero];simp);cases U:(cC g (cA x.p 0)&&cC g (cA x.p 1))
      ·(have hf:K=3:=by rw[a2.o,E.o,U];rfl);subst hf;have a8:O (eT g x=g):=aE6 (by rw[L];decide) (fun h=>by rw[h.2.1,h.2.2]at U;cases U);have gz:decide ((3:Int)<(x.p.length:Int))=false:=aJ oM;have ar:decide (3<x.p.length)=false:=aJ oM;clear L a2 E;go_wp2_with fail;(have HV:O ((d.drop (j+1)).foldl eT g=bE d y):=by show _=_;rw[<-a4.o,a8.o]);refine mG 1 ?_;rw[rounds_succ];go_wp2_with fail;go_roundw;(case rel=>exact⟨j+1,_,oM,gN,H,a3,HV.o⟩);case measure=>exact mI
      (have hf:K=2:=by rw[a2.o,E.o,U];rfl);subst hf;rw[eF]at U;have ac:O (gY g (x.p.drop 2)=eT g x):=aMO L U.1 U.2;(have ae:O (2<=x.p.length):=by show _<=_;omega);have b8:=hg.2.2;(have ai:(x.kind==1)=false:=by rw[L];rfl);clear L ba U a2 E;go_wp2_with fail;go_loopw [9] (fun i M=>∃(m:Nat)(C:List Bool),2<=m/\m<=x.p.length/\i=.int .i64 m/\Mg w rb R C M/\M.heap[F]?=some (.cells #[.int .i64 x.kind, .int .i64 x.op, .int .i64 x.z, .slice at_ x.p.length N] 49)/\C.length=n/\gY C (x.p.drop m)=eT g x) (fun i _=>x.p.length-(intOf i).toNat);case atStart=>exact⟨2,g,aE _,ae.o,rfl,H,B,a3,ac.o⟩
      case round=>
       clear H B l0 l3;obtain⟨m,A,b9,hm,rfl,l,B,a1,a7⟩:=hrel;have J:O _:=a7;clear a7;(have l0:wr.cell? ⟨F,0,none⟩=some (.int .i64 x.kind):=cH B);(have l3:wr.cell? ⟨F,3,none⟩=some (.slice at_ x.p.length N):=cH B);by_cases D:m<x.p.length
       ·obtain⟨b3,b2,rfl,S⟩:=rI ag.o m D;obtain⟨X,Y⟩:=S m D;have s0:=aB l.j X;have s1:=aB l.j Y;have V:=hg.2.1 _ (rK D);have I:O (gY (kC A (cA x.p m)) (x.p.drop (m+1))=eT g x):=(GY kC ⟨0,0⟩ x.p m D A).symm.trans J.o;clear J X Y S;have au:=bP l.row;generalize a0:cA x.p m=t0 at *;clear a0;obtain⟨s,nn⟩:=t0;have V:s<n:=V;by_cases G:0<=s
        ·have g5:decide (0<=s)=true:=aQ G;obtain⟨q,rfl⟩:∃q:Nat,s=q:=⟨s.toNat,oM⟩;have aF:q<n:=oM;have al:=l.at_ q oM;have b7:=cM l.row q;have aj:=l.set q;have an:=(gE wr ⟨R,q,none⟩ (.bool true) F ap.o).trans B;(have HV:O (gY (A.set q true) (x.p.drop (m+1))=eT g x):=by show _=_;rw[<-I.o];simp[kC]);(have ao:(A.set q true).length=n:=by rw[kL];exact a1);clear I;go_wp2_with fail;go_roundw;(case rel=>exact⟨m+1,_,oM,oM,gN,aj,an,ao,HV.o⟩);case measure=>exact mI
        have g5:decide (0<=s)=false:=aJ G;(have HV:O (gY A (x.p.drop (m+1))=eT g x):=by show _=_;rw[<-I.o];simp[kC,G]);clear I;go_wp2_with fail;go_roundw;(case rel=>exact⟨m+1,_,oM,oM,gN,l,B,a1,HV.o⟩);case measure=>exact mI
       (have T:gY A (x.p.drop m)=A:=by rw[bD oM];rfl);(have HV:O ((d.drop (j+1)).foldl eT A=bE d y):=by show _=_;rw[<-a4.o,<-J.o,T]);clear T J;go_wp2_with fail;go_roundw;(case rel=>exact⟨j+1,_,oM,gN,l,a1,HV.o⟩);case measure=>exact mI
    (have T:(d.drop j).foldl eT g=g:=by rw[bD oM];rfl);(have HV:O (iJ d (d.length+1-(k+1)) g=iJ d (d.length+1) bz):=by show _=_;rw[<-HR.o,Bg d _ k oM,<-ad.o,T]);clear T;go_wp2_with fail;go_roundw;(case rel=>exact⟨k+1,_,oM,gN,l,a3,HV.o⟩);case measure=>exact mI
  have gk:decide ((k:Int)<=(d.length:Int))=false:=aJ oM;have b5:decide (k<=d.length)=false:=aJ aS;(have HV:O (y=iJ d (d.length+1) bz):=by show _=_;have :=HR.o;rw[show k=d.length+1 by omega,wS]at this;exact this);(have bd:wr.cell? ⟨w.heap.size,4,none⟩=some (.int .i64 n):=by rw[cD (l.box.trans (congrArg some af.o.symm))];rfl);clear HR;go_wp2_with fail;go_loopw [10] (fun i wq=>∃m:Nat,m<=n/\i=.int .i64 m/\wq=wr/\y.all id=(y.drop m).all id) (fun i _=>n-(intOf i).toNat);case atStart=>exact⟨0,bG _,rfl,rfl,rfl⟩
  case round=>
   obtain⟨m,hm,rfl,rfl,aw⟩:=hrel;have aa:O _:=aw;clear aw;by_cases D:m<n
   ·have al:=l.at_ m oM;have au:=bP l.row;have HD:O (y.all id=(y.getD m false&&(y.drop (m+1)).all id)):=aa.o.trans (EA _ _ _ m oM);clear aa;generalize y.getD m false=bb at *;cases bb
    ·(have a5:O (uC ⟨W,ts,Q,d,n⟩=false):=by show _=_;rw[HS.o,<-HV.o,HD.o];rfl);have ak:=l.j;go_wp2_with fail;go_ret;exact⟨by rw[a5.o];rfl,ak⟩
    (have a5:O (y.all id=(y.drop (m+1)).all id):=by show _=_;rw[HD.o];rfl);clear HD;go_wp2_with fail;go_roundw;(case rel=>exact⟨m+1,oM,gN,by trivial,a5.o⟩);case measure=>exact mI
   (have a5:O (uC ⟨W,ts,Q,d,n⟩=true):=by show _=_;rw[HS.o,<-HV.o,aa.o,bD oM];rfl);have ak:=l.j;go_wp2_with fail;go_ret;exact⟨by rw[a5.o];rfl,ak⟩
end Go.Proofs.YthenjegmigeieaaGreat
