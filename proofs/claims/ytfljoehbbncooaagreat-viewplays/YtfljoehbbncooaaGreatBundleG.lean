/- Own texts, one behind the other (part 7). -/
import Derived.Test.YtfljoehbbncooaaGreatBundleF
import Derived.Test.YtfljoehbbncooaaGreatRows
import Derived.Maps.RangeWalk
import Derived.Maps.OwnSet
import Derived.DeepKeys4
import Derived.WalkKit
import Derived.WalkSpells
import Derived.WalkLawsBesides
import Derived.Deep.QuietTactic
import Derived.BigQuiet
import Derived.Shelf.SlSortCmp.WholeK
import Derived.Ground.SlsfProg
import Derived.RegionTactic
import Derived.BigRegion
import Derived.Lib.SliceRun
import Derived.Lib.LazyBuf
import Derived.Shelf.SlSortCmp.NoneTotal
set_option maxRecDepth 100000
set_option maxHeartbeats 8000000
namespace Go.Proofs.YtfljoehbbncooaaGreat
open Go.RowKit Go.Maps
structure Uv where
 u:aX
 p:Value
 s:Value
 t:Value
abbrev jC(x:Uv):List Value:=[.int .i64 x.u.id.a, .int .i64 x.u.id.n,x.p,x.s,x.t]
abbrev mA(x:Uv):Value:=.agg #[.int .i64 x.u.id.a, .int .i64 x.u.id.n,x.p,x.s,x.t]
structure gM (w:World) (x:Uv):Prop where
 p:uI w x.p x.u.ps
 s:bS w x.s x.u.says
 t:uI w x.t x.u.ts
 f:∀f,f∈x.u.says->gD f
 l:x.u.ps.length<=9223372036854775807/\x.u.says.length<=9223372036854775807/\x.u.ts.length<=9223372036854775807
theorem gM.z{w w':World}{x:Uv}(h:gM w x)(b:Below w.heap.size w w'):gM w' x:=⟨iO h.p b,bQ h.s b,iO h.t b,h.f,h.l⟩
theorem gM.forms{w:World}{x:Uv}(h:gM w x):∃b l e c m f d n g,x.p=.slice b l e/\x.s=.slice c m f/\x.t=.slice d n g:=by obtain⟨b,e,i,_⟩:=h.p;obtain⟨c,f,j,_⟩:=h.s;obtain⟨d,g,k,_⟩:=h.t;exact⟨_,_,_,_,_,_,_,_,_,i,j,k⟩
def bV(q:List Uv):List aX:=q.map (·.u)
def xB(x:fK):Lit:=.string (keyBytes [.int .i64 x.a, .int .i64 x.n])
theorem bA4:laidOutB Tryz.prog=true:=kR
theorem PY:Keyed Tryz.prog 39:=Keyed.of_law (deep_law_laid bA4 (m:=5) dE dE kR (by rw[Tryz.underlying39]))
theorem aWY:Tryz.prog.keyType 39=true:=kR
theorem aEH:Tryz.prog.cellsOf 39=2:=kR
theorem bA8:Tryz.prog.cellsOf 3=1:=kR
theorem bER:Tryz.prog.types.size+1=349+1+1:=kR
theorem aOJ{a:Int}(h:0<=a/\a<=200):(Lit.int .i64 a).wf=true:=WalkArith.wf_i64 oM
theorem bEV{x:fK}(h:fR x=true):(Lit.int .i64 x.a).wf=true/\(Lit.int .i64 x.n).wf=true:=by have h:=fJ h;exact⟨aOJ oM,aOJ oM⟩
theorem vJ{x:fK}(h:fR x=true):keyOf Tryz.prog 39 (rY x)=some (xB x):=by obtain⟨f,g⟩:=bEV h;(have b:∀d,Tryz.prog.keyLits (d+1) 3 [.int .i64 x.a]=some [.int .i64 x.a]:=fun d=>by simp only[Program.keyLits,Tryz.underlying3,f,and_self,if_true]);((have c:∀d,Tryz.prog.keyLits (d+1) 3 [.int .i64 x.n]=some [.int .i64 x.n]:=fun d=>by simp only[Program.keyLits,Tryz.underlying3,g,and_self,if_true]);have e:∀d,Tryz.prog.keyLits (d+1+1) 39 [.int .i64 x.a, .int .i64 x.n]=some [.int .i64 x.a, .int .i64 x.n]:=fun d=>by unfold Program.keyLits;rw[Tryz.underlying39];dsimp only;rw[if_pos ⟨by rw[aEH];rfl,by simp⟩];rw[List.mapM_cons,List.mapM_cons,List.mapM_nil];simp only[bA8];have j:(([.int .i64 x.a, .int .i64 x.n]:List Value).drop 0).take 1=[.int .i64 x.a]:=rfl;have k:(([.int .i64 x.a, .int .i64 x.n]:List Value).drop 1).take 1=[.int .i64 x.n]:=rfl;rw[j,k,b,c];rfl);(have i:(rY x).formed Tryz.prog 39=true:=by unfold rY Value.formed;rw[Tryz.underlying39];dsimp only;rw[aEH];rfl);unfold keyOf;rw[Tryz.underlying39];dsimp only;rw[if_pos (by rw[aWY,i];rfl),bER];show Option.map _ (Tryz.prog.keyLits (349+1+1) 39 [.int .i64 x.a, .int .i64 x.n])=_;rw[e];rfl
theorem Cj{x y:fK}(d:fR x=true)(e:fR y=true)(h:xB x=xB y):x=y:=by have c:=vJ d;have b:=vJ e;rw[<-h]at b;have :=PY.inj c b;cases x;cases y;simp only[Value.agg.injEq,Array.mk.injEq,List.cons.injEq,Value.int.injEq,true_and,and_true]at this;rw[this.1,this.2]
theorem Mc(x:fK):WideAt.IsKeyLit (xB x):=trivial
def isI:Value->Bool
 | .int .i64 _=>true
 |_=>false
def bBA:Value->Bool
 | .slice _ _ _=>true
 |_=>false
def aIK:List Value->Bool
 |[b,c,d,e,f]=>isI b&&isI c&&bBA d&&bBA e&&bBA f
 |_=>false
def JQ:Value->Option (DataW Value×List MemPlace)
 | .agg b=>if aIK b.toList=true then some (.held (.agg b),[])else none
 |_=>none
theorem bA9{v:Value}(h:isI v=true):∃n,v=.int .i64 n:=by
 unfold isI at h;split at h
 ·exact⟨_,rfl⟩
 cases h
theorem aHV{v:Value}(h:bBA v=true):∃a n c,v=.slice a n c:=by
 unfold bBA at h;split at h
 ·exact⟨_,_,_,rfl⟩
 cases h
theorem aXW{l:List Value}(h:aIK l=true):∃a n b i e c j f d k g,l=[.int .i64 a, .int .i64 n, .slice b i e, .slice c j f, .slice d k g]:=by
 unfold aIK at h;split at h
 ·simp only[Bool.and_eq_true]at h;obtain⟨⟨⟨⟨m,p⟩,q⟩,r⟩,s⟩:=h;obtain⟨a,rfl⟩:=bA9 m;obtain⟨n,rfl⟩:=bA9 p;obtain⟨b,i,e,rfl⟩:=aHV q;obtain⟨c,j,f,rfl⟩:=aHV r;obtain⟨d,k,g,rfl⟩:=aHV s;exact⟨_,_,_,_,_,_,_,_,_,_,_,rfl⟩
 cases h
theorem aX9(a n:Int)(b:Option Addr)(e c1:Nat)(c:Option Addr)(f c2:Nat)(d:Option Addr)(g c3:Nat):JQ (.agg #[.int .i64 a, .int .i64 n, .slice b e c1, .slice c f c2, .slice d g c3])=some (.held (.agg #[.int .i64 a, .int .i64 n, .slice b e c1, .slice c f c2, .slice d g c3]),[]):=rfl
structure bDM where
 a:Int
 n:Int
 a1:Option Addr
 n1:Nat
 c1:Nat
 a2:Option Addr
 n2:Nat
 c2:Nat
 a3:Option Addr
 n3:Nat
 c3:Nat
abbrev XY(x:bDM):Value:=.agg #[.int .i64 x.a, .int .i64 x.n, .slice x.a1 x.n1 x.c1, .slice x.a2 x.n2 x.c2, .slice x.a3 x.n3 x.c3]
theorem Dh{v:Value}{y:DataW Value×List MemPlace}(h:JQ v=some y):(∃x:bDM,v=XY x)/\y=(.held v,[]):=by
 cases v with
 |agg b=>
  unfold JQ at h;dsimp only at h;by_cases c:aIK b.toList=true
  ·rw[if_pos c]at h;obtain⟨a,n,d,l,i,f,m,j,g,p,k,e⟩:=aXW c;(have q:b=#[.int .i64 a, .int .i64 n, .slice d l i, .slice f m j, .slice g p k]:=by rw[<-Array.toArray_toList (xs:=b),e]);refine⟨⟨⟨a,n,d,l,i,f,m,j,g,p,k⟩,by rw[q]⟩,?_⟩;cases h;rfl
  rw[if_neg c]at h;cases h
 |_=>cases h
theorem aE3{w:World}{x:Uv}(h:gM w x):JQ (mA x)=some (.held (mA x),[]):=by obtain⟨e,l,i,f,m,j,g,n,k,b,c,d⟩:=h.forms;unfold mA;rw[b,c,d];rfl
structure CmD (c:List Uv) (D:DataW Value):Prop where
 size:Maps.size D=c.length
 has:∀x,fR x=true->Maps.has D (xB x)=eG (bV c) x
 at_:∀y,y∈c->∀z,D.atKey (xB y.u.id) z=.held (mA y)
 ok:∀y,y∈c->fR y.u.id=true
 apart:((bV c).map aX.id).Nodup
 onlY :∀kl,Maps.has D kl=true->∃y,y∈c/\kl=xB y.u.id
def BN(w:World)(B:Nat)(c:List Uv):Prop:=∃D:DataW Value,w.ownsMap Tryz.prog 39 JQ B c.length D/\CmD c D
theorem CmD.nil:CmD [] (.map []):=⟨rfl,fun _ _=>rfl,fun _ h=>absurd h sI,fun _ h=>absurd h sI,by simp[bV],fun _ h=>by cases h⟩
theorem CmD.push{c:List Uv}{D:DataW Value}(h:CmD c D)(i:Tidy D)(y:Uv)(k:fR y.u.id=true)(j:eG (bV c) y.u.id=false):CmD (c++[y]) (D.put (xB y.u.id) (.held (mA y))):=by
 have m:=Mc y.u.id;have p:∀x,fR x=true->x≠y.u.id->xB x≠xB y.u.id:=fun x f w e=>w (Cj f k e);refine⟨?_,fun x f=>?_,fun x f z=>?_,fun x f=>?_,?_,fun r n=>?_⟩
 rotate_right
 ·by_cases e:r=xB y.u.id
  ·exact⟨y,by simp,e⟩
  rw[has_put_other e]at n;obtain⟨z,F,g⟩:=h.onlY r n;exact⟨z,by simp[F],g⟩
 ·rw[size_put i,h.has _ k,j,h.size];simp
 ·by_cases e:x=y.u.id
  ·subst e;rw[has_put_same i.isMap m];refine(iH.mpr ⟨y.u,?_,rfl⟩).symm;simp[bV]
  rw[has_put_other (p x f e),h.has x f];unfold bV eG;rw[dC,MR];simp only[List.map_cons,List.map_nil,List.any_cons,List.any_nil,Bool.or_false];rw[aF (fun g=>e g.symm),Nh]
 ·by_cases e:x.u.id=y.u.id
  ·have E:x=y:=by
    rcases cW.mp f with d|d
    ·exfalso;have :eG (bV c) y.u.id=true:=iH.mpr ⟨x.u,cJ.mpr ⟨x,d,rfl⟩,e⟩;rw[j]at this;cases this
    simpa using d
   subst E;exact atKey_put_same i.isMap m _ _
  have q:x∈c:=by
   rcases cW.mp f with d|d
   ·exact d
   exact absurd (by rw[cP.mp d]) e
  rw[atKey_put_other (p _ (h.ok x q) e),h.at_ x q]
 ·rcases cW.mp f with d|d
  ·exact h.ok x d
  rw[cP.mp d];exact k
 unfold bV;rw[dC,dC,qH];refine⟨h.apart,by simp,fun a s b l e=>?_⟩;obtain⟨v,C,rfl⟩:=cJ.mp s;simp only[List.map_cons,List.map_nil,List.mem_singleton]at l;have :eG (bV c) y.u.id=true:=iH.mpr ⟨v,C,e.trans l⟩;rw[j]at this;cases this
theorem BN.z{w w':World}{B:Nat}{c:List Uv}(h:BN w B c)(k:Below w.heap.size w w'):BN w' B c:=by obtain⟨D,⟨e,d,b,f,g,i⟩,j⟩:=h;exact⟨D,⟨e,d,(k.block _ (aK.mp b).1).trans b,f,g,i⟩,j⟩
theorem BN.lt{w:World}{B:Nat}{c:List Uv}(h:BN w B c):B<w.heap.size:=by obtain⟨D,⟨e,d,b,f,g,i⟩,j⟩:=h;exact(aK.mp b).1
theorem aV7(w:World):BN (w.alloc (.map #[] 0)) w.heap.size []:=⟨_,Dp _ _ _ _,CmD.nil⟩
theorem bIK(w:World):(zeroValue 42).run Tryz.prog w=.ok (.agg #[.int .i64 0, .int .i64 0, .slice none 0 0, .slice none 0 0, .slice none 0 0]) w:=kR
section
variable (w:World) {ops:Array Oper} {rest:List Oper} {o:Oper} {a:Act} {Q:Exit->Act->World->Prop}
theorem OG(hg:o.guard=none)(m x:Operand)(hop:o.op=Op.lookup 126 m x true)(b:Nat)(c:List Uv)(y:fK)
 (j:a.eval m=.map (some b)) (d:BN w b c) (l:a.eval x=rY y) (e:fR y=true)
 (i:∀f:bDM,wpList Tryz.prog ops Q rest (a.put o.dst (.tuple #[XY f, .bool (eG (bV c) y)])) w):
 wpList Tryz.prog ops Q (o::rest) a w:=by
 obtain⟨D,d,g⟩:=d;refine wpList_lookup_own_ok w hg m x 126 hop 39 42 PY Tryz.underlying126 JQ (bIK w) _ _ (aX9 _ _ _ _ _ _ _ _ _ _ _) b c.length D j d _ _ l (vJ e) (fun v n k=>?_);obtain⟨⟨f,rfl⟩,_⟩:=Dh k;rw[g.has y e];exact i f
theorem Mz(hg:o.guard=none)(m x v:Operand)(hop:o.op=Op.mapUpdate 126 m x v)(b:Nat)(c:List Uv)(y:Uv)(w0:World)
 (l:a.eval m=.map (some b)) (e:BN w b c) (s:c.length<=1000000) (r:a.eval x=rY y.u.id) (q:a.eval v=mA y) (f:fR y.u.id=true) (p:gM w0 y) (n:eG (bV c) y.u.id=false)
 (k:∀d,BN d b (c++[y])->w.grownBy d (some b)->wpList Tryz.prog ops Q rest (a.put o.dst undef) d):
 wpList Tryz.prog ops Q (o::rest) a w:=by
 obtain⟨D,e,j⟩:=e;refine wpList_mapUpdate_own w hg m x v 126 hop 39 42 PY Tryz.underlying126 JQ b c.length D l e (by unfold maxLen;omega) _ _ _ r q (vJ f) _ _ (aE3 p) (fun d g i=>k d ⟨_,?_,j.push (e.tidy PY) y f n⟩ i);rw[aV];exact g
end
end Go.Proofs.YtfljoehbbncooaaGreat
namespace Go.Proofs.YtfljoehbbncooaaGreat
open Go.RowKit Go.Maps
theorem YA(B:Nat)(c:List Uv)(l:List fK)(v:Value)(w:World)(F:BN w B c)(P:uI w v l)(T:l.length<=1000000)(g:∀x,x∈l->fR x=true):
 Calls Tryz.prog 83 #[.map (some B),v] w fun e Q=>e=.returned (.bool (l.all (eG (bV c))))/\Below w.heap.size w Q:=by
 obtain⟨N,cap,rfl,_,E⟩:=P;have J:O (∀z,Below w.heap.size w z->IP z N l):=fun z r=>by
  rcases E with h|⟨b,I,rfl,h⟩
  ·exact .inl h
  exact .inr ⟨b,I,rfl,fun i g=>⟨aB r (h i g).1,aB r (h i g).2⟩⟩
 have M:O (∀z,Below w.heap.size w z->BN z B c):=fun z r=>F.z r;have L:O (∀k,k<l.length->fR (GS l k)=true):=fun k H=>g _ (by simp[GS,H]);clear E F g
 go_enter Tryz.func83,Tryz.ntmps83
 go_wp2_with fail;go_loopw [11] (fun iv wr=>∃k:Nat,k<=l.length/\iv=.int .i64 k/\O (l.all (eG (bV c))=(l.drop k).all (eG (bV c)))/\O (Below w.heap.size w wr)) (fun iv _=>l.length-(intOf iv).toNat);case atStart=>exact⟨0,bL _,rfl,rfl,aG _ _⟩
 case round=>
  obtain⟨k,H,rfl,s,d⟩:=hrel;by_cases j:k<l.length
  ·obtain⟨b,I,rfl,c0,R⟩:=FM (J.o wr d.o) k j;have G:=L.o k j;(have C:O (l.all (eG (bV c))=(eG (bV c) (GS l k)&&(l.drop (k+1)).all (eG (bV c)))):=by show _=_;rw[s.o,aL3 l k j,FX]);generalize GS l k=x at *;obtain⟨m,p⟩:=x;have D:O (BN (wr.alloc (.cells #[.int .i64 m, .int .i64 p] 39)) B c):=M.o _ (d.o.alloc d.o.size _);have u:O (∀f:bDM,Below w.heap.size w ((wr.alloc (.cells #[.int .i64 m, .int .i64 p] 39)).alloc (.cells #[.int .i64 f.a, .int .i64 f.n, .slice f.a1 f.n1 f.c1, .slice f.a2 f.n2 f.c2, .slice f.a3 f.n3 f.c3] 42))):=fun f=>(d.o.alloc d.o.size _).alloc (by have :=d.o.size;simp;omega) _;clear s;cases q:eG (bV c) ⟨m,p⟩
   ·go_wp2_with(at_lookup;refine OG _ rfl _ _ rfl B c ⟨m,p⟩ rfl D.o rfl G ?_;intro f;rw[q]);go_ret;exact⟨by rw[C.o,q];rfl,u.o f⟩
   go_wp2_with(at_lookup;refine OG _ rfl _ _ rfl B c ⟨m,p⟩ rfl D.o rfl G ?_;intro f;rw[q]);go_roundw;(case rel=>exact⟨k+1,j,gN,C.o.trans (by rw[q,qJ]),u.o f⟩);case measure=>exact mI
  have S:decide (k<l.length)=false:=aF j;(have K:O (l.all (eG (bV c))=true):=by show _=_;rw[s.o,bG oM];rfl);go_wp2_with fail;go_ret;exact⟨by rw[K.o];rfl,d.o⟩
theorem aV2(l:List aX)(u:aX):fO l u=(u.ps.all (eG l)&&u.ts.all (eG l)):=by unfold fO qT;rw[List.all_append]
theorem Lk(B:Nat)(c:List Uv)(x:Uv)(w:World)(H:BN w B c)(s:gM w x)(I:x.u.ps.length<=1000000/\x.u.ts.length<=1000000)(N:∀y,y∈x.u.ps->fR y=true)(ht:∀y,y∈x.u.ts->fR y=true):
 Calls Tryz.prog 137 #[.map (some B),mA x] w fun e m=>e=.returned (.bool (fO (bV c) x.u))/\Below w.heap.size w m:=by
 have K:=aV2 (bV c) x.u;have HP:O (∀z,Below w.heap.size w z->Calls Tryz.prog 83 #[.map (some B),x.p] z fun e m=>e=.returned (.bool (x.u.ps.all (eG (bV c))))/\Below z.heap.size z m):=fun z b=>YA B c x.u.ps x.p z (H.z b) (iO s.p b) I.1 N;have P:O (∀z,Below w.heap.size w z->Calls Tryz.prog 83 #[.map (some B),x.t] z fun e m=>e=.returned (.bool (x.u.ts.all (eG (bV c))))/\Below z.heap.size z m):=fun z b=>YA B c x.u.ts x.t z (H.z b) (iO s.t b) I.2 ht;obtain⟨f,k,i,n,C,q,g,l,j,S,T,U⟩:=s.forms;obtain⟨⟨⟨D,E⟩,W,a0,X⟩,vp,vs,vt⟩:=x;dsimp only at *;subst S T U;clear s H I N ht;generalize W.all (eG (bV c))=Q at *;generalize X.all (eG (bV c))=Y at *;have d:O (Below w.heap.size w (w.alloc (.cells #[.int .i64 D, .int .i64 E, .slice f k i, .slice n C q, .slice g l j] 42))):=(aG _ _).alloc (aH _) _;have M:O ((w.alloc (.cells #[.int .i64 D, .int .i64 E, .slice f k i, .slice n C q, .slice g l j] 42)).heap[w.heap.size]?=_):=bA w (.cells #[.int .i64 D, .int .i64 E, .slice f k i, .slice n C q, .slice g l j] 42)
 go_enter Tryz.func137,Tryz.ntmps137
 go_upto_region 1 with fail;generalize w.alloc (.cells #[.int .i64 D, .int .i64 E, .slice f k i, .slice n C q, .slice g l j] 42)=F at *;(have Z:F.cell? ⟨w.heap.size,2,none⟩=some (.slice f k i):=cH M.o);have L:O (∀z,Below F.heap.size F z->z.cell? ⟨w.heap.size,4,none⟩=some (.slice g l j)):=fun z b=>aB b (cH M.o);have R:=L.o F (aG _ _);cases Q
 ·go_wp2_with(go_at_call 83;refine Calls.mono (HP.o _ d.o) ?_;rintro e J ⟨rfl,r⟩);go_ret;exact⟨by rw[K];rfl,d.o.trans (r.mono d.o.size)⟩
 go_wp2_with(first
  |(go_at_call 83;(with_reducible refine Calls.mono (HP.o _ d.o) ?_);rintro e J ⟨rfl,r⟩;have R:=L.o J r;have G:O (Below w.heap.size w J):=d.o.trans (r.mono d.o.size))
  |(go_at_call 83;(with_reducible refine Calls.mono (P.o _ G.o) ?_);rintro e z2 ⟨rfl,V⟩))
 go_ret;exact⟨by rw[K];rfl,G.o.trans (V.mono G.o.size)⟩
end Go.Proofs.YtfljoehbbncooaaGreat
namespace Go.Proofs.YtfljoehbbncooaaGreat
open Go.RowKit
end Go.Proofs.YtfljoehbbncooaaGreat
namespace Go.Proofs.YtfljoehbbncooaaGreat
open Go.RowKit
end Go.Proofs.YtfljoehbbncooaaGreat
namespace Go.Proofs
open Go.Shelf
end Go.Proofs
namespace Go.Proofs.YtfljoehbbncooaaGreat
open Go.RowKit
end Go.Proofs.YtfljoehbbncooaaGreat
namespace Go.Proofs.YtfljoehbbncooaaGreat
open Go.RowKit
end Go.Proofs.YtfljoehbbncooaaGreat
namespace Go.Proofs.YtfljoehbbncooaaGreat
open Go.RowKit
end Go.Proofs.YtfljoehbbncooaaGreat
namespace Go.Proofs.YtfljoehbbncooaaGreat
open Go.Shelf Go.RowKit Go.Lib Go.Sort
end Go.Proofs.YtfljoehbbncooaaGreat
namespace Go.Proofs.YtfljoehbbncooaaGreat
open Go.RowKit Go.Lib
end Go.Proofs.YtfljoehbbncooaaGreat
namespace Go.Proofs.YtfljoehbbncooaaGreat
open Go.RowKit
end Go.Proofs.YtfljoehbbncooaaGreat
namespace Go.Proofs.YtfljoehbbncooaaGreat
open Go.RowKit
end Go.Proofs.YtfljoehbbncooaaGreat
namespace Go.Proofs.YtfljoehbbncooaaGreat
open Go.RowKit
end Go.Proofs.YtfljoehbbncooaaGreat
namespace Go.Proofs.YtfljoehbbncooaaGreat
open Go.RowKit
end Go.Proofs.YtfljoehbbncooaaGreat
namespace Go.Proofs.YtfljoehbbncooaaGreat
open Go.RowKit
end Go.Proofs.YtfljoehbbncooaaGreat
namespace Go.Proofs.YtfljoehbbncooaaGreat
open Go.RowKit Go.Maps
def Kc(w w':World):Prop:=∀b o v,w.cell? ⟨b,o,none⟩=some v->w'.cell? ⟨b,o,none⟩=some v
theorem Kc.trans{a b c:World}(h:Kc a b)(k:Kc b c):Kc a c:=fun _ _ _ e=>k _ _ _ (h _ _ _ e)
theorem Kc.z{w w':World}(h:Below w.heap.size w w'):Kc w w':=fun _ _ _ e=>aB h e
theorem EC{w w':World}{b o:Nat}(h:w'.heap[b]?=w.heap[b]?):w'.cell? ⟨b,o,none⟩=w.cell? ⟨b,o,none⟩:=by unfold World.cell?;rw[h]
theorem Th{w:World}{b o:Nat}{v:Value}(h:w.cell? ⟨b,o,none⟩=some v):b<w.heap.size:=by
 by_cases c:b<w.heap.size
 ·exact c
 unfold World.cell? at h;have e:w.heap[b]?=none:=zC (Nat.le_of_not_lt c);dsimp only at h;rw[e]at h;cases h
theorem Kc.map{w w':World}{B:Nat}{c:List Uv}(h:w.grownBy w' (some B))(g:BN w B c):Kc w w':=fun b o v e=>by(have i:b≠B:=fun d=>by subst d;obtain⟨D,⟨k,j,f,_⟩,_⟩:=g;unfold World.cell? at e;rw[f]at e;cases e);rw[EC (h.block b (Th e) (fun d=>i (by cases d;rfl)))];exact e
theorem Kc.ints{w w':World}(k:Kc w w'){v:Value}{l:List Int}(h:eT w v l):eT w' v l:=by
 obtain⟨c,cap,rfl,h⟩:=h;refine⟨c,cap,rfl,?_⟩;rcases h with h|⟨b,e,rfl,h⟩
 ·exact .inl h
 exact .inr ⟨b,e,rfl,fun i d=>k _ _ _ (h i d)⟩
theorem Kc.ids{w w':World}(k:Kc w w'){v:Value}{l:List fK}(h:uI w v l):uI w' v l:=by
 obtain⟨d,cap,rfl,e,h⟩:=h;refine⟨d,cap,rfl,e,?_⟩;rcases h with h|⟨b,f,rfl,h⟩
 ·exact .inl h
 exact .inr ⟨b,f,rfl,fun i c=>⟨k _ _ _ (h i c).1,k _ _ _ (h i c).2⟩⟩
theorem Kc.B{w w':World}(k:Kc w w'){b off:Nat}{f:aQ}(h:QP w b off f):QP w' b off f:=by obtain⟨c,u,d,e⟩:=h;exact⟨k _ _ _ c,u,k _ _ _ d,k.ints e⟩
theorem Kc.facts{w w':World}(k:Kc w w'){v:Value}{l:List aQ}(h:bS w v l):bS w' v l:=by
 obtain⟨c,cap,rfl,d,h⟩:=h;refine⟨c,cap,rfl,d,?_⟩;rcases h with h|⟨b,f,rfl,h⟩
 ·exact .inl h
 exact .inr ⟨b,f,rfl,fun i e=>k.B (h i e)⟩
theorem gM.kc{w w':World}{x:Uv}(h:gM w x)(k:Kc w w'):gM w' x:=⟨k.ids h.p,k.facts h.s,k.ids h.t,h.f,h.l⟩
def uvZ:Uv:=⟨⟨⟨0,0⟩,[],[],[]⟩, .slice none 0 0, .slice none 0 0, .slice none 0 0⟩
def jL(q:List Uv)(i:Nat):Uv:=q.getD i uvZ
def TI(w:World)(b o:Nat)(x:Uv):Prop:=
 w.cell? ⟨b,o,none⟩=some (.int .i64 x.u.id.a)/\w.cell? ⟨b,o+1,none⟩=some (.int .i64 x.u.id.n)/\w.cell? ⟨b,o+2,none⟩=some x.p/\w.cell? ⟨b,o+3,none⟩=some x.s/\w.cell? ⟨b,o+4,none⟩=some x.t
theorem Kc.up{w w':World}(k:Kc w w'){b o:Nat}{x:Uv}(h:TI w b o x):TI w' b o x:=⟨k _ _ _ h.1,k _ _ _ h.2.1,k _ _ _ h.2.2.1,k _ _ _ h.2.2.2.1,k _ _ _ h.2.2.2.2⟩
def xU(w:World)(ao:Option Addr)(q:List Uv):Prop:=q=[]\/∃b c,ao=some ⟨b,c,none⟩/\∀i,i<q.length->TI w b (c+i*5) (jL q i)
def iI(w:World)(v:Value)(q:List Uv):Prop:=∃b cap,v=.slice b q.length cap/\(q.length<=cap/\(b=none->cap=0))/\xU w b q
theorem xU.kc{w w':World}{ao:Option Addr}{q:List Uv}(h:xU w ao q)(k:Kc w w'):xU w' ao q:=by
 rcases h with h|⟨b,d,rfl,h⟩
 ·exact .inl h
 exact .inr ⟨b,d,rfl,fun i c=>k.up (h i c)⟩
theorem iI.kc{w w':World}{v:Value}{q:List Uv}(h:iI w v q)(k:Kc w w'):iI w' v q:=by obtain⟨b,cap,rfl,c,h⟩:=h;exact⟨b,cap,rfl,c,h.kc k⟩
theorem tS{w:World}{ao:Option Addr}{q:List Uv}(h:xU w ao q)(i:Nat)(d:i<q.length):∃b c,ao=some ⟨b,c,none⟩/\TI w b (c+i*5) (jL q i):=by
 rcases h with h|⟨b,c,e,f⟩
 ·rw[h]at d;exact absurd d sI
 exact⟨b,c,e,f i d⟩
theorem tA(q:List Uv)(k:Nat)(b:k<q.length):q.drop k=jL q k::q.drop (k+1):=by rw[dA b];simp[jL,List.getD_eq_getElem?_getD,b]
theorem mG(q:List Uv)(k:Nat)(b:k<q.length):jL q k∈q:=by simp[jL,b]
theorem zB(q:List Uv)(k:Nat)(b:k<q.length):q.take (k+1)=q.take k++[jL q k]:=by rw[nE b];simp[jL,List.getD_eq_getElem?_getD,b]
abbrev mT(w:World)(B:Nat)(v:Value)(q:List Uv):Prop:=w.ownsRow B 42 5 v q.length (q.map jC).flatten
theorem KS:(Tryz.prog.info? 42).map (fun i=>(i.zero,i.size,i.bytes))=some (some (.agg #[.int .i64 0, .int .i64 0, .slice none 0 0, .slice none 0 0, .slice none 0 0]),5,88):=kR
theorem PW:∀(q:List Uv)(i j:Nat),i<q.length->j<5->(q.map jC).flatten[i*5+j]?=(jC (jL q i))[j]?
 |[],i,j,b,_=>absurd b sI
 |x::r,0,j,_,hj=>by
  show(jC x++(r.map jC).flatten)[0*5+j]?=(jC x)[j]?;rw[lB (by show 0*5+j<5;omega)]
  congr 1
  omega
 |x::r,i+1,j,b,hj=>by have h:=PW r i j (by simpa using b) hj;show(jC x++(r.map jC).flatten)[(i+1)*5+j]?=_;rw[kS (by show 5<=_;omega)];(have e:(i+1)*5+j-(jC x).length=i*5+j:=by show(i+1)*5+j-5=_;omega);rw[e,h];rfl
theorem vE{W:World}{B:Nat}{v:Value}{q:List Uv}(h:mT W B v q):iI W v q:=by
 obtain⟨k,cap,rfl,m,l⟩:=xL h;refine⟨k,cap,rfl,⟨m,fun e=>?_⟩,?_⟩
 ·rcases lJ h with⟨c,f⟩|⟨g,s,c⟩
  ·injection c
  injection c with d;rw[e]at d;cases d
 rcases l with f|⟨g,rfl,n⟩
 ·exact .inl (dQ f)
 refine .inr ⟨g,0,rfl,fun i p=>?_⟩;(have b:∀j,j<5->W.cell? ⟨g,0+i*5+j,none⟩=(jC (jL q i))[j]?:=fun j r=>by rw[eP,n (i*5+j) oM,PW q i j p r]);exact⟨by have :=b 0 oM;simpa using this,by have :=b 1 oM;simpa using this,by have :=b 2 oM;simpa using this,by have :=b 3 oM;simpa using this,by have :=b 4 oM;simpa using this⟩
theorem aLW(w:World)(o:Obj)(r:Option Nat):w.grownBy (w.alloc o) r:=⟨rfl,rfl,rfl,by simp,fun k b _=>MQ w o k b⟩
theorem MJ(w:World)(r:Option Nat):w.grownBy w r:=⟨rfl,rfl,rfl,aH _,fun _ _ _=>rfl⟩
theorem aWO{w z d:World}{r:Option Nat}{v:Value}{n e c:Nat}{xs:List Value}(h:w.grownBy z r)(hg:z.grownBy d v.ownBlock)(g:z.ownsRow w.heap.size e c v n xs):w.grownBy d r:=
 ⟨hg.os.trans h.os,hg.tape.trans h.tape,hg.output.trans h.output,bP h.size hg.size,fun k b f=>(hg.block k (dS b h.size) (fun e=>by have :=(g.lt k e.symm).1;omega)).trans (h.block k b f)⟩
theorem NZ{w z d:World}{r:Option Nat}(h:w.grownBy z r)(hg:z.grownBy d r):w.grownBy d r:=
 ⟨hg.os.trans h.os,hg.tape.trans h.tape,hg.output.trans h.output,bP h.size hg.size,fun k b c=>(hg.block k (dS b h.size) c).trans (h.block k b c)⟩
theorem aLX{w z b:World}{r:Option Nat}(h:w.grownBy z r)(hg:Below z.heap.size z b):w.grownBy b r:=NZ h (rX hg r)
theorem bBI(w:World)(a b c d f:Value)(e:TypeId):∀j z,[a,b,c,d,f][j]?=some z->(w.alloc (.cells #[a,b,c,d,f] e)).cell? ((⟨w.heap.size,0,none⟩:Addr).add j)=some z:=by
 intro j z g;have i:(w.alloc (.cells #[a,b,c,d,f] e)).heap[w.heap.size]?=some (.cells #[a,b,c,d,f] e):=iC w _
 match j,g with
 |0,g=>cases g;exact(cM i 0).trans rfl
 |1,g=>cases g;exact(cM i 1).trans rfl
 |2,g=>cases g;exact(cM i 2).trans rfl
 |3,g=>cases g;exact(cM i 3).trans rfl
 |4,g=>cases g;exact(cM i 4).trans rfl
structure TZ (u:aX):Prop where
 id:fR u.id=true
 ps:∀y,y∈u.ps->fR y=true
 ts:∀y,y∈u.ts->fR y=true
 lp:u.ps.length<=6
 lt:u.ts.length<=6
theorem JE{u:aX}(h:eV u=0):TZ u:=by have r:=WI h;exact⟨r.id,r.pid,r.tid,r.ps,r.ts⟩
end Go.Proofs.YtfljoehbbncooaaGreat
namespace Go.Proofs.YtfljoehbbncooaaGreat
open Go.RowKit Go.Maps
def ST(w:World)(B n:Nat)(q:List Uv):Prop:=∃D:DataW Value,w.ownsMap Tryz.prog 39 JQ B n D/\(((bV q).map aX.id).Nodup->CmD q D)
theorem ST.at_{w:World}{B:Nat}{q:List Uv}(h:ST w B q.length q)(d:((bV q).map aX.id).Nodup):BN w B q:=by obtain⟨D,b,c⟩:=h;exact⟨D,b,c d⟩
theorem bCF(c:List Uv)(y:Uv):(bV (c++[y])).map aX.id=(bV c).map aX.id++[y.u.id]:=by simp[bV]
theorem Jb{c:List Uv}{y:Uv}(h:((bV (c++[y])).map aX.id).Nodup):((bV c).map aX.id).Nodup/\eG (bV c) y.u.id=false:=by
 rw[bCF,qH]at h;refine⟨h.1,?_⟩
 cases d:eG (bV c) y.u.id with
 |false=>rfl
 |true=>
  obtain⟨v,b,e⟩:=iH.mp d;exact absurd rfl (h.2.2 y.u.id (cJ.mpr ⟨v,b,e⟩) y.u.id sI)
theorem Nb(w:World){g:Array Oper}{rest:List Oper}{o:Oper}{a:Act}{Q:Exit->Act->World->Prop}(hg:o.guard=none)(m x v:Operand)(hop:o.op=Op.mapUpdate 126 m x v)(b n:Nat)(c:List Uv)(y:Uv)(w0:World)
 (p:a.eval m=.map (some b)) (e:ST w b n c) (G:n<=1000000) (C:a.eval x=rY y.u.id) (s:a.eval v=mA y) (f:fR y.u.id=true) (r:gM w0 y)
 (l:∀d,ST d b (n+1) (c++[y])->w.grownBy d (some b)->wpList Tryz.prog g Q rest (a.put o.dst undef) d):
 wpList Tryz.prog g Q (o::rest) a w:=by
 obtain⟨D,e,k⟩:=e;refine wpList_mapUpdate_own w hg m x v 126 hop 39 42 PY Tryz.underlying126 JQ b n D p e (by unfold maxLen;omega) _ _ _ C s (vJ f) _ _ (aE3 r) (fun d i j=>l d ⟨_,i,fun q=>?_⟩ j);obtain⟨E,F⟩:=Jb q;exact(k E).push (e.tidy PY) y f F
theorem aD4(q:List Uv)(v:Value)(w:World)(hV:iI w v q)(hl:q.length<=1000)(S:∀x,x∈q->gM w x)(P:∀x,x∈q->fR x.u.id=true):
 Calls Tryz.prog 82 #[v] w fun e T=>e=.returned (.map (some w.heap.size))/\ST T w.heap.size q.length q/\Below w.heap.size w T:=by
 obtain⟨ao,cap,rfl,_,L⟩:=hV;have V:O (∀z,Below w.heap.size w z->xU z ao q):=fun z hz=>L.kc (Kc.z hz);have HK:O (∀k,k<q.length->gM w (jL q k)/\fR (jL q k).u.id=true):=fun k G=>⟨S _ (mG q k G),P _ (mG q k G)⟩;clear L S P;have a6:=@run_makeMap Tryz.prog
 go_enter Tryz.func82,Tryz.ntmps82
 go_wp2_with fail;go_loopw [9] (fun iv wr=>∃k:Nat,k<=q.length/\iv=.int .i64 k/\O (ST wr w.heap.size k (q.take k))/\O (Below w.heap.size w wr)) (fun iv _=>q.length-(intOf iv).toNat);case atStart=>exact⟨0,bL _,rfl,⟨_,Dp _ _ _ _,fun _=>CmD.nil⟩,(aG _ _).alloc (aH _) _⟩
 case round=>
  obtain⟨k,G,rfl,F,d⟩:=hrel;by_cases c:k<q.length
  ·obtain⟨b,a7,rfl,c0,c1,c2,c3,c4⟩:=tS (V.o wr d.o) k c;obtain⟨H,N⟩:=HK.o k c;have I:O (q.take (k+1)=q.take k++[jL q k]):=zB q k c;generalize jL q k=x at *;obtain⟨f,p,l,g,r,m,i,s,n,e1,e2,e3⟩:=H.forms;have K:O (gM w x/\fR x.u.id=true):=⟨H,N⟩;clear H N;obtain⟨⟨⟨C,E⟩,ps,a4,ts⟩,vp,vs,vt⟩:=x;dsimp only at *;subst e1 e2 e3;have a0:=d.o.size;(have Q:ST (wr.alloc (.cells #[.int .i64 C, .int .i64 E, .slice f p l, .slice g r m, .slice i s n] 42)) w.heap.size k (q.take k):=by obtain⟨D,h1,h2⟩:=F.o;exact⟨D,h1.alloc _,h2⟩);(have X:O (ST (wr.alloc (.cells #[.int .i64 C, .int .i64 E, .slice f p l, .slice g r m, .slice i s n] 42)) w.heap.size k (q.take k)):=Q;have J:O (Below w.heap.size w (wr.alloc (.cells #[.int .i64 C, .int .i64 E, .slice f p l, .slice g r m, .slice i s n] 42))):=d.o.alloc a0 _;clear Q F;go_wp2_with(at_mapUpdate;refine Nb _ rfl _ _ _ rfl w.heap.size k (q.take k) ⟨⟨⟨C,E⟩,ps,a4,ts⟩, .slice f p l, .slice g r m, .slice i s n⟩ w rfl X.o oM rfl rfl K.o.2 K.o.1 ?_;intro U R M);have Z:O (ST U w.heap.size (k+1) (q.take (k+1))):=by show ST _ _ _ _;rw[I.o];exact R);have W:O (Below w.heap.size w U):=J.o.grown M J.o.size (fun j e=>by cases e;exact aH _);clear R M I;go_roundw;(case rel=>exact⟨k+1,c,gN,Z.o,W.o⟩);case measure=>exact mI
  have a5:decide (k<q.length)=false:=aF c;obtain rfl:k=q.length:=oM;(have Y:O (ST wr w.heap.size q.length q):=by have :=F.o;rw[nK]at this;exact this);go_wp2_with fail;go_ret;exact⟨rfl,Y.o,d.o⟩
end Go.Proofs.YtfljoehbbncooaaGreat
namespace Go.Proofs.YtfljoehbbncooaaGreat
open Go.RowKit Go.Maps
theorem aQ4(B:Nat)(P:aX->Bool)(q:List Uv)(v:Value)(w:World)(K:iI w v q)(hl:q.length<=1000)(s:∀x,x∈q->gM w x)(p:∀z x,Below w.heap.size w z->x∈q->Calls Tryz.prog 164 #[mA x, .pointer (some ⟨B,0,none⟩)] z fun e d=>e=.returned (.bool (P x.u))/\Below z.heap.size z d):
 Calls Tryz.prog 191 #[v, .func (.func 164) #[] #[.pointer (some ⟨B,0,none⟩)]] w fun e d=>∃r:Int,e=.returned (.int .i64 r)/\(decide (0<=r)=(bV q).any P)/\Below w.heap.size w d:=by
 obtain⟨G,cap,rfl,_,n⟩:=K;have C:O (xU w G q):=n;have F:O (∀x,x∈q->gM w x):=s;have D:O (∀z x,Below w.heap.size w z->x∈q->Calls Tryz.prog 164 #[mA x, .pointer (some ⟨B,0,none⟩)] z fun e d=>e=.returned (.bool (P x.u))/\Below z.heap.size z d):=p;clear s p n
 go_enter Tryz.func191,Tryz.ntmps191
 go_wp2_with fail;go_loopw [8] (fun iv wr=>∃k:Nat,k<=q.length/\iv=.int .i64 k/\O ((bV q).any P=((bV (q.drop k)).any P))/\Below w.heap.size w wr) (fun iv _=>q.length-(intOf iv).toNat);case atStart=>exact⟨0,bL _,rfl,rfl,aG _ _⟩
 case round=>
  obtain⟨k,hk,rfl,g,c⟩:=hrel;by_cases f:k<q.length
  ·obtain⟨b,a0,rfl,c0,S,T,U,V⟩:=tS (C.o.kc (Kc.z c)) k f;(have l:O ((bV q).any P=(P (jL q k).u||(bV (q.drop (k+1))).any P)):=by show _=_;rw[g.o,tA q k f];rfl);have j:=mG q k f;have m:O (Calls Tryz.prog 164 #[mA (jL q k), .pointer (some ⟨B,0,none⟩)] wr fun e d=>e=.returned (.bool (P (jL q k).u))/\Below wr.heap.size wr d):=D.o wr _ c j;obtain⟨N,n1,W,Q,n2,X,R,n3,Y,H,I,J⟩:=(F.o _ j).forms;clear g j;generalize jL q k=x at *;generalize P x.u=bx at *;obtain⟨⟨⟨ua,un⟩,ps,a4,ts⟩,vp,vs,vt⟩:=x;dsimp only at *;subst H I J;cases bx
   ·go_wp2_with(go_at_call 164;refine Calls.mono m.o ?_;rintro e M ⟨rfl,i⟩);have L:=c.trans (i.mono c.size);go_roundw;(case rel=>exact⟨k+1,f,gN,l.o.trans (by rw[rE]),L⟩);case measure=>exact mI
   go_wp2_with(go_at_call 164;refine Calls.mono m.o ?_;rintro e M ⟨rfl,i⟩);go_ret;exact⟨k,rfl,by rw[l.o,aP oM];rfl,c.trans (i.mono c.size)⟩
  have Z:decide (k<q.length)=false:=aF f;(have E:O ((bV q).any P=false):=by show _=_;rw[g.o,bG oM];rfl);go_wp2_with fail;go_ret;exact⟨-1,rfl,by rw[E.o];rfl,c⟩
theorem aCI(B:Nat)(P:aX->Bool)(q:List Uv)(v:Value)(w:World)(b:iI w v q)(j:q.length<=1000)(f:∀x,x∈q->gM w x)(d:∀z x,Below w.heap.size w z->x∈q->Calls Tryz.prog 164 #[mA x, .pointer (some ⟨B,0,none⟩)] z fun e c=>e=.returned (.bool (P x.u))/\Below z.heap.size z c):
 Calls Tryz.prog 163 #[v, .func (.func 164) #[] #[.pointer (some ⟨B,0,none⟩)]] w fun e c=>e=.returned (.bool ((bV q).any P))/\Below w.heap.size w c:=by
 have g:O _:=aQ4 B P q v w b j f d;obtain⟨l,cap,rfl,_⟩:=id b;generalize (bV q).any P=m at *;clear b f d
 go_enter Tryz.func163,Tryz.ntmps163
 go_wp2_with(go_at_call 191;refine Calls.mono g.o ?_;rintro e n ⟨r,rfl,k,i⟩);go_ret;exact⟨by rw[<-k];rfl,i⟩
theorem aQ5(B:Nat)(P:aX->Bool)(q:List Uv)(v:Value)(w:World)(K:iI w v q)(hl:q.length<=1000)(s:∀x,x∈q->gM w x)(p:∀z x,Below w.heap.size w z->x∈q->Calls Tryz.prog 165 #[mA x, .pointer (some ⟨B,0,none⟩)] z fun e d=>e=.returned (.bool (P x.u))/\Below z.heap.size z d):
 Calls Tryz.prog 191 #[v, .func (.func 165) #[] #[.pointer (some ⟨B,0,none⟩)]] w fun e d=>∃r:Int,e=.returned (.int .i64 r)/\(decide (0<=r)=(bV q).any P)/\Below w.heap.size w d:=by
 obtain⟨G,cap,rfl,_,n⟩:=K;have C:O (xU w G q):=n;have F:O (∀x,x∈q->gM w x):=s;have D:O (∀z x,Below w.heap.size w z->x∈q->Calls Tryz.prog 165 #[mA x, .pointer (some ⟨B,0,none⟩)] z fun e d=>e=.returned (.bool (P x.u))/\Below z.heap.size z d):=p;clear s p n
 go_enter Tryz.func191,Tryz.ntmps191
 go_wp2_with fail;go_loopw [8] (fun iv wr=>∃k:Nat,k<=q.length/\iv=.int .i64 k/\O ((bV q).any P=((bV (q.drop k)).any P))/\Below w.heap.size w wr) (fun iv _=>q.length-(intOf iv).toNat);case atStart=>exact⟨0,bL _,rfl,rfl,aG _ _⟩
 case round=>
  obtain⟨k,hk,rfl,g,c⟩:=hrel;by_cases f:k<q.length
  ·obtain⟨b,a0,rfl,c0,S,T,U,V⟩:=tS (C.o.kc (Kc.z c)) k f;(have l:O ((bV q).any P=(P (jL q k).u||(bV (q.drop (k+1))).any P)):=by show _=_;rw[g.o,tA q k f];rfl);have j:=mG q k f;have m:O (Calls Tryz.prog 165 #[mA (jL q k), .pointer (some ⟨B,0,none⟩)] wr fun e d=>e=.returned (.bool (P (jL q k).u))/\Below wr.heap.size wr d):=D.o wr _ c j;obtain⟨N,n1,W,Q,n2,X,R,n3,Y,H,I,J⟩:=(F.o _ j).forms;clear g j;generalize jL q k=x at *;generalize P x.u=bx at *;obtain⟨⟨⟨ua,un⟩,ps,a4,ts⟩,vp,vs,vt⟩:=x;dsimp only at *;subst H I J;cases bx
   ·go_wp2_with(go_at_call 165;refine Calls.mono m.o ?_;rintro e M ⟨rfl,i⟩);have L:=c.trans (i.mono c.size);go_roundw;(case rel=>exact⟨k+1,f,gN,l.o.trans (by rw[rE]),L⟩);case measure=>exact mI
   go_wp2_with(go_at_call 165;refine Calls.mono m.o ?_;rintro e M ⟨rfl,i⟩);go_ret;exact⟨k,rfl,by rw[l.o,aP oM];rfl,c.trans (i.mono c.size)⟩
  have Z:decide (k<q.length)=false:=aF f;(have E:O ((bV q).any P=false):=by show _=_;rw[g.o,bG oM];rfl);go_wp2_with fail;go_ret;exact⟨-1,rfl,by rw[E.o];rfl,c⟩
theorem aCJ(B:Nat)(P:aX->Bool)(q:List Uv)(v:Value)(w:World)(b:iI w v q)(j:q.length<=1000)(f:∀x,x∈q->gM w x)(d:∀z x,Below w.heap.size w z->x∈q->Calls Tryz.prog 165 #[mA x, .pointer (some ⟨B,0,none⟩)] z fun e c=>e=.returned (.bool (P x.u))/\Below z.heap.size z c):
 Calls Tryz.prog 163 #[v, .func (.func 165) #[] #[.pointer (some ⟨B,0,none⟩)]] w fun e c=>e=.returned (.bool ((bV q).any P))/\Below w.heap.size w c:=by
 have g:O _:=aQ5 B P q v w b j f d;obtain⟨l,cap,rfl,_⟩:=id b;generalize (bV q).any P=m at *;clear b f d
 go_enter Tryz.func163,Tryz.ntmps163
 go_wp2_with(go_at_call 191;refine Calls.mono g.o ?_;rintro e n ⟨r,rfl,k,i⟩);go_ret;exact⟨by rw[<-k];rfl,i⟩
theorem aQ6(B:Nat)(P:aX->Bool)(q:List Uv)(v:Value)(w:World)(K:iI w v q)(hl:q.length<=1000)(s:∀x,x∈q->gM w x)(p:∀z x,Below w.heap.size w z->x∈q->Calls Tryz.prog 137 #[.map (some B),mA x] z fun e d=>e=.returned (.bool (P x.u))/\Below z.heap.size z d):
 Calls Tryz.prog 191 #[v, .func (.func 137) #[.map (some B)] #[]] w fun e d=>∃r:Int,e=.returned (.int .i64 r)/\(decide (0<=r)=(bV q).any P)/\Below w.heap.size w d:=by
 obtain⟨G,cap,rfl,_,n⟩:=K;have C:O (xU w G q):=n;have F:O (∀x,x∈q->gM w x):=s;have D:O (∀z x,Below w.heap.size w z->x∈q->Calls Tryz.prog 137 #[.map (some B),mA x] z fun e d=>e=.returned (.bool (P x.u))/\Below z.heap.size z d):=p;clear s p n
 go_enter Tryz.func191,Tryz.ntmps191
 go_wp2_with fail;go_loopw [8] (fun iv wr=>∃k:Nat,k<=q.length/\iv=.int .i64 k/\O ((bV q).any P=((bV (q.drop k)).any P))/\Below w.heap.size w wr) (fun iv _=>q.length-(intOf iv).toNat);case atStart=>exact⟨0,bL _,rfl,rfl,aG _ _⟩
 case round=>
  obtain⟨k,hk,rfl,g,c⟩:=hrel;by_cases f:k<q.length
  ·obtain⟨b,a0,rfl,c0,S,T,U,V⟩:=tS (C.o.kc (Kc.z c)) k f;(have l:O ((bV q).any P=(P (jL q k).u||(bV (q.drop (k+1))).any P)):=by show _=_;rw[g.o,tA q k f];rfl);have j:=mG q k f;have m:O (Calls Tryz.prog 137 #[.map (some B),mA (jL q k)] wr fun e d=>e=.returned (.bool (P (jL q k).u))/\Below wr.heap.size wr d):=D.o wr _ c j;obtain⟨N,n1,W,Q,n2,X,R,n3,Y,H,I,J⟩:=(F.o _ j).forms;clear g j;generalize jL q k=x at *;generalize P x.u=bx at *;obtain⟨⟨⟨ua,un⟩,ps,a4,ts⟩,vp,vs,vt⟩:=x;dsimp only at *;subst H I J;cases bx
   ·go_wp2_with(go_at_call 137;refine Calls.mono m.o ?_;rintro e M ⟨rfl,i⟩);have L:=c.trans (i.mono c.size);go_roundw;(case rel=>exact⟨k+1,f,gN,l.o.trans (by rw[rE]),L⟩);case measure=>exact mI
   go_wp2_with(go_at_call 137;refine Calls.mono m.o ?_;rintro e M ⟨rfl,i⟩);go_ret;exact⟨k,rfl,by rw[l.o,aP oM];rfl,c.trans (i.mono c.size)⟩
  have Z:decide (k<q.length)=false:=aF f;(have E:O ((bV q).any P=false):=by show _=_;rw[g.o,bG oM];rfl);go_wp2_with fail;go_ret;exact⟨-1,rfl,by rw[E.o];rfl,c⟩
theorem aCK(B:Nat)(P:aX->Bool)(q:List Uv)(v:Value)(w:World)(b:iI w v q)(j:q.length<=1000)(f:∀x,x∈q->gM w x)(d:∀z x,Below w.heap.size w z->x∈q->Calls Tryz.prog 137 #[.map (some B),mA x] z fun e c=>e=.returned (.bool (P x.u))/\Below z.heap.size z c):
 Calls Tryz.prog 163 #[v, .func (.func 137) #[.map (some B)] #[]] w fun e c=>e=.returned (.bool ((bV q).any P))/\Below w.heap.size w c:=by
 have g:O _:=aQ6 B P q v w b j f d;obtain⟨l,cap,rfl,_⟩:=id b;generalize (bV q).any P=m at *;clear b f d
 go_enter Tryz.func163,Tryz.ntmps163
 go_wp2_with(go_at_call 191;refine Calls.mono g.o ?_;rintro e n ⟨r,rfl,k,i⟩);go_ret;exact⟨by rw[<-k];rfl,i⟩
end Go.Proofs.YtfljoehbbncooaaGreat
namespace Go.Proofs.YtfljoehbbncooaaGreat
open Go.RowKit Go.Maps
theorem aEV(x y:Uv)(w w0:World)(i:gM w0 x)(j:gM w0 y):Calls Tryz.prog 139 #[mA x,mA y] w fun e g=>e=.returned (.int .i64 (eF x.u y.u))/\Gr w g:=by
 obtain⟨D,n1,J,E,n2,K,F,n3,L,M,N,P⟩:=i.forms;obtain⟨G,X,Q,H,Y,R,I,Z,S,T,U,V⟩:=j.forms;obtain⟨⟨⟨b,c⟩,k,m,p⟩,vp,vs,vt⟩:=x;obtain⟨⟨⟨d,f⟩,l,n,q⟩,a0,a4,a5⟩:=y;dsimp only at *;subst M N P T U V;clear i j;have s:O (∀z,Calls Tryz.prog 131 #[rY ⟨b,c⟩,rY ⟨d,f⟩] z fun e g=>e=.returned (.int .i64 (gO ⟨b,c⟩ ⟨d,f⟩))/\Gr z g):=fun z=>aAT ⟨b,c⟩ ⟨d,f⟩ z;have C:O (eF ⟨⟨b,c⟩,k,m,p⟩ ⟨⟨d,f⟩,l,n,q⟩=gO ⟨b,c⟩ ⟨d,f⟩):=rfl;generalize eF ⟨⟨b,c⟩,k,m,p⟩ ⟨⟨d,f⟩,l,n,q⟩=od at *;generalize gO ⟨b,c⟩ ⟨d,f⟩=oe at *;obtain rfl:od=oe:=C.o;have r:O (Gr w ((w.alloc (.cells #[.int .i64 b, .int .i64 c, .slice D n1 J, .slice E n2 K, .slice F n3 L] 42)).alloc (.cells #[.int .i64 d, .int .i64 f, .slice G X Q, .slice H Y R, .slice I Z S] 42))):=((Gr.refl w).alloc _).alloc _
 go_enter Tryz.func139,Tryz.ntmps139
 go_wp2_with(go_at_call 131;refine Calls.mono (s.o _) ?_;rintro e z1 ⟨rfl,W⟩);go_ret;exact⟨rfl,r.o.trans W⟩
theorem aNS(q:List Uv)(i:Nat):(bV q).getD i uvZ.u=(jL q i).u:=by unfold bV jL;rw[aI,aI,dW];cases q[i]?<;>rfl
theorem aDP(q:List Uv)(v:Value)(w:World)(hV:iI w v q)(hl:q.length<=1000)(a7:∀x,x∈q->gM w x):Calls Tryz.prog 162 #[v, .func (.func 139) #[] #[]] w fun e i=>e=.returned (.bool (dI eF (bV q)))/\Below w.heap.size w i:=by
 obtain⟨ao,cap,rfl,_,hA⟩:=hV;have HA:O (xU w ao q):=hA;have HF:O (∀x,x∈q->gM w x):=a7;clear a7 hA
 go_enter Tryz.func162,Tryz.ntmps162
 go_wp2_with fail;go_loopw [5] (fun iv wr=>∃k:Nat,1<=k/\k<=q.length+1/\iv=.int .i64 k/\O (dI eF (bV q)=dI eF ((bV q).drop (k-1)))/\Below w.heap.size w wr) (fun iv _=>q.length+2-(intOf iv).toNat);case atStart=>exact⟨1,aH _,oM,rfl,rfl,aG _ _⟩
 case round=>
  obtain⟨k,aa,hk,rfl,p,f⟩:=hrel;obtain⟨j,D⟩:∃j,k=j+1:=⟨k-1,oM⟩;by_cases E:k<q.length
  ·have a6:j<q.length:=oM;(have ac:IntKind.i64.wrap ((k:Int)-1)=(j:Int):=by have e:((k:Int)-1)=(j:Int):=oM;rw[e];simp[IntKind.wrap,IntKind.bits,IntKind.signed];omega);(have n:O (dI eF (bV q)=(decide (eF (jL q j).u (jL q k).u<0)&&dI eF ((bV q).drop j.succ))):=by show _=_;rw[p.o,D,qS,<-aNS,<-aNS];exact zP eF uvZ.u (bV q) j (by show j+1<(q.map Uv.u).length;rw[aY];omega));have a8:O (k=j+1):=D;clear D;obtain⟨b,d,rfl,K,L,M,N,P⟩:=tS (HA.o.kc (Kc.z f)) j a6;obtain⟨r,ad,G,Q,R,S,T,U⟩:=tS (HA.o.kc (Kc.z f)) k E;injection G with G;injection G with g a9 _;subst g a9;have H:=HF.o _ (mG q j a6);have I:=HF.o _ (mG q k E);(have m:O (∀z,Below wr.heap.size wr z->Calls Tryz.prog 139 #[mA (jL q j),mA (jL q k)] z fun e i=>e=.returned (.int .i64 (eF (jL q j).u (jL q k).u))/\Below wr.heap.size wr i/\TI i b (d+j*5) (jL q j)/\TI i b (d+k*5) (jL q k)):=by intro z hz;refine(aEV (jL q j) (jL q k) z w H I).mono ?_;rintro e i ⟨h1,h2⟩;have s:=hz.trans (h2.z.mono hz.size);exact⟨h1,s,(Kc.z s).up ⟨K,L,M,N,P⟩,(Kc.z s).up ⟨Q,R,S,T,U⟩⟩);obtain⟨a1,n1,d1,a2,n2,d2,a3,n3,d3,e1,e2,e3⟩:=H.forms;obtain⟨b1,m1,f1,r,m2,f2,b3,m3,f3,g1,g2,g3⟩:=I.forms;clear p H I;generalize F:eF (jL q j).u (jL q k).u=J at *;clear F;generalize jL q j=x at *;generalize jL q k=y at *;obtain⟨⟨⟨ua,un⟩,ps,af,ts⟩,vp,vs,vt⟩:=x;obtain⟨⟨⟨xa,xn⟩,ae,ag,ah⟩,ai,aj,ak⟩:=y;unfold TI at m;dsimp only at *;subst e1 e2 e3 g1 g2 g3;have a0:∀b o,Below wr.heap.size wr b->Below wr.heap.size wr (b.alloc o):=fun _ o h=>h.alloc h.size o;have a4:∀b,Below wr.heap.size wr b->Below wr.heap.size wr b.drew:=fun _ h=>⟨h.os,h.tape,h.output,h.size,h.block⟩;have a5:Below wr.heap.size wr wr:=aG _ _;by_cases ho:0<=J
   ·have F:decide (0<=J)=true:=aP ho;(have l:O (dI eF (bV q)=false):=by show _=_;rw[n.o,aF oM];rfl);clear n;go_upto_region 4 with fail
    go_region_held3 (fun c=>c.cell? ⟨b,d+j*5,none⟩=some (.int .i64 ua)/\c.cell? ⟨b,d+j*5+1,none⟩=some (.int .i64 un)/\c.cell? ⟨b,d+j*5+2,none⟩=some (.slice a1 n1 d1)/\c.cell? ⟨b,d+j*5+3,none⟩=some (.slice a2 n2 d2)/\c.cell? ⟨b,d+j*5+4,none⟩=some (.slice a3 n3 d3)/\c.cell? ⟨b,d+k*5,none⟩=some (.int .i64 xa)/\c.cell? ⟨b,d+k*5+1,none⟩=some (.int .i64 xn)/\c.cell? ⟨b,d+k*5+2,none⟩=some (.slice b1 m1 f1)/\c.cell? ⟨b,d+k*5+3,none⟩=some (.slice r m2 f2)/\c.cell? ⟨b,d+k*5+4,none⟩=some (.slice b3 m3 f3)/\Below wr.heap.size wr c) (go_keep) (
     (go_at_call 139;refine Calls.mono (m.o _ ?_) ?_;(simp[*]);rintro e w2 ⟨rfl,g,⟨z0,z1,z2,z3,z4⟩,V,W,X,Y,Z⟩))
    clear a0 a4 a5 m z0 z1 z2 z3 z4 V W X Y Z K L M N P Q R S T U;have C:=f.trans (g.mono f.size);clear g f;go_wp2_with fail;go_ret;exact⟨by rw[l.o];rfl,C⟩
   have F:decide (0<=J)=false:=aF ho;(have l:O (dI eF (bV q)=dI eF ((bV q).drop k)):=by show _=_;rw[n.o,aP oM,qJ,a8.o]);clear n;go_upto_region 4 with fail
   go_region_held3 (fun c=>c.cell? ⟨b,d+j*5,none⟩=some (.int .i64 ua)/\c.cell? ⟨b,d+j*5+1,none⟩=some (.int .i64 un)/\c.cell? ⟨b,d+j*5+2,none⟩=some (.slice a1 n1 d1)/\c.cell? ⟨b,d+j*5+3,none⟩=some (.slice a2 n2 d2)/\c.cell? ⟨b,d+j*5+4,none⟩=some (.slice a3 n3 d3)/\c.cell? ⟨b,d+k*5,none⟩=some (.int .i64 xa)/\c.cell? ⟨b,d+k*5+1,none⟩=some (.int .i64 xn)/\c.cell? ⟨b,d+k*5+2,none⟩=some (.slice b1 m1 f1)/\c.cell? ⟨b,d+k*5+3,none⟩=some (.slice r m2 f2)/\c.cell? ⟨b,d+k*5+4,none⟩=some (.slice b3 m3 f3)/\Below wr.heap.size wr c) (go_keep) (
    (go_at_call 139;refine Calls.mono (m.o _ ?_) ?_;(simp[*]);rintro e w2 ⟨rfl,g,⟨z0,z1,z2,z3,z4⟩,V,W,X,Y,Z⟩))
   clear a0 a4 a5 m z0 z1 z2 z3 z4 V W X Y Z K L M N P Q R S T U;have C:=f.trans (g.mono f.size);clear g f;go_wp2_with fail;go_roundw;(case rel=>exact⟨k+1,oM,oM,gN,l.o,C⟩);case measure=>exact mI
  have ab:decide (k<q.length)=false:=aF E;have l:O (dI eF (bV q)=true):=p.o.trans (BG eF (bV q) (k-1) (by show¬k-1+1<(q.map Uv.u).length;rw[aY];omega));go_wp2_with fail;go_ret;exact⟨by rw[l.o];rfl,f⟩
end Go.Proofs.YtfljoehbbncooaaGreat
namespace Go.Proofs.YtfljoehbbncooaaGreat
def kY(p:bK)(k:Int):Int:=(kA p).getD k.toNat 0
structure aFI (p:bK):Prop where
 ok:xK p
 fit:aZH (eD p) (kA p)
theorem DR{p:bK}(h:dB p=0)(i:yN p=true):aFI p:=by have b:=RH h;refine⟨b,(aB5 ?_ i).2.2⟩;intro e f;obtain⟨r,d,c⟩:=jX.mp f;obtain⟨x,_,rfl⟩:=cJ.mp c;have j:=(b.A r d).p0;have c:=(b.A r d).p1;show r.g.toNat<p.x.length;omega
theorem Vc{p:bK}(h:aFI p){r:cA}(hr:r∈p.y){l:cX}(c:l∈r.body)(b:l.kind=1\/l.kind=2):kY p l.g+nY r l<=kY p r.g:=by refine h.fit (r.g.toNat,l.g.toNat,nY r l) ?_;unfold eD;rw[jX];refine⟨r,hr,cJ.mpr ⟨l,kG.mpr ⟨c,aP b⟩,rfl⟩⟩
structure mH (p:bK) (S:List aQ):Prop where
 right:∀f,f∈S->mD p.x f
 up:dD S
theorem nZ{S:List aQ}(h:dD S):S.Nodup:=h.imp fun {a b} c e=>by subst e;exact CO.irrefl _ c
def aA(p:bK)(k:Int)(S T:List aQ):Prop:=∀f:aQ,kY p f.g<k->(f∈S↔f∈T)
section
variable {p:bK} {S T:List aQ} {k:Int} {r:cA}
theorem Of(i:aFI p)(hr:r∈p.y)(m:kY p r.g=k)(e:aA p k S T)(j:∀f,f∈S->f∈T){x:List Int}(h:sJ S r x):sJ T r x:=by
 refine⟨h.1,fun l d=>?_⟩;have c:=h.2 l d;by_cases b:l.kind=2
 ·have n:=Vc i hr d (.inr b);(have q:nY r l=1:=by unfold nY;rw[if_pos (.inl b)]);rw[<-OR (S:=S) (fun _ a=>e ⟨l.g,a⟩ (by show kY p l.g<k;omega))];exact c
 exact ZC b j c
theorem aJO(f:aFI p)(hr:r∈p.y)(i:kY p r.g=k)(c:¬r.h=0)(b:aA p k S T)(x:List Int):sJ S r x↔sJ T r x:=by refine Gp fun l e d a=>b _ ?_;have j:=Vc f hr e d;(have m:nY r l=1:=by unfold nY;rw[if_pos (.inr c)]);show kY p l.g<k;omega
theorem Uw(b:aFI p)(hr:r∈p.y)(j:kY p r.g=k)(c:mH p S)(d:mH p T)(e:aA p k S T)(l:∀f,f∈S->f∈T){f:aQ}(h:f∈cZ S r):f∈cZ T r:=by
 by_cases i:r.h=0
 ·exact aZT (b.ok.A r hr) c.right d.right i (fun x m=>Of b hr j e l m) h
 rw[<-Vz (b.ok.A r hr) c.right d.right (nZ c.up) (nZ d.up) (aJO b hr j i e)];exact h
theorem aFZ(c:aFI p)(hr:r∈p.y)(i:kY p r.g=k)(b:mH p S)(d:mH p T)(e:aA p k S T)(j:∀f,f∈S->f∈T):(kF S r).length<=(kF T r).length:=
 aPS (c.ok.A r hr) b.right d.right (nZ b.up) fun _ l=>Of c hr i e j l
end
structure UD (p:bK) (k:Int) (S T:List aQ):Prop where
 sub:∀f,f∈S->f∈T
 new:∀f,f∈T->f∈S\/∃r,r∈p.y/\kY p r.g=k/\f∈cZ S r
 up:dD T
inductive kL (p:bK) (k:Int) (m:List aQ):List aQ->Prop
 |refl:kL p k m m
 |step {S T:List aQ}:kL p k m S->UD p k S T->kL p k m T
def bM3(p:bK)(k:Int)(S:List aQ):Prop:=∀r,r∈p.y->kY p r.g=k->∀f,f∈cZ S r->f∈S
structure UE (p:bK) (k:Int) (S:List aQ):Prop where
 len:S.length<=60
 way:∀r,r∈p.y->kY p r.g=k->(kF S r).length<=2000
section
variable {p:bK} {k:Int} {m:List aQ}
theorem Uq(e:aFI p){S T:List aQ}(c:mH p S)(h:UD p k S T):mH p T:=by
 refine⟨fun f d=>?_,h.up⟩;rcases h.new f d with b|⟨r,g,_,b⟩
 ·exact c.right f b
 exact NI (e.ok.A r g) c.right b
theorem Um{S T:List aQ}(h:UD p k S T):aA p k S T:=fun f d=>by
 refine⟨h.sub f,fun c=>?_⟩;rcases h.new f c with b|⟨r,g,e,b⟩
 ·exact b
 rw[aPP b]at d;omega
theorem uO(j:aFI p)(i:mH p m){S:List aQ}(h:kL p k m S):mH p S/\aA p k m S/\∀f,f∈m->f∈S:=by
 induction h with
 |refl=>exact⟨i,fun _ _=>Iff.rfl,fun _ h=>h⟩
 |step _ c l=>
  obtain⟨d,e,g⟩:=l;exact⟨Uq j d c,fun f b=>(e f b).trans (Um c f b),fun f b=>c.sub f (g f b)⟩
theorem NC(e:aFI p)(x:mH p m){S T:List aQ}(h:kL p k m S)(q:mH p T)(s:aA p k m T)(D:∀f,f∈m->f∈T)(u:bM3 p k T):∀f,f∈S->f∈T:=by
 induction h with
 |refl=>exact D
 |step C b j=>
  obtain⟨l,n,_⟩:=uO e x C;intro f w;rcases b.new f w with c|⟨r,i,d,c⟩
  ·exact j f c
  refine u r i d f (Uw e i d l q (fun g b=>?_) j c);exact(n g b).symm.trans (s g b)
theorem aFV(c:aFI p)(b:mH p m){S T:List aQ}(d:kL p k m S)(j:bM3 p k S)(e:kL p k m T)(l:bM3 p k T):S=T:=by obtain⟨g,n,q⟩:=uO c b d;obtain⟨i,r,s⟩:=uO c b e;exact GI g.up i.up fun f=>⟨NC c b d i r s l f,NC c b e g n q j f⟩
theorem aBK(b:aFI p)(c:mH p m){S T:List aQ}(d:kL p k m S)(u:kL p k m T)(s:bM3 p k T)(h:UE p k T):UE p k S:=by obtain⟨l,w,C⟩:=uO b c d;obtain⟨n,q,x⟩:=uO b c u;have g:=NC b c d n q x s;refine⟨bP ((nZ l.up).length_le_of_subset g) h.len,fun r j i=>?_⟩;exact bP (aFZ b j i l n (fun f e=>(w f e).symm.trans (q f e)) g) (h.way r j i)
end
def tD(p:bK)(k:Int)(m:List aQ):Option (List aQ)->Prop
 |some S=>kL p k m S/\bM3 p k S/\UE p k S
 |none=>∀S,kL p k m S->bM3 p k S->UE p k S->False
theorem aBH{p:bK}{k:Int}{m:List aQ}(f:aFI p)(e:mH p m):∀{a b:Option (List aQ)},tD p k m a->tD p k m b->a=b
 |some S,some T,c,d=>by rw[aFV f e c.1 c.2.1 d.1 d.2.1]
 |some S,none,c,d=>(d S c.1 c.2.1 c.2.2).elim
 |none,some S,c,d=>(c S d.1 d.2.1 d.2.2).elim
 |none,none,_,_=>rfl
def wT(p:bK)(m:List aQ):Nat->Option (List aQ)->Prop
 |0,o=>o=some m
 |n+1,o=>∃a,wT p m n a/\(match a with
  |none=>o=none
  |some S=>tD p n S o)
theorem vU{p:bK}{m:List aQ}(d:aFI p)(c:mH p m):∀{n:Nat}{S:List aQ},wT p m n (some S)->mH p S
 |0,S,h=>by unfold wT at h;injection h with h;subst h;exact c
 |n+1,S,h=>by
  obtain⟨a,e,b⟩:=h
  cases a with
  |none=>cases b
  |some T=>exact(uO d (vU d c e) b.1).1
theorem Aw{p:bK}{m:List aQ}(i:aFI p)(q:mH p m):∀{n:Nat}{a b:Option (List aQ)},wT p m n a->wT p m n b->a=b
 |0,_,_,f,g=>by unfold wT at f g;rw[f,g]
 |n+1,a,b,f,g=>by
  obtain⟨c,j,k⟩:=f;obtain⟨d,r,l⟩:=g;have e:=Aw i q j r;subst e
  cases c with
  |none=>rw[k,l]
  |some S=>exact aBH i (vU i q j) k l
def pR(p:bK)(l:List aQ)(o:Option (List aQ)):Prop:=wT p (eZ l) p.x.length o
theorem zL{p:bK}{l:List aQ}(h:∀f,f∈l->mD p.x f):mH p (eZ l):=⟨fun f b=>h f (lM.mp b),(kU l).1⟩
theorem aFN{p:bK}{l:List aQ}(e:aFI p)(d:∀f,f∈l->mD p.x f){a b:Option (List aQ)}(h1:pR p l a)(c:pR p l b):a=b:=Aw e (zL d) h1 c
end Go.Proofs.YtfljoehbbncooaaGreat

namespace Go.Proofs.YtfljoehbbncooaaGreat
open Go.RowKit
theorem Bc{x y:List Int}(e:x.length=y.length){k:Nat}(b:k<x.length):(x.drop k=y.drop k)↔(cI x k=cI y k/\x.drop (k+1)=y.drop (k+1)):=by(have c:x.drop k=cI x k::x.drop (k+1):=by rw[dA b];unfold cI;rw[aI,aM b];rfl);(have d:y.drop k=cI y k::y.drop (k+1):=by rw[dA oM];unfold cI;rw[aI,aM oM];rfl);rw[c,d,List.cons.injEq]
end Go.Proofs.YtfljoehbbncooaaGreat
namespace Go.Proofs.YtfljoehbbncooaaGreat
open Go.Shelf Go.RowKit Go.Lib Go.Sort
def bDN(w:World)(g:Nat)(x:Fv):Prop:=(∀b:World,(∀k,k<w.heap.size->¬k=g->b.heap[k]?=w.heap[k]?)->eT b x.2 x.1.args)/\gD x.1
abbrev FwS(w:World)(g:Nat):={x:Fv//bDN w g x}
theorem bAX(w:World)(g:Nat):bDN w g (⟨0,[]⟩, .slice none 0 0):=⟨fun _ _=>⟨none,0,rfl, .inl rfl⟩,by show([]:List Int).length<=_;decide⟩
theorem bEN{w:World}{g:Nat}:∀{q:List Fv},(∀p,p∈q->bDN w g p)->∃Q:List (FwS w g),Q.map (·.1)=q:=by
 intro q
 induction q with
 |nil=>intro _;exact⟨[],rfl⟩
 |cons a r d=>
  intro h;obtain⟨Q,b⟩:=d (fun p c=>h p (by simp[c]));exact⟨⟨a,h a sI⟩::Q,by simp[b]⟩
abbrev Zb(w:World)(g:Nat):Inhabited (FwS w g):=⟨⟨_,bAX w g⟩⟩
def WT{w:World}{g:Nat}(x:FwS w g):List Value:=eO x.1
def Yz{w:World}{g:Nat}(x y:FwS w g):Int:=eU x.1.1 y.1.1
theorem bHX(w:World)(g:Nat):SWO (ltOf (Yz (w:=w) (g:=g)))where
 irrefl x:=by unfold ltOf Yz;rw[zD];decide
 trans x y z h1 h2:=by unfold ltOf Yz at *;simp only[decide_eq_true_eq]at *;exact vV h1 h2
 ntrans x y z h1 h2:=by
  unfold ltOf Yz at *;simp only[decide_eq_false_iff_not]at *;intro c;rcases LP x.1.1 y.1.1 with b|b|b
  ·exact h1 b
  ·rw[b]at c;exact h2 c
  exact h2 (vV b c)
theorem bHW{w:World}{g:Nat}(x:FwS w g):∀v∈WT x,v.oneCell'=true:=by intro v c;obtain⟨⟨⟨p,a⟩,u⟩,h⟩:=x;obtain⟨d,cap,b,_⟩:=h.1 w (fun _ _ _=>rfl);have b:u=.slice d a.length cap:=b;subst b;simp[WT,eO]at c;rcases c with rfl|rfl<;>rfl
theorem bEM(w:World)(g size:Nat):@CmpLays (FwS w g) (Zb w g) Tryz.prog 69 #[] WT 2 Yz g 0 size w:=by
 letI:Inhabited (FwS w g):=Zb w g
 intro m f c _ x y;have b:∀k,k<w.heap.size->¬k=g->(sortWorldK (WT (w:=w) (g:=g)) 2 w g 0 m c f).heap[k]?=w.heap[k]?:=fun k d e=>zA _ _ _ _ _ _ _ k d e;exact GH x.1.1 y.1.1 x.1.2 y.1.2 _ (x.2.1 _ b) (y.2.1 _ b) x.2.2 y.2.2
theorem aQ2{w1 w:World}{B g cap:Nat}{Q:List (FwS w1 g)}(h:wS w B g cap (Q.map (·.1))):@HoldsK (FwS w1 g) (Zb w1 g) WT 2 w g 0 Q.toArray:=by
 letI:Inhabited (FwS w1 g):=Zb w1 g
 intro t ht;(have b:t<Q.length*2:=by simpa using ht);refine⟨?_,by rw[eP];exact h.frozen t⟩;rw[eP];have i:=World.ownsRow.cellAt h t (by rw[aY];exact b);obtain⟨x,e,j⟩:=NW (Q.map (·.1)) t (by rw[aY];exact b);rw[i,j];have c:t/2<Q.length:=oM;rw[dW,aM c]at e;(have k:Q[t/2].1=x:=by simpa using e);show(eO x)[t% 2]?=some ((flatK WT 2 Q.toArray)[t]!);rw[get_flatK WT 2 Q.toArray t (by simpa using b)];(have f:(Q.toArray)[t/2]! =Q[t/2]:=by simp[c]);rw[f];show _=some ((eO Q[t/2].1)[t% 2]!);rw[k];(have d:t% 2<(eO x).length:=by show t% 2<2;omega);rw[aM d,getElem!_pos (eO x) (t% 2) d]
theorem aNB{w1 w:World}{B g cap n:Nat}{Q:List (FwS w1 g)}{d:Array (FwS w1 g)}{q:Array Obj}(h:wS w B g cap (Q.map (·.1)))(f:d.size=Q.length):
 wS (@sortWorldK (FwS w1 g) (Zb w1 g) WT 2 w g 0 n d q) B g cap (d.toList.map (·.1)):=by
 letI:Inhabited (FwS w1 g):=Zb w1 g
 have D:=h.lt;obtain⟨K,e⟩:=h;rcases e with⟨e,_⟩|⟨J,I,i,F,s,E,l,u,m,L⟩
 ·cases e
 injection F with b _ r;injection b with b;injection b with b;subst b r;(have c:(d.toList.map (·.1)).length=Q.length:=by rw[aY,vM,f]);refine⟨rW _, .inr ⟨g,cap,putCells id 0 (flatK WT 2 d) i,rfl,s,?_,by rw[c];simpa using l,u,by simpa[putCells]using m,?_⟩⟩
 ·unfold sortWorldK putRowK putRow mapBlock Sort.ahead grow;show((w.heap.modify g _)++q)[g]?=_;rw[sA (by simpa using D.2),zY,if_pos rfl,E];rfl
 apply kP;intro t;rw[jA,fZ,c];by_cases ht:t<Q.length*2
 ·rw[if_pos ht];have M:(Q.map (·.1)).length=Q.length:=aY _;(have C:t<i.size:=by rw[m];(have :Q.length<=cap:=by simpa using l);omega);obtain⟨x,p,G⟩:=NW (d.toList.map (·.1)) t (by rw[c];exact ht);rw[G];unfold putCells;rw[QF,jO C,nU,if_pos (by rw[size_flatK,f];omega)];have k:t/2<d.size:=oM;rw[dW,fZ,jO k]at p;(have H:d[t/2].1=x:=by simpa using p);rw[Nat.sub_zero,get_flatK WT 2 d t (by rw[f];exact ht),getElem!_pos d _ k];show some ((eO d[t/2].1)[t% 2]!)=_;rw[H];(have j:t% 2<(eO x).length:=by show t% 2<2;omega);rw[aM j,getElem!_pos (eO x) (t% 2) j]
 rw[if_neg ht,dK];rw[rW,c];omega
theorem aXX(w:World)(B g cap:Nat)(q:List Fv)(f:wS w B g cap q)(N:∀p,p∈q->bDN w g p)(K:q.length<4611686018427387904):
 Calls Tryz.prog 104 #[.slice (some ⟨g,0,none⟩) q.length cap, .func (.func 69) #[] #[]] w fun e m=>e=.returned (.tuple #[])/\∃l,l.Perm q/\(l.map (·.1)).Pairwise (fun a b=>¬CO b a)/\wS m B g cap l/\w.grownBy m (some g):=by
 obtain⟨Q,rfl⟩:=bEN N
 letI:Inhabited (FwS w g):=Zb w g
 have D:∀args w,(callFunc 69 args).run Tryz.prog w=.ok (.enter 69 args) w:=oQ Tryz.func69 kR rfl;(have s:Q.toArray.size=Q.length:=by simp);have d:=AnyQ.slices_SortFunc Tryz.sortF 2 Tryz.isAgg72 Tryz.sizeOf72 WT (fun _=>rfl) bHW Yz (bHX w g) 69 #[] g 0 cap Q.toArray w D (bEM w g _) (aQ2 f) f.lt.2 (by rw[s];simpa using K);rw[s]at d;change Calls Tryz.prog 104 _ _ _ at d;rw[aY];refine d.mono ?_;rintro e m ⟨rfl,c,n,S,M,P,rfl⟩;obtain⟨R,T,u⟩:=M;(have r:c.size=Q.length:=by rw[R];simp);(have x:c.extract 0 Q.length=c:=by rw[<-r];simp);(have C:Q.toArray.extract 0 Q.length=Q.toArray:=by simp);rw[x,C]at u;refine⟨rfl,c.toList.map (·.1),?_,?_,aNB f r,rfl,rfl,rfl,JP _ _ _ _ _ _ _,fun k J L=>zA _ _ _ _ _ _ _ k J (fun e=>L (by rw[e]))⟩
 ·exact u.map _
 rw[wN];intro i j E H G;(have F:i<c.size:=by simpa using E);(have I:j<c.size:=by simpa using H);have :=P i j (bL _) G oM;rw[getElem!_pos c j I,getElem!_pos c i F]at this;unfold ltOf Yz at this;simp only[decide_eq_false_iff_not]at this;simpa[CO]using this
end Go.Proofs.YtfljoehbbncooaaGreat
namespace Go.Proofs.YtfljoehbbncooaaGreat
open Go.RowKit
theorem BT{S:List aQ}{k:Nat}(b:k<S.length):S.drop k=bF S k::S.drop (k+1):=by rw[dA b];unfold bF;rw[aI,aM b];rfl
theorem RA(f:Int){S:List aQ}{k:Nat}(b:k+1<S.length)(c:aZ (bF S k).args=aZ (bF S (k+1)).args)(ns:List Int):jI f (S.drop k) ns=jI f (S.drop (k+1)) (ns++[qO (bF S k).args]):=by rw[BT (show k<S.length by omega),BT b];show(if aZ (bF S k).args=aZ (bF S (k+1)).args then _ else _)=_;rw[if_pos c]
theorem OP(f:Int){S:List aQ}{k:Nat}(c:k<S.length)(d:¬(k+1<S.length/\aZ (bF S k).args=aZ (bF S (k+1)).args))(ns:List Int):jI f (S.drop k) ns=yK f (bF S k).g (aZ (bF S k).args) (ns++[qO (bF S k).args])++jI f (S.drop (k+1)) []:=by
 by_cases b:k+1<S.length
 ·rw[BT c,BT b];show(if aZ (bF S k).args=aZ (bF S (k+1)).args then _ else _)=_;rw[if_neg (fun e=>d ⟨b,e⟩)];rfl
 rw[BT c,bG (show S.length<=k+1 by omega)];show _=yK f _ _ _++[];rw[iZ];rfl
theorem Kx(l:List Int):qO l=cI l (l.length-1):=by unfold qO cI;rw[List.getLastD_eq_getLast?,List.getLast?_eq_getElem?,aI]
theorem AC(l:List Int):(aZ l).length=l.length-1:=List.length_dropLast
theorem aKC{l:List Int}{i:Nat}(h:i<l.length-1):cI (aZ l) i=cI l i:=by unfold aZ cI;rw[aI,aI,List.getElem?_dropLast,if_pos h]
theorem Bg{l:List Int}(h:0<l.length)(b:∀n,n∈l->dJ n=true):dJ (qO l)=true:=by refine b _ ?_;rw[Kx];unfold cI;rw[aI,aM oM];exact fG _
theorem UN(f b:Int)(p ns:List Int):(yK f b p ns).length<=1:=by unfold yK;split<;>simp
theorem GL(f:Int):∀(S:List aQ)(ns:List Int),(jI f S ns).length<=S.length
 |[],_=>aH _
 |h::t,ns=>by
  by_cases b:0+1<(h::t).length/\aZ (bF (h::t) 0).args=aZ (bF (h::t) (0+1)).args
  ·have :=RA f (S:=h::t) (k:=0) b.1 b.2 ns;rw[iU]at this;rw[this];have :=GL f t (ns++[qO (bF (h::t) 0).args]);show(jI f t _).length<=t.length+1;omega
  have :=OP f (S:=h::t) (k:=0) sI b ns;rw[iU]at this;rw[this,aV];have c:=UN f (bF (h::t) 0).g (aZ (bF (h::t) 0).args) (ns++[qO (bF (h::t) 0).args]);have :=GL f t [];show _+(jI f t []).length<=t.length+1;omega
theorem LT(f:Int)(T:Nat):∀(S:List aQ)(ns:List Int),(∀g,g∈S->g.args.length=T)->∀g,g∈jI f S ns->g.args.length<=T+1
 |[],_,_,g,b=>by cases b
 |h::t,ns,hS,g,b=>by
  by_cases c:0+1<(h::t).length/\aZ (bF (h::t) 0).args=aZ (bF (h::t) (0+1)).args
  ·have :=RA f (S:=h::t) (k:=0) c.1 c.2 ns;rw[iU]at this;rw[this]at b;exact LT f T t _ (fun x d=>hS x (bY _ d)) g b
  have :=OP f (S:=h::t) (k:=0) sI c ns;rw[iU]at this;rw[this]at b;rcases cW.mp b with b|b
  ·unfold yK at b;split at b
   ·rw[cP.mp b];show(aZ h.args++_).length<=_;rw[aV,AC,hS h dL];simp
   cases b
  exact LT f T t _ (fun x d=>hS x (bY _ d)) g b
theorem Ix{w:World}{ao:Option Addr}{l:List Int}(cap:Nat)(h:vS w ao l):eT w (.slice ao (l.length-1) cap) (aZ l):=by
 refine⟨ao,cap,by rw[AC],?_⟩;rcases h with h|⟨b,f,d,e⟩
 ·exact .inl (by rw[h];rfl)
 refine .inr ⟨b,f,d,fun i c=>?_⟩;rw[AC]at c;rw[aKC c];exact e i oM
section
variable {P:Program} {ops:Array Oper} {Q:Exit->Act->World->Prop}
theorem TF(T:Nat->Value->World->Prop)(L:Nat){id:Nat}{b:Act}{w0:World}(j:L<ops.size)(q:xD ops L=true)(m:P.follows .mixedOrders=true)
 (k:II ops b.tmps.size=true)
 (n:∀t v w c,Below w.heap.size w c->T t v w->T t v c)
 (hop:OI (fun o=>∀a w,QX ops T b w0 o a w->(∀t,t∉(ops.toList.take L).filterMap (·.dst)->a.tmps.getD t undef=b.tmps.getD t undef)->IU P ops Q T o a w) (ops.toList.take L))
 (htail:∀a w,aDM ops T b w0 L a w->(∀t,t∉(ops.toList.take L).filterMap (·.dst)->a.tmps.getD t undef=b.tmps.getD t undef)->wpOps P ops Q (List.range' L (ops.size-L)) a w):
 (Code.region id ops true).wp P Q b w0:=
 DO T L (wK j) (fun _=>q) m k n (fun _ o l p a w h hO=>OI.mem _ hop o (Jg l p) a w h hO) (fun a w d e f g i hO=>htail a w ⟨d,e,f,g,i⟩ hO)
end
def XW(b:Array Oper)(S:Nat)(c:Nat->Bool):Bool:=(List.range b.size).all fun i=>i==S||CQ b 12 i S||((b[i]?).map fun o=>(o.dst.map c).getD true).getD true
section
variable {P:Program} {ops:Array Oper} {Q:Exit->Act->World->Prop}
theorem Ag(T r:Nat->Value->World->Prop)(L S:Nat)(H:Nat->Bool){id:Nat}{d:Act}{w0:World}(hL:L<ops.size)(aa:xD ops L=true)(hm:P.follows .mixedOrders=true)
 (U:xX ops d.tmps.size=true) (a3:XW ops S H=true)
 (J:∀t v w b,Below w.heap.size w b->T t v w->T t v b) (a5:∀t v w b,Below w.heap.size w b->r t v w->r t v b)
 (a6:∀t v w b,H t=true->Below w0.heap.size w b->T t v w->T t v b)
 (hop:AM (fun i o=>∀a w,QX ops T d w0 o a w->(∀t,t∉(ops.toList.take L).filterMap (·.dst)->a.tmps.getD t undef=d.tmps.getD t undef)->if i=S then(QX ops r d w0 o a w->Region.wanted o (yielded ops a.tmps)=true/\o.wp P a w (fun N b=>∃v,N=a.put o.dst v/\(∀t,o.dst=some t->T t v b)/\w.heap.size<=b.heap.size/\Below w0.heap.size w b) Q)else((CQ ops 12 S i=true->QX ops r d w0 o a w)->IU P ops Q (fun t v w=>T t v w/\r t v w) o a w)) 0 (ops.toList.take L))
 (htail:∀a w,aDM ops T d w0 L a w->(∀t,t∉(ops.toList.take L).filterMap (·.dst)->a.tmps.getD t undef=d.tmps.getD t undef)->wpOps P ops Q (List.range' L (ops.size-L)) a w):
 (Code.region id ops true).wp P Q d w0:=by
 (have a4:∀(i:Nat)(o:Oper)(t:Nat),ops[i]?=some o->o.dst=some t->¬i=S->CQ ops 12 i S=false->H t=true:=fun i o t l g a7 hr=>by have h:=fA.mp a3 i (lL.mpr (aK.mp l).1);rw[l,hr]at h;simp only[Option.map_some,Option.getD_some,g,Bool.or_false,Bool.or_eq_true,beq_iff_eq]at h;exact h.resolve_left a7);have V:∀i j,SJ ops (fun _=>true) (fun _ _=>true) i j=false:=fun i j=>by
  unfold SJ
  cases l:ops[j]? with
  |none=>simp
  |some o=>cases g:o.dst<;>simp[g]
 refine MP (fun s a w=>(∀t,t∉(ops.toList.take L).filterMap (·.dst)->a.tmps.getD t undef=d.tmps.getD t undef)/\(s[S]?=some false->IC (Below w0.heap.size) (fun _ _=>True) ops (fun _=>true) (fun _ _=>true) r d w0 s a w)/\IC (Below w0.heap.size) (fun _ _=>True) ops (fun _=>true) (fun _ _=>true) T d w0 s a w) L (wK hL) (fun _=>aa) hm U ?_ ?_
  ⟨fun _ _=>rfl,fun _=>IC.start ⟨rfl,rfl,rfl,aH _,fun _ _=>rfl⟩,IC.start ⟨rfl,rfl,rfl,aH _,fun _ _=>rfl⟩⟩
 ·rintro s a w i o hs R ⟨hO,I,c⟩ W x l a1;have Y:∀(v:Value)(t:Nat),t∉(ops.toList.take L).filterMap (·.dst)->(a.put o.dst v).tmps.getD t undef=d.tmps.getD t undef:=fun v=>Mk (fun u q=>lW.mpr ⟨o,Jg W l,q⟩) hO;have M:∀{T:Nat->Value->World->Prop},IC (Below w0.heap.size) (fun _ _=>True) ops (fun _=>true) (fun _ _=>true) T d w0 s a w->QX ops T d w0 o a w:=fun c=>⟨c.z,c.still,fun e he f o' t a8 g=>c.done e.on o' t (a1 e he f) a8 g (fun k D=>by rw[V]at D;cases D)⟩
  have K:∀{T:Nat->Value->World->Prop}{v:Value}{b:World},IC (Below w0.heap.size) (fun _ _=>True) ops (fun _=>true) (fun _ _=>true) T d w0 s a w->(∀t,o.dst=some t->T t v b)->Below w0.heap.size w b->(∀(j:Nat)(m:Oper)(t:Nat),s[j]?=some true->ops[j]?=some m->m.dst=some t->∀u,T t u w->T t u b)->IC (Below w0.heap.size) (fun _ _=>True) ops (fun _=>true) (fun _ _=>true) T d w0 (s.setIfInBounds i true) (a.put o.dst v) b:=
   fun c C f J=>c.set (fun _ _ _ Z h2=>Z.trans h2) U x l C f (fun _ h=>h) (fun _=>trivial) (fun h=>absurd rfl h) (fun j m t p E g _=>J j m t p E g)
  have F:=AM.get _ 0 hop i o (by rw[jA,if_pos W,fZ];exact l) a w (M c) hO;rw[eP]at F;by_cases n:i=S
  ·rw[if_pos n]at F;obtain⟨hw,ab⟩:=F (M (I (n▸x)));refine XK l hw (Oper.wp_mono ?_ ab);rintro N b ⟨v,rfl,C,ad,f⟩;refine⟨Y v,fun h=>?_,K c C f (fun j m t p E g u q=>a6 t u w b (a4 j m t E g (fun e=>by rw[e,<-n,x]at p;cases p) (Jf R p (n▸x))) f q)⟩;rw[<-n,XF x]at h;cases h
  rw[if_neg n]at F;refine aTX l (F fun G=>M (I ?_)) fun v b C f=>⟨Y v,fun h=>?_,K c (fun t ht=>(C t ht).1) (f.mono c.z.size) (fun _ _ t _ _ _ u q=>J t u w b f q)⟩
  ·have ac:S<ops.size:=by
    cases X:ops[S]? with
    |none=>unfold CQ at G;rw[X]at G;cases G
    |some oS=>exact(aK.mp X).1
   refine(aAE (s:=s) (i:=S) oM).resolve_right fun a9=>?_;rw[Jf R a9 x]at G;cases G
  rw[SO (Ne.symm n)]at h;exact K (I h) (fun t ht=>(C t ht).2) (f.mono c.z.size) (fun _ _ t _ _ _ u q=>a5 t u w b f q)
 rintro s a w a2 ⟨hO,_,c⟩;exact htail a w ⟨c.z,c.defers,c.size,c.still,fun j m t p E g=>c.done j m t (a2 j p) E g (fun k D=>by rw[V]at D;cases D)⟩ hO
theorem AM.imp{Φ Ψ:Nat->Oper->Prop}(h:∀i o,Φ i o->Ψ i o):∀(l:List Oper)(i:Nat),AM Φ i l->AM Ψ i l
 |[],_,_=>trivial
 |_::l,i,hA=>⟨h _ _ hA.1,AM.imp h l (i+1) hA.2⟩
theorem Nf(T d:Nat->Value->World->Prop)(L S:Nat)(g:Nat->Bool){id:Nat}{c:Act}{w0:World}(l:L<ops.size)(u:xD ops L=true)(p:P.follows .mixedOrders=true)
 (n:xX ops c.tmps.size=true) (m:XW ops S g=true)
 (q:∀t v w b,Below w.heap.size w b->T t v w->T t v b) (r:∀t v w b,Below w.heap.size w b->d t v w->d t v b)
 (s:∀t v w b,g t=true->Below w0.heap.size w b->T t v w->T t v b)
 (hop:AM (fun i o=>∀a w,QX ops T c w0 o a w->(∀t,t∉(ops.toList.take L).filterMap (·.dst)->a.tmps.getD t undef=c.tmps.getD t undef)->if i=S then(QX ops d c w0 o a w->Region.wanted o (yielded ops a.tmps)=true/\o.wp P a w (fun j b=>∃v,j=a.put o.dst v/\(∀t,o.dst=some t->T t v b)/\w.heap.size<=b.heap.size/\Below w0.heap.size w b) Q)else IU P ops Q (fun t v w=>T t v w/\d t v w) o a w) 0 (ops.toList.take L))
 (htail:∀a w,aDM ops T c w0 L a w->(∀t,t∉(ops.toList.take L).filterMap (·.dst)->a.tmps.getD t undef=c.tmps.getD t undef)->wpOps P ops Q (List.range' L (ops.size-L)) a w):
 (Code.region id ops true).wp P Q c w0:=by
 refine Ag T d L S g l u p n m q r s (AM.imp (fun i o h a w k hO=>?_) _ _ hop) htail;have f:=h a w k hO;by_cases e:i=S
 ·rw[if_pos e]at f ⊢;exact f
 rw[if_neg e]at f ⊢;exact fun _=>f
theorem TG(T d:Nat->Value->World->Prop)(L S:Nat)(e:Nat->Bool){id:Nat}{c:Act}{w0:World}(g:L<ops.size)(q:xD ops L=true)(l:P.follows .mixedOrders=true)
 (k:II ops c.tmps.size=true) (j:XW ops S e=true)
 (m:∀t v w b,Below w.heap.size w b->T t v w->T t v b) (n:∀t v w b,Below w.heap.size w b->d t v w->d t v b)
 (p:∀t v w b,e t=true->Below w0.heap.size w b->T t v w->T t v b)
 (hop:AM (fun i o=>∀a w,QX ops T c w0 o a w->(∀t,t∉(ops.toList.take L).filterMap (·.dst)->a.tmps.getD t undef=c.tmps.getD t undef)->if i=S then(QX ops d c w0 o a w->Region.wanted o (yielded ops a.tmps)=true/\o.wp P a w (fun f b=>∃v,f=a.put o.dst v/\(∀t,o.dst=some t->T t v b)/\w.heap.size<=b.heap.size/\Below w0.heap.size w b) Q)else IU P ops Q (fun t v w=>T t v w/\d t v w) o a w) 0 (ops.toList.take L))
 (htail:∀a w,aDM ops T c w0 L a w->(∀t,t∉(ops.toList.take L).filterMap (·.dst)->a.tmps.getD t undef=c.tmps.getD t undef)->wpOps P ops Q (List.range' L (ops.size-L)) a w):
 (Code.region id ops true).wp P Q c w0:=
 Nf T d L S e g q l (Mw k) j m n p hop htail
end
theorem aZF(x y:List Int)(v u:Value)(w:World)(F:eT w v x)(E:eT w u y)(S:x.length<=1000000):Calls Tryz.prog 217 #[v,u] w fun e H=>e=.returned (.bool (decide (x=y)))/\∃n,H=w.drewN n:=by
 obtain⟨I,cap,rfl,m⟩:=F;obtain⟨L,M,rfl,p⟩:=E;have q:O _:=m;have r:O _:=p;clear m p;by_cases f:x.length=y.length
 ·have i:O _:=f;(have C:((x.length:Int) != (y.length:Int))=false:=by rw[f];simp);clear f
  go_enter Tryz.func217,Tryz.ntmps217
  go_wp2_with fail;go_loopw [13] (fun iv wr=>∃k nq:Nat,k<=x.length/\iv=.int .i64 k/\O (x=y↔x.drop k=y.drop k)/\wr=w.drewN nq) (fun iv _=>x.length-(intOf iv).toNat);case atStart=>exact⟨0,0,oM,rfl,Iff.rfl,rfl⟩
  case round=>
   obtain⟨k,nq,R,rfl,j,rfl⟩:=hrel;by_cases g:k<x.length
   ·(have G:k<y.length:=by have :=i.o;omega);obtain⟨J,T,rfl,N⟩:=tG q.o g;obtain⟨K,U,rfl,P⟩:=tG r.o G;have l:O _:=Bc i.o g;generalize cI x k=a at *;generalize cI y k=c at *;by_cases b:a=c
    ·(have D:(a != c)=false:=by simpa using b);have s:O (x=y↔x.drop (k+1)=y.drop (k+1)):=j.o.trans (l.o.trans ⟨fun h=>h.2,fun h=>⟨b,h⟩⟩);clear b;go_upto_region 6 with fail;go_quiet(fail);go_wp2_with fail;go_roundw;(case rel=>exact⟨k+1,_,g,gN,s.o,rfl⟩);case measure=>exact mI
    (have D:(a != c)=true:=by simpa using b);have d:O (decide (x=y)=false):=aF (fun h=>b (l.o.mp (j.o.mp h)).1);clear b;go_upto_region 6 with fail;go_quiet(fail);go_wp2_with fail;go_ret;exact⟨by rw[d.o];rfl,_,PL _ _ _⟩
   have Q:decide (k<x.length)=false:=aF g;have d:O (decide (x=y)=true):=aP (j.o.mpr (by have :=i.o;rw[bG oM,bG oM]));go_wp2_with fail;go_ret;exact⟨by rw[d.o];rfl,_,rfl⟩
 have d:O (decide (x=y)=false):=aF (fun h=>f (by rw[h]));(have C:((x.length:Int) != (y.length:Int))=true:=by simp;omega);clear f
 go_enter Tryz.func217,Tryz.ntmps217
 go_wp2_with fail;go_ret;exact⟨by rw[d.o];rfl,0,rfl⟩
def bEI(f:Value)(c d e m:Nat)(i g:Int)(j:Nat)(b:Value):Prop:=
 match j with
 |57=>b=(f:Value)
 |58=>b=(.pointer (some ⟨c,0,none⟩):Value)
 |59=>b=(.int .i64 i:Value)
 |60=>b=(.pointer (some ⟨c,1,none⟩):Value)
 |61=>b=(.slice (some ⟨d,0,none⟩) (m+1) e:Value)
 |62=>b=(.int .i64 (m:Nat):Value)
 |63=>b=(.slice (some ⟨d,0,none⟩) m e:Value)
 |65=>b=(.int .i64 g:Value)
 |_=>True
def NY(j:Value)(i k n m:Nat)(f b:Int)(B:Nat)(l:List Int)(d:Nat)(e:Value)(c:World):Prop:=
 if d=67 then c.ownsRow B 3 1 e (l++[b]).length ((l++[b]).map (Value.int .i64))
 else if d=68 then∃u,e=.agg #[.int .i64 f,u]/\c.ownsRow B 3 1 u (l++[b]).length ((l++[b]).map (Value.int .i64))
 else if d=69 then∃g u,e=.slice (some ⟨g,0,none⟩) 1 1/\c.heap[g]?=some (.cells #[.int .i64 f,u] 72)/\c.ownsRow B 3 1 u (l++[b]).length ((l++[b]).map (Value.int .i64))else bEI j i k n m f b d e
theorem Ik(g:Value)(f k n m:Nat)(s r:Int)(B:Nat)(l:List Int)(b:Nat)(w:Value)(W i:World)(d:Below W.heap.size W i)(h:NY g f k n m s r B l b w W):NY g f k n m s r B l b w i:=by
 unfold NY at h ⊢;by_cases ht:b=67
 ·rw[if_pos ht]at h ⊢;exact bO h d
 rw[if_neg ht]at h ⊢;by_cases p:b=68
 ·rw[if_pos p]at h ⊢;obtain⟨u,e,c⟩:=h;exact⟨u,e,bO c d⟩
 rw[if_neg p]at h ⊢;by_cases q:b=69
 ·rw[if_pos q]at h ⊢;obtain⟨j,u,e,c,x⟩:=h;exact⟨j,u,e,(d.block j (aK.mp c).1).trans c,bO x d⟩
 rw[if_neg q]at h ⊢;exact h
def Tm(t:Nat):Bool:= !(t==67||t==68||t==69)
theorem ZT(e:Value)(d f g m:Nat)(j i:Int)(B:Nat)(l:List Int)(c:Nat)(k:Value)(W n:World)(b:Tm c=true)(h:NY e d f g m j i B l c k W):NY e d f g m j i B l c k n:=by unfold Tm at b;simp only[Bool.not_eq_true',Bool.or_eq_false_iff,beq_eq_false_iff_ne]at b;unfold NY at h ⊢;rw[if_neg b.1.1,if_neg b.1.2,if_neg b.2]at h ⊢;exact h
def Im(f:Int)(B:Nat)(l:List Int)(d:Nat)(e:Value)(b:World):Prop:=
 if d=64 then b.ownsRow B 3 1 e l.length (l.map (Value.int .i64))
 else if d=66 then∃c,e=.slice (some ⟨c,0,none⟩) 1 1/\b.heap[c]?=some (.cells #[.int .i64 f] 3)else True
theorem Ip(i:Int)(B:Nat)(l:List Int)(b:Nat)(j:Value)(W c:World)(f:Below W.heap.size W c)(h:Im i B l b j W):Im i B l b j c:=by
 unfold Im at h ⊢;by_cases ht:b=64
 ·rw[if_pos ht]at h ⊢;exact bO h f
 rw[if_neg ht]at h ⊢;by_cases g:b=66
 ·rw[if_pos g]at h ⊢;obtain⟨d,k,e⟩:=h;exact⟨d,k,(f.block d (aK.mp e).1).trans e⟩
 rw[if_neg g]at h ⊢;exact h
theorem aSF(p:Option Addr)(cap:Nat)(b:Value)(w:World):Calls Tryz.prog 104 #[.slice p 0 cap,b] w fun e d=>e=.returned (.tuple #[])/\d=w:=by have c:=AnyF.slices_SortFunc_none Tryz.sortF p cap b w;exact c
theorem YD{w:World}{B n:Nat}{v:Value}{l:List Int}(h:w.ownsRow B 3 1 v l.length (l.map (Value.int .i64)))(e:l.length=n+1):∃g c,v=.slice (some ⟨g,0,none⟩) (n+1) c/\n+1<=c/\∀i,i<n+1->w.cell? ⟨g,i,none⟩=some (.int .i64 (cI l i)):=by
 have f:=h;obtain⟨_,b⟩:=h;rcases b with⟨_,b⟩|⟨g,cap,j,rfl,_,_,d,_⟩
 ·omega
 rw[e]at d;refine⟨g,cap,by rw[e],d,fun i k=>?_⟩;rw[World.ownsRow.cellAt f i oM,dW,aM oM];unfold cI;rw[aI,aM oM];rfl
theorem aQV(f:Int)(m:Nat)(q:List Fv)(v:Value)(B:Nat)(w:World)(hq:w.ownsRow B 72 2 v q.length (q.map eO).flatten)(bd:∀p,p∈q->w.ownsRow B 3 1 p.2 p.1.args.length (p.1.args.map (Value.int .i64)))(hl:q.length<=2000)(hm:m<=1000)(hA:∀p,p∈q->p.1.args.length=m+1/\∀n,n∈p.1.args->dJ n=true):
 Calls Tryz.prog 195 #[.int .i64 f,v] w fun e w'=>∃v' S,e=.returned v'/\S.Perm (q.map (·.1))/\S.Pairwise (fun a b=>eU a b<=0)/\pQ w.heap.size w' v' (jI f S [])/\Below B w w':=by
 obtain⟨i0,hi,cx,cy,cz⟩:=jY yZ;obtain⟨j0,hj,c6,c7,c8⟩:=jY MN;rcases lJ hq with⟨hv,cs⟩|⟨g,cap,hv⟩
 ·have d9:q=[]:=dQ cs;subst d9 hv;clear hq bd hA hl cs
  go_enter Tryz.func195,Tryz.ntmps195
  go_wp2_with fail;refine Calls.mono (aSF _ _ _ _) ?_;rintro e w5 ⟨rfl,rfl⟩;go_wp2_with fail;refine nF 1 ?_;rw[rounds_succ];go_wp2_with fail;go_ret;exact⟨_,[],rfl,List.Perm.refl _,List.Pairwise.nil,⟨[],rfl,eS _ _ _ _,fun _ s=>absurd s sI⟩,aG _ _⟩
 subst hv;have cm:O _:=aXX w B g cap q hq (fun p s=>⟨fun w' da=>tY (pY (bd p s) (fun k c E=>(da k (cV E) (fun e=>by have :=FN hq (k:=k) (by rw[e];rfl) E;cases this)).trans E)),by have :=(hA p s).1;show _<=_;omega⟩) oM;have HQ:O (wS w B g cap q):=hq;have ck:O _:=bd;have ca:O _:=hA;clear hq bd hA
 go_enter Tryz.func195,Tryz.ntmps195
 go_wp2_with fail;refine Calls.mono cm.o ?_;rintro e F ⟨rfl,Q,aT,cu,ct,ad⟩;have bu:Q.length=q.length:=aT.length_eq;have cp:∀p,p∈Q->F.ownsRow B 3 1 p.2 p.1.args.length (p.1.args.map (Value.int .i64)):=fun p s=>pY (ck.o p (aT.mem_iff.mp s)) (fun k c E=>(ad.block k (cV E) (fun e=>by have :=FN HQ.o (k:=k) e.symm E;cases this)).trans E);have ci:O _:=cp;have a4:O (∀p,p∈Q->p.1.args.length=m+1/\∀n,n∈p.1.args->dJ n=true):=fun p s=>ca.o p (aT.mem_iff.mp s);have cG:O ((Q.map (·.1)).Perm (q.map (·.1))):=aT.map _;(have cK:O ((Q.map (·.1)).Pairwise (fun a b=>eU a b<=0)):=cu.imp fun {a b} d6=>by have h1:¬eU b a<0:=d6;have :=IX a b;omega);have cj:O (wS F B g cap Q):=ct;have cD:O (Below B w F):=⟨ad.os,ad.tape,ad.output,ad.size,fun k E=>ad.block k (by have :=HQ.o.lt;omega) (fun e=>by injection e with e;have :=HQ.o.lt.1;omega)⟩;have bo:O (w.heap.size<=F.heap.size):=ad.size;(have cE:O (B<=w.heap.size):=by have :=HQ.o.lt;show _<=_;omega);rw[<-bu]at hl ⊢;have dg:O _:=bu;clear aT cu ct ad cp ck ca cm HQ bu;go_wp2_with fail;go_loopw [5,6,15] (fun vo vn iv wr=>∃(k:Nat)(d:List Fv)(ns:List Int)(Bn:Nat),k<=Q.length/\iv=.int .i64 k/\O (jI f (Q.map (·.1)) []=d.map (·.1)++jI f ((Q.map (·.1)).drop k) ns)/\O (wr.ownsRow F.heap.size 72 2 vo d.length (d.map eO).flatten)/\O (∀p,p∈d->wr.ownsRow F.heap.size 3 1 p.2 p.1.args.length (p.1.args.map (Value.int .i64))/\∀k,p.2.ownBlock=some k->k<Bn)/\O (wr.ownsRow Bn 3 1 vn ns.length (ns.map (Value.int .i64)))/\O (Bn<=wr.heap.size/\F.heap.size<=Bn)/\d.length<=k/\ns.length<=k/\O (∀n,n∈ns->dJ n=true)/\O (Below F.heap.size F wr)) (fun _ _ iv _=>Q.length-(intOf iv).toNat);case atStart=>exact⟨0,[],[],F.heap.size,bL _,rfl,by show _=_;rw[iU];rfl,eS _ _ _ _,fun _ s=>absurd s sI,eS _ _ _ _,⟨aH _,aH _⟩,aH _,aH _,fun _ h=>absurd h sI,aG _ _⟩
 case round=>
  obtain⟨wo,db⟩:∃wo,wo=wr:=⟨_,rfl⟩;subst db;obtain⟨k,d,ns,Bn,E,rfl,HE,HO,b9,HN,bf,b0,d8,cf,HB⟩:=hrel;obtain⟨T,U,rfl⟩:=bR HO.o;obtain⟨an,cn,rfl⟩:=bR HN.o;by_cases ae:k<Q.length
  ·obtain⟨x,hx,ab⟩:=DT ae;obtain⟨N,M,cw,dj,bZ⟩:=YD (ci.o x ab) (a4.o x ab).1;obtain⟨c0,c1⟩:=cj.o.cell hx;rw[cw]at c1;have q0:=aB HB.o c0;have q1:=aB HB.o c1;have l1:=aB HB.o (bZ m (Sz m));(have cL:O (eT F (.slice (some ⟨N,0,none⟩) m M) (aZ x.1.args)):=by have :=Ix (w:=F) (ao:=some ⟨N,0,none⟩) (l:=x.1.args) M (.inr ⟨N,0,rfl,fun i hi=>by rw[(a4.o x ab).1]at hi;rw[eP];exact bZ i hi⟩);rw[(a4.o x ab).1]at this;exact this);((have cc:O (bF (Q.map (·.1)) k=x.1):=by show _=_;unfold bF;rw[aI,dW,hx];rfl);(have ce:O (qO x.1.args=cI x.1.args m):=by show _=_;rw[Kx,(a4.o x ab).1];rfl);have cd:O (dJ (qO x.1.args)=true):=Bg (by have :=(a4.o x ab).1;omega) (a4.o x ab).2;(have af:O ((aZ x.1.args).length=m):=by show _=_;rw[AC,(a4.o x ab).1];rfl);rw[<-ce.o]at l1;have bl:O (k+1<Q.length->∃gb gc,F.cell? ⟨g,(k+1)*2+1,none⟩=some (.slice (some ⟨gb,0,none⟩) (m+1) gc)/\m+1<=gc/\eT F (.slice (some ⟨gb,0,none⟩) m gc) (aZ (bF (Q.map (·.1)) (k+1)).args)):=fun h1=>by obtain⟨y,hy,be⟩:=DT h1;obtain⟨gb,gc,dd,cq,dc⟩:=YD (ci.o y be) (a4.o y be).1;obtain⟨_,d1⟩:=cj.o.cell hy;rw[dd]at d1;have :=Ix (w:=F) (ao:=some ⟨gb,0,none⟩) (l:=y.1.args) gc (.inr ⟨gb,0,rfl,fun i hi=>by rw[(a4.o y be).1]at hi;rw[eP];exact dc i hi⟩);rw[(a4.o y be).1]at this;refine⟨gb,gc,d1,cq,?_⟩;rw[show bF (Q.map (·.1)) (k+1)=y.1 from by unfold bF;rw[aI,dW,hy];rfl];exact this);have aq:O _:=fun h1 s=>RA f (S:=Q.map (·.1)) (k:=k) h1 s ns;have b7:O _:=fun s=>OP f (S:=Q.map (·.1)) (k:=k) (by rw[aY];exact ae) s ns;rw[cc.o,aY]at aq b7;clear c0 c1 bZ hx ab cw cc ce;obtain⟨⟨I,D⟩,xv⟩:=x;dsimp only at *;generalize qO D=X at *;go_upto_region 7 with fail;have Y:Below wo.heap.size wo (wo.alloc (.cells #[.int .i64 I, .slice (some ⟨N,0,none⟩) (m+1) M] 72)):=(aG _ _).alloc (aH _) _;have bc:=bA wo (.cells #[.int .i64 I, .slice (some ⟨N,0,none⟩) (m+1) M] 72);have cg:O ((wo.alloc (.cells #[.int .i64 I, .slice (some ⟨N,0,none⟩) (m+1) M] 72)).ownsRow F.heap.size 72 2 (.slice T d.length U) d.length (d.map eO).flatten):=bO HO.o Y;have b8:O ((wo.alloc (.cells #[.int .i64 I, .slice (some ⟨N,0,none⟩) (m+1) M] 72)).ownsRow Bn 3 1 (.slice an ns.length cn) ns.length (ns.map (Value.int .i64))):=bO HN.o Y;have al:O (∀p,p∈d->(wo.alloc (.cells #[.int .i64 I, .slice (some ⟨N,0,none⟩) (m+1) M] 72)).ownsRow F.heap.size 3 1 p.2 p.1.args.length (p.1.args.map (Value.int .i64))/\∀k,p.2.ownBlock=some k->k<Bn):=fun p s=>⟨bO (b9.o p s).1 Y,(b9.o p s).2⟩;have b5:O _:=HB.o.trans (Y.mono HB.o.size);have bg:O _:=bP bf.o.1 Y.size;have d5:=bf.o.2;have l2:=aB Y l1;clear q0 q1 l1 HO HN b9 HB bf Y;generalize d7:wo.heap.size=P at *;generalize wo.alloc (.cells #[.int .i64 I, .slice (some ⟨N,0,none⟩) (m+1) M] 72)=wa at *;clear d7;(have f0:wa.cell? ⟨P,0,none⟩=some (.int .i64 I):=cH bc);(have f1:wa.cell? ⟨P,1,none⟩=some (.slice (some ⟨N,0,none⟩) (m+1) M):=cH bc);have cb:O _:=bc;clear bc;have dh:=bg.o;go_wp2_with(at_builtin;refine iD _ rfl (.tmp 24) (.tmp 30) 22 rfl Bn 3 j0 _ 1 8 Tryz.underlying22 hj c6 c7 c8 rfl dE _ _ _ rfl (b8.o.alloc _) ⟨wa.heap.size,0,none⟩ 1 1 [.int .i64 X] rfl rfl ?c1 ?c2 ?c3 ?c4 ?c5 ?_);(case c2=>rfl);(case c3=>unfold maxLen;omega);(case c4=>omega);(case c5=>omega);intro dk K bN aO _;obtain⟨bp,bq,rfl⟩:=bR bN;have Y:Below wa.heap.size wa (wa.alloc (.cells #[.int .i64 X] 3)):=(aG _ _).alloc (aH _) _;have bz:=bO b8.o Y;have bU:∀(k:Nat)(c:Array Value)(t:TypeId),wa.heap[k]?=some (.cells c t)->t≠3->K.heap[k]?=some (.cells c t):=fun k c t E ht=>(aO.block k (dS (cV E) Y.size) (fun e=>ht (FN b8.o e.symm E))).trans ((Y.block k (cV E)).trans E);have au:O (K.ownsRow F.heap.size 72 2 (.slice T d.length U) d.length (d.map eO).flatten):=pY cg.o (fun k c E=>bU k c 72 E dE);(have ar:O (K.ownsRow Bn 3 1 (.slice bp (ns.length+1) bq) (ns++[X]).length ((ns++[X]).map (Value.int .i64))):=by show World.ownsRow _ _ _ _ _ _ _;rw[aV,dC];exact bN);have ac:O (∀p,p∈d->K.ownsRow F.heap.size 3 1 p.2 p.1.args.length (p.1.args.map (Value.int .i64))/\∀k,p.2.ownBlock=some k->k<Bn):=fun p s=>⟨oF (al.o p s).1 (fun g hg=>(aO.block g (dS ((al.o p s).1.lt g hg).2 Y.size) (fun e=>by have :=(al.o p s).2 g hg;have :=(bz.lt g e.symm).1;omega)).trans (Y.block g ((al.o p s).1.lt g hg).2)),(al.o p s).2⟩;have a1:O (Below F.heap.size F K):=(b5.o.trans (Y.mono b5.o.size)).grown aO (by have :=b5.o.size;have :=Y.size;omega) (fun k E=>by have :=(bz.lt k E).1;omega);have bh:O (Bn<=K.heap.size):=bP bg.o (bP Y.size aO.size);have b6:O _:=bU _ _ _ cb.o dE;have bj:O (∀n,n∈ns++[X]->dJ n=true):=fun n hn=>by
    rcases cW.mp hn with hn|hn
    ·exact cf.o n hn
    rw[cP.mp hn];exact cd.o
   have ax:O (eT K (.slice (some ⟨N,0,none⟩) m M) (aZ D)):=bC cL.o a1.o;(have ba:K.cell? ⟨P,0,none⟩=some (.int .i64 I):=cH b6.o);(have bb:K.cell? ⟨P,1,none⟩=some (.slice (some ⟨N,0,none⟩) (m+1) M):=cH b6.o);clear f0 f1 bN aO Y bz bU cg b8 al b5 bg cb l2 cf cd;by_cases h1:k+1<Q.length
   ·obtain⟨gb,gc,d1,cq,cr⟩:=bl.o h1;have d4:=aB a1.o d1;have ay:O (∀j,Calls Tryz.prog 217 #[.slice (some ⟨N,0,none⟩) m M, .slice (some ⟨gb,0,none⟩) m gc] (K.drewN j) fun e w'=>e=.returned (.bool (decide (aZ D=aZ (bF (Q.map (·.1)) (k+1)).args)))/\∃n,w'=(K.drewN j).drewN n):=fun j=>aZF _ _ _ _ _ (bC ax.o (fB _ _)) (bC (bC cr a1.o) (fB _ _)) (by have :=af.o;omega);have g1:decide ((k:Int)+1<(Q.length:Int))=true:=aP oM;clear cr d1 bl;by_cases s:aZ D=aZ (bF (Q.map (·.1)) (k+1)).args
    ·rw[aP s]at ay;(have a5:O (jI f (Q.map (·.1)) []=d.map (·.1)++jI f ((Q.map (·.1)).drop (k+1)) (ns++[X])):=by show _=_;rw[HE.o,aq.o h1 s]);clear s HE aq b7;go_upto_region 9 with fail;go_quiet(first|(go_at_call 217;exact DD (ay.o _)));go_wp2_with fail;go_roundw;(case rel=>exact⟨k+1,d,ns++[X],Bn,ae,gN,a5.o,bO au.o (fB _ _),fun p s=>⟨bO (ac.o p s).1 (fB _ _),(ac.o p s).2⟩,bO ar.o (fB _ _),⟨bP bh.o (fB _ _).size,d5⟩,PK b0,by rw[aV];exact DC d8,bj.o,a1.o.trans ((fB _ _).mono a1.o.size)⟩);case measure=>exact mI
    rw[aF s]at ay;have bk:O (¬(k+1<Q.length/\aZ D=aZ (bF (Q.map (·.1)) (k+1)).args)):=fun h=>s h.2;clear s aq;go_upto_region 9 with fail;go_quiet(first|(go_at_call 217;exact DD (ay.o _)));clear ay d4;have aw:O ((K.drewN nq).ownsRow F.heap.size 72 2 (.slice T d.length U) d.length (d.map eO).flatten):=bO au.o (fB K nq);have bi:O ((K.drewN nq).ownsRow Bn 3 1 (.slice bp (ns.length+1) bq) (ns++[X]).length ((ns++[X]).map (Value.int .i64))):=bO ar.o (fB K nq);have ag:O (∀p,p∈d->(K.drewN nq).ownsRow F.heap.size 3 1 p.2 p.1.args.length (p.1.args.map (Value.int .i64))/\∀k,p.2.ownBlock=some k->k<Bn):=fun p s=>⟨bO (ac.o p s).1 (fB K nq),(ac.o p s).2⟩;have a2:O _:=a1.o.trans ((fB K nq).mono a1.o.size);have bn:O _:=bC ax.o (fB K nq);have f0:=aB (fB K nq) ba;have f1:=aB (fB K nq) bb;clear ba bb au ar ac a1 ax b6 bh;generalize K.drewN nq=wd at *;have HF:O _:=PX f (ns++[X]) _ wd (tY bi.o) (by rw[aV];exact EI _) (by rw[aV,kE];omega) bj.o;go_wp2_with fail;refine Calls.mono HF.o ?_;rintro _ z ⟨rfl,rfl⟩;clear HF;(have a6:O (jI f (Q.map (·.1)) []=d.map (·.1)++((if dJ (gL f (ns++[X]))=true then [(⟨I,aZ D++[gL f (ns++[X])]⟩:aQ)] else [])++jI f ((Q.map (·.1)).drop (k+1)) [])):=by show _=_;rw[HE.o,b7.o bk.o];rfl);generalize gL f (ns++[X])=C at *;have HI:O _:=Lz C z;go_wp2_with fail;refine Calls.mono HI.o ?_;rintro _ wd ⟨rfl,rfl⟩;clear HI;cases hn:dJ C
    ·(have a5:O (jI f (Q.map (·.1)) []=d.map (·.1)++jI f ((Q.map (·.1)).drop (k+1)) []):=by show _=_;rw[a6.o,hn];rfl);clear a6 hn;go_wp2_with fail;go_roundw;(case rel=>exact⟨k+1,d,[],wd.heap.size,ae,gN,a5.o,aw.o,fun p s=>⟨(ag.o p s).1,fun k E=>((ag.o p s).1.lt k E).2⟩,eS _ _ _ _,⟨aH _,a2.o.size⟩,PK b0,bL _,fun _ h=>absurd h sI,a2.o⟩);case measure=>exact mI
    (have a5:O (∀u:Value,jI f (Q.map (·.1)) []=(d++[((⟨I,aZ D++[C]⟩:aQ),u)]).map (·.1)++jI f ((Q.map (·.1)).drop (k+1)) []):=fun u=>by rw[a6.o,hn,if_pos rfl,dC,fM];rfl);clear a6 hn;go_upto_region 12 with fail;obtain⟨L,a3⟩:∃L,O (L=wd.heap.size):=⟨_,rfl⟩;refine TG (NY (.slice T d.length U) P N M m I C L (aZ D)) (Im C L (aZ D)) 13 10 Tm dE kR kR kR kR (Ik (.slice T d.length U) P N M m I C L (aZ D)) (Ip C L (aZ D)) (fun t v w w' he _ h=>ZT (.slice T d.length U) P N M m I C L (aZ D) t v w w' he h) ?hopA ?htailA
    case hopA=>
     refine AM.cons (fun a r h hO=>by rw[if_neg dE];have e5:a.eval (.tmp 5)=(.slice T d.length U:Value):=hO 5 dE;exact iQ (.slice T d.length U)) ?_;refine AM.cons (fun a r h hO=>by rw[if_neg dE];have e8:a.eval (.tmp 8)=(.pointer (some ⟨P,0,none⟩):Value):=h.old 8;exact iQ (.pointer (some ⟨P,0,none⟩))) ?_;refine AM.cons (fun a r h hO=>by rw[if_neg dE];have cO:a.eval (.tmp 58)=(.pointer (some ⟨P,0,none⟩):Value):=h.of 58;have c0:=aB h.z f0;exact iQ (.int .i64 I)) ?_;refine AM.cons (fun a r h hO=>by rw[if_neg dE];have e8:a.eval (.tmp 8)=(.pointer (some ⟨P,0,none⟩):Value):=h.old 8;exact iQ (.pointer (some ⟨P,1,none⟩))) ?_;refine AM.cons (fun a r h hO=>by rw[if_neg dE];have cS:a.eval (.tmp 60)=(.pointer (some ⟨P,1,none⟩):Value):=h.of 60;have c0:=aB h.z f1;exact iQ (.slice (some ⟨N,0,none⟩) (m+1) M)) ?_;refine AM.cons (fun a r h hO=>by rw[if_neg dE];have e9:a.eval (.tmp 9)=(.int .i64 (m:Nat):Value):=h.old 9;exact iQ (.int .i64 (m:Nat))) ?_;refine AM.cons (fun a r h hO=>by rw[if_neg dE];have cT:a.eval (.tmp 61)=(.slice (some ⟨N,0,none⟩) (m+1) M:Value):=h.of 61;have cU:a.eval (.tmp 62)=(.int .i64 (m:Nat):Value):=h.of 62;have g0:(0:Int)<=(m:Int):=oM;have g8:(m:Int)<=(M:Int):=oM;exact iQ (.slice (some ⟨N,0,none⟩) m M)) ?_;refine AM.cons (fun a r h hO=>?_) ?_
     ·rw[if_neg dE];have d0:a.eval (.tmp 63)=(.slice (some ⟨N,0,none⟩) m M:Value):=h.of 63;refine fI (f:=107) (args:=#[.slice (some ⟨N,0,none⟩) m M]) (bI rfl) ?_ ?_
      ·have ec:=kZ a;have ef:=AO a;generalize a.eval=ev at *;clear h hO;go_simp
      refine Calls.mono (SD (aZ D) _ r (bC bn.o h.z) (by have :=af.o;omega)) ?_;rintro _ y2 ⟨v',rfl,bW,bw⟩;refine⟨_,rfl,fun t ht=>?_,bw⟩;cases ht;exact⟨trivial,gP bW (by rw[a3.o];exact h.z.size)⟩
     refine AM.cons (fun a r h hO=>by rw[if_neg dE];have cN:a.eval (.tmp 10)=(.int .i64 C:Value):=h.old 10;exact iQ (.int .i64 C)) ?_;refine AM.cons (fun a r h hO=>by rw[if_neg dE];have d2:a.eval (.tmp 65)=(.int .i64 C:Value):=h.of 65;refine dG (v:=.slice (some ⟨r.heap.size,0,none⟩) 1 1) (w':=r.alloc (.cells #[.int .i64 C] 3)) (bI rfl) ?_ (fun t ht=>by cases ht;exact⟨trivial,⟨_,rfl,bA r _⟩⟩) ((aG _ _).alloc (aH _) _);have ec:=kZ a;generalize a.eval=ev at *;clear h hO;go_simp) ?_;refine AM.cons (fun a r h hO=>by rw[if_pos dE];intro h1;refine⟨bI rfl,?_⟩;have aR:r.ownsRow L 3 1 (a.eval (.tmp 64)) (aZ D).length ((aZ D).map (Value.int .i64)):=h1.of 64 kR;obtain⟨V,br,a7⟩:∃V,a.eval (.tmp 66)=.slice (some ⟨V,0,none⟩) 1 1/\r.heap[V]?=some (.cells #[.int .i64 C] 3):=h1.of 66 kR;(have aN:L<=r.heap.size:=by rw[a3.o];exact h.z.size);refine FZ r (.tmp 64) (.tmp 66) 22 rfl L 3 j0 _ 1 8 Tryz.underlying22 hj c6 c7 c8 rfl dE _ _ _ rfl aR ⟨V,0,none⟩ 1 1 (#[Value.int .i64 C]:Array Value).toList br rfl (JG a7) (fun u hu=>by simp only[List.mem_cons,List.not_mem_nil,or_false]at hu;subst hu;rfl) (by have :=af.o;unfold maxLen;omega) (by have :=af.o;omega) aN ?_;intro v9 w9 bT a0 _;refine⟨v9,rfl,fun t ht=>?_,a0.size,a0.os,a0.tape,a0.output,a0.size,fun k E=>a0.block k (by rw[a3.o]at aN;omega) (fun e=>by have :=(aR.lt k e.symm).1;rw[a3.o]at this;omega)⟩;cases ht;show w9.ownsRow L 3 1 v9 ((aZ D)++[C]).length (((aZ D)++[C]).map (Value.int .i64));rw[aV,dC];exact bT) ?_;refine AM.cons (fun a r h hO=>by rw[if_neg dE];have ho:r.ownsRow L 3 1 (a.eval (.tmp 67)) ((aZ D)++[C]).length (((aZ D)++[C]).map (Value.int .i64)):=h.of 67;have cR:a.eval (.tmp 59)=(.int .i64 I:Value):=h.of 59;obtain⟨a9,c9,bs⟩:=bR ho;rw[bs]at ho;refine dG (v:=.agg #[.int .i64 I, .slice a9 ((aZ D)++[C]).length c9]) (w':=r) (bI rfl) ?_ (fun t ht=>by cases ht;exact⟨⟨_,rfl,ho⟩,trivial⟩) (aG _ _);have ec:=kZ a;generalize a.eval=ev at *;clear h hO;go_simp) ?_;refine AM.cons (fun a r h hO=>by rw[if_neg dE];obtain⟨u,d3,ho⟩:∃u,a.eval (.tmp 68)=.agg #[.int .i64 I,u]/\r.ownsRow L 3 1 u ((aZ D)++[C]).length (((aZ D)++[C]).map (Value.int .i64)):=h.of 68;obtain⟨a9,c9,rfl⟩:=bR ho;refine dG (v:=.slice (some ⟨r.heap.size,0,none⟩) 1 1) (w':=r.alloc (.cells #[.int .i64 I, .slice a9 ((aZ D)++[C]).length c9] 72)) (bI rfl) ?_ (fun t ht=>by cases ht;exact⟨⟨_,_,rfl,bA r _,ho.alloc _⟩,trivial⟩) ((aG _ _).alloc (aH _) _);have ec:=kZ a;generalize a.eval=ev at *;clear h hO;go_simp) ?_;exact AM.nil
    case htailA=>
     rintro⟨J,W⟩ r R _;have aD:Act.eval ⟨J,W⟩ (.tmp 57)=(.slice T d.length U):=R.all 0 _ 57 dE rfl rfl;obtain⟨V,u9,aJ,a7,ak⟩:∃V u,Act.eval ⟨J,W⟩ (.tmp 69)=.slice (some ⟨V,0,none⟩) 1 1/\r.heap[V]?=some (.cells #[.int .i64 I,u] 72)/\r.ownsRow L 3 1 u (aZ D++[C]).length ((aZ D++[C]).map (Value.int .i64)):=R.all 12 _ 69 dE rfl rfl;have aa:=bO aw.o R.z;have a8:Below F.heap.size F r:=a2.o.trans (R.z.mono a2.o.size);(have bv:F.heap.size<=L:=by rw[a3.o];exact a2.o.size);have b4:F.heap.size<=r.heap.size:=a8.size;have b2:J.size=73:=R.size;obtain⟨a9,c9,aL⟩:=bR ak;show wpOps Tryz.prog _ _ [13,14] _ _;rw[lH];refine KT rfl (bI rfl) (FZ r (.tmp 57) (.tmp 69) 30 rfl F.heap.size 72 i0 _ 2 32 Tryz.underlying30 hi cx cy cz rfl dE (.slice T d.length U) d.length _ aD aa ⟨V,0,none⟩ 1 1 (#[Value.int .i64 I,u9]:Array Value).toList aJ rfl (JG a7) ?h1B ?h63B ?hbyB b4 ?_)
     case h1B=>
      intro u hu;simp only[List.mem_cons,List.not_mem_nil,or_false]at hu;rcases hu with rfl|rfl
      ·rfl
      rw[aL];rfl
     (case h63B=>unfold maxLen;omega);(case hbyB=>omega);intro de Z aj ai _;obtain⟨G,H,rfl⟩:=bR aj;have aS:∀kQ,((.slice T d.length U):Value).ownBlock=some kQ->F.heap.size<=kQ:=fun kQ E=>(aa.lt kQ E).1;have h3:∀(B':Nat)(l:List Int)(u:Value),r.ownsRow B' 3 1 u l.length (l.map (Value.int .i64))->Z.ownsRow B' 3 1 u l.length (l.map (Value.int .i64)):=fun B' l u hu=>pY hu (fun k c E=>(ai.block k (cV E) (fun e=>by have :=FN aa e.symm E;cases this)).trans E);have am:O (Below F.heap.size F Z):=a8.grown ai a8.size (fun kQ E=>aS kQ E);have az:O (Z.ownsRow F.heap.size 3 1 u9 (aZ D++[C]).length ((aZ D++[C]).map (Value.int .i64))):=gP (h3 _ _ _ ak) bv;have aC:O (∀p,p∈d->Z.ownsRow F.heap.size 3 1 p.2 p.1.args.length (p.1.args.map (Value.int .i64))):=fun p s=>h3 _ _ _ (bO (ag.o p s).1 R.z);(have bm:O (Z.ownsRow F.heap.size 72 2 (.slice G (d.length+1) H) (d++[((⟨I,aZ D++[C]⟩:aQ),u9)]).length ((d++[((⟨I,aZ D++[C]⟩:aQ),u9)]).map eO).flatten):=by show World.ownsRow _ _ _ _ _ _ _;rw[aV,dC,iL];exact aj);have bt:Act.eval (Act.put ⟨J,W⟩ (some 70) (.slice G (d.length+1) H)) (.tmp 70)=(.slice G (d.length+1) H):=jV (by show 70<J.size;omega);rw[lH];refine xF (v:=(.slice G (d.length+1) H)) (w':=Z) rfl (bI rfl) ?_ ?_
     ·show Sem.run Tryz.prog (execOp (Act.eval (Act.put ⟨J,W⟩ (some 70) (.slice G (d.length+1) H))) _) Z=_;generalize Act.eval (Act.put ⟨J,W⟩ (some 70) (.slice G (d.length+1) H))=ev at *;clear R;go_simp
     (have b3:∀t,t∉[57,58,59,60,61,62,63,64,65,66,67,68,69,70,5]->((J.setIfInBounds 70 (.slice G (d.length+1) H)).setIfInBounds 5 (.slice G (d.length+1) H)).getD t undef=_:=fun t ht=>by have hB:t≠70:=fun e=>ht (by rw[e];decide);have hC:t≠5:=fun e=>ht (by rw[e];decide);exact((jM (a:=Act.put ⟨J,W⟩ (some 70) (.slice G (d.length+1) H)) hC).trans (jM (a:=⟨J,W⟩) hB)).trans (R.still t ht));(have b1:((J.setIfInBounds 70 (.slice G (d.length+1) H)).setIfInBounds 5 (.slice G (d.length+1) H)).size=73:=by simp[b2]);have h5:((J.setIfInBounds 70 (.slice G (d.length+1) H)).setIfInBounds 5 (.slice G (d.length+1) H)).getD 5 undef=(.slice G (d.length+1) H):=jV (a:=Act.put ⟨J,W⟩ (some 70) (.slice G (d.length+1) H)) (by rw[zX];show 5<J.size;omega);obtain rfl:W=[]:=R.defers;clear R aD aJ a7 ak aa a8 b4 b2 aL aj ai aS h3 bt;show Exit.then _ _ Exit.normal ⟨(J.setIfInBounds 70 (.slice G (d.length+1) H)).setIfInBounds 5 (.slice G (d.length+1) H),[]⟩ _;generalize (J.setIfInBounds 70 (.slice G (d.length+1) H)).setIfInBounds 5 (.slice G (d.length+1) H)=tm at *;obtain⟨fQ,hQ,ah⟩:=oR [57,58,59,60,61,62,63,64,65,66,67,68,69,70,5] tm _ (b1.trans rF) b3;clear b1 b3;simp only[List.foldl_cons,List.foldl_nil,(hQ 5).trans h5]at ah;clear h5 hQ;simp only[List.setIfInBounds_toArray,List.set_cons_zero,List.set_cons_succ]at ah;subst ah;go_wp2_with fail;go_roundw;case rel=>exact⟨k+1,d++[((⟨I,aZ D++[C]⟩:aQ),u9)],[],Z.heap.size,ae,gN,a5.o _,bm.o,fun p s=>by
      rcases cW.mp s with s|s
      ·exact⟨aC.o p s,fun k E=>((aC.o p s).lt k E).2⟩
      rcases cP.mp s with rfl
      exact⟨az.o,fun k E=>(az.o.lt k E).2⟩,eS _ _ _ _,⟨aH _,am.o.size⟩,by rw[aV];exact DC b0,bL _,fun _ h=>absurd h sI,am.o⟩
     case measure=>exact mI
   have bk:O (¬(k+1<Q.length/\aZ D=aZ (bF (Q.map (·.1)) (k+1)).args)):=fun h=>h1 h.1;have g1:decide ((k:Int)+1<(Q.length:Int))=false:=aF oM;clear aq bl h1;go_upto_region 9 with fail;go_quiet(fail);have aw:O ((K.drewN nq).ownsRow F.heap.size 72 2 (.slice T d.length U) d.length (d.map eO).flatten):=bO au.o (fB K nq);have bi:O ((K.drewN nq).ownsRow Bn 3 1 (.slice bp (ns.length+1) bq) (ns++[X]).length ((ns++[X]).map (Value.int .i64))):=bO ar.o (fB K nq);have ag:O (∀p,p∈d->(K.drewN nq).ownsRow F.heap.size 3 1 p.2 p.1.args.length (p.1.args.map (Value.int .i64))/\∀k,p.2.ownBlock=some k->k<Bn):=fun p s=>⟨bO (ac.o p s).1 (fB K nq),(ac.o p s).2⟩;have a2:O _:=a1.o.trans ((fB K nq).mono a1.o.size);have bn:O _:=bC ax.o (fB K nq);have f0:=aB (fB K nq) ba;have f1:=aB (fB K nq) bb;clear ba bb au ar ac a1 ax b6 bh;generalize K.drewN nq=wd at *;have HF:O _:=PX f (ns++[X]) _ wd (tY bi.o) (by rw[aV];exact EI _) (by rw[aV,kE];omega) bj.o;go_wp2_with fail;refine Calls.mono HF.o ?_;rintro _ z ⟨rfl,rfl⟩;clear HF;(have a6:O (jI f (Q.map (·.1)) []=d.map (·.1)++((if dJ (gL f (ns++[X]))=true then [(⟨I,aZ D++[gL f (ns++[X])]⟩:aQ)] else [])++jI f ((Q.map (·.1)).drop (k+1)) [])):=by show _=_;rw[HE.o,b7.o bk.o];rfl);generalize gL f (ns++[X])=C at *;have HI:O _:=Lz C z;go_wp2_with fail;refine Calls.mono HI.o ?_;rintro _ wd ⟨rfl,rfl⟩;clear HI;cases hn:dJ C
   ·(have a5:O (jI f (Q.map (·.1)) []=d.map (·.1)++jI f ((Q.map (·.1)).drop (k+1)) []):=by show _=_;rw[a6.o,hn];rfl);clear a6 hn;go_wp2_with fail;go_roundw;(case rel=>exact⟨k+1,d,[],wd.heap.size,ae,gN,a5.o,aw.o,fun p s=>⟨(ag.o p s).1,fun k E=>((ag.o p s).1.lt k E).2⟩,eS _ _ _ _,⟨aH _,a2.o.size⟩,PK b0,bL _,fun _ h=>absurd h sI,a2.o⟩);case measure=>exact mI
   (have a5:O (∀u:Value,jI f (Q.map (·.1)) []=(d++[((⟨I,aZ D++[C]⟩:aQ),u)]).map (·.1)++jI f ((Q.map (·.1)).drop (k+1)) []):=fun u=>by rw[a6.o,hn,if_pos rfl,dC,fM];rfl);clear a6 hn;go_upto_region 12 with fail;obtain⟨L,a3⟩:∃L,O (L=wd.heap.size):=⟨_,rfl⟩;refine TG (NY (.slice T d.length U) P N M m I C L (aZ D)) (Im C L (aZ D)) 13 10 Tm dE kR kR kR kR (Ik (.slice T d.length U) P N M m I C L (aZ D)) (Ip C L (aZ D)) (fun t v w w' he _ h=>ZT (.slice T d.length U) P N M m I C L (aZ D) t v w w' he h) ?hopA ?htailA
   case hopA=>
    refine AM.cons (fun a r h hO=>by rw[if_neg dE];have e5:a.eval (.tmp 5)=(.slice T d.length U:Value):=hO 5 dE;exact iQ (.slice T d.length U)) ?_;refine AM.cons (fun a r h hO=>by rw[if_neg dE];have e8:a.eval (.tmp 8)=(.pointer (some ⟨P,0,none⟩):Value):=h.old 8;exact iQ (.pointer (some ⟨P,0,none⟩))) ?_;refine AM.cons (fun a r h hO=>by rw[if_neg dE];have cO:a.eval (.tmp 58)=(.pointer (some ⟨P,0,none⟩):Value):=h.of 58;have c0:=aB h.z f0;exact iQ (.int .i64 I)) ?_;refine AM.cons (fun a r h hO=>by rw[if_neg dE];have e8:a.eval (.tmp 8)=(.pointer (some ⟨P,0,none⟩):Value):=h.old 8;exact iQ (.pointer (some ⟨P,1,none⟩))) ?_;refine AM.cons (fun a r h hO=>by rw[if_neg dE];have cS:a.eval (.tmp 60)=(.pointer (some ⟨P,1,none⟩):Value):=h.of 60;have c0:=aB h.z f1;exact iQ (.slice (some ⟨N,0,none⟩) (m+1) M)) ?_;refine AM.cons (fun a r h hO=>by rw[if_neg dE];have e9:a.eval (.tmp 9)=(.int .i64 (m:Nat):Value):=h.old 9;exact iQ (.int .i64 (m:Nat))) ?_;refine AM.cons (fun a r h hO=>by rw[if_neg dE];have cT:a.eval (.tmp 61)=(.slice (some ⟨N,0,none⟩) (m+1) M:Value):=h.of 61;have cU:a.eval (.tmp 62)=(.int .i64 (m:Nat):Value):=h.of 62;have g0:(0:Int)<=(m:Int):=oM;have g8:(m:Int)<=(M:Int):=oM;exact iQ (.slice (some ⟨N,0,none⟩) m M)) ?_;refine AM.cons (fun a r h hO=>?_) ?_
    ·rw[if_neg dE];have d0:a.eval (.tmp 63)=(.slice (some ⟨N,0,none⟩) m M:Value):=h.of 63;refine fI (f:=107) (args:=#[.slice (some ⟨N,0,none⟩) m M]) (bI rfl) ?_ ?_
     ·have ec:=kZ a;have ef:=AO a;generalize a.eval=ev at *;clear h hO;go_simp
     refine Calls.mono (SD (aZ D) _ r (bC bn.o h.z) (by have :=af.o;omega)) ?_;rintro _ y2 ⟨v',rfl,bW,bw⟩;refine⟨_,rfl,fun t ht=>?_,bw⟩;cases ht;exact⟨trivial,gP bW (by rw[a3.o];exact h.z.size)⟩
    refine AM.cons (fun a r h hO=>by rw[if_neg dE];have cN:a.eval (.tmp 10)=(.int .i64 C:Value):=h.old 10;exact iQ (.int .i64 C)) ?_;refine AM.cons (fun a r h hO=>by rw[if_neg dE];have d2:a.eval (.tmp 65)=(.int .i64 C:Value):=h.of 65;refine dG (v:=.slice (some ⟨r.heap.size,0,none⟩) 1 1) (w':=r.alloc (.cells #[.int .i64 C] 3)) (bI rfl) ?_ (fun t ht=>by cases ht;exact⟨trivial,⟨_,rfl,bA r _⟩⟩) ((aG _ _).alloc (aH _) _);have ec:=kZ a;generalize a.eval=ev at *;clear h hO;go_simp) ?_;refine AM.cons (fun a r h hO=>by rw[if_pos dE];intro h1;refine⟨bI rfl,?_⟩;have aR:r.ownsRow L 3 1 (a.eval (.tmp 64)) (aZ D).length ((aZ D).map (Value.int .i64)):=h1.of 64 kR;obtain⟨V,br,a7⟩:∃V,a.eval (.tmp 66)=.slice (some ⟨V,0,none⟩) 1 1/\r.heap[V]?=some (.cells #[.int .i64 C] 3):=h1.of 66 kR;(have aN:L<=r.heap.size:=by rw[a3.o];exact h.z.size);refine FZ r (.tmp 64) (.tmp 66) 22 rfl L 3 j0 _ 1 8 Tryz.underlying22 hj c6 c7 c8 rfl dE _ _ _ rfl aR ⟨V,0,none⟩ 1 1 (#[Value.int .i64 C]:Array Value).toList br rfl (JG a7) (fun u hu=>by simp only[List.mem_cons,List.not_mem_nil,or_false]at hu;subst hu;rfl) (by have :=af.o;unfold maxLen;omega) (by have :=af.o;omega) aN ?_;intro v9 w9 bT a0 _;refine⟨v9,rfl,fun t ht=>?_,a0.size,a0.os,a0.tape,a0.output,a0.size,fun k E=>a0.block k (by rw[a3.o]at aN;omega) (fun e=>by have :=(aR.lt k e.symm).1;rw[a3.o]at this;omega)⟩;cases ht;show w9.ownsRow L 3 1 v9 ((aZ D)++[C]).length (((aZ D)++[C]).map (Value.int .i64));rw[aV,dC];exact bT) ?_;refine AM.cons (fun a r h hO=>by rw[if_neg dE];have ho:r.ownsRow L 3 1 (a.eval (.tmp 67)) ((aZ D)++[C]).length (((aZ D)++[C]).map (Value.int .i64)):=h.of 67;have cR:a.eval (.tmp 59)=(.int .i64 I:Value):=h.of 59;obtain⟨a9,c9,bs⟩:=bR ho;rw[bs]at ho;refine dG (v:=.agg #[.int .i64 I, .slice a9 ((aZ D)++[C]).length c9]) (w':=r) (bI rfl) ?_ (fun t ht=>by cases ht;exact⟨⟨_,rfl,ho⟩,trivial⟩) (aG _ _);have ec:=kZ a;generalize a.eval=ev at *;clear h hO;go_simp) ?_;refine AM.cons (fun a r h hO=>by rw[if_neg dE];obtain⟨u,d3,ho⟩:∃u,a.eval (.tmp 68)=.agg #[.int .i64 I,u]/\r.ownsRow L 3 1 u ((aZ D)++[C]).length (((aZ D)++[C]).map (Value.int .i64)):=h.of 68;obtain⟨a9,c9,rfl⟩:=bR ho;refine dG (v:=.slice (some ⟨r.heap.size,0,none⟩) 1 1) (w':=r.alloc (.cells #[.int .i64 I, .slice a9 ((aZ D)++[C]).length c9] 72)) (bI rfl) ?_ (fun t ht=>by cases ht;exact⟨⟨_,_,rfl,bA r _,ho.alloc _⟩,trivial⟩) ((aG _ _).alloc (aH _) _);have ec:=kZ a;generalize a.eval=ev at *;clear h hO;go_simp) ?_;exact AM.nil
   case htailA=>
    rintro⟨J,W⟩ r R _;have aD:Act.eval ⟨J,W⟩ (.tmp 57)=(.slice T d.length U):=R.all 0 _ 57 dE rfl rfl;obtain⟨V,u9,aJ,a7,ak⟩:∃V u,Act.eval ⟨J,W⟩ (.tmp 69)=.slice (some ⟨V,0,none⟩) 1 1/\r.heap[V]?=some (.cells #[.int .i64 I,u] 72)/\r.ownsRow L 3 1 u (aZ D++[C]).length ((aZ D++[C]).map (Value.int .i64)):=R.all 12 _ 69 dE rfl rfl;have aa:=bO aw.o R.z;have a8:Below F.heap.size F r:=a2.o.trans (R.z.mono a2.o.size);(have bv:F.heap.size<=L:=by rw[a3.o];exact a2.o.size);have b4:F.heap.size<=r.heap.size:=a8.size;have b2:J.size=73:=R.size;obtain⟨a9,c9,aL⟩:=bR ak;show wpOps Tryz.prog _ _ [13,14] _ _;rw[lH];refine KT rfl (bI rfl) (FZ r (.tmp 57) (.tmp 69) 30 rfl F.heap.size 72 i0 _ 2 32 Tryz.underlying30 hi cx cy cz rfl dE (.slice T d.length U) d.length _ aD aa ⟨V,0,none⟩ 1 1 (#[Value.int .i64 I,u9]:Array Value).toList aJ rfl (JG a7) ?h1B ?h63B ?hbyB b4 ?_)
    case h1B=>
     intro u hu;simp only[List.mem_cons,List.not_mem_nil,or_false]at hu;rcases hu with rfl|rfl
     ·rfl
     rw[aL];rfl
    (case h63B=>unfold maxLen;omega);(case hbyB=>omega);intro de Z aj ai _;obtain⟨G,H,rfl⟩:=bR aj;have aS:∀kQ,((.slice T d.length U):Value).ownBlock=some kQ->F.heap.size<=kQ:=fun kQ E=>(aa.lt kQ E).1;have h3:∀(B':Nat)(l:List Int)(u:Value),r.ownsRow B' 3 1 u l.length (l.map (Value.int .i64))->Z.ownsRow B' 3 1 u l.length (l.map (Value.int .i64)):=fun B' l u hu=>pY hu (fun k c E=>(ai.block k (cV E) (fun e=>by have :=FN aa e.symm E;cases this)).trans E);have am:O (Below F.heap.size F Z):=a8.grown ai a8.size (fun kQ E=>aS kQ E);have az:O (Z.ownsRow F.heap.size 3 1 u9 (aZ D++[C]).length ((aZ D++[C]).map (Value.int .i64))):=gP (h3 _ _ _ ak) bv;have aC:O (∀p,p∈d->Z.ownsRow F.heap.size 3 1 p.2 p.1.args.length (p.1.args.map (Value.int .i64))):=fun p s=>h3 _ _ _ (bO (ag.o p s).1 R.z);(have bm:O (Z.ownsRow F.heap.size 72 2 (.slice G (d.length+1) H) (d++[((⟨I,aZ D++[C]⟩:aQ),u9)]).length ((d++[((⟨I,aZ D++[C]⟩:aQ),u9)]).map eO).flatten):=by show World.ownsRow _ _ _ _ _ _ _;rw[aV,dC,iL];exact aj);have bt:Act.eval (Act.put ⟨J,W⟩ (some 70) (.slice G (d.length+1) H)) (.tmp 70)=(.slice G (d.length+1) H):=jV (by show 70<J.size;omega);rw[lH];refine xF (v:=(.slice G (d.length+1) H)) (w':=Z) rfl (bI rfl) ?_ ?_
    ·show Sem.run Tryz.prog (execOp (Act.eval (Act.put ⟨J,W⟩ (some 70) (.slice G (d.length+1) H))) _) Z=_;generalize Act.eval (Act.put ⟨J,W⟩ (some 70) (.slice G (d.length+1) H))=ev at *;clear R;go_simp
    (have b3:∀t,t∉[57,58,59,60,61,62,63,64,65,66,67,68,69,70,5]->((J.setIfInBounds 70 (.slice G (d.length+1) H)).setIfInBounds 5 (.slice G (d.length+1) H)).getD t undef=_:=fun t ht=>by have hB:t≠70:=fun e=>ht (by rw[e];decide);have hC:t≠5:=fun e=>ht (by rw[e];decide);exact((jM (a:=Act.put ⟨J,W⟩ (some 70) (.slice G (d.length+1) H)) hC).trans (jM (a:=⟨J,W⟩) hB)).trans (R.still t ht));(have b1:((J.setIfInBounds 70 (.slice G (d.length+1) H)).setIfInBounds 5 (.slice G (d.length+1) H)).size=73:=by simp[b2]);have h5:((J.setIfInBounds 70 (.slice G (d.length+1) H)).setIfInBounds 5 (.slice G (d.length+1) H)).getD 5 undef=(.slice G (d.length+1) H):=jV (a:=Act.put ⟨J,W⟩ (some 70) (.slice G (d.length+1) H)) (by rw[zX];show 5<J.size;omega);obtain rfl:W=[]:=R.defers;clear R aD aJ a7 ak aa a8 b4 b2 aL aj ai aS h3 bt;show Exit.then _ _ Exit.normal ⟨(J.setIfInBounds 70 (.slice G (d.length+1) H)).setIfInBounds 5 (.slice G (d.length+1) H),[]⟩ _;generalize (J.setIfInBounds 70 (.slice G (d.length+1) H)).setIfInBounds 5 (.slice G (d.length+1) H)=tm at *;obtain⟨fQ,hQ,ah⟩:=oR [57,58,59,60,61,62,63,64,65,66,67,68,69,70,5] tm _ (b1.trans rF) b3;clear b1 b3;simp only[List.foldl_cons,List.foldl_nil,(hQ 5).trans h5]at ah;clear h5 hQ;simp only[List.setIfInBounds_toArray,List.set_cons_zero,List.set_cons_succ]at ah;subst ah;go_wp2_with fail;go_roundw;case rel=>exact⟨k+1,d++[((⟨I,aZ D++[C]⟩:aQ),u9)],[],Z.heap.size,ae,gN,a5.o _,bm.o,fun p s=>by
     rcases cW.mp s with s|s
     ·exact⟨aC.o p s,fun k E=>((aC.o p s).lt k E).2⟩
     rcases cP.mp s with rfl
     exact⟨az.o,fun k E=>(az.o.lt k E).2⟩,eS _ _ _ _,⟨aH _,am.o.size⟩,by rw[aV];exact DC b0,bL _,fun _ h=>absurd h sI,am.o⟩
    case measure=>exact mI
  (have cF:O (jI f (Q.map (·.1)) []=d.map (·.1)):=by show _=_;rw[HE.o,bG (by rw[aY];omega)];exact iZ _);have di:decide (k<Q.length)=false:=aF ae;clear HE;go_wp2_with fail;go_ret;exact⟨_,rfl,Q.map (·.1),cG.o,cK.o,⟨d,cF.o.symm,gP HO.o bo.o,fun p s=>gP (b9.o p s).1 bo.o⟩,cD.o.trans (HB.o.mono (bP cE.o bo.o))⟩
def rS(p:bK)(i:Int)(l:List aQ):List aQ:=pU (jU p i) (mS p i l)
theorem aGH(r:cA):pU r []=[]:=by unfold pU qN;split<;>rfl
theorem Wh{p:bK}{i:Int}{l:List aQ}(c:zE p i l){x:List Int}(b:x∈mS p i l):sJ (eZ l) (jU p i) x:=by
 unfold mS at b;split at b
 ·cases b
 exact(tH (lF c.A c.set) (lS c.set) x).mp (LV.mp b)
theorem OW{p:bK}{i:Int}{l:List aQ}(h:kI p i l=0):zE p i l:=by refine NH (Classical.byContradiction fun b=>?_);unfold kI at h;rw[if_pos b]at h;exact b h
theorem aB3{p:bK}{i:Int}{l:List aQ}(h:kI p i l=0):(mS p i l).length<=2000:=by
 have b:=OW h;unfold mS;rw[if_neg (fun c=>c h)];have d:=wD (lF b.A b.set) (lS b.set) (zO l);rw[(IZ d).length_eq];unfold kI at h;split at h
 ·exact absurd h (by assumption)
 split at h
 ·cases h
 omega
theorem ZJ{b:List Int}{r:cA}(hr:oY b r):kV r.vars.toNat r.v:=fun t ht=>by
 have h:=hr.tm t ht;by_cases c:t.var<0
 ·exact .inl c
 exact .inr (by have :=h.hi;omega)
theorem ZG{p:bK}(h:xK p){r:cA}(hr:oY p.x r):r.v.length<=3:=by have b:=h.ar r.g.toNat (by have :=hr.p0;have :=hr.p1;omega);have :=hr.tl;omega
theorem mM.z{w w':World}{vr:Value}{l:List cA}(h:mM w vr)(r:EV w vr l)(s:Below w.heap.size w w'):mM w' vr:=by intro b x n cap j k i v u;obtain⟨C,c,m,q⟩:=r;rw[j]at m;injection m with e f E;subst e f;obtain⟨D,F,g,_,_,_,⟨G,p,_⟩,_⟩:=AH q k i;injection g with g;injection g with e f;subst e f;have d:=aB s p;rw[u]at d;injection d with d;subst d;exact h b x l.length cap j k i _ p
theorem QA{B:Nat}{w:World}{v:Value}{q:List (List Int×Value)}(h:AU B w v q){k:Nat}(b:k<q.length):∃g cap y,v=.slice (some ⟨g,0,none⟩) q.length cap/\q[k]?=some y/\y∈q/\w.cell? ⟨g,k,none⟩=some y.2/\w.ownsRow B 3 1 y.2 y.1.length (y.1.map (Value.int .i64)):=by
 rcases lJ h.1 with⟨_,d⟩|⟨g,cap,c⟩
 ·omega
 subst c;refine⟨g,cap,q[k],rfl,aM b,fG b,?_,h.2 _ (fG b)⟩;rw[World.ownsRow.cellAt h.1 k oM,dW,aM b];rfl
theorem aUA(p:bK)(i:Int)(facts:List aQ)(va vn vr vf:Value)(w:World)(V:nV w va vn vr p)(hF:lR p)(bg:mM w vr)(hV:bS w vf facts)(bu:facts.length<=9223372036854775807)(bb:∀f,f∈facts->gD f):
 Calls Tryz.prog 161 #[gU va vn vr, .int .i64 i,vf] w fun e w'=>∃v,e=.returned (.tuple #[v, .int .i64 (kI p i facts)])/\pQ w.heap.size w' v (rS p i facts)/\Below w.heap.size w w':=by
 obtain⟨i0,hi,c9,ca,cc⟩:=jY yZ;obtain⟨a0,n0,rfl,_⟩:=id V.ar;obtain⟨a1,n1,rfl,_⟩:=id V.nm;obtain⟨a2,n2,rfl,bd⟩:=id V.rl;obtain⟨af,cf,rfl,_,bt⟩:=id hV;have bT:=(aG w.heap.size w).alloc (aH _) (pB a0 n0 a1 n1 a2 n2 p);have Q:O _:=bA w (pB a0 n0 a1 n1 a2 n2 p);have HB:O _:=bT;have HC:O _:=aZ5 p i facts _ _ _ _ _ (V.z bT) hF (bg.z V.rl bT) (bQ hV bT) bu bb;have b4:O _:=bd;have am:O (rS p i facts=pU (jU p i) (mS p i facts)):=rfl;clear V hF hV bt bb bT bg bd
 go_enter Tryz.func161,Tryz.ntmps161
 go_upto_region 1 with fail;generalize w.alloc (pB a0 n0 a1 n1 a2 n2 p)=w1 at *;(have c0:w1.cell? ⟨w.heap.size,0,none⟩=some (.slice a0 p.x.length n0):=cH Q.o);(have c1:w1.cell? ⟨w.heap.size,1,none⟩=some (.slice a1 p.r.length n1):=cH Q.o);(have c2:w1.cell? ⟨w.heap.size,2,none⟩=some (.slice a2 p.y.length n2):=cH Q.o);go_wp2_with fail;refine Calls.mono HC.o ?_;rintro _ F ⟨v,q,rfl,hN,hq,aw⟩;have G:O (Below w.heap.size w F):=HB.o.trans (aw.mono HB.o.size);have aO:O _:=(aw.block _ (cV Q.o)).trans Q.o;have HQ:O _:=hq;have ce:O (w.heap.size<=F.heap.size):=G.o.size;obtain⟨av,cv,rfl⟩:=bR hN.1;have HN:O (AU w1.heap.size F (.slice av q.length cv) q):=hN;clear c0 c1 c2 aw HB Q HC hN hq;by_cases K:kI p i facts=0
 ·have H:=OW K;(have ci:q.length<=2000:=by have :=aB3 K;rw[<-HQ.o,aY]at this;exact this);have an:O (∀y,y∈q->sJ (eZ facts) (jU p i) y.1):=fun y I=>Wh H (by rw[<-HQ.o];exact nW I);have b6:O (∀y,y∈q->mD p.x (gA (jU p i) y.1)):=fun y I=>OQ H.A H.set (an.o y I);(have b8:O (∀y,y∈q->kV y.1.length (jU p i).v):=fun y I=>by rw[(an.o y I).1];exact ZJ H.A);have bW:=ZG H.ok H.A;have b0:O (¬(jU p i).h=0->¬(jU p i).v.length=0):=fun h=>(H.A.ff h).1;obtain⟨k,rfl⟩:∃k:Nat,i=k:=⟨i.toNat,by have :=H.lo;omega⟩;(have L:k<p.y.length:=by have :=H.hi;omega);(have b7:O (jU p (k:Int)=dX p.y k):=by show _=_;unfold jU;rw[lC]);rw[b7.o]at an b6 b8 b0 bW am;obtain⟨b,cd,rfl,q0,⟨vt,q1,hT⟩,q2,⟨vb,q3,hL⟩,q4⟩:=AH b4.o k L;obtain⟨at_,ct,rfl,_⟩:=id hT;obtain⟨ab,cb,rfl,_⟩:=id hL;have HT:O _:=hT;have p0:=aB G.o q0;have p1:=aB G.o q1;have p2:=aB G.o q2;have p3:=aB G.o q3;have p4:=aB G.o q4;(have c2:F.cell? ⟨w.heap.size,2,none⟩=some (.slice (some ⟨b,cd,none⟩) p.y.length n2):=cH aO.o);clear q0 q1 q2 q3 q4 hT hL H b4 b7 aO;generalize dX p.y k=r at *;have aR:O _:=K;rw[K];clear K;go_upto_region 5 with fail;have P:Below F.heap.size F (F.alloc (.cells #[.int .i64 r.g, .slice at_ r.v.length ct, .int .i64 r.h, .slice ab r.body.length cb, .int .i64 r.vars] 97)):=(aG _ _).alloc (aH _) _;have ae:O _:=bA F (.cells #[.int .i64 r.g, .slice at_ r.v.length ct, .int .i64 r.h, .slice ab r.body.length cb, .int .i64 r.vars] 97);have b1:O (AU w1.heap.size (F.alloc (.cells #[.int .i64 r.g, .slice at_ r.v.length ct, .int .i64 r.h, .slice ab r.body.length cb, .int .i64 r.vars] 97)) (.slice av q.length cv) q):=AU.z HN.o P;have a9:O _:=G.o.trans (P.mono G.o.size);have bp:O _:=fV HT.o a9.o;clear p0 p1 p2 p3 p4 c2 G HN HT P;generalize bv:F.heap.size=RB at *;generalize F.alloc (.cells #[.int .i64 r.g, .slice at_ r.v.length ct, .int .i64 r.h, .slice ab r.body.length cb, .int .i64 r.vars] 97)=m at *;clear bv;(have r0:m.cell? ⟨RB,0,none⟩=some (.int .i64 r.g):=cH ae.o);(have r1:m.cell? ⟨RB,1,none⟩=some (.slice at_ r.v.length ct):=cH ae.o);(have r2:m.cell? ⟨RB,2,none⟩=some (.int .i64 r.h):=cH ae.o);clear ae;go_wp2_with fail;go_loopw [11,31] (fun vh iv wr=>∃(j:Nat)(d:List Fv),j<=q.length/\iv=.int .i64 j/\O (wr.ownsRow m.heap.size 72 2 vh d.length (d.map eO).flatten)/\O (d.map (·.1)=(q.take j).map (fun y=>gA r y.1))/\O (∀p,p∈d->wr.ownsRow m.heap.size 3 1 p.2 p.1.args.length (p.1.args.map (Value.int .i64)))/\d.length<=j/\O (Below m.heap.size m wr)) (fun _ iv _=>q.length-(intOf iv).toNat);case atStart=>exact⟨0,[],bL _,rfl,eS _ _ _ _,rfl,fun _ s=>absurd s sI,aH _,aG _ _⟩
  case round=>
   obtain⟨M,bZ⟩:∃M,M=wr:=⟨_,rfl⟩;subst bZ;obtain⟨j,d,hj,rfl,X,Y,ag,bz,D⟩:=hrel;obtain⟨ao,co,rfl⟩:=bR X.o;have t0:=aB D.o r0;have t1:=aB D.o r1;have t2:=aB D.o r2;by_cases aC:j<q.length
   ·obtain⟨g,cap,y,hv,I,bh,aL,aN⟩:=QA b1.o aC;injection hv with e1 e2 e3;subst e1 e3;obtain⟨ay,cy,bi⟩:=bR aN;have aq:O (eT M y.2 y.1):=bC (tY aN) D.o;rw[bi]at aL aq;have yc:=aB D.o aL;have aT:O _:=QQ r.g r.v y.1 _ _ M (fV bp.o D.o) aq.o oM (b8.o y bh);(have b9:O ((q.take (j+1)).map (fun y=>gA r y.1)=(q.take j).map (fun y=>gA r y.1)++[(⟨r.g,dO r.v y.1⟩:aQ)]):=by show _=_;rw[gQ,I,dC];rfl);(clear I bh aL aN bi aq;generalize dO r.v y.1=C at *;generalize y.1.length=yl at *;go_wp2_with fail;refine Calls.mono aT.o ?_;rintro _ J ⟨u,rfl,aJ,aj⟩;have ad:O (J.ownsRow m.heap.size 72 2 (.slice ao d.length co) d.length (d.map eO).flatten):=bO X.o aj;have b5:O (∀p,p∈d->J.ownsRow m.heap.size 3 1 p.2 p.1.args.length (p.1.args.map (Value.int .i64))):=fun p s=>bO (ag.o p s) aj;have aa:O _:=D.o.trans (aj.mono D.o.size);have b3:O (J.ownsRow m.heap.size 3 1 u C.length (C.map (Value.int .i64))):=gP aJ D.o.size;obtain⟨R,T,rfl⟩:=bR aJ;have cj:=aa.o.size;clear aJ aj aT X ag D t0 t1 t2 yc;go_wp2_with(at_builtin;refine iD _ rfl (.tmp 35) (.tmp 42) 30 rfl m.heap.size 72 i0 _ 2 32 Tryz.underlying30 hi c9 ca cc rfl dE _ _ _ rfl (ad.o.alloc _) ⟨J.heap.size,0,none⟩ 1 1 (eO (⟨r.g,C⟩, .slice R C.length T)) rfl rfl ?c1 ?c2 ?c3 ?c4 ?c5 ?_);(case c1=>exact aES J _ _ 72);(case c2=>intro u hu;simp[eO]at hu;rcases hu with rfl|rfl<;>rfl);(case c3=>unfold maxLen;omega);(case c4=>omega);(case c5=>simp;omega);intro ck w6 aD az _;obtain⟨br,bs,rfl⟩:=bR aD;have P:Below J.heap.size J (J.alloc (.cells #[.int .i64 r.g, .slice R C.length T] 72)):=(aG _ _).alloc (aH _) _;have h3:∀(l:List Int)(u:Value),J.ownsRow m.heap.size 3 1 u l.length (l.map (Value.int .i64))->w6.ownsRow m.heap.size 3 1 u l.length (l.map (Value.int .i64)):=fun l u hu=>pY hu (fun k c L=>(az.block k (dS (cV L) P.size) (fun e=>by have :=FN ad.o e.symm L;cases this)).trans ((P.block k (cV L)).trans L));have bj:O (Below m.heap.size m w6):=(aa.o.alloc aa.o.size _).grown az sO (fun k L=>(ad.o.lt k L).1);have bk:O (w6.ownsRow m.heap.size 72 2 (.slice br (d.length+1) bs) (d++[((⟨r.g,C⟩:aQ),Value.slice R C.length T)]).length ((d++[((⟨r.g,C⟩:aQ),Value.slice R C.length T)]).map eO).flatten):=by show World.ownsRow _ _ _ _ _ _ _;rw[aV,dC,iL];simpa using aD);have bl:O (∀p,p∈d++[((⟨r.g,C⟩:aQ),Value.slice R C.length T)]->w6.ownsRow m.heap.size 3 1 p.2 p.1.args.length (p.1.args.map (Value.int .i64))):=fun p s=>by
     rcases cW.mp s with s|s
     ·exact h3 _ _ (b5.o p s)
     rcases cP.mp s with rfl;exact h3 _ _ b3.o
    (have bo:O ((d++[((⟨r.g,C⟩:aQ),Value.slice R C.length T)]).map (·.1)=(q.take (j+1)).map (fun y=>gA r y.1)):=by show _=_;rw[b9.o,<-Y.o,dC];rfl);clear aD az ad b5 aa b3 h3 P b9 Y;go_wp2_with fail;go_roundw;(case rel=>exact⟨j+1,_,aC,gN,bk.o,bo.o,bl.o,by rw[aV];exact DC bz,bj.o⟩);case measure=>exact mI
   have cg:decide (j<q.length)=false:=aF aC;(have b2:O (d.map (·.1)=(mS p k facts).map (gA r)):=by show _=_;rw[Y.o,dM oM,<-HQ.o,List.map_map];rfl);(have a6:O (∀p,p∈d->p.1.args.length=r.v.length/\∀n,n∈p.1.args->dJ n=true):=fun f E=>by have h1:f.1∈d.map (·.1):=nW E;rw[Y.o]at h1;obtain⟨y,I,c6⟩:=cJ.mp h1;have h2:=b6.o y (mC I);rw[<-c6];exact⟨by show(dO r.v y.1).length=_;unfold dO;rw[aY],h2.nm⟩);have bN:d.length<=2000:=oM;have W:O (Below w.heap.size w M):=a9.o.trans (D.o.mono a9.o.size);clear Y b1;by_cases E:r.h=0
   ·(have g0:(r.h != 0)=false:=by simpa using E);(have ah:O (eZ (d.map (·.1))=rS p k facts):=by show _=_;rw[am.o,b2.o];unfold pU qN;rw[if_pos E]);have U:pQ m.heap.size M (.slice ao d.length co) (d.map (·.1)):=⟨d,rfl,X.o,ag.o⟩;have Z:O _:=XS (d.map (·.1)) _ M U.toV (by rw[aY];omega) (fun f ax=>by
     obtain⟨z,hz,rfl⟩:=cJ.mp ax;have :=(a6.o z hz).1
     omega)
    clear E U;go_wp2_with fail;refine Calls.mono Z.o ?_;rintro _ w8 ⟨v',rfl,U,a5⟩;obtain⟨q8,a3,N,a4⟩:=U;obtain⟨a8,c8,rfl⟩:=bR N;have al:O (pQ w.heap.size w8 (.slice a8 q8.length c8) (rS p k facts)):=⟨q8,by rw[a3];exact ah.o,gP N W.o.size,fun p s=>gP (a4 p s) W.o.size⟩;have ak:O (Below w.heap.size w w8):=W.o.trans (a5.mono W.o.size);clear a3 N a4 a5 Z;go_wp2_with fail;refine dP (lQ rfl _ _ _) rfl ?_;exact⟨_,by rw[aR.o];rfl,al.o,ak.o⟩
   (have g0:(r.h != 0)=true:=by simpa using E);have bU:=b0.o E;have aS:O _:=aQV r.h (r.v.length-1) d (.slice ao d.length co) m.heap.size M X.o ag.o bN oM (fun p s=>⟨by have :=(a6.o p s).1;omega,(a6.o p s).2⟩);(have ah:O (∀S:List aQ,S.Perm (d.map (·.1))->S.Pairwise (fun a b=>eU a b<=0)->eZ (jI r.h S [])=rS p k facts):=fun S h1 h2=>by rw[am.o];exact Rp E (by rw[<-b2.o];exact h1) h2);have bq:O (w.heap.size<=m.heap.size):=a9.o.size;clear E bU;go_wp2_with fail;refine Calls.mono aS.o ?_;rintro _ w7 ⟨v7,S,rfl,ai,be,bc,bf⟩;have bn:O _:=ah.o S ai be;(have bw:S.length=d.length:=by have :=ai.length_eq;rw[aY]at this;exact this);have ac:O (Below w.heap.size w w7):=W.o.trans (bf.mono bq.o);(have bm:O (∀f,f∈S->f.args.length=r.v.length):=fun f E=>by obtain⟨z,hz,rfl⟩:=cJ.mp (ai.mem_iff.mp E);exact(a6.o z hz).1);have Z:O _:=XS (jI r.h S []) _ w7 bc.toV (by have :=GL r.h S [];omega) (fun f ax=>by
    have :=LT r.h r.v.length S [] bm.o f ax
    omega)
   obtain⟨q7,_,ba,_⟩:=bc;obtain⟨a7,c7,rfl⟩:=bR ba;clear ai be ba bf aS ah bw;go_wp2_with fail;refine Calls.mono Z.o ?_;rintro _ w8 ⟨v',rfl,U,a5⟩;obtain⟨q8,a3,N,a4⟩:=U;obtain⟨a8,c8,rfl⟩:=bR N;have al:O (pQ w.heap.size w8 (.slice a8 q8.length c8) (rS p k facts)):=⟨q8,by rw[a3];exact bn.o,gP N ac.o.size,fun p s=>gP (a4 p s) ac.o.size⟩;have ak:O (Below w.heap.size w w8):=ac.o.trans (a5.mono ac.o.size);clear a3 N a4 a5 Z;go_wp2_with fail;refine dP (lQ rfl _ _ _) rfl ?_;exact⟨_,by rw[aR.o];rfl,al.o,ak.o⟩
 (have g0:(kI p i facts != 0)=true:=by simpa using K);(have HE:O (rS p i facts=[]):=by show _=_;unfold rS mS;rw[if_pos K];exact aGH _);clear K;go_wp2_with fail;refine dP (lQ rfl _ _ _) rfl ?_;exact⟨_,rfl,by rw[HE.o];exact pQ.nil _ _,G.o⟩
end Go.Proofs.YtfljoehbbncooaaGreat
namespace Go.Proofs.YtfljoehbbncooaaGreat
theorem KX{T:List aQ}(h:dD T):eZ T=T:=(IW ⟨h,fun _=>Iff.rfl⟩).symm
theorem Ez{p:bK}(b:dB p=0){f:aQ}:mX p f.g f.args=0↔mD p.x f:=by unfold mX iV;rw[if_pos b];exact Gc
theorem LM{α:Type}{f:α->Int}:∀{l:List α},(∀x,x∈l->f x=0)->aW f l=0
 |[],_=>rfl
 |x::r,h=>by unfold aW;rw[if_pos (h x dL)];exact LM fun y b=>h y (bY _ b)
theorem GG{p:bK}(c:dB p=0){l:List aQ}:iJ p l=0↔∀f,f∈l->mD p.x f:=by unfold iJ;exact⟨fun h f b=>(Ez c).mp (DY h f b),fun h=>LM fun f b=>(Ez c).mpr (h f b)⟩
section
variable {p:bK} {T:List aQ} {i:Nat}
theorem aFJ(e:dB p=0)(d:mH p T)(j:i<p.y.length):
 (kI p i T=0/\T.length<=60/\(kF T (dX p.y i)).length<=2000)\/
 (kI p i T=2/\(60<T.length\/2000<(kF T (dX p.y i)).length)):=by
 (have f:jT p i T=if 60<T.length then 2 else 0:=by unfold jT;rw[if_neg (fun h=>h e),if_neg oM,(GG e).mpr d.right]);(have g:jU p (i:Int)=dX p.y i:=by unfold jU;rw[lC]);unfold kI;rw[f,KX d.up,g];by_cases b:60<T.length
 ·right;rw[if_pos b];exact⟨rfl, .inl b⟩
 rw[if_neg b];by_cases c:2000<(kF T (dX p.y i)).length
 ·right;rw[if_neg sI,if_pos c];exact⟨rfl, .inr c⟩
 left;rw[if_neg sI,if_neg c];exact⟨rfl,oM,oM⟩
theorem Ux(e:xK p)(b:mH p T)(c:i<p.y.length)(d:kI p i T=0):rS p i T=cZ T (dX p.y i):=by(have g:jU p (i:Int)=dX p.y i:=by unfold jU;rw[lC]);have f:=e.A (dX p.y i) (by unfold dX;rw[aI,aM c];exact fG c);unfold rS mS;rw[if_neg (fun h=>h d),g,KX b.up];exact CW _ (IZ (wD (lF f b.right) (lS b.right) (nZ b.up)))
end
theorem AR{l:List cA}{i:Nat}(h:i<l.length):dX l i∈l:=by unfold dX;rw[aI,aM h];exact fG h
theorem ET{l:List cA}{r:cA}(h:r∈l):∃i,i<l.length/\dX l i=r:=by obtain⟨i,b,c⟩:=tO h;exact⟨i,b,by unfold dX;rw[aI,aM b,c];rfl⟩
section
variable {p:bK} {k:Int} {S T:List aQ}
theorem rH{l m:List aQ}{f:aQ}:f∈jS l m↔f∈l\/f∈m:=by unfold jS;rw[lM,cW]
theorem AQ{r:cA}(hr:r∈p.y)(c:kY p r.g=k):UD p k T (jS T (cZ T r)):=by
 refine⟨fun f b=>rH.mpr (.inl b),fun f b=>?_,(kU _).1⟩;rcases rH.mp b with h|h
 ·exact .inl h
 exact .inr ⟨r,hr,c,h⟩
theorem Ff{l m:List aQ}:(jS l m).length<=l.length+m.length:=by have :=sK (l₂:=l++m) (nZ (kU (l++m)).1) fun f b=>lM.mp b;rw[aV]at this;exact this
theorem UI(c:dD S)(d:dD T)(h:∀f,f∈S->f∈T)(k:T.length<=S.length):T=S:=by
 refine GI d c fun f=>⟨fun e=>?_,h f⟩;refine Classical.byContradiction fun i=>?_;have j:(f::S).Nodup:=qY.mpr ⟨i,nZ c⟩;have :=j.length_le_of_subset (l₂:=T) fun g b=>by
  rcases eA.mp b with rfl|b
  ·exact e
  exact h g b
 simp at this;omega
theorem Vg(b:dD S)(h:∀f,f∈S->f∈T):S.length<=T.length:=(nZ b).length_le_of_subset h
theorem aBI(h:∀r,r∈p.y->¬kY p r.g=k){m:List aQ}(j:dD m)(d:kL p k m S):S=m:=by
 induction d with
 |refl=>rfl
 |step _ b n=>
  subst n;refine GI b.up j fun f=>⟨fun e=>?_,b.sub f⟩;rcases b.new f e with c|⟨r,l,i,_⟩
  ·exact c
  exact absurd i (h r l)
theorem aDI{r:cA}:(cZ T r).length<=(kF T r).length:=by
 unfold cZ pU;have b:=sK (l₂:=qN r (kF T r)) (nZ (kU (qN r (kF T r))).1) fun f c=>lM.mp c;refine bP b ?_;unfold qN;split
 ·rw[aY];exact aH _
 refine bP (KV _ _) ?_;rw[aY];exact aH _
theorem UG(f:aFI p){m:List aQ}(e:mH p m)(c:kL p k m T)(h:¬UE p k T):tD p k m none:=fun _ d b g=>h (aBK f e c d b g)
def Ey(p:bK)(k:Int)(S:List aQ)(i:Nat):Prop:=
 ∀j,j<i->kY p (dX p.y j).g=k->S.length<=60/\(kF S (dX p.y j)).length<=2000/\∀f,f∈cZ S (dX p.y j)->f∈S
theorem aFT(n:mH p T)(l:T.length<=60)(e:kL p k T S)(h:Ey p k S p.y.length):tD p k T (some S):=by
 refine⟨e,fun r c b f m=>?_,⟨?_,fun r c b=>?_⟩⟩
 ·obtain⟨i,d,rfl⟩:=ET c;exact(h i d b).2.2 f m
 ·by_cases j:∃r,r∈p.y/\kY p r.g=k
  ·obtain⟨r,c,b⟩:=j;obtain⟨i,d,rfl⟩:=ET c;exact(h i d b).1
  rw[aBI (fun r c b=>j ⟨r,c,b⟩) n.up e];exact l
 obtain⟨i,d,rfl⟩:=ET c;exact(h i d b).2.1
end
end Go.Proofs.YtfljoehbbncooaaGreat
namespace Go.Proofs.YtfljoehbbncooaaGreat
open Go.RowKit
def MK:Value->Nat
 | .slice _ n _=>n
 |_=>0
def yU:Option (List aQ)->Int
 |some _=>0
 |none=>2
theorem uL{p:bK}(b:xK p){f:aQ}(h:mD p.x f):f.args.length<=3:=by have c:=b.ar f.g.toNat (by have :=h.p0;have :=h.p1;omega);have :=h.al;omega
theorem UH{p:bK}{k:Int}{m S:List aQ}(c:aFI p)(b:mH p m)(h:kL p k m S):mH p S:=(uO c b h).1
theorem aWN(p:bK)(k:Int)(c:List aQ)(va vn vr vl vm:Value)(w:World)(W:nV w va vn vr p)(hF:lR p)(b4:mM w vr)(hc:dB p=0)(a7:aFI p)(hL:eT w vl (kA p))(hM:bS w vm c)(hS:mH p c)(aS:c.length<=60):
 Calls Tryz.prog 126 #[gU va vn vr,vl, .int .i64 k,vm] w fun e w'=>∃v o,tD p k c o/\e=.returned (.tuple #[v, .int .i64 (yU o)])/\bS w' v (o.getD [])/\Below w.heap.size w w':=by
 obtain⟨K,M,rfl,_⟩:=id W.ar;obtain⟨L,N,rfl,_⟩:=id W.nm;obtain⟨F,u,rfl,b1⟩:=id W.rl;obtain⟨al,cl,rfl,b0⟩:=id hL;have b5:(kA p).length=p.x.length:=rK p;have bT:=(aG w.heap.size w).alloc (aH _) (pB K M L N F u p);have aw:O _:=bA w (pB K M L N F u p);have av:O (Below w.heap.size w _):=bT;have aJ:O _:=bQ hM bT;have HP:O (nV w (.slice K p.x.length M) (.slice L p.r.length N) (.slice F p.y.length u) p/\lR p/\mM w (.slice F p.y.length u)):=⟨W,hF,b4⟩;have s:O (dB p=0/\aFI p/\mH p c/\c.length<=60):=⟨hc,a7,hS,aS⟩;have bh:O _:=b1;have bc:O _:=b0;have bd:O _:=b5;have J:O (∀T,kL p k c T->mH p T):=fun T hT=>UH a7 hS hT;have bo:c.length<=2060:=oM;have bW:p.y.length<=12:=a7.ok.r12;clear W hF b4 hM hL b1 b0 bT hS aS a7 hc b5
 go_enter Tryz.func126,Tryz.ntmps126
 go_wp2_with fail;generalize w.alloc (pB K M L N F u p)=w1 at *;go_loopw [3] (fun m wr=>∃S:List aQ,O (kL p k c S)/\S.length<=2060/\O (bS wr m S)/\O (Below w.heap.size w wr)/\O (wr.heap[w.heap.size]?=some (pB K M L N F u p))) (fun m _=>2061-MK m);case atStart=>exact⟨c,kL.refl,bo,aJ.o,av.o,aw.o⟩
 case round=>
  clear aJ av aw;obtain⟨wo,bv⟩:∃wo,wo=wr:=⟨_,rfl⟩;subst bv;obtain⟨S,Z,bp,ay,d,C⟩:=hrel;obtain⟨am,cm,rfl,_⟩:=id ay.o;(have V:wo.cell? ⟨w.heap.size,2,none⟩=some (.slice F p.y.length u):=cH C.o);go_wp2_with fail;clear V;go_loopw [3,20] (fun m iv wr=>∃(i:Nat)(T:List aQ),i<=p.y.length/\iv=.int .i64 i/\O (kL p k c T)/\O (∀f,f∈S->f∈T)/\T.length<=2060/\O (T=S->Ey p k S i)/\O (bS wr m T)/\O (Below w.heap.size w wr)/\O (wr.heap[w.heap.size]?=some (pB K M L N F u p))) (fun _ iv _=>p.y.length-(intOf iv).toNat);case atStart=>exact⟨0,S,bL _,rfl,Z.o,fun _ h=>h,bp,fun _ j hj=>absurd hj (yR j),ay.o,d.o,C.o⟩
  case round=>
   clear d C;obtain⟨E,bu⟩:∃E,E=wr:=⟨_,rfl⟩;subst bu;obtain⟨i,T,hi,rfl,D,U,b2,af,R,d,C⟩:=hrel;obtain⟨bw,bz,rfl,_⟩:=id R.o;by_cases G:i<p.y.length
   ·obtain⟨b,b7,rfl,p0,⟨vt,p1,hT⟩,p2,⟨vb,p3,bm⟩,p4⟩:=AH bh.o i G;obtain⟨at_,ct,rfl,_⟩:=hT;obtain⟨ab,cb,rfl,_⟩:=bm;have hr:oY p.x (dX p.y i):=s.o.2.1.ok.A _ (AR G);have ae:O _:=AR G;have ac:O _:=aFJ s.o.1 (J.o T D.o) G;have aC:O _:=Ux s.o.2.1.ok (J.o T D.o) G;obtain⟨q,aq⟩:∃q:Nat,(dX p.y i).g=q:=⟨(dX p.y i).g.toNat,by have :=hr.p0;omega⟩;(have bt:q<(kA p).length:=by have :=hr.p1;rw[bd.o];omega);obtain⟨lb,bZ,rfl,ao⟩:=sY bc.o q bt;(have aD:O (kY p (dX p.y i).g=cI (kA p) q):=by show _=_;unfold kY cI;rw[aq,lC]);have q0:=aB d.o p0;have q1:=aB d.o p1;have q2:=aB d.o p2;have q3:=aB d.o p3;have q4:=aB d.o p4;rw[aq]at q0;(have V:E.cell? ⟨w.heap.size,2,none⟩=some (.slice (some ⟨b,b7,none⟩) p.y.length u):=cH C.o);clear p0 p1 p2 p3 p4 hr aq;generalize (dX p.y i).v.length=tl at *;generalize (dX p.y i).body.length=bl at *;generalize (dX p.y i).h=fo at *;generalize (dX p.y i).vars=vs at *;go_upto_region 5 with fail;have a6:Below E.heap.size E (E.alloc (.cells #[.int .i64 q, .slice at_ tl ct, .int .i64 fo, .slice ab bl cb, .int .i64 vs] 97)):=(aG _ _).alloc (aH _) _;have aL:O _:=bA E (.cells #[.int .i64 q, .slice at_ tl ct, .int .i64 fo, .slice ab bl cb, .int .i64 vs] 97);have H:O _:=d.o.trans (a6.mono d.o.size);have I:O _:=(a6.block _ (cV C.o)).trans C.o;have Y:O _:=bQ R.o a6;clear q0 q1 q2 q3 q4 V d C R a6;generalize bn:E.heap.size=RB at *;generalize E.alloc (.cells #[.int .i64 q, .slice at_ tl ct, .int .i64 fo, .slice ab bl cb, .int .i64 vs] 97)=X at *;clear bn;(have r0:X.cell? ⟨RB,0,none⟩=some (.int .i64 q):=cH aL.o);have l0:=aB H.o ao;by_cases Q:kY p (dX p.y i).g=k
    ·(have g1:(cI (kA p) q != k)=false:=by rw[<-aD.o];simpa using Q);(have c0:X.cell? ⟨w.heap.size,0,none⟩=some (.slice K p.x.length M):=cH I.o);(have c1:X.cell? ⟨w.heap.size,1,none⟩=some (.slice L p.r.length N):=cH I.o);(have V:X.cell? ⟨w.heap.size,2,none⟩=some (.slice (some ⟨b,b7,none⟩) p.y.length u):=cH I.o);have a3:O _:=J.o T D.o;have aN:O (∀f,f∈T->f.args.length<=3):=fun f n=>uL s.o.2.1.ok (a3.o.right f n);have HC:O _:=aUA p i T _ _ _ _ X (HP.o.1.z H.o) HP.o.2.1 (HP.o.2.2.z HP.o.1.rl H.o) Y.o oM (fun f n=>by have :=aN.o f n;unfold gD;omega);have HK:O _:=Q;clear Q ao;go_wp2_with fail;refine Calls.mono HC.o ?_;rintro _ w4 ⟨vh,rfl,a4,a5⟩;have aa:O (Below w.heap.size w w4):=H.o.trans (a5.mono H.o.size);have ax:O _:=(a5.block _ (cV I.o)).trans I.o;have ba:O _:=bQ Y.o a5;clear a5 HC c0 c1 V r0 l0 H I Y aL;rcases ac.o with⟨P,bq,hW⟩|⟨P,b3⟩
     ·have az:O _:=aC.o P;rw[az.o]at a4;have ad:O _:=a4.toV;obtain⟨ah,ch,rfl,_⟩:=id ad.o;have bs:(cZ T (dX p.y i)).length<=2000:=bP aDI hW;have aR:O _:=Lj T (cZ T (dX p.y i)) _ _ w4 ba.o ad.o oM oM (fun f n=>by have :=aN.o f n;omega) (fun f n=>by have :=uL s.o.2.1.ok (NI (s.o.2.1.ok.A _ ae.o) a3.o.right n);omega);have bj:O (kL p k c (jS T (cZ T (dX p.y i)))):=kL.step D.o (AQ ae.o HK.o);(have br:(jS T (cZ T (dX p.y i))).length<=2060:=by have :=Ff (l:=T) (m:=cZ T (dX p.y i));omega);have bk:O (∀f,f∈S->f∈jS T (cZ T (dX p.y i))):=fun f n=>rH.mpr (.inl (U.o f n));have bg:O (jS T (cZ T (dX p.y i))=S->Ey p k S (i+1)):=fun e j hj a8=>by
       (have ag:T=S:=by refine UI (J.o S Z.o).up a3.o.up U.o ?_;have :=Vg (T:=S) a3.o.up (fun f n=>by rw[<-e];exact rH.mpr (.inl n));exact this);by_cases an:j<i
       ·exact af.o ag j an a8
       obtain rfl:j=i:=oM;rw[<-ag];exact⟨bq,hW,fun f n=>by rw[ag,<-e];exact rH.mpr (.inr n)⟩
      rw[P];clear a4 P hW bs ad az aC ac;go_wp2_with fail;refine Calls.mono aR.o ?_;rintro _ w5 ⟨vu,rfl,aj,ak⟩;have bb:O _:=aj;obtain⟨au,cu,rfl,_⟩:=id aj;have b8:O (Below w.heap.size w w5):=aa.o.trans (ak.mono aa.o.size);have b9:O _:=(ak.block _ (cV ax.o)).trans ax.o;clear aj ak aR;go_wp2_with fail;go_roundw;(case rel=>exact⟨i+1,_,G,gN,bj.o,bk.o,br,bg.o,bb.o,b8.o,b9.o⟩);case measure=>exact mI
     have be:O (tD p k c none):=UG s.o.2.1 s.o.2.2.1 D.o (fun hs=>by
      rcases b3 with h|h
      ·have :=hs.len;omega
      have :=hs.way _ ae.o HK.o;omega)
     obtain⟨q9,_,aT,_⟩:=a4;obtain⟨a9,c9,rfl⟩:=bR aT;rw[P];clear P b3 aT ac;go_wp2_with fail;refine dP (lQ rfl _ _ _) rfl ?_;exact⟨_,none,be.o,rfl,⟨none,0,rfl,⟨aH _,fun _=>rfl⟩, .inl rfl⟩,aa.o⟩
    (have g1:(cI (kA p) q != k)=true:=by rw[<-aD.o];simpa using Q);have bf:O (T=S->Ey p k S (i+1)):=fun e j hj a8=>by
     by_cases an:j<i
     ·exact af.o e j an a8
     obtain rfl:j=i:=oM;exact absurd a8 Q
    clear Q ao;go_wp2_with fail;go_roundw;(case rel=>exact⟨i+1,T,G,gN,D.o,U.o,b2,bf.o,Y.o,H.o,I.o⟩);case measure=>exact mI
   have bN:decide (i<p.y.length)=false:=aF G;obtain rfl:i=p.y.length:=oM;have b6:=Vg (J.o S Z.o).up U.o;by_cases ai:T.length=S.length
   ·have aO:O (T=S):=UI (J.o S Z.o).up (J.o T D.o).up U.o oM;(have bi:O (tD p k c (some T)):=by show tD p k c (some T);have :=af.o aO.o;rw[<-aO.o]at this;exact aFT s.o.2.2.1 s.o.2.2.2 D.o this);(have g:((T.length:Int)==S.length)=true:=by simp[ai]);clear ai b6;go_wp2_with fail;refine dP (lQ rfl _ _ _) rfl ?_;exact⟨_,some T,bi.o,rfl,R.o,d.o⟩
   (have g:((T.length:Int)==S.length)=false:=by simp;omega);have bU:S.length<T.length:=oM;clear ai b6;go_wp2_with fail;go_roundw;(case rel=>exact⟨T,D.o,b2,R.o,d.o,C.o⟩);case measure=>simp[MK];omega
end Go.Proofs.YtfljoehbbncooaaGreat
namespace Go.Proofs.YtfljoehbbncooaaGreat
open Go.RowKit Go.Maps
theorem eH(q:List Uv):(bV q).length=q.length:=by simp[bV]
theorem nR(q r:List Uv):bV (q++r)=bV q++bV r:=by simp[bV]
structure Fh (q0 c q:List Uv) (k:Nat) (c' l':List Uv):Prop where
 pass:jB mV (bV c) (bV q)=((jB mV (bV c') (bV (q.drop k))).1,bV l'++(jB mV (bV c') (bV (q.drop k))).2)
 perm:(c'++l'++q.drop k).Perm (c++q)
theorem Fh.start(b c q:List Uv):Fh b c q 0 c []:=⟨rfl,by simp⟩
theorem Fh.yes{g c q b d:List Uv}{k:Nat}(h:Fh g c q k b d)(f:k<q.length)(i:fO (bV b) (jL q k).u=true):Fh g c q (k+1) (b++[jL q k]) d:=by
 refine⟨?_,?_⟩
 ·rw[h.pass,tA q k f];show _=((jB mV (bV (b++[jL q k])) (bV (q.drop (k+1)))).1,_);have e:bV (jL q k::q.drop (k+1))=(jL q k).u::bV (q.drop (k+1)):=rfl;rw[e,Nq i,nR];rfl
 refine List.Perm.trans ?_ h.perm;rw[tA q k f];generalize jL q k=x;generalize q.drop (k+1)=r;rw[fM,fM,fM];exact FU b ((uW (a:=x) (l₁:=d) (l₂:=r)).symm)
theorem Fh.no{g c q b f:List Uv}{k:Nat}(h:Fh g c q k b f)(d:k<q.length)(i:fO (bV b) (jL q k).u=false):Fh g c q (k+1) b (f++[jL q k]):=by
 refine⟨?_,?_⟩
 ·rw[h.pass,tA q k d];have e:bV (jL q k::q.drop (k+1))=(jL q k).u::bV (q.drop (k+1)):=rfl;rw[e,Ug i,nR,fM];rfl
 refine List.Perm.trans ?_ h.perm;rw[tA q k d];simp only[List.append_assoc,List.cons_append,List.nil_append];exact List.Perm.refl _
theorem Fh.fin{i c q b d:List Uv}{k:Nat}(h:Fh i c q k b d)(j:¬k<q.length):jB mV (bV c) (bV q)=(bV b,bV d)/\(b++d).Perm (c++q):=by have e:q.drop k=[]:=bG oM;have g:=h.pass;have f:=h.perm;rw[e]at g f;rw[iZ]at f;refine⟨g.trans ?_,f⟩;show(bV b,bV d++[])=_;rw[iZ]
theorem GU{a b:List Uv}(h:a.Perm b)(c:((bV b).map aX.id).Nodup):((bV a).map aX.id).Nodup:=(((h.map Uv.u).map aX.id).nodup_iff).mpr c
structure bG1 (q0:List Uv) (w:World) (c q:List Uv) (v:Value) (wr:World):Prop where
 set:gV mV [] (bV q0)=gV mV (bV c) (bV q)
 perm:(c++q).Perm q0
 map:BN wr w.heap.size c
 row:iI wr v q
 kc:Kc w wr
 d:Below w.heap.size w wr
 own:q=q0\/mT wr w.heap.size v q
theorem Cy(i:List Uv)(v0:Value)(w:World)(hV:iI w v0 i)(hl:i.length<=1000)(aN:∀x,x∈i->gM w x)(aD:∀x,x∈i->TZ x.u)(aL:((bV i).map aX.id).Nodup):
 Calls Tryz.prog 84 #[v0] w fun e w'=>∃(c l:List Uv)(v:Value),e=.returned (.tuple #[.map (some w.heap.size),v])/\gV mV [] (bV i)=(bV c,bV l)/\(c++l).Perm i/\BN w' w.heap.size c/\mT w' w.heap.size v l/\Below w.heap.size w w':=by
 obtain⟨i0,hi,b6,b7,b8⟩:=jY KS;have ay:O (∀x,x∈i->gM w x/\TZ x.u):=fun x Z=>⟨aN x Z,aD x Z⟩;have b1:O (((bV i).map aX.id).Nodup):=aL;have HV:O (iI w v0 i):=hV;obtain⟨ao,cap,rfl,_⟩:=hV;clear aN aD aL;have bd:=@run_makeMap Tryz.prog
 go_enter Tryz.func84,Tryz.ntmps84
 go_wp2_with fail;have HS:O (bG1 i w [] i (.slice ao i.length cap) (w.alloc (.map #[] 0))):=⟨rfl, .refl _,aV7 w,HV.o.kc (Kc.z ((aG _ _).alloc (aH _) _)),Kc.z ((aG _ _).alloc (aH _) _),(aG _ _).alloc (aH _) _, .inl rfl⟩;clear HV;generalize w.alloc (.map #[] 0)=w1 at *;go_loopw [0,2,3] (fun lv mv fv wr=>∃(c q:List Uv)(aq:Option Addr)(cq:Nat),mv=.map (some w.heap.size)/\lv=.slice aq q.length cq/\(∃S nf T,fv=.slice S nf T)/\O (bG1 i w c q lv wr)) (fun lv _ _ _=>MK lv);case atStart=>exact⟨[],i,_,_,rfl,rfl,⟨_,_,_,rfl⟩,HS.o⟩
 case round=>
  obtain⟨c,q,aq,cq,rfl,rfl,⟨S,nf,T,rfl⟩,J⟩:=hrel;clear HS;generalize wr=L at *;(have be:q.length<=1000/\c.length<=1000:=by have :=J.o.perm.length_eq;rw[aV]at this;omega);go_wp2_with fail;go_loopw [3,9] (fun fv iv wr=>∃(k:Nat)(g f:List Uv),k<=q.length/\iv=.int .i64 k/\O (Fh i c q k g f)/\BN wr w.heap.size g/\mT wr L.heap.size fv f/\O (L.grownBy wr (some w.heap.size))) (fun _ iv _=>q.length-(intOf iv).toNat);case atStart=>exact⟨0,c,[],bL _,rfl,Fh.start _ _ _,J.o.map,eS _ _ _ _,MJ _ _⟩
  case round=>
   obtain⟨k,g,f,hk,rfl,HP,a9,aa,X⟩:=hrel;obtain⟨S,T,rfl⟩:=bR aa;have bh:L.heap.size<=wr.heap.size:=X.o.size;have bg:w.heap.size<L.heap.size:=J.o.map.lt;(have bb:f.length<=1000/\g.length<=1000:=by have :=HP.o.perm.length_eq;simp only[List.length_append]at this;have h2:=J.o.perm.length_eq;rw[aV]at h2;omega);by_cases M:k<q.length
   ·have g1:decide (k<q.length)=true:=aP M;have a5:O (Kc L wr):=Kc.map X.o J.o.map;obtain⟨b9,ba,b5,_,hA⟩:=J.o.row;cases b5;obtain⟨b,bi,rfl,c0,c1,c2,c3,c4⟩:=tS (hA.kc a5.o) k M;have av:jL q k∈i:=J.o.perm.mem_iff.mp (gE _ (mG q k M));have Z:=(ay.o _ av).1.kc (J.o.kc.trans a5.o);have aS:=(ay.o _ av).2;have HY:O (fO (bV g) (jL q k).u=true->Fh i c q (k+1) (g++[jL q k]) f):=fun h=>HP.o.yes M h;have HN:O (fO (bV g) (jL q k).u=false->Fh i c q (k+1) g (f++[jL q k])):=fun h=>HP.o.no M h;(have b2:O (eG (bV g) (jL q k).u.id=false):=by have h3:((bV (g++f++q.drop k)).map aX.id).Nodup:=GU (HP.o.perm.trans J.o.perm) b1.o;rw[tA q k M]at h3;(have h4:((bV (g++[jL q k])).map aX.id).Nodup:=by refine h3.sublist ?_;refine List.Sublist.map _ (List.Sublist.map _ ?_);rw[fM];refine List.Sublist.append_left ?_ g;exact(List.singleton_sublist.mpr sI));exact(Jb h4).2);clear HP hA;generalize jL q k=x at *;obtain⟨p,G,C,r,H,E,s,I,F,e1,e2,e3⟩:=Z.forms;have HX:O (gM wr x):=Z;have a7:O (TZ x.u):=aS;clear Z aS av;obtain⟨⟨⟨m,n⟩,N,P,Q⟩,vp,vs,vt⟩:=x;dsimp only at *;subst e1 e2 e3;have a0:O (Below wr.heap.size wr (wr.alloc (.cells #[.int .i64 m, .int .i64 n, .slice p G C, .slice r H E, .slice s I F] 42))):=(aG _ _).alloc (aH _) _;have R:O ((wr.alloc (.cells #[.int .i64 m, .int .i64 n, .slice p G C, .slice r H E, .slice s I F] 42)).heap[wr.heap.size]?=_):=iC wr (.cells #[.int .i64 m, .int .i64 n, .slice p G C, .slice r H E, .slice s I F] 42)
    have HC:O (Calls Tryz.prog 137 #[.map (some w.heap.size),mA ⟨⟨⟨m,n⟩,N,P,Q⟩, .slice p G C, .slice r H E, .slice s I F⟩] (wr.alloc (.cells #[.int .i64 m, .int .i64 n, .slice p G C, .slice r H E, .slice s I F] 42)) fun e w'=>e=.returned (.bool (fO (bV g) ⟨⟨m,n⟩,N,P,Q⟩))/\Below (wr.alloc (.cells #[.int .i64 m, .int .i64 n, .slice p G C, .slice r H E, .slice s I F] 42)).heap.size (wr.alloc (.cells #[.int .i64 m, .int .i64 n, .slice p G C, .slice r H E, .slice s I F] 42)) w'):=
     Lk w.heap.size g ⟨⟨⟨m,n⟩,N,P,Q⟩, .slice p G C, .slice r H E, .slice s I F⟩ _ (a9.z a0.o) (HX.o.z a0.o) (by have h1:=a7.o.lp;have h2:=a7.o.lt;dsimp only at *;omega) a7.o.ps a7.o.ts
    go_upto_region 6 with fail;generalize wr.alloc (.cells #[.int .i64 m, .int .i64 n, .slice p G C, .slice r H E, .slice s I F] 42)=V at *;have HD:O (∀z,Below V.heap.size V z->z.heap[wr.heap.size]?=some (.cells #[.int .i64 m, .int .i64 n, .slice p G C, .slice r H E, .slice s I F] 42)):=fun z hz=>(hz.block _ (aK.1 R.o).1).trans R.o;(have ad:V.cell? ⟨wr.heap.size,0,none⟩=some (.int .i64 m):=cH R.o);(have ae:V.cell? ⟨wr.heap.size,1,none⟩=some (.int .i64 n):=cH R.o);(have ag:V.cell? ⟨wr.heap.size,2,none⟩=some (.slice p G C):=cH R.o);(have ah:V.cell? ⟨wr.heap.size,3,none⟩=some (.slice r H E):=cH R.o);(have ai:V.cell? ⟨wr.heap.size,4,none⟩=some (.slice s I F):=cH R.o);go_wp2_with fail;refine Calls.mono HC.o ?_;rintro e K ⟨rfl,an⟩;clear HC ad ae ag ah ai c0 c1 c2 c3 c4 R;have Y:=HD.o K an;(have ad:K.cell? ⟨wr.heap.size,0,none⟩=some (.int .i64 m):=cH Y);(have ae:K.cell? ⟨wr.heap.size,1,none⟩=some (.int .i64 n):=cH Y);(have ag:K.cell? ⟨wr.heap.size,2,none⟩=some (.slice p G C):=cH Y);(have ah:K.cell? ⟨wr.heap.size,3,none⟩=some (.slice r H E):=cH Y);(have ai:K.cell? ⟨wr.heap.size,4,none⟩=some (.slice s I F):=cH Y);have a8:=a0.o.trans (an.mono a0.o.size);have ac:=a9.z a8;have U:=bO aa a8;have am:O (gM K ⟨⟨⟨m,n⟩,N,P,Q⟩, .slice p G C, .slice r H E, .slice s I F⟩):=HX.o.z a8;have a4:O (L.grownBy K (some w.heap.size)):=aLX X.o a8;have bf:L.heap.size<=K.heap.size:=a4.o.size;clear a9 aa a0 HD an Y a8 X HX a5;cases ab:fO (bV g) ⟨⟨m,n⟩,N,P,Q⟩
    ·
     have al:O _:=HN.o ab;clear HY HN ab;go_wp2_with(at_builtin;refine iD _ rfl _ _ 27 rfl L.heap.size 42 i0 _ 5 88 Tryz.underlying27 hi b6 b7 b8 rfl dE _ _ _ rfl (U.alloc _) ⟨K.heap.size,0,none⟩ 1 1 ([(⟨⟨⟨m,n⟩,N,P,Q⟩, .slice p G C, .slice r H E, .slice s I F⟩:Uv)].map jC).flatten rfl rfl ?c1 ?c2 ?c3 ?c4 ?c5 ?_);(case c2=>intro u hu;simp at hu;rcases hu with rfl|rfl|rfl|rfl|rfl<;>rfl);(case c3=>unfold maxLen;omega);(case c4=>omega);case c5=>simp;omega
     ·exact bBI K _ _ _ _ _ 42
     intro bj W aw au _;obtain⟨b3,b4,rfl⟩:=bR aw;(have ak:O (mT W L.heap.size (.slice b3 (f.length+1) b4) (f++[(⟨⟨⟨m,n⟩,N,P,Q⟩, .slice p G C, .slice r H E, .slice s I F⟩:Uv)])):=by show World.ownsRow _ _ _ _ _ _ _;rw[aV,dC,iL];exact aw);(have aj:O (L.grownBy W (some w.heap.size)):=aWO (NZ a4.o (aLW K _ _)) au (U.alloc _);have aT:O (BN W w.heap.size g):=by show BN _ _ _;obtain⟨D,g1,g2⟩:=ac;exact⟨D,(g1.alloc _).kept au (fun e=>by have :=(U.lt _ e.symm).1;omega),g2⟩);clear aw au U ac a4 am ad ae ag ah ai;go_wp2_with fail;go_roundw;(case rel=>exact⟨k+1,_,_,M,gN,al.o,aT.o,ak.o,aj.o⟩);case measure=>exact mI
    have al:O _:=HY.o ab;clear HY HN ab;go_wp2_with(at_mapUpdate;refine Mz _ rfl _ _ _ rfl w.heap.size g ⟨⟨⟨m,n⟩,N,P,Q⟩, .slice p G C, .slice r H E, .slice s I F⟩ K rfl ac oM rfl rfl a7.o.id am.o b2.o ?_;intro W aJ ar);have ak:O (mT W L.heap.size (.slice S f.length T) f):=U.kept ar (.inr (fun e=>by have :=(U.lt _ e).1;omega));have aj:O (L.grownBy W (some w.heap.size)):=NZ a4.o ar;have b0:O (BN W w.heap.size (g++[(⟨⟨⟨m,n⟩,N,P,Q⟩, .slice p G C, .slice r H E, .slice s I F⟩:Uv)])):=aJ;clear aJ ar U ac a4 am ad ae ag ah ai;go_roundw;(case rel=>exact⟨k+1,_,_,M,gN,al.o,b0.o,ak.o,aj.o⟩);case measure=>exact mI
   have g1:decide (k<q.length)=false:=aF M;obtain⟨aO,aR⟩:=HP.o.fin M;have a6:O (jB mV (bV c) (bV q)=(bV g,bV f)):=aO;have az:O ((g++f).Perm i):=aR.trans J.o.perm;have ax:O (Below w.heap.size w wr):=J.o.d.grown X.o J.o.d.size (fun j e=>by cases e;exact aH _);have a5:O (Kc w wr):=J.o.kc.trans (Kc.map X.o J.o.map);have aC:O (mT wr w.heap.size (.slice S f.length T) f):=gP aa oM;clear aO aR HP;by_cases he:f.length=q.length
   ·(have g2:((f.length:Int)==(q.length:Int))=true:=by rw[he];simp);(have HR:O (gV mV [] (bV i)=(bV g,bV f)):=by show _=_;rw[J.o.set,AA (by rw[a6.o];show(bV f).length=_;rw[eH,eH,he]),a6.o]);clear he;go_wp2_with fail;go_ret2;exact⟨g,f,_,rfl,HR.o,az.o,a9,aC.o,ax.o⟩
   (have g2:((f.length:Int)==(q.length:Int))=false:=by have :¬(f.length:Int)=(q.length:Int):=oM;simpa using this);(have bc:f.length<q.length:=by have h1:=xO mV (bV q) (bV c);rw[a6.o]at h1;have h2:(bV f).length<=(bV q).length:=h1;rw[eH,eH]at h2;omega);(have HR:O (bG1 i w g f (.slice S f.length T) wr):=by refine⟨?_,az.o,a9,vE aa,a5.o,ax.o, .inr aC.o⟩;rw[J.o.set,BP (by rw[a6.o];show¬(bV f).length=_;rw[eH,eH];exact he),a6.o]);clear he;go_wp2_with fail;go_roundw;(case rel=>exact⟨g,f,S,T,rfl,rfl,⟨_,_,_,rfl⟩,HR.o⟩);case measure=>simp[MK];omega
end Go.Proofs.YtfljoehbbncooaaGreat
