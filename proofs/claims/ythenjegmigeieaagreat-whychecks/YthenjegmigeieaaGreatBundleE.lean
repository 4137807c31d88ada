/- Own texts, one behind the other (part 5). -/
import Derived.Test.YthenjegmigeieaaGreatBundleD
import Derived.Test.YthenjegmigeieaaGreatRows
set_option maxRecDepth 100000
set_option maxHeartbeats 8000000
namespace Go.Proofs.YthenjegmigeieaaGreat
open Go.RowKit
theorem aFW(d a b:Int)(w:World):Calls Tryz.prog 186 #[.int .i64 d, .int .i64 a, .int .i64 b] w fun e l=>e=.returned (.bool (sY d a b))/\l=w:=by
 by_cases f:d=1
 ·subst f
  go_enter Tryz.func186,Tryz.ntmps186
  go_wp2;go_ret;exact⟨by unfold sY;simp,rfl⟩
 (have j:(d==1)=false:=by simpa using f);by_cases g:d=2
 ·subst g;clear f j
  go_enter Tryz.func186,Tryz.ntmps186
  go_wp2;go_ret;exact⟨by unfold sY;simp,rfl⟩
 (have k:(d==2)=false:=by simpa using g);by_cases i:d=3
 ·subst i;clear f j g k
  go_enter Tryz.func186,Tryz.ntmps186
  go_wp2;go_ret;exact⟨by unfold sY;rw[if_neg dE,if_neg dE,if_pos rfl];simp;rfl,rfl⟩
 (have m:(d==3)=false:=by simpa using i);(have HV:O (sY d a b=decide (a≠b)):=by show _=_;unfold sY;rw[if_neg f,if_neg g,if_neg i]);clear f g i
 go_enter Tryz.func186,Tryz.ntmps186
 go_wp2;go_ret;exact⟨by rw[HV.o];simp[bne];rfl,rfl⟩
theorem Wv{a b:Int}(e: -1000000<=a/\a<=1000000)(f: -1000000<=b/\b<=1000000): -1000000000000<=a*b/\a*b<=1000000000000:=by(have d:(a*b).natAbs<=1000000*1000000:=by rw[Int.natAbs_mul];exact UD oM oM);omega
theorem aB7(d a b:Int)(w:World)(n: -1000000<=a/\a<=1000000)(p: -1000000<=b/\b<=1000000):Calls Tryz.prog 188 #[.int .i64 d, .int .i64 a, .int .i64 b] w fun e q=>e=.returned (.int .i64 (nO d a b))/\q=w:=by
 obtain⟨i,j⟩:=n;obtain⟨k,l⟩:=p;by_cases f:d=5
 ·subst f
  go_enter Tryz.func188,Tryz.ntmps188
  go_wp2;go_ret;exact⟨by unfold nO;simp,rfl⟩
 (have m:(d==5)=false:=by simpa using f);by_cases g:d=6
 ·subst g;clear f m
  go_enter Tryz.func188,Tryz.ntmps188
  go_wp2;go_ret;exact⟨by unfold nO;simp,rfl⟩
 (have r:(d==6)=false:=by simpa using g);(have HV:O (nO d a b=a*b):=by show _=_;unfold nO;rw[if_neg f,if_neg g]);obtain⟨s,v⟩:=Wv ⟨i,j⟩ ⟨k,l⟩;clear f g
 go_enter Tryz.func188,Tryz.ntmps188
 go_wp2;go_ret;exact⟨by rw[HV.o];simp,rfl⟩
theorem Dy(d a b:Int)(w:World)(n: -1000000<=a/\a<=1000000)(p: -1000000<=b/\b<=1000000):Calls Tryz.prog 67 #[.int .i64 d, .int .i64 a, .int .i64 b] w fun e q=>e=.returned (.int .i64 (nO d a b))/\q=w:=by
 obtain⟨i,j⟩:=n;obtain⟨k,l⟩:=p;by_cases f:d=5
 ·subst f
  go_enter Tryz.func67,Tryz.ntmps67
  go_wp2;go_ret;exact⟨by unfold nO;simp,rfl⟩
 (have m:(d==5)=false:=by simpa using f);by_cases g:d=6
 ·subst g;clear f m
  go_enter Tryz.func67,Tryz.ntmps67
  go_wp2;go_ret;exact⟨by unfold nO;simp,rfl⟩
 (have r:(d==6)=false:=by simpa using g);(have HV:O (nO d a b=a*b):=by show _=_;unfold nO;rw[if_neg f,if_neg g]);obtain⟨s,v⟩:=Wv ⟨i,j⟩ ⟨k,l⟩;clear f g
 go_enter Tryz.func67,Tryz.ntmps67
 go_wp2;go_ret;exact⟨by rw[HV.o];simp,rfl⟩
theorem YM(n:Int)(w:World):Calls Tryz.prog 109 #[.int .i64 n] w fun e f=>e=.returned (.bool (cP n))/\f=w:=by
 unfold cP dG;by_cases d: -1000000<=n
 ·have b:decide (-1000000<=n)=true:=aQ d
  go_enter Tryz.func109,Tryz.ntmps109
  go_wp2;go_ret;exact⟨by rw[b];rfl,rfl⟩
 have b:decide (-1000000<=n)=false:=aJ d;clear d
 go_enter Tryz.func109,Tryz.ntmps109
 go_wp2;go_ret;exact⟨by rw[b];rfl,rfl⟩
theorem aP8(w:World)(a:Value)(e:TypeId):∀j z,[a][j]?=some z->(w.alloc (.cells #[a] e)).cell? ((⟨w.heap.size,0,none⟩:Addr).add j)=some z:=by
 intro j z b;have d:=kT w (.cells #[a] e)
 match j,b with
 |0,b=>
  (have f:a=z:=by simpa using b);rw[<-f,Addr.add_lit,cD d];rfl
abbrev aDL(w:World)(B:Nat)(v:Value)(l:List Int):Prop:=w.ownsRow B 3 1 v l.length (l.map (Value.int .i64))
theorem aDL.ints{w:World}{B:Nat}{v:Value}{l:List Int}(h:aDL w B v l):dM w v l:=oU h
theorem xO(d:List dL)(x:List Int)(T U:Value)(w:World)(z:fT w T d)(A:dM w U x)(hl:d.length<=1000000)(H:gX x.length d):
 Calls Tryz.prog 62 #[T,U] w fun e V=>∃R,e=.returned R/\aDL V w.heap.size R (bQ d x)/\Below w.heap.size w V:=by
 obtain⟨N,J,K,L,M⟩:=iT IC;obtain⟨at_,ct,rfl,_,z⟩:=z;obtain⟨ax,cx,rfl,A⟩:=A;have Y:O _:=z;have HX:O _:=A;have Z:O _:=H;clear z A H
 go_enter Tryz.func62,Tryz.ntmps62
 go_wp2_with fail;go_loopw [5,6] (fun vs i wr=>∃k:Nat,k<=d.length/\i=.int .i64 k/\wr.ownsRow w.heap.size 3 1 vs k ((bQ (d.take k) x).map (Value.int .i64))/\O (Below w.heap.size w wr)) (fun _ i _=>d.length-(intOf i).toNat);case atStart=>exact⟨0,bG _,rfl,eD _ _ _ _,aH _ _⟩
 case round=>
  obtain⟨k,B,rfl,g,f⟩:=hrel;obtain⟨a1,a2,rfl⟩:=bJ g;by_cases j:k<d.length
  ·obtain⟨b,a7,rfl,p⟩:=rI Y.o k j;have p:=p k j;have P:=aB f.o p.1;have Q:=aB f.o p.2;have y:O (bQ (d.take (k+1)) x=bQ (d.take k) x++[eJ x (cA d k)]):=by
    show _=_;unfold bQ;rw[eI,cB]
    congr 1
    unfold cA;rw[aC,aD j];rfl
   have a0:O (qK x.length (cA d k)):=Z.o _ (mW j);clear p;generalize cA d k=t at *;have a5:=f.o.size;by_cases C:0<=t.var
   ·obtain⟨S,nn⟩:=t;dsimp only at *;obtain⟨v,rfl⟩:∃v:Nat,S=v:=⟨S.toNat,oM⟩;(have a3:v<x.length:=by rcases a0.o with h|h<;>(dsimp only at h;omega));obtain⟨bx,ox,rfl,W⟩:=qY HX.o v a3;have z1:=aB f.o W;(have HN:O (eJ x ⟨v,nn⟩=bM x v):=by show _=_;unfold eJ;rw[if_neg (show¬(v:Int)<0 by omega)];rfl);have hd:decide ((0:Int)<=(v:Int))=true:=aQ C;clear W C;generalize bM x v=m at *;go_wp2_with(at_builtin;refine fX _ rfl _ _ 22 rfl w.heap.size 3 N _ 1 8 Tryz.underlying22 J K L M rfl dE _ _ _ rfl (g.alloc _) ⟨wr.heap.size,0,none⟩ 1 1 [.int .i64 m] rfl rfl ?c1 ?c2 ?c3 ?c4 ?c5 ?_);(case c1=>exact aP8 wr _ 3);(case c2=>intro u r;simp at r;subst r;rfl);(case c3=>unfold maxLen;omega);(case c4=>omega);(case c5=>simp;omega);intro a4 s l q _;obtain⟨D,E,rfl⟩:=bJ l;have F:Below w.heap.size w s:=(f.o.alloc f.o.size _).grown q sO (fun k B=>(g.lt k B).1);(have G:s.ownsRow w.heap.size 3 1 (.slice D (k+1) E) (k+1) ((bQ (d.take (k+1)) x).map (Value.int .i64)):=by rw[y.o,HN.o,cB];exact l);clear l q g P Q z1;go_wp2_with fail;go_roundw;(case rel=>exact⟨k+1,j,gN,G,F⟩);case measure=>exact mI
   have hd:decide ((0:Int)<=t.var)=false:=aJ C;(have HN:O (eJ x t=t.n):=by show _=_;unfold eJ;rw[if_pos oM]);clear C;go_wp2_with(at_builtin;refine fX _ rfl _ _ 22 rfl w.heap.size 3 N _ 1 8 Tryz.underlying22 J K L M rfl dE _ _ _ rfl (g.alloc _) ⟨wr.heap.size,0,none⟩ 1 1 [.int .i64 t.n] rfl rfl ?c1 ?c2 ?c3 ?c4 ?c5 ?_);(case c1=>exact aP8 wr _ 3);(case c2=>intro u r;simp at r;subst r;rfl);(case c3=>unfold maxLen;omega);(case c4=>omega);(case c5=>simp;omega);intro a4 s l q _;obtain⟨D,E,rfl⟩:=bJ l;have F:Below w.heap.size w s:=(f.o.alloc f.o.size _).grown q sO (fun k B=>(g.lt k B).1);(have G:s.ownsRow w.heap.size 3 1 (.slice D (k+1) E) (k+1) ((bQ (d.take (k+1)) x).map (Value.int .i64)):=by rw[y.o,HN.o,cB];exact l);clear l q g P Q;go_wp2_with fail;go_roundw;(case rel=>exact⟨k+1,j,gN,G,F⟩);case measure=>exact mI
  have a6:decide (k<d.length)=false:=aJ j;(have y:O (bQ (d.take k) x=bQ d x):=by show _=_;rw[dU oM]);(have I:(bQ (d.take k) x).length=k:=by unfold bQ;rw[aP,cW];omega);(have X:O (aDL wr w.heap.size (.slice a1 k a2) (bQ d x)):=by rw[<-y.o];show wr.ownsRow _ _ _ _ (bQ (d.take k) x).length _;rw[I];exact g);clear g I;go_wp2_with fail;go_ret;exact⟨_,rfl,X.o,f.o⟩
def aTW(d:Nat)(e f:Value)(t:dL)(n:Int)(g:Nat)(b:Value):Prop:=
 match g with
 |18=>b=(.pointer (some ⟨d,1,none⟩):Value)
 |19=>b=(e:Value)
 |20=>b=(iA t:Value)
 |21=>b=(f:Value)
 |22=>b=(.int .i64 n:Value)
 |_=>True
def aBT(f:Nat)(g i:Value)(t:dL)(n:Int)(d:Nat)(e:Value)(j:World):Prop:=if d=23 then∃b,e=.slice (some ⟨b,0,none⟩) 1 1/\j.heap[b]?=some (.cells #[.int .i64 n] 3)else aTW f g i t n d e
theorem aFJ(d:Nat)(e f:Value)(t:dL)(n:Int)(b:Nat)(j:Value)(W W':World)(l:Below W.heap.size W W')(h:aBT d e f t n b j W):aBT d e f t n b j W':=by
 unfold aBT at h ⊢;by_cases ht:b=23
 ·rw[if_pos ht]at h ⊢;obtain⟨g,k,i⟩:=h;exact⟨g,k,(l.block g (aG.mp i).1).trans i⟩
 rw[if_neg ht]at h ⊢;exact h
theorem BF(s:Int)(l:List dL)(x:List Int)(vt vx:Value)(w:World)(U:fT w vt l)(hX:dM w vx x)(hl:l.length<=1000000)(z:gX x.length l):
 Calls Tryz.prog 57 #[.int .i64 s,vt,vx] w fun e w'=>∃v,e=.returned (.agg #[.int .i64 s,v])/\aDL w' w.heap.size v (bQ l x)/\Below w.heap.size w w':=by
 obtain⟨i0,hi,aS,aT,aV⟩:=iT IC;obtain⟨at_,ct,rfl,_,U⟩:=U;obtain⟨E,F,rfl,_⟩:=id hX;have HT:O _:=U;have HX:O _:=hX;have al:O _:=z;obtain⟨K,L,M⟩:=KK w (.cells #[.int .i64 0, .slice none 0 0] 55) (.cells #[.int .i64 s, .slice none 0 0] 55);have H0:O _:=K;have H1:O _:=L;have C:O _:=M;clear U hX z K L M
 go_enter Tryz.func57,Tryz.ntmps57
 go_wp2_with fail;generalize (w.alloc (.cells #[.int .i64 0, .slice none 0 0] 55)).alloc (.cells #[.int .i64 s, .slice none 0 0] 55)=w1 at *;go_loopw [14] (fun i wr=>∃k:Nat,k<=l.length/\i=.int .i64 k/\∃vs:Value,wr.heap[w.heap.size]?=some (.cells #[.int .i64 0, .slice none 0 0] 55)/\wr.heap[w.heap.size+1]?=some (.cells #[.int .i64 s,vs] 55)/\wr.ownsRow (w.heap.size+2) 3 1 vs k ((bQ (l.take k) x).map (Value.int .i64))/\Below w.heap.size w wr) (fun i _=>l.length-(intOf i).toNat);case atStart=>exact⟨0,bG _,rfl,_,H0.o,H1.o,eD _ _ _ _,C.o⟩
 case round=>
  clear H0 H1 C;obtain⟨k,W,rfl,vs,K,L,ho,M⟩:=hrel;obtain⟨q,r,rfl⟩:=bJ ho;have D:O _:=K;have I:O _:=L;have P:O _:=ho;have C:O _:=M;clear K L ho M;by_cases G:k<l.length
  ·obtain⟨b,b6,rfl,N⟩:=rI HT.o k G;have N:=N k G;have q0:=aB C.o N.1;have q1:=aB C.o N.2;have a1:O (bQ (l.take (k+1)) x=bQ (l.take k) x++[eJ x (cA l k)]):=by
    show _=_;unfold bQ;rw[eI,cB]
    congr 1
    unfold cA;rw[aC,aD G];rfl
   have am:O (qK x.length (cA l k)):=al.o _ (mW G);clear N;generalize cA l k=t at *;go_upto_region 5 with fail;have J:=(aH wr.heap.size wr).alloc (aE _) (.cells #[.int .i64 t.var, .int .i64 t.n] 147);have a4:=aR wr (.cells #[.int .i64 t.var, .int .i64 t.n] 147);(have t0:(wr.alloc (.cells #[.int .i64 t.var, .int .i64 t.n] 147)).cell? ⟨wr.heap.size,0,none⟩=some (.int .i64 t.var):=cH a4);(have t1:(wr.alloc (.cells #[.int .i64 t.var, .int .i64 t.n] 147)).cell? ⟨wr.heap.size,1,none⟩=some (.int .i64 t.n):=cH a4);have a7:O _:=(J.block _ (bP D.o)).trans D.o;have a0:O _:=(J.block _ (bP I.o)).trans I.o;have ak:O _:=bI P.o J;have Z:O _:=C.o.trans (J.mono C.o.size);have an:O _:=aM HX.o Z.o;clear q0 q1 J a4 D I P C;generalize wr.alloc (.cells #[.int .i64 t.var, .int .i64 t.n] 147)=wq at *;generalize wr.heap.size=TB at *;(have ap:wq.cell? ⟨w.heap.size+1,1,none⟩=some (.slice q k r):=cH a0.o);refine kU (aBT (w.heap.size+1) (.slice q k r) (.slice E x.length F) t (eJ x t)) 6 dE kR kR kR (aFJ (w.heap.size+1) (.slice q k r) (.slice E x.length F) t (eJ x t)) ?hop ?htail
   case hop=>
    refine oC (fun a y h=>by have e7:a.eval (.tmp 7)=(.pointer (some ⟨w.heap.size+1,0,none⟩):Value):=h.old 7;exact jC (.pointer (some ⟨w.heap.size+1,1,none⟩))) ?_;refine oC (fun a y h=>by have b0:a.eval (.tmp 18)=(.pointer (some ⟨w.heap.size+1,1,none⟩):Value):=h.of 18;have cF:=aB h.u ap;exact jC (.slice q k r)) ?_;refine oC (fun a y h=>by have e9:a.eval (.tmp 9)=(.pointer (some ⟨TB,0,none⟩):Value):=h.old 9;have c0:=aB h.u t0;have c1:=aB h.u t1;exact jC (iA t)) ?_;refine oC (fun a y h=>by have e2:a.eval (.tmp 2)=(.slice E x.length F:Value):=h.old 2;exact jC (.slice E x.length F)) ?_;refine oC (fun a y h=>?_) ?_
    ·have b1:a.eval (.tmp 20)=(iA t:Value):=h.of 20;have b2:a.eval (.tmp 21)=(.slice E x.length F:Value):=h.of 21;refine iC (f:=105) (args:=#[iA t, .slice E x.length F]) (bF rfl) ?_ ?_
     ·have ec:=qM a;have ef:=IM a;generalize a.eval=ev at *;clear h;go_simp
     refine Calls.mono (Ff t x _ y (aM an.o h.u) am.o) ?_;rintro _ y2 ⟨rfl,aF⟩;exact⟨_,rfl,fun t ht=>by cases ht;exact rfl,aF⟩
    refine oC (fun a y h=>by have b3:a.eval (.tmp 22)=(.int .i64 (eJ x t):Value):=h.of 22;refine fC (v:=.slice (some ⟨y.heap.size,0,none⟩) 1 1) (w':=y.alloc (.cells #[.int .i64 (eJ x t)] 3)) (bF rfl) ?_ (fun t ht=>by cases ht;exact⟨_,rfl,aR y _⟩) ((aH _ _).alloc (aE _) _);have ec:=qM a;generalize a.eval=ev at *;clear h;go_simp) ?_;exact JL.nil
   case htail=>
    rintro⟨m,A⟩ y z;have a8:Act.eval ⟨m,A⟩ (.tmp 19)=(.slice q k r):=z.all 1 _ 19 dE rfl rfl;obtain⟨Q,a9,aa⟩:∃Q,Act.eval ⟨m,A⟩ (.tmp 23)=.slice (some ⟨Q,0,none⟩) 1 1/\y.heap[Q]?=some (.cells #[.int .i64 (eJ x t)] 3):=z.all 5 _ 23 dE rfl rfl;have e7:Act.eval ⟨m,A⟩ (.tmp 7)=.pointer (some ⟨w.heap.size+1,0,none⟩):=z.still 7 dE;have a6:=bI ak.o z.u;have S:=(z.u.block _ (aG.mp a0.o).1).trans a0.o;have a5:Below w.heap.size w y:=Z.o.trans (z.u.mono Z.o.size);have ah:w.heap.size+2<=y.heap.size:=(aG.mp S).1;show wpOps Tryz.prog _ _ [6,7,8] _ _;rw[iO];refine CA rfl (bF rfl) (wU y (.tmp 19) (.tmp 23) 22 rfl (w.heap.size+2) 3 i0 _ 1 8 Tryz.underlying22 hi aS aT aV rfl dE (.slice q k r) k ((bQ (l.take k) x).map (Value.int .i64)) a8 a6 ⟨Q,0,none⟩ 1 1 (#[.int .i64 (eJ x t)]:Array Value).toList a9 rfl (zV aa) ?h1 ?h63 ?hby ah ?_);(case h1=>intro u hu;simp only[List.mem_cons,List.not_mem_nil,or_false]at hu;subst hu;rfl);(case h63=>unfold maxLen;omega);(case hby=>omega);intro v9 B X V _;obtain⟨d,j,rfl⟩:=bJ X;have Y:∀H,((.slice q k r):Value).ownBlock=some H->w.heap.size+2<=H:=fun H W=>(a6.lt H W).1;have R:B.heap[w.heap.size+1]?=some (.cells #[.int .i64 s, .slice q k r] 55):=(V.block (w.heap.size+1) (aG.mp S).1 (fun e=>by have :=Y (w.heap.size+1) e.symm;omega)).trans S;have ab:Below w.heap.size w B:=a5.grown V a5.size (fun H W=>by have :=Y H W;omega);rw[iO];refine uM (v:=.pointer (some ⟨w.heap.size+1,1,none⟩)) (w':=B) rfl (bF rfl) ?_ ?_
    ·have b4:Act.eval (Act.put ⟨m,A⟩ (some 24) (.slice d (k+1) j)) (.tmp 7)=.pointer (some ⟨w.heap.size+1,0,none⟩):=(gB (a:=⟨m,A⟩) (t:=24) (u:=7) dE).trans e7;show Sem.run Tryz.prog (execOp (Act.eval (Act.put ⟨m,A⟩ (some 24) (.slice d (k+1) j))) _) B=_;generalize Act.eval (Act.put ⟨m,A⟩ (some 24) (.slice d (k+1) j))=ev at *;clear z;go_simp
    have af:m.size=28:=z.size;have aw:Act.eval (Act.put (Act.put ⟨m,A⟩ (some 24) (.slice d (k+1) j)) (some 25) (.pointer (some ⟨w.heap.size+1,1,none⟩))) (.tmp 25)=.pointer (some ⟨w.heap.size+1,1,none⟩):=iF (by rw[uJ];show 25<m.size;omega);have ar:Act.eval (Act.put (Act.put ⟨m,A⟩ (some 24) (.slice d (k+1) j)) (some 25) (.pointer (some ⟨w.heap.size+1,1,none⟩))) (.tmp 24)=(.slice d (k+1) j):=(gB dE).trans (iF (by show 24<m.size;omega));(have aq:B.cell? ⟨w.heap.size+1,1,none⟩=some (.slice q k r):=cH R);have ay:=cM R 1;rw[iO];refine zK rfl (bF rfl) rfl (w':=B.setCell ⟨w.heap.size+1,1,none⟩ (.slice d (k+1) j)) ?_ ?_
    ·show Sem.run Tryz.prog (execOp (Act.eval (Act.put (Act.put ⟨m,A⟩ (some 24) (.slice d (k+1) j)) (some 25) (.pointer (some ⟨w.heap.size+1,1,none⟩)))) _) B=_;generalize Act.eval (Act.put (Act.put ⟨m,A⟩ (some 24) (.slice d (k+1) j)) (some 25) (.pointer (some ⟨w.heap.size+1,1,none⟩)))=ev at *;clear z;go_simp
    (have az:(B.setCell ⟨w.heap.size+1,1,none⟩ (.slice d (k+1) j)).heap[w.heap.size+1]?=some (.cells #[.int .i64 s,(.slice d (k+1) j)] 55):=by rw[bV R];rfl);(have ad:(B.setCell ⟨w.heap.size+1,1,none⟩ (.slice d (k+1) j)).ownsRow (w.heap.size+2) 3 1 (.slice d (k+1) j) (k+1) ((bQ (l.take k) x).map (Value.int .i64)++(#[.int .i64 (eJ x t)]:Array Value).toList):=by refine kH X (fun g hg=>cL (fun e=>?_));have :=(X.lt g hg).1;omega);(have aI:Below w.heap.size w (B.setCell ⟨w.heap.size+1,1,none⟩ (.slice d (k+1) j)):=ab.setCell (p:=⟨w.heap.size+1,1,none⟩) (by show w.heap.size<=w.heap.size+1;omega) _;have ao:(B.setCell ⟨w.heap.size+1,1,none⟩ (.slice d (k+1) j)).heap[w.heap.size]?=some (.cells #[.int .i64 0, .slice none 0 0] 55):=(cL oM).trans ((V.block (w.heap.size) oM (fun e=>by have :=Y _ e.symm;omega)).trans ((z.u.block _ (bP a7.o)).trans a7.o));have ag:∀t,t∉[18,19,20,21,22,23,24,25]->((m.setIfInBounds 24 (.slice d (k+1) j)).setIfInBounds 25 (.pointer (some ⟨w.heap.size+1,1,none⟩))).getD t undef=_:=fun t ht=>by have hA:t≠24:=fun e=>ht (by rw[e];decide);have hB:t≠25:=fun e=>ht (by rw[e];decide);exact((gB (a:=Act.put ⟨m,A⟩ (some 24) (.slice d (k+1) j)) hB).trans (gB (a:=⟨m,A⟩) hA)).trans (z.still t ht));obtain rfl:A=[]:=z.defers;clear z a8 a9 aa e7 a6 S a5 ah X V Y R ab aw ar aq ay;generalize B.setCell ⟨w.heap.size+1,1,none⟩ (.slice d (k+1) j)=y9 at *;(have ae:((m.setIfInBounds 24 (.slice d (k+1) j)).setIfInBounds 25 (.pointer (some ⟨w.heap.size+1,1,none⟩))).size=28:=by simp[af]);show Exit.inBlock 1 (Exit.then _ _) Exit.normal ⟨(m.setIfInBounds 24 (.slice d (k+1) j)).setIfInBounds 25 (.pointer (some ⟨w.heap.size+1,1,none⟩)),[]⟩ y9;generalize (m.setIfInBounds 24 (.slice d (k+1) j)).setIfInBounds 25 (.pointer (some ⟨w.heap.size+1,1,none⟩))=tm at *;obtain⟨fQ,hQ,a2⟩:=pQ [18,19,20,21,22,23,24,25] tm _ (ae.trans rF) ag;clear ae ag af;simp only[List.foldl_cons,List.foldl_nil]at a2;clear hQ;simp only[List.setIfInBounds_toArray,List.set_cons_zero,List.set_cons_succ]at a2;subst a2;(have aj:O (y9.ownsRow (w.heap.size+2) 3 1 (.slice d (k+1) j) (k+1) ((bQ (l.take (k+1)) x).map (Value.int .i64))):=by rw[a1.o,cB];exact ad);clear ad;go_wp2_with fail;go_roundw;(case rel=>exact⟨k+1,G,gN,_,ao,az,aj.o,aI⟩);case measure=>exact mI
  have b5:decide (k<l.length)=false:=aJ G;(have a1:O (bQ (l.take k) x=bQ l x):=by show _=_;rw[dU oM]);(have ac:(bQ (l.take k) x).length=k:=by unfold bQ;rw[aP,cW];omega);(have g0:wr.cell? ⟨w.heap.size+1,0,none⟩=some (.int .i64 s):=cH I.o);(have g1:wr.cell? ⟨w.heap.size+1,1,none⟩=some (.slice q k r):=cH I.o);(have z0:wr.cell? ⟨w.heap.size,0,none⟩=some (.int .i64 0):=cH D.o);(have z1:wr.cell? ⟨w.heap.size,1,none⟩=some (.slice none 0 0):=cH D.o);have y0:=cM D.o 0;have y1:=cM D.o 1;(have T:(wr.setCell ⟨w.heap.size,0,none⟩ (.int .i64 s)).heap[w.heap.size]?=some (.cells #[.int .i64 s, .slice none 0 0] 55):=by rw[bV D.o];rfl);(have z2:(wr.setCell ⟨w.heap.size,0,none⟩ (.int .i64 s)).cell? ⟨w.heap.size,1,none⟩=some (.slice none 0 0):=cH T);have y2:=cM T 1;(have a3:((wr.setCell ⟨w.heap.size,0,none⟩ (.int .i64 s)).setCell ⟨w.heap.size,1,none⟩ (.slice q k r)).heap[w.heap.size]?=some (.cells #[.int .i64 s, .slice q k r] 55):=by rw[bV T];rfl);(have d0:((wr.setCell ⟨w.heap.size,0,none⟩ (.int .i64 s)).setCell ⟨w.heap.size,1,none⟩ (.slice q k r)).cell? ⟨w.heap.size,0,none⟩=some (.int .i64 s):=cH a3);(have d1:((wr.setCell ⟨w.heap.size,0,none⟩ (.int .i64 s)).setCell ⟨w.heap.size,1,none⟩ (.slice q k r)).cell? ⟨w.heap.size,1,none⟩=some (.slice q k r):=cH a3);(have HR:O (aDL ((wr.setCell ⟨w.heap.size,0,none⟩ (.int .i64 s)).setCell ⟨w.heap.size,1,none⟩ (.slice q k r)) w.heap.size (.slice q k r) (bQ l x)):=by rw[<-a1.o];show World.ownsRow _ _ _ _ _ (bQ (l.take k) x).length _;rw[ac];refine gL ?_ (Nat.le_add_right _ 2);refine kH P.o (fun g hg=>?_);have :=(World.ownsRow.lt P.o g hg).1;rw[cL oM,cL oM]);have ai:O (Below w.heap.size w ((wr.setCell ⟨w.heap.size,0,none⟩ (.int .i64 s)).setCell ⟨w.heap.size,1,none⟩ (.slice q k r))):=(C.o.setCell (aE _) _).setCell (aE _) _;clear T a3 ac;go_wp2_with fail;refine dF (v:=.agg #[.int .i64 s, .slice q k r]) (by simp[results,Tryz.results57,go_sem,d0,d1]) rfl ⟨_,rfl,HR.o,ai.o⟩
theorem aJ3(X:Nat)(y:bK)(t:dL)(w:World)(g:kG w X y)(j:jI 8 y)(ht:qK 8 t):
 Calls Tryz.prog 212 #[iA t, .pointer (some ⟨X,0,none⟩)] w fun e q=>e=.returned (.bool (!cC y.w t))/\Below w.heap.size w q:=by
 have b:=(aH w.heap.size w).alloc (aE _) (.cells #[.int .i64 t.var, .int .i64 t.n] 147);have l:O (kG (w.alloc (.cells #[.int .i64 t.var, .int .i64 t.n] 147)) X y):=g.u b;have f:O _:=b;have d:=aR w (.cells #[.int .i64 t.var, .int .i64 t.n] 147);(have m:(w.alloc (.cells #[.int .i64 t.var, .int .i64 t.n] 147)).cell? ⟨w.heap.size,0,none⟩=some (.int .i64 t.var):=cH d);(have p:(w.alloc (.cells #[.int .i64 t.var, .int .i64 t.n] 147)).cell? ⟨w.heap.size,1,none⟩=some (.int .i64 t.n):=cH d);clear g b d
 go_enter Tryz.func212,Tryz.ntmps212
 go_upto_region 1 with fail;generalize w.alloc (.cells #[.int .i64 t.var, .int .i64 t.n] 147)=r at *;go_wp2_with(refine nE (bF rfl) _ rfl _ rfl y l.o j ?_);refine Calls.mono (LE y t r j ht) ?_;rintro _ s ⟨rfl,i⟩;have k:O _:=f.o.trans (i.mono f.o.size);clear m p i;go_wp2_with fail;go_ret;exact⟨rfl,k.o⟩
theorem aG5(l:List dL)(k:Nat)(b:k<l.length):l.drop k=cA l k::l.drop (k+1):=by rw[dB b];simp[cA,List.getD_eq_getElem?_getD,b]
theorem aJD(l:List dL)(v:Value)(X:Nat)(y:bK)(w:World)(F:fT w v l)(Q:l.length<=1000000)(x:kG w X y)(H:jI 8 y)(s:gX 8 l):
 Calls Tryz.prog 226 #[v, .func (.func 212) #[] #[.pointer (some ⟨X,0,none⟩)]] w fun e K=>∃r:Int,e=.returned (.int .i64 r)/\decide (0<=r)=(!l.all (cC y.w))/\Below w.heap.size w K:=by
 obtain⟨L,M,rfl,_,q⟩:=F;have B:O _:=q;have E:O (kG w X y):=x;have C:O _:=s;have N:∀p w,(callFunc 212 p).run Tryz.prog w=.ok (.enter 212 p) w:=jQ Tryz.func212 kR rfl;clear q x s
 go_enter Tryz.func226,Tryz.ntmps226
 go_wp2_with fail;go_loopw [8] (fun i wr=>∃k:Nat,k<=l.length/\i=.int .i64 k/\O (l.all (cC y.w)=(l.drop k).all (cC y.w))/\O (Below w.heap.size w wr)) (fun i _=>l.length-(intOf i).toNat);case atStart=>exact⟨0,bG _,rfl,rfl,aH _ _⟩
 case round=>
  obtain⟨k,P,rfl,m,d⟩:=hrel;by_cases j:k<l.length
  ·obtain⟨b,R,rfl,f⟩:=rI B.o k j;have f:=f k j;have I:=aB d.o f.1;have J:=aB d.o f.2;(have g:O (l.all (cC y.w)=(cC y.w (cA l k)&&(l.drop (k+1)).all (cC y.w))):=by show _=_;rw[m.o,aG5 l k j,List.all_cons]);have D:O _:=C.o _ (mW j);clear f m;generalize cA l k=t at *;go_wp2_with fail;refine Calls.mono (aJ3 X y t wr (E.o.u d.o) H D.o) ?_;rintro e S ⟨G,z⟩;subst G;have n:O _:=d.o.trans (z.mono d.o.size);clear z I J;cases A:cC y.w t
   ·(have HV:O (l.all (cC y.w)=false):=by show _=_;rw[g.o,A];rfl);clear g;go_wp2_with fail;go_ret;exact⟨k,rfl,by rw[HV.o];simp,n.o⟩
   (have HV:O (l.all (cC y.w)=(l.drop (k+1)).all (cC y.w)):=by show _=_;rw[g.o,A];rfl);clear g;go_wp2_with fail;go_roundw;(case rel=>exact⟨k+1,oM,gN,HV.o,n.o⟩);case measure=>exact mI
  (have HV:O (l.all (cC y.w)=true):=by show _=_;rw[m.o,bD oM];rfl);go_wp2_with fail;go_ret;exact⟨-1,rfl,rV,d.o⟩
theorem Oz(l:List dL)(v:Value)(X:Nat)(y:bK)(w:World)(d:fT w v l)(j:l.length<=1000000)(f:kG w X y)(m:jI 8 y)(b:gX 8 l):
 Calls Tryz.prog 211 #[v, .func (.func 212) #[] #[.pointer (some ⟨X,0,none⟩)]] w fun e n=>e=.returned (.bool (!l.all (cC y.w)))/\Below w.heap.size w n:=by
 have g:O _:=aJD l v X y w d j f m b;obtain⟨p,q,rfl,_,_⟩:=d;clear f b
 go_enter Tryz.func211,Tryz.ntmps211
 go_wp2_with fail;refine Calls.mono g.o ?_;rintro e s ⟨r,rfl,k,i⟩;go_wp2_with fail;go_ret;exact⟨by rw[<-k];rfl,i⟩
def aGF(y:bK)(X b off e:Nat)(f d:dL):Nat->Value
 |11=>eW y
 |12=>.pointer (some ⟨X,3,none⟩)
 |13=>.slice (some ⟨b,off,none⟩) 3 e
 |14=>.pointer (some ⟨b,off,none⟩)
 |15=>iA f
 |16=>.bool true
 |17=>.bool true
 |18=>eW y
 |19=>.pointer (some ⟨X,3,none⟩)
 |20=>.slice (some ⟨b,off,none⟩) 3 e
 |21=>.pointer (some ⟨b,off+2,none⟩)
 |22=>iA d
 |23=>.bool (cC y.w d)
 |24=>.bool (cC y.w d)
 |4=>.bool (cC y.w d)
 |_=>.bool false
def aGE(y:bK)(X b off d:Nat)(e:dL):Nat->Value
 |11=>eW y
 |12=>.pointer (some ⟨X,3,none⟩)
 |13=>.slice (some ⟨b,off,none⟩) 3 d
 |14=>.pointer (some ⟨b,off,none⟩)
 |15=>iA e
 |16=>.bool false
 |17=>.bool false
 |18=>undef
 |19=>undef
 |20=>undef
 |21=>undef
 |22=>undef
 |23=>undef
 |24=>.bool false
 |4=>.bool false
 |_=>.bool false
theorem aNR(l:cI)(vt:Value)(y:bK)(w:World)(U:fT w vt l.p)(D:jI 8 y)(hI:gX 8 l.p)(s:l.kind=4->l.p.length=3)(hl:l.p.length<=1000000):
 Calls Tryz.prog 181 #[nR l vt,eW y] w fun e w'=>e=.returned (.bool (gH y l))/\Below w.heap.size w w':=by
 have al:∀(fn:Fn)(first a2:Array Value)(w:World),(Instr.makeFunc fn first a2).run Tryz.prog w=.ok (.func fn first a2) w:=fun _ _ _ _=>rfl;have HT:O _:=U;obtain⟨at_,j,rfl,_⟩:=id U;obtain⟨i,m,n,g⟩:=l;dsimp only at *;obtain⟨h0,h1,Y⟩:=KK w (.cells #[.int .i64 i, .int .i64 m, .int .i64 n, .slice at_ g.length j] 49) (.cells (eA y) 138);have H:O _:=h0;have S:O (kG ((w.alloc (.cells #[.int .i64 i, .int .i64 m, .int .i64 n, .slice at_ g.length j] 49)).alloc (.cells (eA y) 138)) (w.heap.size+1) y):=h1;have A:O _:=Y;have R:O _:=hI;have W:O _:=dS U Y;clear h0 h1 Y U hI;by_cases z:i=1
 ·(have HV:O (gH y ⟨i,m,n,g⟩=true):=by show _=_;unfold gH;rw[if_pos z]);(have g1:(i==1)=true:=by simpa using z);clear s z;have X:((w.alloc (.cells #[.int .i64 i, .int .i64 m, .int .i64 n, .slice at_ g.length j] 49)).alloc (.cells (eA y) 138)).cell? ⟨w.heap.size,0,none⟩=some (.int .i64 i):=cH H.o
  go_enter Tryz.func181,Tryz.ntmps181
  go_wp2_with fail;go_ret;exact⟨rV,A.o⟩
 (have g1:(i==1)=false:=by simpa using z);by_cases C:i=4
 ·(have g4:(i==4)=true:=by simpa using C);have h3:=s C;(have V:gH y ⟨i,m,n,g⟩=(cC y.w (cA g 0)&&cC y.w (cA g 1)):=by unfold gH;rw[if_neg z,if_pos C]);obtain⟨b,k,rfl,hc⟩:=rI (by obtain⟨_,_,e,_,hA⟩:=W.o;injection e with e _ _;subst e;exact hA) 0 oM;have ae:=hc 0 oM;have af:=hc 1 oM;have a1:O (qK 8 (cA g 0)):=R.o _ (mW oM);have a4:O (qK 8 (cA g 1)):=R.o _ (mW oM);obtain⟨p0,p1⟩:=ae;obtain⟨p2,p3⟩:=af;clear hc s z C;(have X:((w.alloc (.cells #[.int .i64 i, .int .i64 m, .int .i64 n, .slice (some ⟨b,k,none⟩) g.length j] 49)).alloc (.cells (eA y) 138)).cell? ⟨w.heap.size,0,none⟩=some (.int .i64 i):=cH H.o);(have J:((w.alloc (.cells #[.int .i64 i, .int .i64 m, .int .i64 n, .slice (some ⟨b,k,none⟩) g.length j] 49)).alloc (.cells (eA y) 138)).cell? ⟨w.heap.size,3,none⟩=some (.slice (some ⟨b,k,none⟩) g.length j):=cH H.o);generalize cA g 0=q at *;generalize cA g 1=r at *;clear HT W H R;rw[EQ,BE]at p0 p1;rw[Nat.one_mul]at p2 p3;generalize g.length=nl at *;subst h3
  go_enter Tryz.func181,Tryz.ntmps181
  go_upto_region 5 with fail;generalize (w.alloc (.cells #[.int .i64 i, .int .i64 m, .int .i64 n, .slice (some ⟨b,k,none⟩) 3 j] 49)).alloc (.cells (eA y) 138)=w1 at *;cases I:cC y.w q
  ·have HK:O _:=I;(have HV:O (gH y ⟨i,m,n,g⟩=false):=by show _=_;rw[V,I];rfl);clear I V;refine nF (fun E G _=>G=aGE y w.heap.size b k j q E) kR kR (fun _ _ _ _ _ h=>h) ?hop ?hend
   case hop=>
    refine oC (fun a d h=>by have L:a.eval (.tmp 3)=(.pointer (some ⟨w.heap.size+1,0,none⟩):Value):=h.old 3;refine XM (v:=eW y) ?_;exact sN rfl L (S.o.u h.u) D) ?_;refine oC (fun a d h=>by have e2:a.eval (.tmp 2)=(.pointer (some ⟨w.heap.size,0,none⟩):Value):=h.old 2;exact jC (.pointer (some ⟨w.heap.size,3,none⟩))) ?_;refine oC (fun a d h=>by have a6:a.eval (.tmp 12)=(.pointer (some ⟨w.heap.size,3,none⟩):Value):=h.of 12;have c3:=aB h.u J;exact jC (.slice (some ⟨b,k,none⟩) 3 j)) ?_;refine oC (fun a d h=>by have a7:a.eval (.tmp 13)=(.slice (some ⟨b,k,none⟩) 3 j:Value):=h.of 13;exact jC (.pointer (some ⟨b,k,none⟩))) ?_;refine oC (fun a d h=>by have a8:a.eval (.tmp 14)=(.pointer (some ⟨b,k,none⟩):Value):=h.of 14;have c0:=aB h.u p0;have c1:=aB h.u p1;exact jC (iA q)) ?_;refine oC (fun a d h=>?_) ?_
    ·have a5:a.eval (.tmp 11)=(eW y:Value):=h.of 11;have a9:a.eval (.tmp 15)=(iA q:Value):=h.of 15;refine iC (f:=210) (args:=#[eW y,iA q]) (bF rfl) ?_ ?_
     ·have ec:=qM a;have ef:=IM a;generalize a.eval=ev at *;clear h;go_simp
     refine Calls.mono (LE y q d D a1.o) ?_;rintro _ y2 ⟨rfl,x⟩;exact⟨_,rfl,fun t ht=>by cases ht;exact congrArg Value.bool HK.o,x⟩
    refine oC (fun a d h=>by have aa:a.eval (.tmp 16)=(.bool false:Value):=h.of 16;exact jC (.bool false)) ?_;refine oC (fun a d h=>by exact Xb (h.of 17)) ?_;refine oC (fun a d h=>by exact Xb (h.of 17)) ?_;refine oC (fun a d h=>by exact Xb (h.of 17)) ?_;refine oC (fun a d h=>by exact Xb (h.of 17)) ?_;refine oC (fun a d h=>by exact Xb (h.of 17)) ?_;refine oC (fun a d h=>by exact Xb (h.of 17)) ?_;refine oC (fun a d h=>by have ab:a.eval (.tmp 17)=(.bool false:Value):=h.of 17;have ac:a.eval (.tmp 23)=(undef:Value):=h.of 23;exact jC (.bool false)) ?_;refine oC (fun a d h=>by have ad:a.eval (.tmp 24)=(.bool false:Value):=h.of 24;exact jC (.bool false)) ?_;exact JL.nil
   case hend=>rintro⟨F,K⟩ wE Z a0 P Q N;have s:F.getD 4 undef=.bool false:=zG (T:=fun E G _=>G=aGE y w.heap.size b k j q E) (w:=wE) (a:=⟨F,K⟩) (t:=4) N kR;obtain rfl:K=[]:=a0;obtain⟨fQ,M,B⟩:=pQ [11,12,13,14,15,16,17,18,19,20,21,22,23,24,4] F _ P Q;clear P Q N;simp only[List.foldl_cons,List.foldl_nil,(M 4).trans s]at B;clear s M;simp only[List.setIfInBounds_toArray,List.set_cons_zero,List.set_cons_succ]at B;subst B;go_wp2_with fail;go_ret;exact⟨rV,A.o.trans (Z.mono A.o.size)⟩
  have HK:O _:=I;(have HV:O (gH y ⟨i,m,n,g⟩=cC y.w r):=by show _=_;rw[V,I];rfl);clear I V;refine nF (fun E G _=>G=aGF y w.heap.size b k j q r E) kR kR (fun _ _ _ _ _ h=>h) ?hop ?hend
  case hop=>
   refine oC (fun a d h=>by have L:a.eval (.tmp 3)=(.pointer (some ⟨w.heap.size+1,0,none⟩):Value):=h.old 3;refine XM (v:=eW y) ?_;exact sN rfl L (S.o.u h.u) D) ?_;refine oC (fun a d h=>by have e2:a.eval (.tmp 2)=(.pointer (some ⟨w.heap.size,0,none⟩):Value):=h.old 2;exact jC (.pointer (some ⟨w.heap.size,3,none⟩))) ?_;refine oC (fun a d h=>by have a6:a.eval (.tmp 12)=(.pointer (some ⟨w.heap.size,3,none⟩):Value):=h.of 12;have c3:=aB h.u J;exact jC (.slice (some ⟨b,k,none⟩) 3 j)) ?_;refine oC (fun a d h=>by have a7:a.eval (.tmp 13)=(.slice (some ⟨b,k,none⟩) 3 j:Value):=h.of 13;exact jC (.pointer (some ⟨b,k,none⟩))) ?_;refine oC (fun a d h=>by have a8:a.eval (.tmp 14)=(.pointer (some ⟨b,k,none⟩):Value):=h.of 14;have c0:=aB h.u p0;have c1:=aB h.u p1;exact jC (iA q)) ?_;refine oC (fun a d h=>?_) ?_
   ·have a5:a.eval (.tmp 11)=(eW y:Value):=h.of 11;have a9:a.eval (.tmp 15)=(iA q:Value):=h.of 15;refine iC (f:=210) (args:=#[eW y,iA q]) (bF rfl) ?_ ?_
    ·have ec:=qM a;have ef:=IM a;generalize a.eval=ev at *;clear h;go_simp
    refine Calls.mono (LE y q d D a1.o) ?_;rintro _ y2 ⟨rfl,x⟩;exact⟨_,rfl,fun t ht=>by cases ht;exact congrArg Value.bool HK.o,x⟩
   refine oC (fun a d h=>by have aa:a.eval (.tmp 16)=(.bool true:Value):=h.of 16;exact jC (.bool true)) ?_;refine oC (fun a d h=>by have L:a.eval (.tmp 3)=(.pointer (some ⟨w.heap.size+1,0,none⟩):Value):=h.old 3;refine fC (v:=eW y) (w':=d) (wG (h.of 17)) ?_ tR (aH _ _);exact sN rfl L (S.o.u h.u) D) ?_;refine oC (fun a d h=>by have e2:a.eval (.tmp 2)=(.pointer (some ⟨w.heap.size,0,none⟩):Value):=h.old 2;refine fC (v:=.pointer (some ⟨w.heap.size,3,none⟩)) (w':=d) (wG (h.of 17)) ?_ tR (aH _ _);have ec:=qM a;generalize a.eval=ev at *;clear h;go_simp) ?_;refine oC (fun a d h=>by have ah:a.eval (.tmp 19)=(.pointer (some ⟨w.heap.size,3,none⟩):Value):=h.of 19;have c3:=aB h.u J;refine fC (v:=.slice (some ⟨b,k,none⟩) 3 j) (w':=d) (wG (h.of 17)) ?_ tR (aH _ _);have ec:=qM a;generalize a.eval=ev at *;clear h;go_simp) ?_;refine oC (fun a d h=>by have ai:a.eval (.tmp 20)=(.slice (some ⟨b,k,none⟩) 3 j:Value):=h.of 20;refine fC (v:=.pointer (some ⟨b,k+2,none⟩)) (w':=d) (wG (h.of 17)) ?_ tR (aH _ _);have ec:=qM a;generalize a.eval=ev at *;clear h;go_simp) ?_;refine oC (fun a d h=>by have aj:a.eval (.tmp 21)=(.pointer (some ⟨b,k+2,none⟩):Value):=h.of 21;have c0:=aB h.u p2;have c1:=aB h.u p3;refine fC (v:=iA r) (w':=d) (wG (h.of 17)) ?_ tR (aH _ _);have ec:=qM a;generalize a.eval=ev at *;clear h;go_simp) ?_;refine oC (fun a d h=>?_) ?_
   ·have ag:a.eval (.tmp 18)=(eW y:Value):=h.of 18;have ak:a.eval (.tmp 22)=(iA r:Value):=h.of 22;refine iC (f:=210) (args:=#[eW y,iA r]) (wG (h.of 17)) ?_ ?_
    ·have ec:=qM a;have ef:=IM a;generalize a.eval=ev at *;clear h;go_simp
    refine Calls.mono (LE y r d D a4.o) ?_;rintro _ y2 ⟨rfl,x⟩;exact⟨_,rfl,fun t ht=>by cases ht;exact rfl,x⟩
   refine oC (fun a d h=>by have ab:a.eval (.tmp 17)=(.bool true:Value):=h.of 17;have ac:a.eval (.tmp 23)=(.bool (cC y.w r):Value):=h.of 23;exact jC (.bool (cC y.w r))) ?_;refine oC (fun a d h=>by have ad:a.eval (.tmp 24)=(.bool (cC y.w r):Value):=h.of 24;exact jC (.bool (cC y.w r))) ?_;exact JL.nil
  case hend=>rintro⟨F,K⟩ wE Z a0 P Q N;have s:F.getD 4 undef=.bool (cC y.w r):=zG (T:=fun E G _=>G=aGF y w.heap.size b k j q r E) (w:=wE) (a:=⟨F,K⟩) (t:=4) N kR;obtain rfl:K=[]:=a0;obtain⟨fQ,M,B⟩:=pQ [11,12,13,14,15,16,17,18,19,20,21,22,23,24,4] F _ P Q;clear P Q N;simp only[List.foldl_cons,List.foldl_nil,(M 4).trans s]at B;clear s M;simp only[List.setIfInBounds_toArray,List.set_cons_zero,List.set_cons_succ]at B;subst B;go_wp2_with fail;go_ret;exact⟨rV,A.o.trans (Z.mono A.o.size)⟩
 (have g4:(i==4)=false:=by simpa using C);(have HV:O (gH y ⟨i,m,n,g⟩=g.all (cC y.w)):=by show _=_;unfold gH;rw[if_neg z,if_neg C]);(have X:((w.alloc (.cells #[.int .i64 i, .int .i64 m, .int .i64 n, .slice at_ g.length j] 49)).alloc (.cells (eA y) 138)).cell? ⟨w.heap.size,0,none⟩=some (.int .i64 i):=cH H.o);(have J:((w.alloc (.cells #[.int .i64 i, .int .i64 m, .int .i64 n, .slice at_ g.length j] 49)).alloc (.cells (eA y) 138)).cell? ⟨w.heap.size,3,none⟩=some (.slice at_ g.length j):=cH H.o);clear z C s
 go_enter Tryz.func181,Tryz.ntmps181
 go_upto_region 6 with fail;generalize (w.alloc (.cells #[.int .i64 i, .int .i64 m, .int .i64 n, .slice at_ g.length j] 49)).alloc (.cells (eA y) 138)=w1 at *;go_wp2_with fail;refine Calls.mono (Oz g _ (w.heap.size+1) y w1 W.o hl S.o D R.o) ?_;rintro _ w2 ⟨rfl,x⟩;have a3:O _:=A.o.trans (x.mono A.o.size);clear x X J;go_wp2_with fail;go_ret;exact⟨by rw[HV.o];simp,a3.o⟩
theorem kG.setKn{w:World}{b:Nat}{y:bK}(h:kG w b y)(e:jI 8 y)(i:Nat):kG (w.setCell ⟨b,8+i,none⟩ (.bool true)) b ⟨y.y,y.w.set i true⟩:=by
 unfold kG at h ⊢;rw[bV h]
 congr 2
 unfold eA;(have d:(y.y.map (Value.int .i64)).length=8:=by rw[aP,e.n]);rw[SV,List.set_append_right _ _ oM,d,uS,yP]
theorem kG.setNum{w:World}{b:Nat}{y:bK}(h:kG w b y)(d:jI 8 y){i:Nat}(f:i<8)(n:Int):kG (w.setCell ⟨b,i,none⟩ (.int .i64 n)) b ⟨y.y.set i n,y.w⟩:=by
 unfold kG at h ⊢;rw[bV h]
 congr 2
 unfold eA;(have e:(y.y.map (Value.int .i64)).length=8:=by rw[aP,d.n]);rw[SV,List.set_append_left _ _ oM,yP]
def rY(y:bK)(b:List dL)(ns:List Int):bK:=(fU y b ns).getD uV
theorem aA2{y:bK}{t:dL}{n:Int}(b:cC y.w t=true)(h:eJ y.y t=n):kB y t n=some y:=by unfold kB;rw[if_pos b,if_pos h]
theorem aEN{y:bK}{t:dL}{n:Int}(b:cC y.w t=true)(h:¬eJ y.y t=n):kB y t n=none:=by unfold kB;rw[if_pos b,if_neg h]
theorem aA1{y:bK}{t:dL}{n:Int}(b:cC y.w t=false):kB y t n=some ⟨y.y.set t.var.toNat n,y.w.set t.var.toNat true⟩:=by unfold kB;rw[if_neg (by rw[b];decide)]
theorem SF(y:bK)(b:List dL)(ns:List Int)(k:Nat)(h:k<b.length):fU y (b.drop k) (ns.drop k)=match kB y (cA b k) (bM ns k)with |none=>none|some i=>fU i (b.drop (k+1)) (ns.drop (k+1)):=by rw[dB h];(have d:cA b k=b[k]:=by unfold cA;rw[aC,aD h];rfl);(have e:(ns.drop k).headD 0=bM ns k:=by unfold bM;rw[List.headD_eq_head?_getD,List.head?_drop,aC]);(have f:(ns.drop k).tail=ns.drop (k+1):=by rw[List.tail_drop]);show(match kB y b[k] ((ns.drop k).headD 0)with |none=>none|some g=>fU g (b.drop (k+1)) (ns.drop k).tail)=_;rw[d,e,f]
theorem aA3(y:bK)(b:List dL)(ns:List Int):fU y (b.drop b.length) ns=some y:=by rw[List.drop_length];rfl
structure WIn (w wr:World) (y:bK):Prop where
 box:kG wr w.heap.size y
 res:kG wr (w.heap.size+1) uV
 j:Below w.heap.size w wr
 wf:jI 8 y
theorem WIn.u{w wr d:World}{y:bK}(h:WIn w wr y)(b:Below wr.heap.size wr d):WIn w d y:=
 ⟨h.box.u b,h.res.u b,h.j.trans (b.mono h.j.size),h.wf⟩
theorem WIn.set{w wr:World}{y:bK}(h:WIn w wr y){i:Nat}(e:i<8)(n:Int):WIn w ((wr.setCell ⟨w.heap.size,8+i,none⟩ (.bool true)).setCell ⟨w.heap.size,i,none⟩ (.int .i64 n)) ⟨y.y.set i n,y.w.set i true⟩:=by
 have b:=h.box.setKn h.wf i;have d:=kG.setNum b ⟨h.wf.n,by simpa using h.wf.k⟩ e n;refine⟨d,?_,?_,⟨by simpa using h.wf.n,by simpa using h.wf.k⟩⟩
 ·unfold kG;rw[cL oM,cL oM];exact h.res
 exact(h.j.setCell (aE _) _).setCell (aE _) _
def aDC(z:bK)(t:dL)(b on e d k:Nat)(n:Int):Nat->Value
 |33=>eW z
 |34=>.agg #[.int .i64 t.var, .int .i64 t.n]
 |35=>.int .i64 (eJ z.y t)
 |36=>.slice (some ⟨b,on,none⟩) e d
 |37=>.int .i64 k
 |38=>.pointer (some ⟨b,on+k,none⟩)
 |39=>.int .i64 n
 |40=>.bool (eJ z.y t != n)
 |_=>.bool false
theorem aHB(y:bK)(g:List dL)(ns:List Int)(vt vn:Value)(w:World)(hy:jI 8 y)(hT:fT w vt g)(hN:dM w vn ns)(hl:g.length=ns.length)(h3:g.length<=1000)(hI:gX 8 g):
 Calls Tryz.prog 189 #[eW y,vt,vn] w fun e w'=>e=.returned (.tuple #[eW (rY y g ns), .bool (fU y g ns).isSome])/\Below w.heap.size w w':=by
 obtain⟨at_,ct,rfl,_,hT⟩:=hT;obtain⟨an,z,rfl,hN⟩:=hN;obtain⟨h0,h1,hb⟩:=KK w (.cells (eA y) 138) (.cells #[.int .i64 0, .int .i64 0, .int .i64 0, .int .i64 0, .int .i64 0, .int .i64 0, .int .i64 0, .int .i64 0, .bool false, .bool false, .bool false, .bool false, .bool false, .bool false, .bool false, .bool false] 138);have HI:O (WIn w ((w.alloc (.cells (eA y) 138)).alloc (.cells #[.int .i64 0, .int .i64 0, .int .i64 0, .int .i64 0, .int .i64 0, .int .i64 0, .int .i64 0, .int .i64 0, .bool false, .bool false, .bool false, .bool false, .bool false, .bool false, .bool false, .bool false] 138)) y):=⟨h0,h1,hb,hy⟩;have HT:O _:=hT;have HN:O _:=hN;have HL:O _:=hl;have ae:O _:=hI;clear h0 h1 hb hT hN hl hy hI
 go_enter Tryz.func189,Tryz.ntmps189
 go_wp2_with fail;generalize (w.alloc (.cells (eA y) 138)).alloc (.cells #[.int .i64 0, .int .i64 0, .int .i64 0, .int .i64 0, .int .i64 0, .int .i64 0, .int .i64 0, .int .i64 0, .bool false, .bool false, .bool false, .bool false, .bool false, .bool false, .bool false, .bool false] 138)=w1 at *;go_loopw [12] (fun a5 wr=>∃(k:Nat)(y':bK),k<=g.length/\a5=.int .i64 k/\O (WIn w wr y')/\O (fU y g ns=fU y' (g.drop k) (ns.drop k))) (fun a5 _=>g.length-(intOf a5).toNat);case atStart=>exact⟨0,y,bG _,rfl,HI.o,rfl⟩
 case round=>
  clear HI;obtain⟨k,d,hk,rfl,x,HE⟩:=hrel;by_cases B:k<g.length
  ·obtain⟨b,au,rfl,W⟩:=rI HT.o k B;have W:=W k B;obtain⟨m,on,rfl,z0⟩:=qY HN.o k (by rw[<-HL.o];exact B);have q0:=aB x.o.j W.1;have q1:=aB x.o.j W.2;(have ar:k<ns.length:=by rw[<-HL.o];exact B);have HD:O _:=SF d g ns k B;have a0:O (qK 8 (cA g k)):=ae.o _ (mW B);have Z0:O _:=z0;clear W z0;generalize cA g k=t at *;generalize bM ns k=n at *;go_upto_region 4 with fail;have bT:=(aH wr.heap.size wr).alloc (aE _) (.cells #[.int .i64 t.var, .int .i64 t.n] 147);have P:O _:=x.o.u bT;have N:O _:=aR wr (.cells #[.int .i64 t.var, .int .i64 t.n] 147);clear q0 q1 bT x;generalize wr.alloc (.cells #[.int .i64 t.var, .int .i64 t.n] 147)=wq at *;generalize wr.heap.size=r at *;(have t0:wq.cell? ⟨r,0,none⟩=some (.int .i64 t.var):=cH N.o);(have t1:wq.cell? ⟨r,1,none⟩=some (.int .i64 t.n):=cH N.o);go_wp2_with(refine nE (bF rfl) _ rfl _ rfl d P.o.box P.o.wf ?_);clear t0 t1;refine Calls.mono (LE d t wq P.o.wf a0.o) ?_;rintro _ J ⟨rfl,E⟩;have p:O _:=P.o.u E;have K:O _:=(E.block _ (bP N.o)).trans N.o;clear E P N;cases X:cC d.w t
   ·have HK:O _:=X;obtain⟨h0,_⟩:=vP (w:=d) (t:=t) (by rw[X];decide);obtain⟨v,hv⟩:∃v:Nat,t.var=v:=⟨t.var.toNat,oM⟩;(have a1:v<8:=by rcases a0.o with A|A<;>omega);obtain⟨av,q⟩:=t;dsimp only at hv;subst hv;(have ac:¬r=w.heap.size:=fun e9=>by have A:=K.o;rw[e9,p.o.box]at A;injection A with A;injection A with ap am;exact absurd am dE);((have t0:J.cell? ⟨r,0,none⟩=some (.int .i64 v):=cH K.o);have b0:=p.o.box.kn p.o.wf a1;have f0:=cM p.o.box (8+v);clear X h0;go_upto_region 6 with fail;have a9:Below w.heap.size w (J.setCell ⟨w.heap.size,8+v,none⟩ (.bool true)):=p.o.j.setCell (aE _) _;have a3:=(cL (w:=J) (i:=8+v) (v:=.bool true) ac).trans K.o;have a2:=p.o.box.setKn p.o.wf v;have z4:=aB a9 Z0.o;(have ao:(J.setCell ⟨w.heap.size,8+v,none⟩ (.bool true)).cell? ⟨r,0,none⟩=some (.int .i64 v):=cH a3);have b1:=a2.num ⟨p.o.wf.n,by simpa using p.o.wf.k⟩ a1;have f1:=cM a2 v;have a6:O _:=a3;have l:O _:=p.o.set a1 n;clear a3 a2 a9 t0 b0 f0;go_region;have aa:=(cL (w:=J.setCell ⟨w.heap.size,8+v,none⟩ (.bool true)) (i:=v) (v:=.int .i64 n) ac).trans a6.o;have a7:O _:=aa;clear aa z4 ao b1 f1 a6 K p;generalize (J.setCell ⟨w.heap.size,8+v,none⟩ (.bool true)).setCell ⟨w.heap.size,v,none⟩ (.int .i64 n)=w3 at *;have a8:O _:=l.o.u ((aH _ _).drew);have s:O (w3.drew.heap[r]?=some (.cells #[.int .i64 v, .int .i64 q] 147)):=a7.o;clear l a7;have l:O _:=a8.o;clear a8;generalize w3.drew=w4 at *;have ad:O (eJ (d.y.set v n) ⟨v,q⟩=n):=by show _=_;unfold eJ;rw[if_neg (show¬(v:Int)<0 by omega)];have A:=l.o.wf.n;simp only[List.length_set]at A;exact tJ _ _ _ _ (by show v<d.y.length;rw[A];exact a1));(have C:O (fU y g ns=fU ⟨d.y.set v n,d.w.set v true⟩ (g.drop (k+1)) (ns.drop (k+1))):=by show _=_;rw[HE.o,HD.o,aA1 HK.o];rfl);go_upto_region 7 with fail;refine nF (fun G I _=>I=aDC ((⟨d.y.set v n,d.w.set v true⟩:bK)) ⟨v,q⟩ m on ns.length z k n G) kR kR (fun _ _ _ _ _ h=>h) ?hopA ?hendA
    case hopA=>
     refine oC (fun a y h=>by have e3:a.eval (.tmp 3)=(.pointer (some ⟨w.heap.size,0,none⟩):Value):=h.old 3;refine XM (v:=eW (⟨d.y.set v n,d.w.set v true⟩:bK)) ?_;exact sN rfl e3 (l.o.u h.u).box l.o.wf) ?_;refine oC (fun a y h=>by have e9:a.eval (.tmp 9)=(.pointer (some ⟨r,0,none⟩):Value):=h.old 9;(have c0:y.cell? ⟨r,0,none⟩=some (.int .i64 v):=by rw[cD ((h.u.block _ (bP s.o)).trans s.o)];rfl);(have c1:y.cell? ⟨r,1,none⟩=some (.int .i64 q):=by rw[cD ((h.u.block _ (bP s.o)).trans s.o)];rfl);exact jC (.agg #[.int .i64 v, .int .i64 q])) ?_;refine oC (fun a y h=>?_) ?_
     ·have af:a.eval (.tmp 33)=(eW (⟨d.y.set v n,d.w.set v true⟩:bK):Value):=h.of 33;have ag:a.eval (.tmp 34)=(.agg #[.int .i64 v, .int .i64 q]:Value):=h.of 34;refine iC (f:=187) (args:=#[eW (⟨d.y.set v n,d.w.set v true⟩:bK), .agg #[.int .i64 v, .int .i64 q]]) (bF rfl) ?_ ?_
      ·have ec:=qM a;have ef:=IM a;generalize a.eval=ev at *;clear h;go_simp
      refine Calls.mono (yG ((⟨d.y.set v n,d.w.set v true⟩:bK)) ⟨v,q⟩ y l.o.wf a0.o) ?_;rintro _ y2 ⟨rfl,E⟩;exact⟨_,rfl,fun t ht=>by cases ht;exact rfl,E⟩
     refine oC (fun a y h=>by have e2:a.eval (.tmp 2)=(.slice (some ⟨m,on,none⟩) ns.length z:Value):=h.old 2;exact jC (.slice (some ⟨m,on,none⟩) ns.length z)) ?_;refine oC (fun a y h=>by have e8:a.eval (.tmp 8)=(.int .i64 k:Value):=h.old 8;exact jC (.int .i64 k)) ?_;refine oC (fun a y h=>by have ai:a.eval (.tmp 36)=(.slice (some ⟨m,on,none⟩) ns.length z:Value):=h.of 36;have aj:a.eval (.tmp 37)=(.int .i64 k:Value):=h.of 37;exact jC (.pointer (some ⟨m,on+k,none⟩))) ?_;refine oC (fun a y h=>by have ak:a.eval (.tmp 38)=(.pointer (some ⟨m,on+k,none⟩):Value):=h.of 38;have c2:=aB (l.o.u h.u).j Z0.o;exact jC (.int .i64 n)) ?_;refine oC (fun a y h=>by have ah:a.eval (.tmp 35)=(.int .i64 (eJ ((⟨d.y.set v n,d.w.set v true⟩:bK)).y ⟨v,q⟩):Value):=h.of 35;have al:a.eval (.tmp 39)=(.int .i64 n:Value):=h.of 39;exact jC (.bool (eJ ((⟨d.y.set v n,d.w.set v true⟩:bK)).y ⟨v,q⟩ != n))) ?_;exact JL.nil
    case hendA=>rintro⟨H,Q⟩ wE V a4 Y Z U;have R:H.getD 40 undef=.bool (eJ ((⟨d.y.set v n,d.w.set v true⟩:bK)).y ⟨v,q⟩ != n):=zG (T:=fun G I _=>I=aDC ((⟨d.y.set v n,d.w.set v true⟩:bK)) ⟨v,q⟩ m on ns.length z k n G) (w:=wE) (a:=⟨H,Q⟩) (t:=40) U kR;obtain rfl:Q=[]:=a4;obtain⟨fQ,S,D⟩:=pQ [33,34,35,36,37,38,39,40] H _ Y Z;clear Y Z U;simp only[List.foldl_cons,List.foldl_nil,(S 40).trans R]at D;clear R S;simp only[List.setIfInBounds_toArray,List.set_cons_zero,List.set_cons_succ]at D;subst D;have L:O _:=l.o.u V;clear V l s;(have F:(eJ (d.y.set v n) ⟨v,q⟩ != n)=false:=by rw[ad.o];simp);rw[F];go_wp2_with fail;go_roundw;(case rel=>exact⟨k+1,_,B,gN,L.o,C.o⟩);case measure=>exact mI
   have HK:O _:=X;clear X;have l:O _:=p.o;have s:O _:=K.o;clear p K;generalize J=w4 at *;go_upto_region 7 with fail;refine nF (fun G I _=>I=aDC (d) t m on ns.length z k n G) kR kR (fun _ _ _ _ _ h=>h) ?hopB ?hendB
   case hopB=>
    refine oC (fun a y h=>by have e3:a.eval (.tmp 3)=(.pointer (some ⟨w.heap.size,0,none⟩):Value):=h.old 3;refine XM (v:=eW d) ?_;exact sN rfl e3 (l.o.u h.u).box l.o.wf) ?_;refine oC (fun a y h=>by have e9:a.eval (.tmp 9)=(.pointer (some ⟨r,0,none⟩):Value):=h.old 9;(have c0:y.cell? ⟨r,0,none⟩=some (.int .i64 t.var):=by rw[cD ((h.u.block _ (bP s.o)).trans s.o)];rfl);(have c1:y.cell? ⟨r,1,none⟩=some (.int .i64 t.n):=by rw[cD ((h.u.block _ (bP s.o)).trans s.o)];rfl);exact jC (.agg #[.int .i64 t.var, .int .i64 t.n])) ?_;refine oC (fun a y h=>?_) ?_
    ·have af:a.eval (.tmp 33)=(eW d:Value):=h.of 33;have ag:a.eval (.tmp 34)=(.agg #[.int .i64 t.var, .int .i64 t.n]:Value):=h.of 34;refine iC (f:=187) (args:=#[eW d, .agg #[.int .i64 t.var, .int .i64 t.n]]) (bF rfl) ?_ ?_
     ·have ec:=qM a;have ef:=IM a;generalize a.eval=ev at *;clear h;go_simp
     refine Calls.mono (yG (d) t y l.o.wf a0.o) ?_;rintro _ y2 ⟨rfl,E⟩;exact⟨_,rfl,fun t ht=>by cases ht;exact rfl,E⟩
    refine oC (fun a y h=>by have e2:a.eval (.tmp 2)=(.slice (some ⟨m,on,none⟩) ns.length z:Value):=h.old 2;exact jC (.slice (some ⟨m,on,none⟩) ns.length z)) ?_;refine oC (fun a y h=>by have e8:a.eval (.tmp 8)=(.int .i64 k:Value):=h.old 8;exact jC (.int .i64 k)) ?_;refine oC (fun a y h=>by have ai:a.eval (.tmp 36)=(.slice (some ⟨m,on,none⟩) ns.length z:Value):=h.of 36;have aj:a.eval (.tmp 37)=(.int .i64 k:Value):=h.of 37;exact jC (.pointer (some ⟨m,on+k,none⟩))) ?_;refine oC (fun a y h=>by have ak:a.eval (.tmp 38)=(.pointer (some ⟨m,on+k,none⟩):Value):=h.of 38;have c2:=aB (l.o.u h.u).j Z0.o;exact jC (.int .i64 n)) ?_;refine oC (fun a y h=>by have ah:a.eval (.tmp 35)=(.int .i64 (eJ (d).y t):Value):=h.of 35;have al:a.eval (.tmp 39)=(.int .i64 n:Value):=h.of 39;exact jC (.bool (eJ (d).y t != n))) ?_;exact JL.nil
   case hendB=>
    rintro⟨H,Q⟩ wE V a4 Y Z U;have R:H.getD 40 undef=.bool (eJ (d).y t != n):=zG (T:=fun G I _=>I=aDC (d) t m on ns.length z k n G) (w:=wE) (a:=⟨H,Q⟩) (t:=40) U kR;obtain rfl:Q=[]:=a4;obtain⟨fQ,S,D⟩:=pQ [33,34,35,36,37,38,39,40] H _ Y Z;clear Y Z U;simp only[List.foldl_cons,List.foldl_nil,(S 40).trans R]at D;clear R S;simp only[List.setIfInBounds_toArray,List.set_cons_zero,List.set_cons_succ]at D;subst D;have L:O _:=l.o.u V;clear V l s;by_cases M:eJ d.y t=n
    ·(have C:O (fU y g ns=fU d (g.drop (k+1)) (ns.drop (k+1))):=by show _=_;rw[HE.o,HD.o,aA2 HK.o M]);(have F:(eJ d.y t != n)=false:=by rw[M];simp);rw[F];clear M F;go_wp2_with fail;go_roundw;(case rel=>exact⟨k+1,_,B,gN,L.o,C.o⟩);case measure=>exact mI
    (have C:O (fU y g ns=none):=by show _=_;rw[HE.o,HD.o,aEN HK.o M]);(have F:(eJ d.y t != n)=true:=by simpa using M);rw[F];clear M F;go_wp2_with(refine EO rfl _ _ rfl _ rfl uV uV rfl L.o.res ⟨rfl,rfl⟩ ⟨rfl,rfl⟩ ?_);refine dF (Bc rfl rfl (Dw L.o.res) ⟨rfl,rfl⟩) rfl ⟨?_,SS L.o.j (lX _)⟩;unfold rY;rw[C.o];rfl
  have aq:decide (k<g.length)=false:=aJ B;have ab:k=g.length:=oM;(have C:O (fU y g ns=some d):=by show _=_;rw[HE.o,ab];exact aA3 _ _ _);clear ab
  go_wp2_with(first
   |(refine nE (bF rfl) _ rfl _ rfl d x.o.box x.o.wf ?_)
   |(refine EO rfl _ _ rfl _ rfl uV d rfl x.o.res ⟨rfl,rfl⟩ x.o.wf ?_))
  refine dF (Bc rfl rfl (Dw x.o.res) x.o.wf) rfl ⟨?_,SS x.o.j (lX _)⟩;unfold rY;rw[C.o];rfl
section
variable {σ:Type}
def gG(step:σ->bK->σ×Bool):σ->List bK->σ×Bool
 |s,[]=>(s,true)
 |s,x::L=>if(step s x).2=true then gG step (step s x).1 L else((step s x).1,false)
def ET(step:σ->bK->σ×Bool)(b:σ->bK->Prop):σ->List bK->Prop
 |_,[]=>True
 |s,x::L=>b s x/\((step s x).2=true->ET step b (step s x).1 L)
theorem rW(step:σ->bK->σ×Bool)(s:σ)(x:bK)(L:List bK):gG step s (x::L)=if(step s x).2=true then gG step (step s x).1 L else((step s x).1,false):=rfl
theorem SD(step:σ->bK->σ×Bool):∀(L M:List bK)(s:σ),gG step s (L++M)=if(gG step s L).2=true then gG step (gG step s L).1 M else((gG step s L).1,false)
 |[],M,s=>by rw[qB];show _=if true=true then gG step s M else _;rw[if_pos rfl]
 |x::L,M,s=>by
  rw[Dc,rW,rW];by_cases h:(step s x).2=true
  ·rw[if_pos h,if_pos h,SD step L M]
  rw[if_neg h,if_neg h];rfl
theorem Ab(step:σ->bK->σ×Bool)(f:bK->List bK):∀(L:List bK)(s:σ),gG step s (L.flatMap f)=gG (fun s x=>gG step s (f x)) s L
 |[],s=>rfl
 |x::L,s=>by rw[List.flatMap_cons,SD];show _=if(gG step s (f x)).2=true then gG (fun s x=>gG step s (f x)) (gG step s (f x)).1 L else((gG step s (f x)).1,false);rw[Ab step f L]
theorem LY(step:σ->bK->σ×Bool)(e:σ->bK->Prop):∀(L M:List bK)(s:σ),ET step e s (L++M)->ET step e s L/\((gG step s L).2=true->ET step e (gG step s L).1 M)
 |[],M,s,h=>⟨trivial,fun _=>h⟩
 |x::L,M,s,h=>by
  obtain⟨g,f⟩:=h;refine⟨⟨g,fun d=>(LY step e L M _ (f d)).1⟩,fun b=>?_⟩;rw[rW]at b ⊢;by_cases d:(step s x).2=true
  ·rw[if_pos d]at b ⊢;exact(LY step e L M _ (f d)).2 b
  rw[if_neg d]at b;cases b
theorem Gc(step:σ->bK->σ×Bool)(b:σ->bK->Prop)(f:bK->List bK):∀(L:List bK)(s:σ),ET step b s (L.flatMap f)->ET (fun s x=>gG step s (f x)) (fun s x=>ET step b s (f x)) s L
 |[],s,_=>trivial
 |x::L,s,h=>by rw[List.flatMap_cons]at h;obtain⟨d,e⟩:=LY step b _ _ _ h;exact⟨d,fun g=>Gc step b f L _ (e g)⟩
end
structure Kp (n0 NB:Nat) (w w':World):Prop where
 os:w'.os=w.os
 tape:w'.tape=w.tape
 output:w'.output=w.output
 size:w.heap.size<=w'.heap.size
 low:∀k,k<n0->w'.heap[k]?=w.heap[k]?
 keep:∀k c t,w.heap[k]?=some (.cells c t)->k≠NB->t≠22->w'.heap[k]?=some (.cells c t)
theorem Kp.refl(b NB:Nat)(w:World):Kp b NB w w:=⟨rfl,rfl,rfl,aE _,fun _ _=>rfl,fun _ _ _ h _ _=>h⟩
theorem Kp.trans{e NB:Nat}{a b c:World}(h:Kp e NB a b)(k:Kp e NB b c):Kp e NB a c:=
 ⟨k.os.trans h.os,k.tape.trans h.tape,k.output.trans h.output,bH h.size k.size,fun j d=>(k.low j d).trans (h.low j d),fun j o t d f g=>k.keep j o t (h.keep j o t d f g) f g⟩
theorem Kp.of_below{d NB:Nat}{w w':World}(h:Below w.heap.size w w')(e:d<=w.heap.size):Kp d NB w w':=
 ⟨h.os,h.tape,h.output,h.size,fun k b=>h.block k (dQ b e),fun k _ _ b _ _=>(h.block k (bP b)).trans b⟩
theorem Kp.u{d NB:Nat}{f w w':World}(h:Kp d NB w w')(b:Below d f w):Below d f w':=
 ⟨h.os.trans b.os,h.tape.trans b.tape,h.output.trans b.output,bH b.size h.size,fun k e=>(h.low k e).trans (b.block k e)⟩
theorem Kp.way{f NB:Nat}{w w':World}(h:Kp f NB w w'){b:Nat}{y:bK}(e:b≠NB)(d:kG w b y):kG w' b y:=h.keep b _ _ d e dE
structure WC (n0 NB h:Nat) (cb:Array Value) {σ:Type} (step:σ->bK->σ×Bool) (live:σ->bK->Prop) (I:σ->World->Prop):Prop where
 call:∀s w x,I s w->live s x->jI 8 x->Calls Tryz.prog h (#[eW x]++cb) w fun e w'=>e=.returned (.bool (step s x).2)/\I (step s x).1 w'/\Kp n0 NB w w'
 grow:∀s w w',I s w->Below w.heap.size w w'->I s w'
 room:∀s w,I s w->n0<=w.heap.size/\NB<w.heap.size
def sH(l:cI)(y:bK)(f:aN):Option bK:=if f.z=l.z then fU y l.p f.args else none
theorem aL9{facts:List aN}{l:cI}{y:bK}(h:l.kind=1):kF facts l y=facts.filterMap (sH l y):=by unfold kF;rw[if_pos h];rfl
theorem aEC(l:cI)(y:bK)(facts:List aN)(k:Nat)(h:k<facts.length):(facts.drop k).filterMap (sH l y)=(sH l y (aZ facts k)).toList++(facts.drop (k+1)).filterMap (sH l y):=by rw[GV facts k h,pA];cases sH l y (aZ facts k)<;>rfl
theorem aFR{σ:Type}{step:σ->bK->σ×Bool}{a1:σ->bK->Prop}{I:σ->World->Prop}{NB hh:Nat}{cb:Array Value}(facts:List aN)(l:cI)(y:bK)(vf vt:Value)(q w:World)(s:σ)
 (am:Below q.heap.size q w) (hF:dA q vf facts) (b3:facts.length<=1000000) (hT:fT q vt l.p) (aw:gX 8 l.p) (hA:∀f,f∈facts->f.z=l.z->l.p.length=f.args.length) (b0:l.p.length<=1000) (hy:jI 8 y)
 (Z:WC q.heap.size NB hh cb step a1 I) (he:∀al w,(callFunc hh al).run Tryz.prog w=.ok (.enter hh al) w) (hI:I s w) (ar:ET step a1 s (facts.filterMap (sH l y))):
 Calls Tryz.prog 184 #[vf,nR l vt,eW y, .func (.func hh) #[] cb] w fun e w'=>e=.returned (.bool (gG step s (facts.filterMap (sH l y))).2)/\I (gG step s (facts.filterMap (sH l y))).1 w'/\Kp q.heap.size NB w w':=by
 obtain⟨ao,b2,rfl,_,an⟩:=hF;have HT:O _:=hT;obtain⟨at_,M,rfl,_⟩:=id hT;obtain⟨j,m,g,d⟩:=l;dsimp only at *;obtain⟨h0,h1,hb⟩:=KK w (.cells #[.int .i64 j, .int .i64 m, .int .i64 g, .slice at_ d.length M] 49) (.cells (eA y) 138);have C:O _:=h0;have Q:O (kG ((w.alloc (.cells #[.int .i64 j, .int .i64 m, .int .i64 g, .slice at_ d.length M] 49)).alloc (.cells (eA y) 138)) (w.heap.size+1) y):=h1;have a7:=Z.room s w hI;have B:O _:=Z.grow _ _ _ hI hb;have HK:O (Kp q.heap.size NB w ((w.alloc (.cells #[.int .i64 j, .int .i64 m, .int .i64 g, .slice at_ d.length M] 49)).alloc (.cells (eA y) 138))):=Kp.of_below hb a7.1;have a8:O _:=am;have ay:O _:=an;have HA:O _:=hA;have aT:O _:=aw;have D:O _:=ar;have E:O _:=Z;have b4:=a7.2;clear h0 h1 hb hT hI a7 am an hA aw ar Z
 go_enter Tryz.func184,Tryz.ntmps184
 go_wp2_with fail;generalize (w.alloc (.cells #[.int .i64 j, .int .i64 m, .int .i64 g, .slice at_ d.length M] 49)).alloc (.cells (eA y) 138)=w1 at *;go_loopw [15] (fun i wr=>∃(k:Nat)(n:σ),k<=facts.length/\i=.int .i64 k/\O (I n wr)/\O (Kp q.heap.size NB w wr)/\O (wr.heap[w.heap.size]?=some (.cells #[.int .i64 j, .int .i64 m, .int .i64 g, .slice at_ d.length M] 49))/\O (kG wr (w.heap.size+1) y)/\O (gG step s (facts.filterMap (sH ⟨j,m,g,d⟩ y))=gG step n ((facts.drop k).filterMap (sH ⟨j,m,g,d⟩ y)))/\O (ET step a1 n ((facts.drop k).filterMap (sH ⟨j,m,g,d⟩ y)))) (fun i _=>facts.length-(intOf i).toNat);case atStart=>exact⟨0,s,bG _,rfl,B.o,HK.o,C.o,Q.o,rfl,D.o⟩
 case round=>
  clear B HK C Q D;obtain⟨k,n,hk,rfl,B,HK,C,Q,P,D⟩:=hrel;by_cases F:k<facts.length
  ·have a3:O (Below q.heap.size q wr):=HK.o.u a8.o;obtain⟨b,b6,rfl,p0,fv,p1,aq⟩:=qJ ay.o k F;have q0:=aB a3.o p0;have q1:=aB a3.o p1;have az:O (dM q fv (aZ facts k).args):=aq;obtain⟨af,cf,rfl,_⟩:=aq;have H:O _:=aEC ⟨j,m,g,d⟩ y facts k F;have ax:O ((aZ facts k).z=g->d.length=(aZ facts k).args.length):=HA.o _ (mT facts k F);clear p0 p1;generalize aZ facts k=f at *;(have d2:wr.cell? ⟨w.heap.size,2,none⟩=some (.int .i64 g):=cH C.o);go_upto_region 4 with fail;have R:=(aH wr.heap.size wr).alloc (aE _) (.cells #[.int .i64 f.z, .slice af f.args.length cf] 55);have av:=aR wr (.cells #[.int .i64 f.z, .slice af f.args.length cf] 55);have a6:O _:=av;have V:O _:=E.o.grow _ _ _ B.o R;have W:O _:=HK.o.trans (Kp.of_below R (E.o.room _ _ B.o).1);have J:O _:=(R.block _ (bP C.o)).trans C.o;have X:O _:=Q.o.u R;clear q0 q1 d2 R av B HK C Q a3;generalize wr.alloc (.cells #[.int .i64 f.z, .slice af f.args.length cf] 55)=N at *;generalize wr.heap.size=TB at *;(have f0:N.cell? ⟨TB,0,none⟩=some (.int .i64 f.z):=cH a6.o);(have f1:N.cell? ⟨TB,1,none⟩=some (.slice af f.args.length cf):=cH a6.o);(have d2:N.cell? ⟨w.heap.size,2,none⟩=some (.int .i64 g):=cH J.o);(have d3:N.cell? ⟨w.heap.size,3,none⟩=some (.slice at_ d.length M):=cH J.o);by_cases v:f.z=g
   ·(have g1:(f.z==g)=true:=by simpa using v);(have g2:(f.z != g)=false:=by simpa using v);(have K:O (sH ⟨j,m,g,d⟩ y f=fU y d f.args):=by show _=_;unfold sH;rw[if_pos v]);have aI:O _:=ax.o v;have a2:O (Below q.heap.size q N):=W.o.u a8.o;clear v;go_wp2_with(refine nE (bF rfl) _ rfl _ rfl y X.o hy ?_);refine Calls.mono (aHB y d f.args _ _ N hy (dS HT.o a2.o) (aM az.o a2.o) aI.o b0 aT.o) ?_;rintro _ r ⟨rfl,T⟩;have a4:O _:=E.o.grow _ _ _ V.o T;have ab:O _:=W.o.trans (Kp.of_below T (E.o.room _ _ V.o).1);have a5:O _:=(T.block _ (bP J.o)).trans J.o;have ai:O (kG r (w.heap.size+1) y):=kG.u X.o T;have au:=(E.o.room _ _ a4.o);clear T f0 f1 d2 d3 g1 g2 V W J X a6 a2;have Y:O (jI 8 (rY y d f.args)):=by
     show jI 8 _;unfold rY
     cases G:fU y d f.args with
     |none=>exact⟨rfl,rfl⟩
     |some z=>exact tB hy G
    have S:=(aH r.heap.size r).alloc (aE _) (.cells (eA (rY y d f.args)) 138);have a9:O _:=E.o.grow _ _ _ a4.o S;have ac:O _:=ab.o.trans (Kp.of_below S au.1);have ae:O _:=(S.block _ (bP a5.o)).trans a5.o;have aj:O _:=kG.u ai.o S;have ak:O (kG (r.alloc (.cells (eA (rY y d f.args)) 138)) r.heap.size (rY y d f.args)):=aR r _;clear S au;go_upto_region 6 with(refine EO rfl _ _ rfl r.heap.size rfl uV (rY y d f.args) rfl (aR r _) ⟨rfl,rfl⟩ Y.o ?_;rw[World.setRow_alloc_new]);generalize r.alloc (.cells (eA (rY y d f.args)) 138)=w3 at *;generalize r.heap.size=ZB at *;clear a4 ab a5 ai
    cases G:fU y d f.args with
    |none=>
     have L:O (sH ⟨j,m,g,d⟩ y f=none):=K.o.trans G;have hs:(none:Option bK).isSome=false:=rfl;clear G;go_wp2_with fail;go_roundw;(case rel=>exact⟨k+1,n,F,gN,a9.o,ac.o,ae.o,aj.o,by show _=_;rw[P.o,H.o,L.o];rfl,by have x:=D.o;rw[H.o,L.o]at x;exact x⟩);case measure=>exact mI
    |some z=>
     have L:O (sH ⟨j,m,g,d⟩ y f=some z):=K.o.trans G;(have hz:rY y d f.args=z:=by unfold rY;rw[G];rfl);rw[hz]at ak Y;(have ag:O (ET step a1 n (z::(facts.drop (k+1)).filterMap (sH ⟨j,m,g,d⟩ y))):=by have x:=D.o;rw[H.o,L.o]at x;exact x);(have ah:O (gG step s (facts.filterMap (sH ⟨j,m,g,d⟩ y))=gG step n (z::(facts.drop (k+1)).filterMap (sH ⟨j,m,g,d⟩ y))):=by show _=_;rw[P.o,H.o,L.o];rfl);clear G hz D P K L;go_wp2_with(refine nE (by first|exact bF rfl|exact EH rfl rfl rfl rfl) _ rfl _ rfl z ak.o Y.o ?_);refine Calls.mono (E.o.call n w3 z a9.o ag.o.1 Y.o) ?_;rintro e w4 ⟨b1,ap,a0⟩;subst b1;have aa:O _:=ap;have ad:O _:=ac.o.trans a0;have aF:O _:=a0.keep _ _ _ ae.o oM dE;have aV:O _:=a0.way oM aj.o;clear ap a0;cases U:(step n z).2
     ·(have A:O (gG step s (facts.filterMap (sH ⟨j,m,g,d⟩ y))=((step n z).1,false)):=by show _=_;rw[ah.o,rW,U];rfl);clear U;go_wp2_with fail;go_ret;exact⟨by rw[A.o];rfl,by rw[A.o];exact aa.o,ad.o⟩
     (have A:O (gG step s (facts.filterMap (sH ⟨j,m,g,d⟩ y))=gG step (step n z).1 ((facts.drop (k+1)).filterMap (sH ⟨j,m,g,d⟩ y))):=by show _=_;rw[ah.o,rW,if_pos U]);have aS:O _:=ag.o.2 U;clear U;go_wp2_with fail;go_roundw;(case rel=>exact⟨k+1,_,F,gN,aa.o,ad.o,aF.o,aV.o,A.o,aS.o⟩);case measure=>exact mI
   (have g1:(f.z==g)=false:=by simpa using v);(have g2:(f.z != g)=true:=by simpa using v);(have K:O (sH ⟨j,m,g,d⟩ y f=none):=by show _=_;unfold sH;rw[if_neg v]);clear v;go_wp2_with fail;go_roundw;(case rel=>exact⟨k+1,n,F,gN,V.o,W.o,J.o,X.o,by show _=_;rw[P.o,H.o,K.o];rfl,by have x:=D.o;rw[H.o,K.o]at x;exact x⟩);case measure=>exact mI
  (have A:O (gG step s (facts.filterMap (sH ⟨j,m,g,d⟩ y))=(n,true)):=by show _=_;rw[P.o,bD oM];rfl);have b5:decide (k<facts.length)=false:=aJ F;go_wp2_with fail;go_ret;exact⟨by rw[A.o];rfl,by rw[A.o];exact B.o,HK.o⟩
section
variable {P:Program} {ops:Array Oper} {Q:Exit->Act->World->Prop} {i:Nat} {o:Oper} {K:Act->World->Prop} {a:Act} {w:World}
theorem ZA{f:FuncId}{args:Array Value}(g:ops[i]?=some o)(k:Region.wanted o (yielded ops a.tmps)=true)(j:(execOp a.eval o).run P w=.ok (.enter f args) w)
 (d:Calls P f args w fun e b=>∃v,e=.returned v/\K (a.put o.dst v) b):wpOp P ops Q i K a w:=by
 unfold wpOp;rw[g];dsimp only;rw[if_pos k];left;unfold Oper.wp;rw[j,Oper.upon_enter];refine Calls.mono d ?_;rintro e b ⟨v,rfl,h⟩;exact h
end
def aR0(X:Nat)(f g:Value)(d:Int)(y:bK)(hh:Nat)(cb:Array Value)(e:Nat)(b:Value):Prop:=
 match e with
 |23=>b=(f:Value)
 |24=>b=(.pointer (some ⟨X,2,none⟩):Value)
 |25=>b=(.int .i64 d:Value)
 |26=>b=(.pointer (some ⟨X,3,none⟩):Value)
 |27=>b=(g:Value)
 |28=>b=(.pointer (some ⟨X+1,0,none⟩):Value)
 |29=>b=(.slice (some ⟨X+1,0,none⟩) 8 8:Value)
 |31=>b=(.bool false:Value)
 |32=>b=(.bool false:Value)
 |33=>b=(.func (.func hh) #[] cb:Value)
 |34=>b=(eW y:Value)
 |_=>True
def Dv(X:Nat)(g i:Value)(b:Int)(j:List Int)(y:bK)(hh:Nat)(cb:Array Value)(d:Nat)(e:Value)(f:World):Prop:=if d=30 then∃u,e=.agg #[.int .i64 b,u]/\dM f u j else aR0 X g i b y hh cb d e
theorem aBV(X:Nat)(f g:Value)(d:Int)(i:List Int)(y:bK)(hh:Nat)(cb:Array Value)(b:Nat)(e:Value)(W W':World)(l:Below W.heap.size W W')(h:Dv X f g d i y hh cb b e W):Dv X f g d i y hh cb b e W':=by
 unfold Dv at h ⊢;by_cases ht:b=30
 ·rw[if_pos ht]at h ⊢;obtain⟨u,j,k⟩:=h;exact⟨u,j,aM k l⟩
 rw[if_neg ht]at h ⊢;exact h
def aR1(X:Nat)(f g:Value)(d:Int)(e:Nat)(b:Value):Prop:=
 match e with
 |23=>b=(f:Value)
 |24=>b=(.pointer (some ⟨X,2,none⟩):Value)
 |25=>b=(.int .i64 d:Value)
 |26=>b=(.pointer (some ⟨X,3,none⟩):Value)
 |27=>b=(g:Value)
 |28=>b=(.pointer (some ⟨X+1,0,none⟩):Value)
 |29=>b=(.slice (some ⟨X+1,0,none⟩) 8 8:Value)
 |31=>b=(.bool true:Value)
 |32=>b=(.bool true:Value)
 |33=>b=undef
 |34=>b=undef
 |35=>b=undef
 |36=>b=.bool true
 |8=>b=.bool true
 |_=>True
def WZ(X:Nat)(g i:Value)(b:Int)(j:List Int)(d:Nat)(e:Value)(f:World):Prop:=if d=30 then∃u,e=.agg #[.int .i64 b,u]/\dM f u j else aR1 X g i b d e
theorem aBW(X:Nat)(f g:Value)(d:Int)(i:List Int)(b:Nat)(e:Value)(W W':World)(l:Below W.heap.size W W')(h:WZ X f g d i b e W):WZ X f g d i b e W':=by
 unfold WZ at h ⊢;by_cases ht:b=30
 ·rw[if_pos ht]at h ⊢;obtain⟨u,j,k⟩:=h;exact⟨u,j,aM k l⟩
 rw[if_neg ht]at h ⊢;exact h
theorem aNA{σ:Type}{step:σ->bK->σ×Bool}{an:σ->bK->Prop}{I:σ->World->Prop}{NB hh:Nat}{cb:Array Value}(facts:List aN)(l:cI)(y:bK)(x vt:Value)(A w:World)(s:σ)
 (ab:Below A.heap.size A w) (hF:dA A x facts) (b6:facts.length<=1000000) (ac:∀f,f∈facts->fW f) (Q:fT A vt l.p) (ae:gX 8 l.p) (b7:l.p.length<=1000) (J:jI 8 y) (hk:l.kind=2)
 (E:WC A.heap.size NB hh cb step an I) (he:∀aa w,(callFunc hh aa).run Tryz.prog w=.ok (.enter hh aa) w) (r:I s w) (P:ET step an s (kF facts l y)):
 Calls Tryz.prog 145 #[x,nR l vt,eW y, .func (.func hh) #[] cb] w fun e w'=>e=.returned (.bool (gG step s (kF facts l y)).2)/\I (gG step s (kF facts l y)).1 w'/\Kp A.heap.size NB w w':=by
 have HT:O _:=Q;obtain⟨at_,q,rfl,_⟩:=id Q;obtain⟨kd,z,i,d⟩:=l;dsimp only at *;subst hk;(have ag:kF facts ⟨2,z,i,d⟩ y=if jZ facts ⟨i,bQ d y.y⟩=true then [] else [y]:=by unfold kF;rfl);generalize b1:kF facts ⟨2,z,i,d⟩ y=X at *;have M:O _:=ag;clear ag b1;obtain⟨F,h1,hb⟩:=KK w (.cells #[.int .i64 2, .int .i64 z, .int .i64 i, .slice at_ d.length q] 49) (.cells (eA y) 138);have b3:=E.room s w r;have HL:O _:=F;have W:O (kG ((w.alloc (.cells #[.int .i64 2, .int .i64 z, .int .i64 i, .slice at_ d.length q] 49)).alloc (.cells (eA y) 138)) (w.heap.size+1) y):=h1;have S:O _:=E.grow _ _ _ r hb;have HK:O (Kp A.heap.size NB w ((w.alloc (.cells #[.int .i64 2, .int .i64 z, .int .i64 i, .slice at_ d.length q] 49)).alloc (.cells (eA y) 138))):=Kp.of_below hb b3.1;have a0:=HK.o.u ab;have a9:O _:=dS Q a0;have a7:O _:=bR hF a0;have a5:O _:=ac;have V:O _:=E;have aq:O _:=J;(have a8:O (gX y.y.length d):=by show gX _ _;rw[J.n];exact ae);(have a6:O (fW ⟨i,bQ d y.y⟩):=by show(bQ d y.y).length<=_;unfold bQ;rw[aP];omega);(have d0:((w.alloc (.cells #[.int .i64 2, .int .i64 z, .int .i64 i, .slice at_ d.length q] 49)).alloc (.cells (eA y) 138)).cell? ⟨w.heap.size,0,none⟩=some (.int .i64 2):=cH F);(have d2:((w.alloc (.cells #[.int .i64 2, .int .i64 z, .int .i64 i, .slice at_ d.length q] 49)).alloc (.cells (eA y) 138)).cell? ⟨w.heap.size,2,none⟩=some (.int .i64 i):=cH F);(have d3:((w.alloc (.cells #[.int .i64 2, .int .i64 z, .int .i64 i, .slice at_ d.length q] 49)).alloc (.cells (eA y) 138)).cell? ⟨w.heap.size,3,none⟩=some (.slice at_ d.length q):=cH F);have ah:=E.room _ _ S.o;clear F h1 hb Q r ab hF ac ae E a0 HT HL
 go_enter Tryz.func145,Tryz.ntmps145
 go_upto_region 5 with fail;generalize (w.alloc (.cells #[.int .i64 2, .int .i64 z, .int .i64 i, .slice at_ d.length q] 49)).alloc (.cells (eA y) 138)=w1 at *;cases C:jZ facts ⟨i,bQ d y.y⟩
 ·have R:O _:=C;(have U:O (X=[y]):=by show _=_;rw[M.o,C];rfl);rw[U.o]at P;have ap:O _:=P.1;(have D:O (gG step s X=((step s y).1,(step s y).2)):=by show _=_;rw[U.o,rW];cases hq:(step s y).2<;>rfl);clear C P M U;refine kU (Dv w.heap.size x (.slice at_ d.length q) i (bQ d y.y) y hh cb) 12 dE kR kR kR (aBV w.heap.size x (.slice at_ d.length q) i (bQ d y.y) y hh cb) ?hopA ?htailA
  case hopA=>
   refine oC (fun a g h=>by have e0:a.eval (.tmp 0)=(x:Value):=h.old 0;exact jC x) ?_;refine oC (fun a g h=>by have Y:a.eval (.tmp 5)=(.pointer (some ⟨w.heap.size,0,none⟩):Value):=h.old 5;exact jC (.pointer (some ⟨w.heap.size,2,none⟩))) ?_;refine oC (fun a g h=>by have au:a.eval (.tmp 24)=(.pointer (some ⟨w.heap.size,2,none⟩):Value):=h.of 24;have c2:=aB h.u d2;exact jC (.int .i64 i)) ?_;refine oC (fun a g h=>by have Y:a.eval (.tmp 5)=(.pointer (some ⟨w.heap.size,0,none⟩):Value):=h.old 5;exact jC (.pointer (some ⟨w.heap.size,3,none⟩))) ?_;refine oC (fun a g h=>by have aw:a.eval (.tmp 26)=(.pointer (some ⟨w.heap.size,3,none⟩):Value):=h.of 26;have c3:=aB h.u d3;exact jC (.slice at_ d.length q)) ?_;refine oC (fun a g h=>by have Z:a.eval (.tmp 6)=(.pointer (some ⟨w.heap.size+1,0,none⟩):Value):=h.old 6;exact jC (.pointer (some ⟨w.heap.size+1,0,none⟩))) ?_;refine oC (fun a g h=>by have ay:a.eval (.tmp 28)=(.pointer (some ⟨w.heap.size+1,0,none⟩):Value):=h.of 28;exact jC (.slice (some ⟨w.heap.size+1,0,none⟩) 8 8)) ?_;refine oC (fun a g h=>?_) ?_
   ·have av:a.eval (.tmp 25)=(.int .i64 i:Value):=h.of 25;have ax:a.eval (.tmp 27)=(.slice at_ d.length q:Value):=h.of 27;have az:a.eval (.tmp 29)=(.slice (some ⟨w.heap.size+1,0,none⟩) 8 8:Value):=h.of 29;refine iC (f:=57) (args:=#[.int .i64 i, .slice at_ d.length q, .slice (some ⟨w.heap.size+1,0,none⟩) 8 8]) (bF rfl) ?_ ?_
    ·have ec:=qM a;have ef:=IM a;generalize a.eval=ev at *;clear h;go_simp
    refine Calls.mono (BF i d y.y _ _ g (dS a9.o h.u) (kG.ints (kG.u W.o h.u) J) oM a8.o) ?_;rintro _ y2 ⟨v,rfl,hv,B⟩;exact⟨_,rfl,fun t ht=>by cases ht;exact⟨v,rfl,hv.ints⟩,B⟩
   refine oC (fun a g h=>?_) ?_
   ·have ar:a.eval (.tmp 23)=(x:Value):=h.of 23;obtain⟨u,aF,hu⟩:∃u,a.eval (.tmp 30)=.agg #[.int .i64 i,u]/\dM g u (bQ d y.y):=h.of 30;refine iC (f:=185) (args:=#[x, .agg #[.int .i64 i,u]]) (bF rfl) ?_ ?_
    ·have ec:=qM a;have ef:=IM a;generalize a.eval=ev at *;clear h;go_simp
    refine Calls.mono (aKN facts ⟨i,bQ d y.y⟩ _ _ g (bR a7.o h.u) hu oM a5.o a6.o) ?_;rintro _ y2 ⟨rfl,B⟩;exact⟨_,rfl,fun t ht=>by cases ht;exact congrArg Value.bool R.o,B⟩
   refine oC (fun a g h=>by have aI:a.eval (.tmp 31)=(.bool false:Value):=h.of 31;exact jC (.bool false)) ?_;refine oC (fun a g h=>by have e3:a.eval (.tmp 3)=(.func (.func hh) #[] cb:Value):=h.old 3;refine fC (v:=.func (.func hh) #[] cb) (w':=g) (wG (h.of 32)) ?_ tR (aH _ _);have ec:=qM a;generalize a.eval=ev at *;clear h;go_simp) ?_;refine oC (fun a g h=>by have Z:a.eval (.tmp 6)=(.pointer (some ⟨w.heap.size+1,0,none⟩):Value):=h.old 6;refine fC (v:=eW y) (w':=g) (wG (h.of 32)) ?_ tR (aH _ _);exact sN rfl Z (kG.u W.o h.u) J) ?_;exact JL.nil
  case htailA=>
   rintro⟨k,m⟩ g r;have aS:Act.eval ⟨k,m⟩ (.tmp 33)=.func (.func hh) #[] cb:=r.all 10 _ 33 dE rfl rfl;have aT:Act.eval ⟨k,m⟩ (.tmp 34)=eW y:=r.all 11 _ 34 dE rfl rfl;have N:k.getD 32 undef=.bool false:=r.all 9 _ 32 dE rfl rfl;have ak:k.size=97:=r.size;show wpOps Tryz.prog _ _ [12,13,14] _ _;rw[iO];refine ZA (f:=hh) (args:=#[eW y]++cb) rfl (EH (j:=9) (t:=32) (b:=false) rfl rfl rfl N) ?_ ?_
   ·show Sem.run Tryz.prog (execOp (Act.eval ⟨k,m⟩) _) g=_;generalize Act.eval ⟨k,m⟩=ev at *;clear r;go_simp
   refine Calls.mono (V.o.call s g y (V.o.grow _ _ _ S.o r.u) ap.o aq.o) ?_;rintro eR L ⟨af,aV,b0⟩;refine⟨_,af,?_⟩;rw[iO];refine uM (v:=(.bool (step s y).2)) (w':=L) rfl (bF rfl) ?_ ?_
   ·have q1:Act.eval (Act.put ⟨k,m⟩ (some 35) (.bool (step s y).2)) (.tmp 32)=.bool false:=(gB (a:=⟨k,m⟩) (t:=35) (u:=32) dE).trans N;have q2:Act.eval (Act.put ⟨k,m⟩ (some 35) (.bool (step s y).2)) (.tmp 35)=(.bool (step s y).2):=iF (by show 35<k.size;omega);have ec:∀v,Act.eval (Act.put ⟨k,m⟩ (some 35) (.bool (step s y).2)) (.const v)=v:=fun _=>rfl;show Sem.run Tryz.prog (execOp (Act.eval (Act.put ⟨k,m⟩ (some 35) (.bool (step s y).2))) _) L=_;generalize Act.eval (Act.put ⟨k,m⟩ (some 35) (.bool (step s y).2))=ev at *;clear r;go_simp
   rw[iO];refine uM (v:=(.bool (step s y).2)) (w':=L) rfl (bF rfl) ?_ ?_
   ·have q2:Act.eval (Act.put (Act.put ⟨k,m⟩ (some 35) (.bool (step s y).2)) (some 36) (.bool (step s y).2)) (.tmp 36)=(.bool (step s y).2):=iF (by rw[uJ];show 36<k.size;omega);show Sem.run Tryz.prog (execOp (Act.eval (Act.put (Act.put ⟨k,m⟩ (some 35) (.bool (step s y).2)) (some 36) (.bool (step s y).2))) _) L=_;generalize Act.eval (Act.put (Act.put ⟨k,m⟩ (some 35) (.bool (step s y).2)) (some 36) (.bool (step s y).2))=ev at *;clear r;go_simp
   (have al:∀t,t∉[23,24,25,26,27,28,29,30,31,32,33,34,35,36,8]->(((k.setIfInBounds 35 (.bool (step s y).2)).setIfInBounds 36 (.bool (step s y).2)).setIfInBounds 8 (.bool (step s y).2)).getD t undef=_:=fun t ht=>by have hA:t≠35:=fun e=>ht (by rw[e];decide);have hB:t≠36:=fun e=>ht (by rw[e];decide);have hC:t≠8:=fun e=>ht (by rw[e];decide);exact((gB (a:=(Act.put (Act.put ⟨k,m⟩ (some 35) (.bool (step s y).2)) (some 36) (.bool (step s y).2))) hC).trans ((gB (a:=Act.put ⟨k,m⟩ (some 35) (.bool (step s y).2)) hB).trans (gB (a:=⟨k,m⟩) hA))).trans (r.still t ht));have G:(((k.setIfInBounds 35 (.bool (step s y).2)).setIfInBounds 36 (.bool (step s y).2)).setIfInBounds 8 (.bool (step s y).2)).getD 8 undef=(.bool (step s y).2):=iF (a:=(Act.put (Act.put ⟨k,m⟩ (some 35) (.bool (step s y).2)) (some 36) (.bool (step s y).2))) (by rw[uJ,uJ];show 8<k.size;omega);have a3:Kp A.heap.size NB _ _:=Kp.of_below r.u ah.1;obtain rfl:m=[]:=r.defers;(have ai:(((k.setIfInBounds 35 (.bool (step s y).2)).setIfInBounds 36 (.bool (step s y).2)).setIfInBounds 8 (.bool (step s y).2)).size=97:=by simp[ak]);clear r aS aT N ak af;show Exit.then _ _ Exit.normal ⟨(((k.setIfInBounds 35 (.bool (step s y).2)).setIfInBounds 36 (.bool (step s y).2)).setIfInBounds 8 (.bool (step s y).2)),[]⟩ L;generalize (((k.setIfInBounds 35 (.bool (step s y).2)).setIfInBounds 36 (.bool (step s y).2)).setIfInBounds 8 (.bool (step s y).2))=K at *;obtain⟨fQ,H,a1⟩:=pQ [23,24,25,26,27,28,29,30,31,32,33,34,35,36,8] K _ (ai.trans rF) al;clear ai al;simp only[List.foldl_cons,List.foldl_nil,(H 8).trans G]at a1;clear G H;simp only[List.setIfInBounds_toArray,List.set_cons_zero,List.set_cons_succ]at a1;subst a1;go_wp2_with fail;go_ret;exact⟨by rw[D.o];rfl,by rw[D.o];exact aV,HK.o.trans (a3.trans b0)⟩
 have R:O _:=C;(have D:O (gG step s X=(s,true)):=by show _=_;rw[M.o,C];rfl);clear C P M;refine nF (WZ w.heap.size x (.slice at_ d.length q) i (bQ d y.y)) kR kR (aBW w.heap.size x (.slice at_ d.length q) i (bQ d y.y)) ?hopB ?hendB
 case hopB=>
  refine oC (fun a g h=>by have e0:a.eval (.tmp 0)=(x:Value):=h.old 0;exact jC x) ?_;refine oC (fun a g h=>by have Y:a.eval (.tmp 5)=(.pointer (some ⟨w.heap.size,0,none⟩):Value):=h.old 5;exact jC (.pointer (some ⟨w.heap.size,2,none⟩))) ?_;refine oC (fun a g h=>by have au:a.eval (.tmp 24)=(.pointer (some ⟨w.heap.size,2,none⟩):Value):=h.of 24;have c2:=aB h.u d2;exact jC (.int .i64 i)) ?_;refine oC (fun a g h=>by have Y:a.eval (.tmp 5)=(.pointer (some ⟨w.heap.size,0,none⟩):Value):=h.old 5;exact jC (.pointer (some ⟨w.heap.size,3,none⟩))) ?_;refine oC (fun a g h=>by have aw:a.eval (.tmp 26)=(.pointer (some ⟨w.heap.size,3,none⟩):Value):=h.of 26;have c3:=aB h.u d3;exact jC (.slice at_ d.length q)) ?_;refine oC (fun a g h=>by have Z:a.eval (.tmp 6)=(.pointer (some ⟨w.heap.size+1,0,none⟩):Value):=h.old 6;exact jC (.pointer (some ⟨w.heap.size+1,0,none⟩))) ?_;refine oC (fun a g h=>by have ay:a.eval (.tmp 28)=(.pointer (some ⟨w.heap.size+1,0,none⟩):Value):=h.of 28;exact jC (.slice (some ⟨w.heap.size+1,0,none⟩) 8 8)) ?_;refine oC (fun a g h=>?_) ?_
  ·have av:a.eval (.tmp 25)=(.int .i64 i:Value):=h.of 25;have ax:a.eval (.tmp 27)=(.slice at_ d.length q:Value):=h.of 27;have az:a.eval (.tmp 29)=(.slice (some ⟨w.heap.size+1,0,none⟩) 8 8:Value):=h.of 29;refine iC (f:=57) (args:=#[.int .i64 i, .slice at_ d.length q, .slice (some ⟨w.heap.size+1,0,none⟩) 8 8]) (bF rfl) ?_ ?_
   ·have ec:=qM a;have ef:=IM a;generalize a.eval=ev at *;clear h;go_simp
   refine Calls.mono (BF i d y.y _ _ g (dS a9.o h.u) (kG.ints (kG.u W.o h.u) J) oM a8.o) ?_;rintro _ y2 ⟨v,rfl,hv,B⟩;exact⟨_,rfl,fun t ht=>by cases ht;exact⟨v,rfl,hv.ints⟩,B⟩
  refine oC (fun a g h=>?_) ?_
  ·have ar:a.eval (.tmp 23)=(x:Value):=h.of 23;obtain⟨u,aF,hu⟩:∃u,a.eval (.tmp 30)=.agg #[.int .i64 i,u]/\dM g u (bQ d y.y):=h.of 30;refine iC (f:=185) (args:=#[x, .agg #[.int .i64 i,u]]) (bF rfl) ?_ ?_
   ·have ec:=qM a;have ef:=IM a;generalize a.eval=ev at *;clear h;go_simp
   refine Calls.mono (aKN facts ⟨i,bQ d y.y⟩ _ _ g (bR a7.o h.u) hu oM a5.o a6.o) ?_;rintro _ y2 ⟨rfl,B⟩;exact⟨_,rfl,fun t ht=>by cases ht;exact congrArg Value.bool R.o,B⟩
  refine oC (fun a g h=>by have aI:a.eval (.tmp 31)=(.bool true:Value):=h.of 31;exact jC (.bool true)) ?_;refine oC (fun a g h=>by exact Xb (h.of 32)) ?_;refine oC (fun a g h=>by exact Xb (h.of 32)) ?_;refine oC (fun a g h=>by exact Xb (h.of 32)) ?_;refine oC (fun a g h=>by have N:a.eval (.tmp 32)=(.bool true:Value):=h.of 32;have b4:a.eval (.tmp 35)=(undef:Value):=h.of 35;exact jC (.bool true)) ?_;refine oC (fun a g h=>by have b5:a.eval (.tmp 36)=(.bool true:Value):=h.of 36;exact jC (.bool true)) ?_;exact JL.nil
 case hendB=>rintro⟨K,m⟩ wE a4 b2 aj am ad;have G:K.getD 8 undef=.bool true:=zG (T:=WZ w.heap.size x (.slice at_ d.length q) i (bQ d y.y)) (w:=wE) (a:=⟨K,m⟩) (t:=8) ad kR;obtain rfl:m=[]:=b2;obtain⟨fQ,H,a2⟩:=pQ [23,24,25,26,27,28,29,30,31,32,33,34,35,36,8] K _ aj am;clear aj am ad;simp only[List.foldl_cons,List.foldl_nil,(H 8).trans G]at a2;clear G H;simp only[List.setIfInBounds_toArray,List.set_cons_zero,List.set_cons_succ]at a2;subst a2;have a3:Kp A.heap.size NB _ _:=Kp.of_below a4 ah.1;have ao:O _:=V.o.grow _ _ _ S.o a4;clear a4;go_wp2_with fail;go_ret;exact⟨by rw[D.o];rfl,by rw[D.o];exact ao.o,HK.o.trans a3⟩
def aT5(y:bK)(X b off d:Nat)(g:Int)(e f:dL)(hh:Nat)(cb:Array Value):Nat->Value
 |39=>.pointer (some ⟨X,1,none⟩)
 |40=>.int .i64 g
 |41=>eW y
 |42=>.pointer (some ⟨X,3,none⟩)
 |43=>.slice (some ⟨b,off,none⟩) 2 d
 |44=>.pointer (some ⟨b,off,none⟩)
 |45=>iA e
 |46=>.int .i64 (eJ y.y e)
 |47=>eW y
 |48=>.pointer (some ⟨X,3,none⟩)
 |49=>.slice (some ⟨b,off,none⟩) 2 d
 |50=>.pointer (some ⟨b,off+2,none⟩)
 |51=>iA f
 |52=>.int .i64 (eJ y.y f)
 |53=>.bool true
 |54=>.bool false
 |55=>.bool false
 |56=>.func (.func hh) #[] cb
 |57=>eW y
 |_=>.bool false
def aP1(y:bK)(X b off d:Nat)(g:Int)(e f:dL):Nat->Value
 |39=>.pointer (some ⟨X,1,none⟩)
 |40=>.int .i64 g
 |41=>eW y
 |42=>.pointer (some ⟨X,3,none⟩)
 |43=>.slice (some ⟨b,off,none⟩) 2 d
 |44=>.pointer (some ⟨b,off,none⟩)
 |45=>iA e
 |46=>.int .i64 (eJ y.y e)
 |47=>eW y
 |48=>.pointer (some ⟨X,3,none⟩)
 |49=>.slice (some ⟨b,off,none⟩) 2 d
 |50=>.pointer (some ⟨b,off+2,none⟩)
 |51=>iA f
 |52=>.int .i64 (eJ y.y f)
 |53=>.bool false
 |54=>.bool true
 |55=>.bool true
 |56=>undef
 |57=>undef
 |58=>undef
 |59=>.bool true
 |8=>.bool true
 |_=>.bool false
theorem aNB{σ:Type}{step:σ->bK->σ×Bool}{aq:σ->bK->Prop}{I:σ->World->Prop}{NB hh:Nat}{cb:Array Value}(facts:List aN)(l:cI)(y:bK)(vf vt:Value)(D w:World)(s:σ)
 (ae:Below D.heap.size D w) (hT:fT D vt l.p) (a9:gX 8 l.p) (ah:l.p.length=2) (B:jI 8 y) (hk:l.kind=3)
 (J:WC D.heap.size NB hh cb step aq I) (he:∀ad w,(callFunc hh ad).run Tryz.prog w=.ok (.enter hh ad) w) (z:I s w) (a2:ET step aq s (kF facts l y)):
 Calls Tryz.prog 145 #[vf,nR l vt,eW y, .func (.func hh) #[] cb] w fun e w'=>e=.returned (.bool (gG step s (kF facts l y)).2)/\I (gG step s (kF facts l y)).1 w'/\Kp D.heap.size NB w w':=by
 obtain⟨at_,r,rfl,_,af⟩:=id hT;obtain⟨kd,i,A,ts⟩:=l;dsimp only at *;subst hk;obtain⟨k,m,rfl⟩:∃k m,ts=[k,m]:=by
  match ts,ah with
  |[a,b],_=>exact⟨a,b,rfl⟩
 (have aj:kF facts ⟨3,i,A,[k,m]⟩ y=if sY i (eJ y.y k) (eJ y.y m)=true then [y] else []:=by unfold kF;rfl);generalize bb:kF facts ⟨3,i,A,[k,m]⟩ y=LL at *;have a0:O _:=aj;have ab:O (qK 8 k):=a9 k sI;have ac:O (qK 8 m):=a9 m sI;obtain⟨b,g,rfl,hc⟩:=rI af 0 sI;obtain⟨R,S⟩:=hc 0 sI;obtain⟨U,V⟩:=hc 1 sI;rw[EQ,BE]at R S;rw[Nat.one_mul]at U V;clear aj bb hc af hT a9 ah;show Calls Tryz.prog 145 #[vf, .agg #[.int .i64 3, .int .i64 i, .int .i64 A, .slice (some ⟨b,g,none⟩) 2 r],eW y, .func (.func hh) #[] cb] w _;obtain⟨h0,h1,hb⟩:=KK w (.cells #[.int .i64 3, .int .i64 i, .int .i64 A, .slice (some ⟨b,g,none⟩) 2 r] 49) (.cells (eA y) 138);have bd:=J.room s w z;have H:O (kG ((w.alloc (.cells #[.int .i64 3, .int .i64 i, .int .i64 A, .slice (some ⟨b,g,none⟩) 2 r] 49)).alloc (.cells (eA y) 138)) (w.heap.size+1) y):=h1;have HI:O _:=J.grow _ _ _ z hb;have HK:O (Kp D.heap.size NB w ((w.alloc (.cells #[.int .i64 3, .int .i64 i, .int .i64 A, .slice (some ⟨b,g,none⟩) 2 r] 49)).alloc (.cells (eA y) 138))):=Kp.of_below hb bd.1;have P:=HK.o.u ae;replace R:((w.alloc (.cells #[.int .i64 3, .int .i64 i, .int .i64 A, .slice (some ⟨b,g,none⟩) 2 r] 49)).alloc (.cells (eA y) 138)).cell? ⟨b,g,none⟩=some (.int .i64 k.var):=aB P R;replace S:((w.alloc (.cells #[.int .i64 3, .int .i64 i, .int .i64 A, .slice (some ⟨b,g,none⟩) 2 r] 49)).alloc (.cells (eA y) 138)).cell? ⟨b,g+1,none⟩=some (.int .i64 k.n):=aB P S;replace U:((w.alloc (.cells #[.int .i64 3, .int .i64 i, .int .i64 A, .slice (some ⟨b,g,none⟩) 2 r] 49)).alloc (.cells (eA y) 138)).cell? ⟨b,g+2,none⟩=some (.int .i64 m.var):=aB P U;replace V:((w.alloc (.cells #[.int .i64 3, .int .i64 i, .int .i64 A, .slice (some ⟨b,g,none⟩) 2 r] 49)).alloc (.cells (eA y) 138)).cell? ⟨b,g+2+1,none⟩=some (.int .i64 m.n):=aB P V;have a5:O _:=J;have av:O _:=B;(have d0:((w.alloc (.cells #[.int .i64 3, .int .i64 i, .int .i64 A, .slice (some ⟨b,g,none⟩) 2 r] 49)).alloc (.cells (eA y) 138)).cell? ⟨w.heap.size,0,none⟩=some (.int .i64 3):=cH h0);(have d1:((w.alloc (.cells #[.int .i64 3, .int .i64 i, .int .i64 A, .slice (some ⟨b,g,none⟩) 2 r] 49)).alloc (.cells (eA y) 138)).cell? ⟨w.heap.size,1,none⟩=some (.int .i64 i):=cH h0);(have d3:((w.alloc (.cells #[.int .i64 3, .int .i64 i, .int .i64 A, .slice (some ⟨b,g,none⟩) 2 r] 49)).alloc (.cells (eA y) 138)).cell? ⟨w.heap.size,3,none⟩=some (.slice (some ⟨b,g,none⟩) 2 r):=cH h0);have ak:=J.room _ _ HI.o;clear h0 h1 hb z ae J P
 go_enter Tryz.func145,Tryz.ntmps145
 go_upto_region 7 with fail;generalize ((w.alloc (.cells #[.int .i64 3, .int .i64 i, .int .i64 A, .slice (some ⟨b,g,none⟩) 2 r] 49)).alloc (.cells (eA y) 138))=w1 at *;cases F:sY i (eJ y.y k) (eJ y.y m)
 ·have a4:O _:=F;(have G:O (gG step s LL=(s,true)):=by show _=_;rw[a0.o,F];rfl);clear F a2 a0;refine nF (fun W Y _=>Y=aP1 y w.heap.size b g r i k m W) kR kR (fun _ _ _ _ _ h=>h) ?hopB ?hendB
  case hopB=>
   refine oC (fun a d h=>by have L:a.eval (.tmp 5)=(.pointer (some ⟨w.heap.size,0,none⟩):Value):=h.old 5;exact jC (.pointer (some ⟨w.heap.size,1,none⟩))) ?_;refine oC (fun a d h=>by have aw:a.eval (.tmp 39)=(.pointer (some ⟨w.heap.size,1,none⟩):Value):=h.of 39;have K:=aB h.u d1;exact jC (.int .i64 i)) ?_;refine oC (fun a d h=>by have C:a.eval (.tmp 6)=(.pointer (some ⟨w.heap.size+1,0,none⟩):Value):=h.old 6;refine XM (v:=eW y) ?_;exact sN rfl C (kG.u H.o h.u) B) ?_;refine oC (fun a d h=>by have L:a.eval (.tmp 5)=(.pointer (some ⟨w.heap.size,0,none⟩):Value):=h.old 5;exact jC (.pointer (some ⟨w.heap.size,3,none⟩))) ?_;refine oC (fun a d h=>by have az:a.eval (.tmp 42)=(.pointer (some ⟨w.heap.size,3,none⟩):Value):=h.of 42;have c3:=aB h.u d3;exact jC (.slice (some ⟨b,g,none⟩) 2 r)) ?_;refine oC (fun a d h=>by have aF:a.eval (.tmp 43)=(.slice (some ⟨b,g,none⟩) 2 r:Value):=h.of 43;exact jC (.pointer (some ⟨b,g,none⟩))) ?_;refine oC (fun a d h=>by have aI:a.eval (.tmp 44)=(.pointer (some ⟨b,g,none⟩):Value):=h.of 44;have c0:=aB h.u R;have K:=aB h.u S;exact jC (iA k)) ?_;refine oC (fun a d h=>?_) ?_
   ·have ay:a.eval (.tmp 41)=(eW y:Value):=h.of 41;have aS:a.eval (.tmp 45)=(iA k:Value):=h.of 45;refine iC (f:=187) (args:=#[eW y,iA k]) (bF rfl) ?_ ?_
    ·have ec:=qM a;have M:=IM a;generalize a.eval=ev at *;clear h;go_simp
    refine Calls.mono (yG y k d B ab.o) ?_;rintro _ y2 ⟨rfl,E⟩;exact⟨_,rfl,fun t ht=>by cases ht;exact rfl,E⟩
   refine oC (fun a d h=>by have C:a.eval (.tmp 6)=(.pointer (some ⟨w.heap.size+1,0,none⟩):Value):=h.old 6;refine XM (v:=eW y) ?_;exact sN rfl C (kG.u H.o h.u) B) ?_;refine oC (fun a d h=>by have L:a.eval (.tmp 5)=(.pointer (some ⟨w.heap.size,0,none⟩):Value):=h.old 5;exact jC (.pointer (some ⟨w.heap.size,3,none⟩))) ?_;refine oC (fun a d h=>by have b0:a.eval (.tmp 48)=(.pointer (some ⟨w.heap.size,3,none⟩):Value):=h.of 48;have c3:=aB h.u d3;exact jC (.slice (some ⟨b,g,none⟩) 2 r)) ?_;refine oC (fun a d h=>by have b1:a.eval (.tmp 49)=(.slice (some ⟨b,g,none⟩) 2 r:Value):=h.of 49;exact jC (.pointer (some ⟨b,g+2,none⟩))) ?_;refine oC (fun a d h=>by have b2:a.eval (.tmp 50)=(.pointer (some ⟨b,g+2,none⟩):Value):=h.of 50;have c0:=aB h.u U;have K:=aB h.u V;exact jC (iA m)) ?_;refine oC (fun a d h=>?_) ?_
   ·have aV:a.eval (.tmp 47)=(eW y:Value):=h.of 47;have b3:a.eval (.tmp 51)=(iA m:Value):=h.of 51;refine iC (f:=187) (args:=#[eW y,iA m]) (bF rfl) ?_ ?_
    ·have ec:=qM a;have M:=IM a;generalize a.eval=ev at *;clear h;go_simp
    refine Calls.mono (yG y m d B ac.o) ?_;rintro _ y2 ⟨rfl,E⟩;exact⟨_,rfl,fun t ht=>by cases ht;exact rfl,E⟩
   refine oC (fun a d h=>?_) ?_
   ·have ax:a.eval (.tmp 40)=(.int .i64 i:Value):=h.of 40;have aT:a.eval (.tmp 46)=(.int .i64 (eJ y.y k):Value):=h.of 46;have b4:a.eval (.tmp 52)=(.int .i64 (eJ y.y m):Value):=h.of 52;refine iC (f:=186) (args:=#[.int .i64 i, .int .i64 (eJ y.y k), .int .i64 (eJ y.y m)]) (bF rfl) ?_ ?_
    ·have ec:=qM a;have M:=IM a;generalize a.eval=ev at *;clear h;go_simp
    refine Calls.mono (aFW i (eJ y.y k) (eJ y.y m) d) ?_;rintro _ y2 ⟨rfl,rfl⟩;exact⟨_,rfl,fun t ht=>by cases ht;exact congrArg Value.bool a4.o,aH _ _⟩
   refine oC (fun a d h=>by have b5:a.eval (.tmp 53)=(.bool false:Value):=h.of 53;exact jC (.bool true)) ?_;refine oC (fun a d h=>by have b6:a.eval (.tmp 54)=(.bool true:Value):=h.of 54;exact jC (.bool true)) ?_;refine oC (fun a d h=>by exact Xb (h.of 55)) ?_;refine oC (fun a d h=>by exact Xb (h.of 55)) ?_;refine oC (fun a d h=>by exact Xb (h.of 55)) ?_;refine oC (fun a d h=>by have a1:a.eval (.tmp 55)=(.bool true:Value):=h.of 55;have be:a.eval (.tmp 58)=(undef:Value):=h.of 58;exact jC (.bool true)) ?_;refine oC (fun a d h=>by have bf:a.eval (.tmp 59)=(.bool true:Value):=h.of 59;exact jC (.bool true)) ?_;exact JL.nil
  case hendB=>rintro⟨X,x⟩ wE aa bc am ap ag;have N:X.getD 8 undef=.bool true:=zG (T:=fun W Y _=>Y=aP1 y w.heap.size b g r i k m W) (w:=wE) (a:=⟨X,x⟩) (t:=8) ag kR;obtain rfl:x=[]:=bc;obtain⟨fQ,Q,a7⟩:=pQ [39,40,41,42,43,44,45,46,47,48,49,50,51,52,53,54,55,56,57,58,59,8] X _ am ap;clear am ap ag;simp only[List.foldl_cons,List.foldl_nil,(Q 8).trans N]at a7;clear N Q;simp only[List.setIfInBounds_toArray,List.set_cons_zero,List.set_cons_succ]at a7;subst a7;have a8:Kp D.heap.size NB _ _:=Kp.of_below aa ak.1;have ar:O _:=a5.o.grow _ _ _ HI.o aa;clear aa;go_wp2_with fail;go_ret;exact⟨by rw[G.o];rfl,by rw[G.o];exact ar.o,HK.o.trans a8⟩
 have a4:O _:=F;(have a3:O (LL=[y]):=by show _=_;rw[a0.o,F];rfl);rw[a3.o]at a2;have au:O _:=a2.1;(have G:O (gG step s LL=((step s y).1,(step s y).2)):=by show _=_;rw[a3.o,rW];cases hq:(step s y).2<;>rfl);clear F a2 a0 a3;refine kU (fun W Y _=>Y=aT5 y w.heap.size b g r i k m hh cb W) 19 dE kR kR kR (fun _ _ _ _ _ h=>h) ?hopA ?htailA
 case hopA=>
  refine oC (fun a d h=>by have L:a.eval (.tmp 5)=(.pointer (some ⟨w.heap.size,0,none⟩):Value):=h.old 5;exact jC (.pointer (some ⟨w.heap.size,1,none⟩))) ?_;refine oC (fun a d h=>by have aw:a.eval (.tmp 39)=(.pointer (some ⟨w.heap.size,1,none⟩):Value):=h.of 39;have K:=aB h.u d1;exact jC (.int .i64 i)) ?_;refine oC (fun a d h=>by have C:a.eval (.tmp 6)=(.pointer (some ⟨w.heap.size+1,0,none⟩):Value):=h.old 6;refine XM (v:=eW y) ?_;exact sN rfl C (kG.u H.o h.u) B) ?_;refine oC (fun a d h=>by have L:a.eval (.tmp 5)=(.pointer (some ⟨w.heap.size,0,none⟩):Value):=h.old 5;exact jC (.pointer (some ⟨w.heap.size,3,none⟩))) ?_;refine oC (fun a d h=>by have az:a.eval (.tmp 42)=(.pointer (some ⟨w.heap.size,3,none⟩):Value):=h.of 42;have c3:=aB h.u d3;exact jC (.slice (some ⟨b,g,none⟩) 2 r)) ?_;refine oC (fun a d h=>by have aF:a.eval (.tmp 43)=(.slice (some ⟨b,g,none⟩) 2 r:Value):=h.of 43;exact jC (.pointer (some ⟨b,g,none⟩))) ?_;refine oC (fun a d h=>by have aI:a.eval (.tmp 44)=(.pointer (some ⟨b,g,none⟩):Value):=h.of 44;have c0:=aB h.u R;have K:=aB h.u S;exact jC (iA k)) ?_;refine oC (fun a d h=>?_) ?_
  ·have ay:a.eval (.tmp 41)=(eW y:Value):=h.of 41;have aS:a.eval (.tmp 45)=(iA k:Value):=h.of 45;refine iC (f:=187) (args:=#[eW y,iA k]) (bF rfl) ?_ ?_
   ·have ec:=qM a;have M:=IM a;generalize a.eval=ev at *;clear h;go_simp
   refine Calls.mono (yG y k d B ab.o) ?_;rintro _ y2 ⟨rfl,E⟩;exact⟨_,rfl,fun t ht=>by cases ht;exact rfl,E⟩
  refine oC (fun a d h=>by have C:a.eval (.tmp 6)=(.pointer (some ⟨w.heap.size+1,0,none⟩):Value):=h.old 6;refine XM (v:=eW y) ?_;exact sN rfl C (kG.u H.o h.u) B) ?_;refine oC (fun a d h=>by have L:a.eval (.tmp 5)=(.pointer (some ⟨w.heap.size,0,none⟩):Value):=h.old 5;exact jC (.pointer (some ⟨w.heap.size,3,none⟩))) ?_;refine oC (fun a d h=>by have b0:a.eval (.tmp 48)=(.pointer (some ⟨w.heap.size,3,none⟩):Value):=h.of 48;have c3:=aB h.u d3;exact jC (.slice (some ⟨b,g,none⟩) 2 r)) ?_;refine oC (fun a d h=>by have b1:a.eval (.tmp 49)=(.slice (some ⟨b,g,none⟩) 2 r:Value):=h.of 49;exact jC (.pointer (some ⟨b,g+2,none⟩))) ?_;refine oC (fun a d h=>by have b2:a.eval (.tmp 50)=(.pointer (some ⟨b,g+2,none⟩):Value):=h.of 50;have c0:=aB h.u U;have K:=aB h.u V;exact jC (iA m)) ?_;refine oC (fun a d h=>?_) ?_
  ·have aV:a.eval (.tmp 47)=(eW y:Value):=h.of 47;have b3:a.eval (.tmp 51)=(iA m:Value):=h.of 51;refine iC (f:=187) (args:=#[eW y,iA m]) (bF rfl) ?_ ?_
   ·have ec:=qM a;have M:=IM a;generalize a.eval=ev at *;clear h;go_simp
   refine Calls.mono (yG y m d B ac.o) ?_;rintro _ y2 ⟨rfl,E⟩;exact⟨_,rfl,fun t ht=>by cases ht;exact rfl,E⟩
  refine oC (fun a d h=>?_) ?_
  ·have ax:a.eval (.tmp 40)=(.int .i64 i:Value):=h.of 40;have aT:a.eval (.tmp 46)=(.int .i64 (eJ y.y k):Value):=h.of 46;have b4:a.eval (.tmp 52)=(.int .i64 (eJ y.y m):Value):=h.of 52;refine iC (f:=186) (args:=#[.int .i64 i, .int .i64 (eJ y.y k), .int .i64 (eJ y.y m)]) (bF rfl) ?_ ?_
   ·have ec:=qM a;have M:=IM a;generalize a.eval=ev at *;clear h;go_simp
   refine Calls.mono (aFW i (eJ y.y k) (eJ y.y m) d) ?_;rintro _ y2 ⟨rfl,rfl⟩;exact⟨_,rfl,fun t ht=>by cases ht;exact congrArg Value.bool a4.o,aH _ _⟩
  refine oC (fun a d h=>by have b5:a.eval (.tmp 53)=(.bool true:Value):=h.of 53;exact jC (.bool false)) ?_;refine oC (fun a d h=>by have b6:a.eval (.tmp 54)=(.bool false:Value):=h.of 54;exact jC (.bool false)) ?_;refine oC (fun a d h=>by have e3:a.eval (.tmp 3)=(.func (.func hh) #[] cb:Value):=h.old 3;refine fC (v:=.func (.func hh) #[] cb) (w':=d) (wG (h.of 55)) ?_ tR (aH _ _);have ec:=qM a;generalize a.eval=ev at *;clear h;go_simp) ?_;refine oC (fun a d h=>by have C:a.eval (.tmp 6)=(.pointer (some ⟨w.heap.size+1,0,none⟩):Value):=h.old 6;refine fC (v:=eW y) (w':=d) (wG (h.of 55)) ?_ tR (aH _ _);exact sN rfl C (kG.u H.o h.u) B) ?_;exact JL.nil
 case htailA=>
  rintro⟨q,x⟩ d z;have b7:Act.eval ⟨q,x⟩ (.tmp 56)=.func (.func hh) #[] cb:=z.all 17 _ 56 dE rfl rfl;have b8:Act.eval ⟨q,x⟩ (.tmp 57)=eW y:=z.all 18 _ 57 dE rfl rfl;have a1:q.getD 55 undef=.bool false:=z.all 16 _ 55 dE rfl rfl;have an:q.size=97:=z.size;show wpOps Tryz.prog _ _ [19,20,21] _ _;rw[iO];refine ZA (f:=hh) (args:=#[eW y]++cb) rfl (EH (j:=16) (t:=55) (b:=false) rfl rfl rfl a1) ?_ ?_
  ·show Sem.run Tryz.prog (execOp (Act.eval ⟨q,x⟩) _) d=_;generalize Act.eval ⟨q,x⟩=ev at *;clear z;go_simp
  refine Calls.mono (a5.o.call s d y (a5.o.grow _ _ _ HI.o z.u) au.o av.o) ?_;rintro eR Z ⟨ai,b9,ba⟩;refine⟨_,ai,?_⟩;rw[iO];refine uM (v:=(.bool (step s y).2)) (w':=Z) rfl (bF rfl) ?_ ?_
  ·have q1:Act.eval (Act.put ⟨q,x⟩ (some 58) (.bool (step s y).2)) (.tmp 55)=.bool false:=(gB (a:=⟨q,x⟩) (t:=58) (u:=55) dE).trans a1;have q2:Act.eval (Act.put ⟨q,x⟩ (some 58) (.bool (step s y).2)) (.tmp 58)=(.bool (step s y).2):=iF (by show 58<q.size;omega);have ec:∀v,Act.eval (Act.put ⟨q,x⟩ (some 58) (.bool (step s y).2)) (.const v)=v:=fun _=>rfl;show Sem.run Tryz.prog (execOp (Act.eval (Act.put ⟨q,x⟩ (some 58) (.bool (step s y).2))) _) Z=_;generalize Act.eval (Act.put ⟨q,x⟩ (some 58) (.bool (step s y).2))=ev at *;clear z;go_simp
  rw[iO];refine uM (v:=(.bool (step s y).2)) (w':=Z) rfl (bF rfl) ?_ ?_
  ·have q2:Act.eval (Act.put (Act.put ⟨q,x⟩ (some 58) (.bool (step s y).2)) (some 59) (.bool (step s y).2)) (.tmp 59)=(.bool (step s y).2):=iF (by rw[uJ];show 59<q.size;omega);show Sem.run Tryz.prog (execOp (Act.eval (Act.put (Act.put ⟨q,x⟩ (some 58) (.bool (step s y).2)) (some 59) (.bool (step s y).2))) _) Z=_;generalize Act.eval (Act.put (Act.put ⟨q,x⟩ (some 58) (.bool (step s y).2)) (some 59) (.bool (step s y).2))=ev at *;clear z;go_simp
  (have ao:∀t,t∉[39,40,41,42,43,44,45,46,47,48,49,50,51,52,53,54,55,56,57,58,59,8]->(((q.setIfInBounds 58 (.bool (step s y).2)).setIfInBounds 59 (.bool (step s y).2)).setIfInBounds 8 (.bool (step s y).2)).getD t undef=_:=fun t ht=>by have hA:t≠58:=fun e=>ht (by rw[e];decide);have hB:t≠59:=fun e=>ht (by rw[e];decide);have hC:t≠8:=fun e=>ht (by rw[e];decide);exact((gB (a:=(Act.put (Act.put ⟨q,x⟩ (some 58) (.bool (step s y).2)) (some 59) (.bool (step s y).2))) hC).trans ((gB (a:=Act.put ⟨q,x⟩ (some 58) (.bool (step s y).2)) hB).trans (gB (a:=⟨q,x⟩) hA))).trans (z.still t ht));have N:(((q.setIfInBounds 58 (.bool (step s y).2)).setIfInBounds 59 (.bool (step s y).2)).setIfInBounds 8 (.bool (step s y).2)).getD 8 undef=(.bool (step s y).2):=iF (a:=(Act.put (Act.put ⟨q,x⟩ (some 58) (.bool (step s y).2)) (some 59) (.bool (step s y).2))) (by rw[uJ,uJ];show 8<q.size;omega);have a8:Kp D.heap.size NB _ _:=Kp.of_below z.u ak.1;obtain rfl:x=[]:=z.defers;(have al:(((q.setIfInBounds 58 (.bool (step s y).2)).setIfInBounds 59 (.bool (step s y).2)).setIfInBounds 8 (.bool (step s y).2)).size=97:=by simp[an]);clear z b7 b8 a1 an ai;show Exit.then _ _ Exit.normal ⟨(((q.setIfInBounds 58 (.bool (step s y).2)).setIfInBounds 59 (.bool (step s y).2)).setIfInBounds 8 (.bool (step s y).2)),[]⟩ Z;generalize (((q.setIfInBounds 58 (.bool (step s y).2)).setIfInBounds 59 (.bool (step s y).2)).setIfInBounds 8 (.bool (step s y).2))=X at *;obtain⟨fQ,Q,a6⟩:=pQ [39,40,41,42,43,44,45,46,47,48,49,50,51,52,53,54,55,56,57,58,59,8] X _ (al.trans rF) ao;clear al ao;simp only[List.foldl_cons,List.foldl_nil,(Q 8).trans N]at a6;clear N Q;simp only[List.setIfInBounds_toArray,List.set_cons_zero,List.set_cons_succ]at a6;subst a6;go_wp2_with fail;go_ret;exact⟨by rw[G.o];rfl,by rw[G.o];exact b9,HK.o.trans (a8.trans ba)⟩
def ID(b:Array Oper)(S i:Nat):Bool:=((b[S]?).map fun o=>o.after.toList.any fun e=>Region.binds .any e&&e.on==i).getD false
structure aOZ (R:World->World->Prop) (ops:Array Oper) (T:Nat->Value->World->Prop) (a0:Act) (w0:World) (o:Oper) (a:Act) (w:World):Prop where
 u:R w0 w
 still:∀t,t∉ops.toList.filterMap (·.dst)->a.tmps.getD t undef=a0.tmps.getD t undef
 has:∀e,e∈o.after->Region.binds .any e=true->∀(o':Oper)(t:Nat),ops[e.on]?=some o'->o'.dst=some t->T t (a.tmps.getD t undef) w
 size:a.tmps.size=a0.tmps.size
def aKP(P:Program)(R:World->World->Prop)(d:Array Oper)(Q:Exit->Act->World->Prop)(T:Nat->Value->World->Prop)(S:Nat)(D:Act->World->Prop)(i:Nat)(o:Oper)(a:Act)(w:World):Prop:=
 Region.wanted o (yielded d a.tmps)=true/\o.wp P a w (fun e b=>∃v,e=a.put o.dst v/\(∀t,o.dst=some t->T t v b)/\R w b/\(i=S->D (a.put o.dst v) b)/\(ID d S i=false->¬i=S->D a w->D (a.put o.dst v) b)) Q
section
variable {P:Program} {ops:Array Oper} {Q:Exit->Act->World->Prop} {R:World->World->Prop} {T:Nat->Value->World->Prop} {a0:Act} {w0:World} {o:Oper} {a:Act} {w:World} {S i:Nat} {D:Act->World->Prop}
theorem aOZ.of(h:aOZ R ops T a0 w0 o a w)(t:Nat)(b:XJ ops o t=true:=by kernel_rfl):T t (a.tmps.getD t undef) w:=by
 unfold XJ at b;rw[kI]at b;obtain⟨e,f,b⟩:=b;rw[eF]at b
 cases d:ops[e.on]? with
 |none=>rw[d]at b;simp at b
 |some g=>
  rw[d]at b;exact h.has e (by simpa using f) b.1 g t d (by simpa using b.2)
theorem aOZ.old(h:aOZ R ops T a0 w0 o a w)(t:Nat)(b:SR ops t=true:=by kernel_rfl):a.tmps.getD t undef=a0.tmps.getD t undef:=by refine h.still t ?_;unfold SR at b;simpa[List.contains_iff_mem]using b
theorem vG{v:Value}{w':World}(j:Region.wanted o (yielded ops a.tmps)=true)(g:(execOp a.eval o).run P w=.ok (.value v) w')(e:∀t,o.dst=some t->T t v w')(f:R w w')(d:i=S->D (a.put o.dst v) w')(b:ID ops S i=false->¬i=S->D a w->D (a.put o.dst v) w'):aKP P R ops Q T S D i o a w:=by refine⟨j,?_⟩;unfold Oper.wp;rw[g,Oper.upon_value];exact⟨v,rfl,e,f,d,b⟩
theorem aJW{w':World}(m:Region.wanted o (yielded ops a.tmps)=true)(l:(execOp a.eval o).run P w=.ok .skip w')(b:o.dst=none)(k:R w w')(j:i=S->D a w')(g:ID ops S i=false->¬i=S->D a w->D a w'):aKP P R ops Q T S D i o a w:=by
 refine⟨m,?_⟩;unfold Oper.wp;rw[l,Oper.upon_skip];refine⟨undef,rfl,fun t ht=>(by rw[b]at ht;cases ht),k,fun h=>?_,fun d e f=>?_⟩
 ·rw[b];exact j h
 rw[b];exact g d e f
theorem aJV{f:FuncId}{args:Array Value}(j:Region.wanted o (yielded ops a.tmps)=true)(g:(execOp a.eval o).run P w=.ok (.enter f args) w)
 (d:Calls P f args w fun e b=>∃v,e=.returned v/\(∀t,o.dst=some t->T t v b)/\R w b/\(i=S->D (a.put o.dst v) b)/\(ID ops S i=false->¬i=S->D a w->D (a.put o.dst v) b)):aKP P R ops Q T S D i o a w:=by
 refine⟨j,?_⟩;unfold Oper.wp;rw[g,Oper.upon_enter];refine Calls.mono d ?_;rintro e b ⟨v,rfl,h⟩;exact⟨v,rfl,h⟩
def xK(Φ:Nat->Oper->Prop):Nat->List Oper->Prop
 |_,[]=>True
 |i,o::l=>Φ i o/\xK Φ (i+1) l
theorem xK.cons{Φ:Nat->Oper->Prop}{i:Nat}{o:Oper}{l:List Oper}(h:Φ i o)(b:xK Φ (i+1) l):xK Φ i (o::l):=⟨h,b⟩
theorem xK.nil{Φ:Nat->Oper->Prop}{i:Nat}:xK Φ i []:=trivial
theorem xK.get{Φ:Nat->Oper->Prop}:∀(l:List Oper)(i:Nat),xK Φ i l->∀j o,l[j]?=some o->Φ (i+j) o
 |[],_,_,j,o,h=>by simp at h
 |x::l,i,hA,j,o,h=>by
  cases j with
  |zero=>simp only[List.getElem?_cons_zero,Option.some.injEq]at h;subst h;exact hA.1
  |succ j=>
   simp only[List.getElem?_cons_succ]at h;have :=xK.get l (i+1) hA.2 j o h;rw[show i+(j+1)=i+1+j by omega];exact this
theorem Lk(R:World->World->Prop)(U:∀a b c,R a b->R b c->R a c)(N:∀w,R w {w with drawn:=w.drawn+1})(T:Nat->Value->World->Prop)(S:Nat)(D:Act->World->Prop)(V:S<ops.size){id:Nat}{f:Act}{p:World}(Y:P.follows .mixedOrders=true)
 (H:uK ops f.tmps.size=true)
 (Z:∀t v w y,R w y->T t v w->T t v y)
 (hopA:xK (fun i o=>∀a w,aOZ R ops T f p o a w->aKP P R ops Q T S D i o a w) 0 ops.toList)
 (hend:∀a w,R p w->D a w->a.defers=f.defers->a.tmps.size=f.tmps.size->(∀t,t∉ops.toList.filterMap (·.dst)->a.tmps.getD t undef=f.tmps.getD t undef)->(∀t,t∈ops.toList.filterMap (·.dst)->T t (a.tmps.getD t undef) w)->Q .normal a w):
 (Code.region id ops true).wp P Q f p:=by
 have I:∀i j,MV ops (fun _=>true) (fun _ _=>true) i j=false:=fun i j=>by
  unfold MV
  cases g:ops[j]? with
  |none=>simp
  |some o=>cases l:o.dst<;>simp[l]
 refine IE (fun s a w=>DJ R (fun _ _=>True) ops (fun _=>true) (fun _ _=>true) T f p s a w/\(s[S]?=some true->D a w/\∀i,ID ops S i=true->s[i]?=some true)) ops.size (aE _) (fun h=>absurd h (Nat.lt_irrefl _)) Y H ?_ ?_ ⟨DJ.start (N p),fun h=>by rw[FL]at h;split at h<;>simp at h⟩
 ·rintro s a w i o hs hC ⟨d,A⟩ a2 x g G;have J:=xK.get ops.toList 0 hopA i o (by rw[fH];exact g);rw[dV]at J;obtain⟨hw,h⟩:=J a w ⟨d.u,d.still,fun e B q o' t a1 l=>d.done e.on o' t (G e B q) a1 l (fun k n=>by rw[I]at n;cases n),d.size⟩;refine QN g hw (Oper.wp_mono ?_ h);rintro a' y ⟨v,rfl,hv,q,W,M⟩;refine⟨d.set U H x g hv q (fun _ h=>h) (fun _=>trivial) (fun h=>absurd rfl h) (fun _ _ t _ _ _ _ u hu=>Z t u w y q hu),fun E=>?_⟩;by_cases r:i=S
  ·refine⟨W r,fun j m=>YT x ?_⟩;subst r;unfold ID at m;rw[g,lE,oA,kI]at m;obtain⟨e,B,z⟩:=m;rw[eF]at z;have :=G e (by simpa using B) z.1;rw[(by simpa using z.2:e.on=j)]at this;exact this
  rw[MY (Ne.symm r)]at E;obtain⟨L,F⟩:=A E;refine⟨?_,fun j m=>YT x (F j m)⟩
  cases K:ID ops S i with
  |true=>
   have :=F i K;rw[x]at this;cases this
  |false=>exact M K r L
 rintro s a w l ⟨d,A⟩;rw[wS];refine hend a w d.u (A (l S V)).1 d.defers d.size d.still (fun t ht=>?_);obtain⟨o,g,X⟩:=gT.mp ht;obtain⟨i,C⟩:=List.mem_iff_getElem?.mp g;rw[fH]at C;exact d.done i o t (l i (aG.mp C).1) C X (fun k n=>by rw[I]at n;cases n)
end
structure Rq (n:Nat) (w w':World):Prop where
 os:w'.os=w.os
 tape:w'.tape=w.tape
 output:w'.output=w.output
 size:w.heap.size<=w'.heap.size
 low:∀k,k<n->w'.heap[k]?=w.heap[k]?
 keep:∀(k:Nat)(c:Array Value)(t:TypeId),w.heap[k]?=some (.cells c t)->t≠138->w'.heap[k]?=some (.cells c t)
 way:∀(k:Nat)(y:bK),kG w k y->jI 8 y->∃y',jI 8 y'/\kG w' k y'
theorem Rq.refl(n:Nat)(w:World):Rq n w w:=⟨rfl,rfl,rfl,aE _,fun _ _=>rfl,fun _ _ _ h _=>h,fun _ y h b=>⟨y,b,h⟩⟩
theorem Rq.trans{n:Nat}{a b c:World}(h:Rq n a b)(k:Rq n b c):Rq n a c:=
 ⟨k.os.trans h.os,k.tape.trans h.tape,k.output.trans h.output,bH h.size k.size,fun j d=>(k.low j d).trans (h.low j d),fun j o t d ht=>k.keep j o t (h.keep j o t d ht) ht,fun j y d g=>by
  obtain⟨i,e,f⟩:=h.way j y d g
  exact k.way j i f e⟩
theorem Rq.of_below{n:Nat}{w w':World}(h:Below w.heap.size w w')(d:n<=w.heap.size):Rq n w w':=
 ⟨h.os,h.tape,h.output,h.size,fun k b=>h.block k (dQ b d),fun k _ _ b _=>(h.block k (bP b)).trans b,fun _ y b e=>⟨y,e,b.u h⟩⟩
theorem Rq.to_below{n:Nat}{w w':World}(h:Rq n w w'){m:Nat}(d:m<=n):Below m w w':=⟨h.os,h.tape,h.output,h.size,fun k b=>h.low k (dQ b d)⟩
theorem Rq.store{n:Nat}{w:World}{b:Nat}{y z:bK}(h:kG w b y)(j:n<=b)(g:jI 8 z):Rq n w (w.setRow b (eA z)):=by
 refine⟨rfl,rfl,rfl,by simp,fun k d=>KL oM,fun k c t d ht=>?_,fun k i d f=>?_⟩
 ·by_cases e:k=b
  ·subst e;rw[h]at d;injection d with d;injection d with _ d;exact absurd d.symm ht
  exact(KL e).trans d
 by_cases e:k=b
 ·subst e;exact⟨z,g,Dw h⟩
 exact⟨i,f,(KL e).trans d⟩
theorem aN3{a:Act}{o:Oper}{x u:Operand}{w:World}{b:Nat}{y z:bK}(f:o.op=.store 138 x u)(j:a.eval x=.pointer (some ⟨b,0,none⟩))(i:a.eval u=eW z)(e:kG w b y)(k:jI 8 y)(d:jI 8 z):(execOp a.eval o).run Tryz.prog w=.ok .skip (w.setRow b (eA z)):=by have g:=Dg (P:=Tryz.prog) w b 138 138 (eA y) (eA z) e (by rw[qS d];exact LJ) (by rw[qS k,qS d]) (TZ z);unfold execOp;simp only[f,j,i,Instr.storeAt,Instr.sureAddr,Sem.run_bind,Sem.run_pure,Result.andThen_ok,g]
theorem aQD{w:World}{b:Nat}{m:Int}(h:w.heap[b]?=some (.cells #[.int .i64 m] 3)):dM w (.slice (some ⟨b,0,none⟩) 1 1) [m]:=by refine⟨_,_,rfl, .inr ⟨b,0,rfl,fun i d=>?_⟩⟩;(obtain rfl:i=0:=by simpa using d);rw[cD h];rfl
def aK8(y:bK)(X b off g:Nat)(f:Int)(d e:dL):Nat->Value
 |60=>.pointer (some ⟨X,1,none⟩)
 |61=>.int .i64 f
 |62=>eW y
 |63=>.pointer (some ⟨X,3,none⟩)
 |64=>.slice (some ⟨b,off,none⟩) 3 g
 |65=>.pointer (some ⟨b,off,none⟩)
 |66=>iA d
 |67=>.int .i64 (eJ y.y d)
 |68=>eW y
 |69=>.pointer (some ⟨X,3,none⟩)
 |70=>.slice (some ⟨b,off,none⟩) 3 g
 |71=>.pointer (some ⟨b,off+2,none⟩)
 |72=>iA e
 |73=>.int .i64 (eJ y.y e)
 |74=>.int .i64 (nO f (eJ y.y d) (eJ y.y e))
 |9=>.int .i64 (nO f (eJ y.y d) (eJ y.y e))
 |_=>.bool false
def aT6(y z:bK)(X b off e:Nat)(m:Int)(ok:Bool)(f:Nat)(d:Value):Prop:=
 match f with
 |76=>d=(eW y:Value)
 |77=>d=(.pointer (some ⟨X,3,none⟩):Value)
 |78=>d=(.slice (some ⟨b,off,none⟩) 3 e:Value)
 |79=>d=(.slice (some ⟨b,off+4,none⟩) 1 (e-2):Value)
 |80=>d=(.int .i64 m:Value)
 |82=>d=(.tuple #[eW z, .bool ok]:Value)
 |75=>d=(.tuple #[eW z, .bool ok]:Value)
 |83=>d=(eW z:Value)
 |84=>d=(.bool ok:Value)
 |11=>d=(.bool ok:Value)
 |_=>True
def Jk(y z:bK)(X b off j n:Nat)(m:Int)(ok:Bool)(e:Nat)(f:Value)(g:World):Prop:=
 if e=81 then∃d,f=.slice (some ⟨d,0,none⟩) 1 1/\g.heap[d]?=some (.cells #[.int .i64 m] 3)
 else if e=10 then∃d,f=.pointer (some ⟨d,0,none⟩)/\n<=d/\∃i,jI 8 i/\kG g d i else aT6 y z X b off j m ok e f
theorem aFQ(y z:bK)(X b off i n:Nat)(m:Int)(ok:Bool)(d:Nat)(l:Value)(W W':World)(j:Rq n W W')(h:Jk y z X b off i n m ok d l W):Jk y z X b off i n m ok d l W':=by
 unfold Jk at h ⊢;by_cases ht:d=81
 ·rw[if_pos ht]at h ⊢;obtain⟨e,f,g⟩:=h;exact⟨e,f,j.keep _ _ _ g dE⟩
 rw[if_neg ht]at h ⊢;by_cases k:d=10
 ·rw[if_pos k]at h ⊢;obtain⟨e,f,g,w,p,q⟩:=h;obtain⟨v,r,s⟩:=j.way _ _ q p;exact⟨e,f,g,v,r,s⟩
 rw[if_neg k]at h ⊢;exact h
def aI9(z:bK)(n:Nat)(a:Act)(w:World):Prop:=∃b,n<=b/\a.tmps.getD 10 undef=.pointer (some ⟨b,0,none⟩)/\kG w b z
theorem Jj{z:bK}{n:Nat}{a:Act}{w:World}{d:Nat}{v:Value}(i:(10:Nat)≠d)(h:aI9 z n a w):aI9 z n (a.put (some d) v) w:=by obtain⟨b,e,f,g⟩:=h;exact⟨b,e,(gB i).trans f,g⟩
theorem aNC{σ:Type}{step:σ->bK->σ×Bool}{aS:σ->bK->Prop}{I:σ->World->Prop}{NB hh:Nat}{cb:Array Value}(facts:List aN)(l:cI)(y:bK)(vf vt:Value)(Q w:World)(s:σ)
 (am:Below Q.heap.size Q w) (hT:fT Q vt l.p) (a5:gX 8 l.p) (ar:l.p.length=3) (M:jI 8 y) (hk:l.kind=4) (an:cP (eJ y.y (cA l.p 0))=true) (ao:cP (eJ y.y (cA l.p 1))=true)
 (R:WC Q.heap.size NB hh cb step aS I) (he:∀aj w,(callFunc hh aj).run Tryz.prog w=.ok (.enter hh aj) w) (hI:I s w) (aa:ET step aS s (kF facts l y)):
 Calls Tryz.prog 145 #[vf,nR l vt,eW y, .func (.func hh) #[] cb] w fun e w'=>e=.returned (.bool (gG step s (kF facts l y)).2)/\I (gG step s (kF facts l y)).1 w'/\Kp Q.heap.size NB w w':=by
 obtain⟨at_,k,rfl,av,aq⟩:=id hT;obtain⟨kd,q,D,ts⟩:=l;dsimp only at *;subst hk;obtain⟨r,x,A,rfl⟩:∃r x A,ts=[r,x,A]:=by
  match ts,ar with
  |[a,b,c],_=>exact⟨a,b,c,rfl⟩
 have av:3<=k:=av;(have ay:kF facts ⟨4,q,D,[r,x,A]⟩ y=match fU y [A] [(nO q (eJ y.y r) (eJ y.y x))]with |none=>[]|some w'=>if cP (nO q (eJ y.y r) (eJ y.y x))=true then [w'] else []:=by unfold kF;rfl);generalize bd:kF facts ⟨4,q,D,[r,x,A]⟩ y=LL at *;have a2:O _:=ay;have b2:O (qK 8 r):=a5 r sI;have b3:O (qK 8 x):=a5 x sI;have b5:O (gX 8 [A]):=fun t ht=>a5 t (by simp at ht;subst ht;simp);have b0:O (-1000000<=eJ y.y r/\eJ y.y r<=1000000):=kA.mp an;have b1:O (-1000000<=eJ y.y x/\eJ y.y x<=1000000):=kA.mp ao;have N:O (jI 8 (rY y [A] [(nO q (eJ y.y r) (eJ y.y x))])):=by
  show jI 8 _;unfold rY
  cases hx:fU y [A] [(nO q (eJ y.y r) (eJ y.y x))]with
  |none=>exact⟨rfl,rfl⟩
  |some z=>exact tB M hx
 have ai:O ((nO q (eJ y.y r) (eJ y.y x))=(nO q (eJ y.y r) (eJ y.y x))):=rfl;obtain⟨b,j,rfl,hc⟩:=rI aq 0 sI;obtain⟨p0,p1⟩:=hc 0 sI;obtain⟨p2,p3⟩:=hc 1 sI;obtain⟨p4,p5⟩:=hc 2 sI;rw[EQ,BE]at p0 p1;rw[Nat.one_mul]at p2 p3;clear ay bd hc aq hT a5 ar an ao;show Calls Tryz.prog 145 #[vf, .agg #[.int .i64 4, .int .i64 q, .int .i64 D, .slice (some ⟨b,j,none⟩) 3 k],eW y, .func (.func hh) #[] cb] w _;obtain⟨h0,h1,hb⟩:=KK w (.cells #[.int .i64 4, .int .i64 q, .int .i64 D, .slice (some ⟨b,j,none⟩) 3 k] 49) (.cells (eA y) 138);have aF:=R.room s w hI;have HW:O (kG ((w.alloc (.cells #[.int .i64 4, .int .i64 q, .int .i64 D, .slice (some ⟨b,j,none⟩) 3 k] 49)).alloc (.cells (eA y) 138)) (w.heap.size+1) y):=h1;have HI:O _:=R.grow _ _ _ hI hb;have HK:O (Kp Q.heap.size NB w ((w.alloc (.cells #[.int .i64 4, .int .i64 q, .int .i64 D, .slice (some ⟨b,j,none⟩) 3 k] 49)).alloc (.cells (eA y) 138))):=Kp.of_below hb aF.1;have J:=HK.o.u am;replace p0:((w.alloc (.cells #[.int .i64 4, .int .i64 q, .int .i64 D, .slice (some ⟨b,j,none⟩) 3 k] 49)).alloc (.cells (eA y) 138)).cell? ⟨b,j,none⟩=some (.int .i64 r.var):=aB J p0;replace p1:((w.alloc (.cells #[.int .i64 4, .int .i64 q, .int .i64 D, .slice (some ⟨b,j,none⟩) 3 k] 49)).alloc (.cells (eA y) 138)).cell? ⟨b,j+1,none⟩=some (.int .i64 r.n):=aB J p1;replace p2:((w.alloc (.cells #[.int .i64 4, .int .i64 q, .int .i64 D, .slice (some ⟨b,j,none⟩) 3 k] 49)).alloc (.cells (eA y) 138)).cell? ⟨b,j+2,none⟩=some (.int .i64 x.var):=aB J p2;replace p3:((w.alloc (.cells #[.int .i64 4, .int .i64 q, .int .i64 D, .slice (some ⟨b,j,none⟩) 3 k] 49)).alloc (.cells (eA y) 138)).cell? ⟨b,j+2+1,none⟩=some (.int .i64 x.n):=aB J p3;replace p4:((w.alloc (.cells #[.int .i64 4, .int .i64 q, .int .i64 D, .slice (some ⟨b,j,none⟩) 3 k] 49)).alloc (.cells (eA y) 138)).cell? ⟨b,j+4,none⟩=some (.int .i64 A.var):=aB J p4;replace p5:((w.alloc (.cells #[.int .i64 4, .int .i64 q, .int .i64 D, .slice (some ⟨b,j,none⟩) 3 k] 49)).alloc (.cells (eA y) 138)).cell? ⟨b,j+4+1,none⟩=some (.int .i64 A.n):=aB J p5;have a3:O _:=R;(have d0:((w.alloc (.cells #[.int .i64 4, .int .i64 q, .int .i64 D, .slice (some ⟨b,j,none⟩) 3 k] 49)).alloc (.cells (eA y) 138)).cell? ⟨w.heap.size,0,none⟩=some (.int .i64 4):=cH h0);(have d1:((w.alloc (.cells #[.int .i64 4, .int .i64 q, .int .i64 D, .slice (some ⟨b,j,none⟩) 3 k] 49)).alloc (.cells (eA y) 138)).cell? ⟨w.heap.size,1,none⟩=some (.int .i64 q):=cH h0);(have S:((w.alloc (.cells #[.int .i64 4, .int .i64 q, .int .i64 D, .slice (some ⟨b,j,none⟩) 3 k] 49)).alloc (.cells (eA y) 138)).cell? ⟨w.heap.size,3,none⟩=some (.slice (some ⟨b,j,none⟩) 3 k):=cH h0);have az:=R.room _ _ HI.o;clear h0 h1 hb hI am R J aF
 go_enter Tryz.func145,Tryz.ntmps145
 go_upto_region 8 with fail;generalize ((w.alloc (.cells #[.int .i64 4, .int .i64 q, .int .i64 D, .slice (some ⟨b,j,none⟩) 3 k] 49)).alloc (.cells (eA y) 138))=w1 at *;refine nF (fun tQ vQ _=>vQ=aK8 y w.heap.size b j k q r x tQ) kR kR (fun _ _ _ _ _ h=>h) ?hopE ?hendE
 case hopE=>
  refine oC (fun a d h=>by have e5:a.eval (.tmp 5)=(.pointer (some ⟨w.heap.size,0,none⟩):Value):=h.old 5;exact jC (.pointer (some ⟨w.heap.size,1,none⟩))) ?_;refine oC (fun a d h=>by have bh:a.eval (.tmp 60)=(.pointer (some ⟨w.heap.size,1,none⟩):Value):=h.of 60;have c1:=aB h.u d1;exact jC (.int .i64 q)) ?_;refine oC (fun a d h=>by have V:a.eval (.tmp 6)=(.pointer (some ⟨w.heap.size+1,0,none⟩):Value):=h.old 6;refine XM (v:=eW y) ?_;exact sN rfl V (kG.u HW.o h.u) M) ?_;refine oC (fun a d h=>by have e5:a.eval (.tmp 5)=(.pointer (some ⟨w.heap.size,0,none⟩):Value):=h.old 5;exact jC (.pointer (some ⟨w.heap.size,3,none⟩))) ?_;refine oC (fun a d h=>by have bk:a.eval (.tmp 63)=(.pointer (some ⟨w.heap.size,3,none⟩):Value):=h.of 63;have c3:=aB h.u S;exact jC (.slice (some ⟨b,j,none⟩) 3 k)) ?_;refine oC (fun a d h=>by have bl:a.eval (.tmp 64)=(.slice (some ⟨b,j,none⟩) 3 k:Value):=h.of 64;exact jC (.pointer (some ⟨b,j,none⟩))) ?_;refine oC (fun a d h=>by have bm:a.eval (.tmp 65)=(.pointer (some ⟨b,j,none⟩):Value):=h.of 65;have c0:=aB h.u p0;have c1:=aB h.u p1;exact jC (iA r)) ?_;refine oC (fun a d h=>?_) ?_
  ·have bj:a.eval (.tmp 62)=(eW y:Value):=h.of 62;have bn:a.eval (.tmp 66)=(iA r:Value):=h.of 66;refine iC (f:=187) (args:=#[eW y,iA r]) (bF rfl) ?_ ?_
   ·have ec:=qM a;have ef:=IM a;generalize a.eval=ev at *;clear h;go_simp
   refine Calls.mono (yG y r d M b2.o) ?_;rintro _ y2 ⟨rfl,Y⟩;exact⟨_,rfl,fun t ht=>by cases ht;exact rfl,Y⟩
  refine oC (fun a d h=>by have V:a.eval (.tmp 6)=(.pointer (some ⟨w.heap.size+1,0,none⟩):Value):=h.old 6;refine XM (v:=eW y) ?_;exact sN rfl V (kG.u HW.o h.u) M) ?_;refine oC (fun a d h=>by have e5:a.eval (.tmp 5)=(.pointer (some ⟨w.heap.size,0,none⟩):Value):=h.old 5;exact jC (.pointer (some ⟨w.heap.size,3,none⟩))) ?_;refine oC (fun a d h=>by have bq:a.eval (.tmp 69)=(.pointer (some ⟨w.heap.size,3,none⟩):Value):=h.of 69;have c3:=aB h.u S;exact jC (.slice (some ⟨b,j,none⟩) 3 k)) ?_;refine oC (fun a d h=>by have br:a.eval (.tmp 70)=(.slice (some ⟨b,j,none⟩) 3 k:Value):=h.of 70;exact jC (.pointer (some ⟨b,j+2,none⟩))) ?_;refine oC (fun a d h=>by have bs:a.eval (.tmp 71)=(.pointer (some ⟨b,j+2,none⟩):Value):=h.of 71;have c0:=aB h.u p2;have c1:=aB h.u p3;exact jC (iA x)) ?_;refine oC (fun a d h=>?_) ?_
  ·have bp:a.eval (.tmp 68)=(eW y:Value):=h.of 68;have bt:a.eval (.tmp 72)=(iA x:Value):=h.of 72;refine iC (f:=187) (args:=#[eW y,iA x]) (bF rfl) ?_ ?_
   ·have ec:=qM a;have ef:=IM a;generalize a.eval=ev at *;clear h;go_simp
   refine Calls.mono (yG y x d M b3.o) ?_;rintro _ y2 ⟨rfl,Y⟩;exact⟨_,rfl,fun t ht=>by cases ht;exact rfl,Y⟩
  refine oC (fun a d h=>?_) ?_
  ·have bi:a.eval (.tmp 61)=(.int .i64 q:Value):=h.of 61;have bo:a.eval (.tmp 67)=(.int .i64 (eJ y.y r):Value):=h.of 67;have bu:a.eval (.tmp 73)=(.int .i64 (eJ y.y x):Value):=h.of 73;refine iC (f:=188) (args:=#[.int .i64 q, .int .i64 (eJ y.y r), .int .i64 (eJ y.y x)]) (bF rfl) ?_ ?_
   ·have ec:=qM a;have ef:=IM a;generalize a.eval=ev at *;clear h;go_simp
   refine Calls.mono (aB7 q (eJ y.y r) (eJ y.y x) d b0.o b1.o) ?_;rintro _ y2 ⟨rfl,rfl⟩;exact⟨_,rfl,fun t ht=>by cases ht;exact rfl,aH _ _⟩
  refine oC (fun a d h=>by have bv:a.eval (.tmp 74)=(.int .i64 (nO q (eJ y.y r) (eJ y.y x)):Value):=h.of 74;exact jC (.int .i64 (nO q (eJ y.y r) (eJ y.y x)))) ?_;exact JL.nil
 case hendE=>
  rintro⟨B,U⟩ F K ad Z a0 X;have g:B.getD 9 undef=.int .i64 (nO q (eJ y.y r) (eJ y.y x)):=zG (T:=fun tQ vQ _=>vQ=aK8 y w.heap.size b j k q r x tQ) (w:=F) (a:=⟨B,U⟩) (t:=9) X kR;obtain rfl:U=[]:=ad;obtain⟨fQ,hQ,C⟩:=pQ [60,61,62,63,64,65,66,67,68,69,70,71,72,73,74,9] B _ Z a0;clear Z a0 X;simp only[List.foldl_cons,List.foldl_nil,(hQ 9).trans g]at C;clear g hQ;simp only[List.setIfInBounds_toArray,List.set_cons_zero,List.set_cons_succ]at C;subst C;have ag:O _:=a3.o.grow _ _ _ HI.o K;have aT:O _:=HK.o.trans (Kp.of_below K az.1);have b6:O (kG F (w.heap.size+1) y):=kG.u HW.o K;have aI:=a3.o.room _ _ ag.o;(have b4:O (∀W,Below F.heap.size F W->fT W (.slice (some ⟨b,j+4,none⟩) 1 (k-2)) [A]):=fun W hW=>by refine⟨_,_,rfl,by show 1<=k-2;omega, .inr ⟨b,j+4,rfl,fun i hi=>?_⟩⟩;(obtain rfl:i=0:=by simpa using hi);exact⟨by rw[EQ,BE];exact aB hW (aB K p4),by rw[EQ,BE];exact aB hW (aB K p5)⟩);(replace S:=aB K S;clear d0 d1 p0 p1 p2 p3 p4 p5 HI HK HW az K;generalize F=H at *;obtain⟨m,hm⟩:∃m,m=(nO q (eJ y.y r) (eJ y.y x)):=⟨_,rfl⟩;rw[<-hm]at a2 N ai ⊢;clear hm;obtain⟨z,hz⟩:∃z,z=rY y [A] [m]:=⟨_,rfl⟩;obtain⟨ok,ae⟩:∃ok,ok=(fU y [A] [m]).isSome:=⟨_,rfl⟩;(have HZ:O ((.tuple #[eW (rY y [A] [m]), .bool (fU y [A] [m]).isSome]:Value)=.tuple #[eW z, .bool ok]):=by show _=_;rw[hz,ae]);have ah:O ((ok=false->fU y [A] [m]=none)/\(ok=true->fU y [A] [m]=some z)):=by show(_->_)/\(_->_);rw[ae,hz];unfold rY;cases fU y [A] [m]<;>simp);rw[<-hz]at N;clear hz ae ai;go_upto_region 9 with fail;refine Lk (Rq H.heap.size) (fun _ _ _=>Rq.trans) (fun _=>⟨rfl,rfl,rfl,aE _,fun _ _=>rfl,fun _ _ _ h _=>h,fun _ y' h af=>⟨y',af,h⟩⟩) (Jk y z w.heap.size b j k H.heap.size m ok) 11 (aI9 z H.heap.size) dE kR kR (aFQ y z w.heap.size b j k H.heap.size m ok) ?hopF ?hendF
  case hopF=>
   refine xK.cons (fun a d h=>by have V:a.eval (.tmp 6)=(.pointer (some ⟨w.heap.size+1,0,none⟩):Value):=h.old 6;refine vG (v:=eW y) (w':=d) (bF rfl) ?_ tR (Rq.refl _ _) (fun g=>absurd g dE) (fun g=>absurd g dE);exact sN rfl V (kG.u b6.o (h.u.to_below (aE _))) M) ?_;refine xK.cons (fun a d h=>by have e5:a.eval (.tmp 5)=(.pointer (some ⟨w.heap.size,0,none⟩):Value):=h.old 5;refine vG (v:=.pointer (some ⟨w.heap.size,3,none⟩)) (w':=d) (bF rfl) ?_ tR (Rq.refl _ _) (fun g=>absurd g dE) (fun g=>absurd g dE);have ec:=qM a;generalize a.eval=ev at *;clear h;go_simp) ?_;refine xK.cons (fun a d h=>by have bx:a.eval (.tmp 77)=(.pointer (some ⟨w.heap.size,3,none⟩):Value):=h.of 77;have c3:=aB (h.u.to_below (aE _)) S;refine vG (v:=.slice (some ⟨b,j,none⟩) 3 k) (w':=d) (bF rfl) ?_ tR (Rq.refl _ _) (fun g=>absurd g dE) (fun g=>absurd g dE);have ec:=qM a;generalize a.eval=ev at *;clear h;go_simp) ?_;refine xK.cons (fun a d h=>by have bz:a.eval (.tmp 78)=(.slice (some ⟨b,j,none⟩) 3 k:Value):=h.of 78;have bZ:¬k=2:=oM;refine vG (v:=.slice (some ⟨b,j+4,none⟩) 1 (k-2)) (w':=d) (bF rfl) ?_ tR (Rq.refl _ _) (fun g=>absurd g dE) (fun g=>absurd g dE);have ec:=qM a;generalize a.eval=ev at *;clear h;go_simp) ?_;refine xK.cons (fun a d h=>by have e9:a.eval (.tmp 9)=(.int .i64 m:Value):=h.old 9;refine vG (v:=.int .i64 m) (w':=d) (bF rfl) ?_ tR (Rq.refl _ _) (fun g=>absurd g dE) (fun g=>absurd g dE);have ec:=qM a;generalize a.eval=ev at *;clear h;go_simp) ?_;refine xK.cons (fun a d h=>by have bT:a.eval (.tmp 80)=(.int .i64 m:Value):=h.of 80;refine vG (v:=.slice (some ⟨d.heap.size,0,none⟩) 1 1) (w':=d.alloc (.cells #[.int .i64 m] 3)) (bF rfl) ?_ (fun t ht=>by cases ht;exact⟨_,rfl,aR d _⟩) (Rq.of_below ((aH _ _).alloc (aE _) _) h.u.size) (fun g=>absurd g dE) (fun g=>absurd g dE);have ec:=qM a;generalize a.eval=ev at *;clear h;go_simp) ?_;refine xK.cons (fun a d h=>?_) ?_
   ·have bw:a.eval (.tmp 76)=(eW y:Value):=h.of 76;have bN:a.eval (.tmp 79)=(.slice (some ⟨b,j+4,none⟩) 1 (k-2):Value):=h.of 79;obtain⟨E,bU,bf⟩:∃E,a.eval (.tmp 81)=.slice (some ⟨E,0,none⟩) 1 1/\d.heap[E]?=some (.cells #[.int .i64 m] 3):=h.of 81;refine aJV (f:=189) (args:=#[eW y, .slice (some ⟨b,j+4,none⟩) 1 (k-2), .slice (some ⟨E,0,none⟩) 1 1]) (bF rfl) ?_ ?_
    ·have ec:=qM a;have ef:=IM a;generalize a.eval=ev at *;clear h;go_simp
    refine Calls.mono (aHB y [A] [m] _ _ d M (b4.o d (h.u.to_below (aE _))) (aQD bf) rfl sI b5.o) ?_;rintro _ y2 ⟨rfl,Y⟩;exact⟨_,rfl,fun t ht=>by cases ht;exact HZ.o,Rq.of_below Y h.u.size,fun g=>absurd g dE,fun g=>absurd g dE⟩
   refine xK.cons (fun a d h=>by have bW:a.eval (.tmp 82)=(.tuple #[eW z, .bool ok]:Value):=h.of 82;refine vG (v:=.tuple #[eW z, .bool ok]) (w':=d) (bF rfl) ?_ tR (Rq.refl _ _) (fun g=>absurd g dE) (fun g=>absurd g dE);have ec:=qM a;generalize a.eval=ev at *;clear h;go_simp) ?_;refine xK.cons (fun a d h=>by have b8:a.eval (.tmp 75)=(.tuple #[eW z, .bool ok]:Value):=h.of 75;refine vG (v:=eW z) (w':=d) (bF rfl) ?_ tR (Rq.refl _ _) (fun g=>absurd g dE) (fun g=>absurd g dE);have ec:=qM a;generalize a.eval=ev at *;clear h;go_simp) ?_;refine xK.cons (fun a d h=>by have b8:a.eval (.tmp 75)=(.tuple #[eW z, .bool ok]:Value):=h.of 75;refine vG (v:=.bool ok) (w':=d) (bF rfl) ?_ tR (Rq.refl _ _) (fun g=>absurd g dE) (fun _ _ hD=>Jj dE hD);have ec:=qM a;generalize a.eval=ev at *;clear h;go_simp) ?_;refine xK.cons (fun a d h=>by refine vG (v:=.pointer (some ⟨d.heap.size,0,none⟩)) (w':=d.alloc (.cells #[.int .i64 0, .int .i64 0, .int .i64 0, .int .i64 0, .int .i64 0, .int .i64 0, .int .i64 0, .int .i64 0, .bool false, .bool false, .bool false, .bool false, .bool false, .bool false, .bool false, .bool false] 138)) (bF rfl) ?_ (fun t ht=>by cases ht;exact⟨_,rfl,h.u.size,uV,⟨rfl,rfl⟩,aR d _⟩) (Rq.of_below ((aH _ _).alloc (aE _) _) h.u.size) (fun g=>absurd g dE) (fun g=>absurd g dE);have ec:=qM a;generalize a.eval=ev at *;clear h;go_simp) ?_;refine xK.cons (fun a d h=>by have b9:a.eval (.tmp 83)=(eW z:Value):=h.of 83;obtain⟨E,ak,aw,y',af,ab⟩:∃E,a.eval (.tmp 10)=.pointer (some ⟨E,0,none⟩)/\H.heap.size<=E/\∃y',jI 8 y'/\kG d E y':=h.of 10;exact aJW (w':=d.setRow E (eA z)) (bF rfl) (aN3 rfl ak b9 ab af N.o) rfl (Rq.store ab aw N.o) (fun _=>⟨E,aw,ak,Dw ab⟩) (fun _ g=>absurd rfl g)) ?_;refine xK.cons (fun a d h=>by have bX:a.eval (.tmp 84)=(.bool ok:Value):=h.of 84;refine vG (v:=.bool ok) (w':=d) (bF rfl) ?_ tR (Rq.refl _ _) (fun g=>absurd g dE) (fun _ _ hD=>Jj dE hD);have ec:=qM a;generalize a.eval=ev at *;clear h;go_simp) ?_;exact xK.nil
  case hendF=>
   rintro⟨B,U⟩ F ap ba ad Z a0 X;obtain⟨ZB,be,a4,au⟩:=ba;have a4:B.getD 10 undef=.pointer (some ⟨ZB,0,none⟩):=a4;have al:B.getD 11 undef=.bool ok:=zG (T:=Jk y z w.heap.size b j k H.heap.size m ok) (w:=F) (a:=⟨B,U⟩) (t:=11) X kR;obtain rfl:U=[]:=ad;have C:=LH [76,77,78,79,80,81,82,75,83,84,10,11] B _ Z a0;clear Z a0 X;simp only[List.foldl_cons,List.foldl_nil,a4,al]at C;clear a4 al;generalize B.getD 76 undef=c4 at C;generalize B.getD 77 undef=c5 at C;generalize B.getD 78 undef=c6 at C;generalize B.getD 79 undef=c7 at C;generalize B.getD 80 undef=c8 at C;generalize B.getD 81 undef=c9 at C;generalize B.getD 82 undef=ca at C;generalize B.getD 75 undef=c2 at C;generalize B.getD 83 undef=cc at C;generalize B.getD 84 undef=cd at C;simp only[List.setIfInBounds_toArray,List.set_cons_zero,List.set_cons_succ]at C;subst C;have ac:Below H.heap.size H F:=ap.to_below (aE _);have a7:O _:=a3.o.grow _ _ _ ag.o ac;have a8:O _:=aT.o.trans (Kp.of_below ac aI.1);have b7:O (kG F ZB z):=au;(have bY:ZB≠NB:=by have :=aI.2;omega);clear ap ac au be;cases ax:ok
   ·(have G:O (gG step s LL=(s,true)):=by show _=_;rw[a2.o,ah.o.1 ax];rfl);go_wp2_with fail;go_ret;exact⟨by rw[G.o];rfl,by rw[G.o];exact a7.o,a8.o⟩
   have a6:=ah.o.2 ax;have a1:O _:=YM m F;cases P:cP m
   ·(have G:O (gG step s LL=(s,true)):=by show _=_;rw[a2.o,a6];show gG step s (if cP m=true then [z] else [])=_;rw[P];rfl);rw[P]at a1;clear P a6;go_wp2_with(go_at_call 109;refine Calls.mono a1.o ?_;rintro _ wF ⟨rfl,L⟩;have L:=L.symm;subst L);go_ret;exact⟨by rw[G.o];rfl,by rw[G.o];exact a7.o,a8.o⟩
   (have a9:O (LL=[z]):=by show _=_;rw[a2.o,a6];show(if cP m=true then [z] else [])=_;rw[P];rfl);rw[a9.o]at aa;have aV:O _:=aa.1;(have G:O (gG step s LL=((step s z).1,(step s z).2)):=by show _=_;rw[a9.o,rW];cases hq:(step s z).2<;>rfl);rw[P]at a1;clear P a6 aa a9
   go_wp2_with(first
    |(go_at_call 109;refine Calls.mono a1.o ?_;rintro _ wF ⟨rfl,L⟩;have L:=L.symm;subst L)
    |(refine nE (by first|exact bF rfl|exact EH rfl rfl rfl rfl) _ rfl _ rfl z b7.o N.o ?_))
   refine Calls.mono (a3.o.call s F z a7.o aV.o N.o) ?_;rintro eR w4 ⟨bg,bb,bc⟩;subst bg;go_wp2_with fail;go_ret;exact⟨by rw[G.o];rfl,by rw[G.o];exact bb,a8.o.trans bc⟩
structure Yh (facts:List aN) (l:cI) (y:bK):Prop where
 li:Fk 8 facts l
 tl:l.p.length<=1000
 n0:l.kind=4->cP (eJ y.y (cA l.p 0))=true
 n1:l.kind=4->cP (eJ y.y (cA l.p 1))=true
theorem aM9{σ:Type}{step:σ->bK->σ×Bool}{M:σ->bK->Prop}{I:σ->World->Prop}{NB hh:Nat}{cb:Array Value}(facts:List aN)(l:cI)(y:bK)(x N:Value)(j w:World)(s:σ)
 (E:Below j.heap.size j w) (F:dA j x facts) (W:facts.length<=1000000) (r:fT j N l.p) (H:gX 8 l.p) (D:∀f,f∈facts->f.z=l.z->l.p.length=f.args.length) (Y:l.p.length<=1000) (L:jI 8 y) (J:l.kind=1)
 (m:WC j.heap.size NB hh cb step M I) (Z:∀B w,(callFunc hh B).run Tryz.prog w=.ok (.enter hh B) w) (n:I s w) (q:ET step M s (kF facts l y)):
 Calls Tryz.prog 145 #[x,nR l N,eW y, .func (.func hh) #[] cb] w fun e P=>e=.returned (.bool (gG step s (kF facts l y)).2)/\I (gG step s (kF facts l y)).1 P/\Kp j.heap.size NB w P:=by
 rw[aL9 J]at q ⊢;obtain⟨at_,i,a1,_⟩:=id r;subst a1;obtain⟨kd,d,g,b⟩:=l;dsimp only at *;subst J;obtain⟨k,C,v⟩:=KK w (.cells #[.int .i64 1, .int .i64 d, .int .i64 g, .slice at_ b.length i] 49) (.cells (eA y) 138);have K:=m.room s w n;have R:O (kG ((w.alloc (.cells #[.int .i64 1, .int .i64 d, .int .i64 g, .slice at_ b.length i] 49)).alloc (.cells (eA y) 138)) (w.heap.size+1) y):=C;have HK:O (Kp j.heap.size NB w ((w.alloc (.cells #[.int .i64 1, .int .i64 d, .int .i64 g, .slice at_ b.length i] 49)).alloc (.cells (eA y) 138))):=Kp.of_below v K.1;have A:O _:=aFR facts ⟨1,d,g,b⟩ y x (.slice at_ b.length i) j _ s (HK.o.u E) F W r H D Y L m Z (m.grow _ _ _ n v) q;(have S:((w.alloc (.cells #[.int .i64 1, .int .i64 d, .int .i64 g, .slice at_ b.length i] 49)).alloc (.cells (eA y) 138)).cell? ⟨w.heap.size,0,none⟩=some (.int .i64 1):=cH k);(have T:((w.alloc (.cells #[.int .i64 1, .int .i64 d, .int .i64 g, .slice at_ b.length i] 49)).alloc (.cells (eA y) 138)).cell? ⟨w.heap.size,1,none⟩=some (.int .i64 d):=cH k);(have U:((w.alloc (.cells #[.int .i64 1, .int .i64 d, .int .i64 g, .slice at_ b.length i] 49)).alloc (.cells (eA y) 138)).cell? ⟨w.heap.size,2,none⟩=some (.int .i64 g):=cH k);(have V:((w.alloc (.cells #[.int .i64 1, .int .i64 d, .int .i64 g, .slice at_ b.length i] 49)).alloc (.cells (eA y) 138)).cell? ⟨w.heap.size,3,none⟩=some (.slice at_ b.length i):=cH k);clear k C v n E m F r H D q K;generalize List.filterMap (sH ⟨1,d,g,b⟩ y) facts=LL at *
 go_enter Tryz.func145,Tryz.ntmps145
 go_upto_region 3 with fail;generalize (w.alloc (.cells #[.int .i64 1, .int .i64 d, .int .i64 g, .slice at_ b.length i] 49)).alloc (.cells (eA y) 138)=w1 at *;go_wp2_with(refine nE (bF rfl) _ rfl _ rfl y R.o L ?_);refine Calls.mono A.o ?_;rintro e w4 ⟨a0,G,X⟩;subst a0;have Q:O _:=G;clear G S T U V A;go_wp2_with fail;go_ret;exact⟨rfl,Q.o,HK.o.trans X⟩
theorem aFS{σ:Type}{step:σ->bK->σ×Bool}{D:σ->bK->Prop}{I:σ->World->Prop}{NB hh:Nat}{cb:Array Value}(facts:List aN)(l:cI)(y:bK)(i j:Value)(g w:World)(s:σ)
 (n:Below g.heap.size g w) (B:dA g i facts) (C:facts.length<=1000000) (F:∀f,f∈facts->fW f) (v:fT g j l.p) (b:Yh facts l y) (z:jI 8 y)
 (m:WC g.heap.size NB hh cb step D I) (x:∀A w,(callFunc hh A).run Tryz.prog w=.ok (.enter hh A) w) (q:I s w) (r:ET step D s (kF facts l y)):
 Calls Tryz.prog 145 #[i,nR l j,eW y, .func (.func hh) #[] cb] w fun e E=>e=.returned (.bool (gG step s (kF facts l y)).2)/\I (gG step s (kF facts l y)).1 E/\Kp g.heap.size NB w E:=by
 rcases b.li.k with d|d|d|d
 ·exact aM9 facts l y i j g w s n B C v b.li.t (b.li.a d) b.tl z d m x q r
 ·exact aNA facts l y i j g w s n B C F v b.li.t b.tl z d m x q r
 ·exact aNB facts l y i j g w s n v b.li.t (b.li.k3 d) z d m x q r
 exact aNC facts l y i j g w s n v b.li.t (b.li.k4 d) z d (b.n0 d) (b.n1 d) m x q r
def aHG(w w':World)(v:Value)(s:List aN):Prop:=
 ∃q:List Fv,q.map (·.1)=s/\w'.ownsRow w.heap.size 55 2 v q.length (q.map dW).flatten/\∀p,p∈q->DN w p
theorem AL{w w':World}{B:Nat}{v:Value}{q:List Fv}(e:w'.ownsRow B 55 2 v q.length (q.map dW).flatten)(m:∀p,p∈q->DN w p)(n:Below w.heap.size w w'):dA w' v (q.map (·.1)):=by
 rcases jJ e with⟨b,l⟩|⟨g,j,b⟩
 ·have f:q=[]:=eB l;subst f;exact⟨none,0,b,⟨aE _,fun _=>rfl⟩, .inl rfl⟩
 subst b;have r:q.length<=j:=by
  rcases e.2 with⟨b,_⟩|⟨_,_,_,b,_,_,y,_⟩
  ·cases b
  injection b with _ _ x;omega
 refine⟨_,j,by rw[aP],⟨by rw[aP];exact r,fun h=>by cases h⟩, .inr ⟨g,0,rfl,fun i d=>?_⟩⟩;rw[aP]at d;have f:q[i]?=some q[i]:=aD d;(have s:aZ (q.map (·.1)) i=q[i].1:=by simp[aZ,d]);obtain⟨c0,k⟩:=vL.cell e f;rw[dV,s];exact⟨c0,q[i].2,k,aM (m _ (dY d)).1 n⟩
theorem aHG.toV{w w':World}{v:Value}{s:List aN}(h:aHG w w' v s)(e:Below w.heap.size w w'):dA w' v s:=by obtain⟨q,rfl,b,d⟩:=h;exact AL b d e
structure Gap (q R:List Fv) (k:Nat):Prop where
 len:R.length=q.length+1
 lo:∀j,j<k->R[j]?=q[j]?
 hi:∀j,k<j->R[j]?=q[j-1]?
theorem Gap.start(q:List Fv)(x:Fv):Gap q (q++[x]) q.length:=
 ⟨by simp,fun j b=>mL b,fun j b=>by rw[cZ sO,cZ oM]⟩
theorem Gap.step{q R:List Fv}{k:Nat}{y:Fv}(h:Gap q R (k+1))(e:q[k]?=some y):Gap q (R.set (k+1) y) k:=by
 have g:k<q.length:=by
  rcases jW k q.length with b|b
  ·exact b
  rw[cZ b]at e;cases e
 refine⟨by rw[kL];exact h.len,fun j f=>?_,fun j f=>?_⟩
 ·rw[fS,if_neg oM];exact h.lo j oM
 rw[fS];by_cases d:k+1=j
 ·rw[if_pos d,if_pos (by have :=h.len;omega),<-d];exact e.symm
 rw[if_neg d];exact h.hi j oM
theorem Gap.fin{q R:List Fv}{k:Nat}(h:Gap q R k)(e:k<=q.length)(x:Fv):R.set k x=q.take k++x::q.drop k:=by
 apply jU;intro j;rw[fS];by_cases b:k=j
 ·rw[if_pos b,if_pos (by have :=h.len;omega),<-b,jP (by rw[cW];omega),cW,vA e,wS];rfl
 rw[if_neg b];by_cases f:j<k
 ·rw[h.lo j f,mL (by rw[cW];omega),gS,if_pos f]
 rw[h.hi j oM,jP (by rw[cW];omega),cW,vA e];obtain⟨d,g⟩:∃d,j-k=d+1:=⟨j-k-1,oM⟩;rw[g,List.getElem?_cons_succ,UA]
 congr 1
 omega
theorem aJI{s l:List aN}{f:aN}(h:xP s l)(d:f∈s):xP s (l++[f]):=
 ⟨h.1,fun x=>by
  rw[dP,h.2];constructor
  ·intro b;exact .inl b
  rintro(b|b)
  ·exact b
  rw[cQ.mp b];exact(h.2 f).mp d⟩
theorem Wj{s l:List aN}{f:aN}{k:Nat}(h:xP s l)(e:f∉s)(g:k<=s.length)(d:∀x,x∈s.drop k->eV x f>0)(ht:k=0\/∃x,s[k-1]?=some x/\¬eV x f>0):xP (s.take k++f::s.drop k) (l++[f]):=
 ⟨aL5 h.1 e g d ht,fun x=>by
  rw[aH2,dP,h.2,cQ];constructor
  ·rintro(b|b)
   ·exact .inr b
   exact .inl b
  rintro(b|b)
  ·exact .inr b
  exact .inl b⟩
theorem YD(Φ:Fv->Prop)(l:List aN)(v:Value)(D w:World)(hΦ:∀(b off ac k:Nat),v=.slice (some ⟨b,off,none⟩) l.length ac->k<l.length->∀u,D.cell? ⟨b,off+k*2+1,none⟩=some u->Φ (aZ l k,u))(am:Below D.heap.size D w)(hV:dA D v l)(hl:l.length<=4398046511103)(hf:∀f,f∈l->fW f):
 Calls Tryz.prog 35 #[v] w fun e K=>∃v',e=.returned v'/\(∃q:List Fv,q.map (·.1)=dR l/\K.ownsRow w.heap.size 55 2 v' q.length (q.map dW).flatten/\∀p,p∈q->(DN D p/\Φ p))/\Below w.heap.size w K:=by
 obtain⟨i0,hi,bl,bm,aw⟩:=iT vK;obtain⟨ao,ac,rfl,_,hA⟩:=hV;have HA:O (lJ D ao l):=hA;have HΦ:O (∀(b off bh k:Nat),Value.slice ao l.length ac=.slice (some ⟨b,off,none⟩) l.length bh->k<l.length->∀u,D.cell? ⟨b,off+k*2+1,none⟩=some u->Φ (aZ l k,u)):=hΦ;clear hΦ;have E:O (∀{z:World},Below w.heap.size w z->Below D.heap.size D z):=fun hz=>am.trans (hz.mono am.size);clear am;have HF:O (∀f,f∈l->fW f):=hf;clear hA hf
 go_enter Tryz.func35,Tryz.ntmps35
 go_wp2_with fail;go_loopw [3,4] (fun vs i wr=>∃(k:Nat)(q:List Fv),k<=l.length/\i=.int .i64 k/\wr.ownsRow w.heap.size 55 2 vs q.length (q.map dW).flatten/\xP (q.map (·.1)) (l.take k)/\(∀p,p∈q->(DN D p/\Φ p))/\Below w.heap.size w wr/\q.length<=k) (fun _ i _=>l.length-(intOf i).toNat);case atStart=>exact⟨0,[],bG _,rfl,eD _ _ _ _,⟨List.Pairwise.nil,fun x=>Iff.rfl⟩,fun _ s=>absurd s sI,aH _ _,aE _⟩
 case round=>
  obtain⟨W,bj⟩:∃W,W=wr:=⟨_,rfl⟩;subst bj;obtain⟨k,q,Q,rfl,a3,b6,b5,P,bU⟩:=hrel;have N:O _:=b6;have I:O _:=b5;clear b6 b5;obtain⟨az,aF,rfl⟩:=bJ a3;by_cases ad:k<l.length
  ·obtain⟨b,off,rfl,p0,fv,p1,aI⟩:=qJ HA.o k ad;have b4:=mT l k ad;(have Z:O (l.take (k+1)=l.take k++[aZ l k]):=by show _=_;rw[eI,CX l k ad];rfl);have aa:O (dM D fv (aZ l k).args):=aI;have a9:O (fW (aZ l k)):=HF.o _ b4;obtain⟨A,B,rfl,_⟩:=aI;have a0:=aB (E.o P) p0;have a1:=aB (E.o P) p1;have M:O (D.cell? ⟨b,off+k*2,none⟩=some (.int .i64 (aZ l k).z)/\D.cell? ⟨b,off+k*2+1,none⟩=some (.slice A (aZ l k).args.length B)):=⟨p0,p1⟩;have ay:O (Φ (aZ l k,Value.slice A (aZ l k).args.length B)):=HΦ.o b off ac k rfl ad _ p1;clear p0 p1 b4;generalize aZ l k=f at *;(have ax:O (Calls Tryz.prog 26 #[.slice az q.length aF,kS f.z (.slice A f.args.length B)] W fun e K=>e=.returned (.bool (jZ (q.map (·.1)) f))/\Below W.heap.size W K):=by exact AP (q.map (·.1)) f _ _ W (AL a3 (fun p s=>(I.o p s).1) (E.o P)) (aM aa.o (E.o P)) (by rw[aP];omega) (fun g hg=>by obtain⟨p,s,rfl⟩:=cR.mp hg;exact(I.o p s).1.2) a9.o);go_wp2_with fail;refine Calls.mono ax.o ?_;rintro e w1 ⟨rfl,an⟩;have ag:=bI a3 an;have U:=P.trans (an.mono P.size);clear a3 P an ax a0 a1;cases hh:jZ (q.map (·.1)) f
   ·(have ab:O (f∉q.map (·.1)):=fun h=>by rw[lD.mpr h]at hh;cases hh);clear hh;have b0:=aB (E.o U) M.o.1;have b1:=aB (E.o U) M.o.2;have bs:=U.size;go_wp2_with(at_builtin;refine fX _ rfl (.tmp 20) (.tmp 25) 27 rfl w.heap.size 55 i0 _ 2 32 Tryz.underlying27 hi bl bm aw rfl dE _ _ _ rfl (ag.alloc _) ⟨w1.heap.size,0,none⟩ 1 1 (dW (f, .slice A f.args.length B)) rfl rfl ?c1 ?c2 ?c3 ?c4 ?c5 ?_);(case c1=>exact Wx w1 _ _ 55);(case c2=>intro u hu;simp[dW]at hu;rcases hu with rfl|rfl<;>rfl);(case c3=>unfold maxLen;omega);(case c4=>omega);(case c5=>simp;omega);intro bX w4 au aV _;have aT:Below w.heap.size w w4:=(U.alloc U.size _).grown aV sO (fun k Q=>(ag.lt k Q).1);rcases jJ au with⟨_,h0⟩|⟨g,al,bi⟩
    ·exact absurd h0 oM
    subst bi;(have av:vL w4 w.heap.size g al (q++[(f,Value.slice A f.args.length B)]):=by unfold vL;rw[bA,cB,fZ];simpa using au);have bt:=av.lt;clear au aV ag U b0 b1;go_wp2_with fail;go_loopw [5] (fun ik wr=>∃(m:Nat)(R:List Fv),m<=q.length/\ik=.int .i64 m/\vL wr w.heap.size g al R/\Gap q R m/\(∀x,x∈(q.map (·.1)).drop m->eV x f>0)/\Below w.heap.size w wr) (fun ik _=>(intOf ik).toNat);case atStart=>exact⟨q.length,_,aE _,rfl,av,Gap.start q _,fun x L=>by rw[bD sI]at L;simp at L,aT⟩
    case round=>
     clear av aT;obtain⟨j,bk⟩:∃j,j=wr:=⟨_,rfl⟩;subst bk;obtain⟨m,R,hm,rfl,a4,aq,b2,G⟩:=hrel;have T:O _:=aq;have X:O _:=b2;have aS:=aq.len;have br:O (R.length=q.length+1):=aS;have a2:m<R.length:=oM;clear aq b2 aS;have b0:=aB (E.o G) M.o.1;have b1:=aB (E.o G) M.o.2;rcases UC m with ae|ae
     ·have a7:O (m=0\/∃x,(q.map (·.1))[m-1]?=some x/\¬eV x f>0):=.inl ae;(have bT:decide (0<m)=false:=by simp;omega);have bq:O (m=0):=ae;clear ae;go_upto_region 8 with fail;go_region;have C:vL j.drew w.heap.size g al R:=a4;have n:Below w.heap.size w j.drew:=⟨G.os,G.tape,G.output,G.size,G.block⟩;clear a4 G b0 b1;generalize j.drew=wz at *;(have a6:O (xP ((q.take m++(f,Value.slice A f.args.length B)::q.drop m).map (·.1)) (l.take (k+1))):=by rw[Z.o,cB,lF,IG,List.map_drop];exact Wj N.o ab.o (by rw[aP];exact hm) X.o a7.o);have ak:O (∀p,p∈q.take m++(f,Value.slice A f.args.length B)::q.drop m->(DN D p/\Φ p)):=by
       intro p s;rcases dP.mp s with s|s
       ·exact I.o p (jG s)
       rcases eQ.mp s with rfl|s
       ·exact⟨⟨aa.o,a9.o⟩,ay.o⟩
       exact I.o p (qA s)
      have F:=C.put m a2 (f,Value.slice A f.args.length B);rw[T.o.fin hm]at F;have V:(q.take m++(f,Value.slice A f.args.length B)::q.drop m).length=q.length+1:=by simp;omega
      have a8:Below w.heap.size w ((wz.setCell ⟨g,m*2,none⟩ (.int .i64 f.z)).setCell ⟨g,m*2+1,none⟩ (.slice A f.args.length B)):=
       ⟨n.os,n.tape,n.output,by simpa[World.setCell]using n.size,fun k Q=>(gE _ _ _ _ (show¬k=g by omega)).trans ((gE _ _ _ _ (show¬k=g by omega)).trans (n.block k Q))⟩
      obtain⟨r,S,_⟩:=EN (q:=R) (i:=m) a2;obtain⟨r0,r1⟩:=C.cell S;have b8:=C.frozen (m*2);have b9:=C.frozen (m*2+1);have d0:=aB (E.o n) M.o.1;have d1:=aB (E.o n) M.o.2;unfold vL at F;rw[V]at F;have aj:O _:=F;have a5:O ((q.take m++(f,Value.slice A f.args.length B)::q.drop m).length=q.length+1):=V;clear Z N ab X T C S F V a7;go_wp2_with fail;go_roundw;(case rel=>exact⟨k+1,_,oM,gN,by rw[a5.o];exact aj.o,a6.o,ak.o,a8,by rw[a5.o];omega⟩);case measure=>exact mI
     obtain⟨d,b3⟩:∃d,d+1=m:=⟨m-1,oM⟩;(have bW:IntKind.i64.wrap ((m:Int)-1)=(d:Int):=by have h9:(m:Int)-1=(d:Int):=oM;rw[h9];simp[IntKind.wrap,IntKind.bits,IntKind.signed];omega);(obtain⟨y,hy,ah⟩:=EN (q:=q) (i:=d) oM;obtain⟨c0,c1⟩:=a4.cell ((T.o.lo d oM).trans hy);obtain⟨ya,yc,ai⟩:=Iz (I.o y ah).1;have HY:O (q[d]?=some y/\y.2=.slice ya y.1.args.length yc):=⟨hy,ai⟩;rw[ai]at c1;have HN:O (∀z,Below j.heap.size j z->Calls Tryz.prog 44 #[kS y.1.z (.slice ya y.1.args.length yc),kS f.z (.slice A f.args.length B)] z fun e K=>e=.returned (.int .i64 (eV y.1 f))/\Below j.heap.size j K/\K.cell? ⟨g,d*2,none⟩=some (.int .i64 y.1.z)/\K.cell? ⟨g,d*2+1,none⟩=some (.slice ya y.1.args.length yc)/\K.cell? ⟨b,off+k*2,none⟩=some (.int .i64 f.z)/\K.cell? ⟨b,off+k*2+1,none⟩=some (.slice A f.args.length B)):=by intro z hz;have b7:=G.trans (hz.mono G.size);refine(AQ y.1 f _ _ z (by have J:=aM (I.o y ah).1.1 (E.o b7);rw[ai]at J;exact J) (aM aa.o (E.o b7)) (I.o y ah).1.2 a9.o).mono ?_;rintro e K ⟨h1,h2⟩;have J:=hz.trans (h2.mono hz.size);exact⟨h1,J,aB J c0,aB J c1,aB J b0,aB J b1⟩);clear hy ah ai;have bu:d<q.length+1:=oM;have bv:(0:Int)<=(d:Int):=oM;have bw:(d:Int)<((q.length+1:Nat):Int):=oM;have bx:(d:Int)<(q.length:Int)+1:=oM;have bz:(0:Int)<(m:Int):=oM;have Y:O (d+1=m):=b3;clear b3;have bc:∀b o,Below j.heap.size j b->Below j.heap.size j (b.alloc o):=fun _ o h=>h.alloc h.size o;have bd:∀b,Below j.heap.size j b->Below j.heap.size j b.drew:=fun _ h=>⟨h.os,h.tape,h.output,h.size,h.block⟩;have be:Below j.heap.size j j:=aH _ _;go_upto_region 8 with fail
     go_region_held3 (fun yy=>yy.cell? ⟨g,d*2,none⟩=some (.int .i64 y.1.z)/\yy.cell? ⟨g,d*2+1,none⟩=some (.slice ya y.1.args.length yc)/\yy.cell? ⟨b,off+k*2,none⟩=some (.int .i64 f.z)/\yy.cell? ⟨b,off+k*2+1,none⟩=some (.slice A f.args.length B)/\Below j.heap.size j yy) (go_keep) (
      (go_at_call 44;refine Calls.mono (HN.o _ ?_) ?_;(simp[*]);rintro e w2 ⟨rfl,ap,aw,bn,bo,bp⟩))
     clear bc bd be HN bo bp b0 b1 c0 c1;have C:=a4.keep (ap.block g a4.lt.2);have n:=G.trans (ap.mono G.size);clear a4 G ap;generalize w2=wz at *;by_cases ho:0<eV y.1 f
     ·(have bb:O (Gap q (R.set m y) d):=by have J:=T.o;rw[<-Y.o]at J ⊢;exact J.step HY.o.1);have bg:O (∀x,x∈(q.map (·.1)).drop d->eV x f>0):=by
       intro x L;(have ar:d<(q.map (·.1)).length:=by rw[aP];have :=Y.o;omega);rw[dB ar]at L;rcases eQ.mp L with L|L
       ·rw[L,List.getElem_map];(have h4:q[d]'(by simpa using ar)=y:=by have h5:=HY.o.1;rw[aD (by simpa using ar)]at h5;exact Option.some.inj h5);rw[h4];exact ho
       exact X.o x (by rw[<-Y.o];exact L)
      have F:=C.put m a2 y;rw[HY.o.2]at F
      have a8:Below w.heap.size w ((wz.setCell ⟨g,m*2,none⟩ (.int .i64 y.1.z)).setCell ⟨g,m*2+1,none⟩ (.slice ya y.1.args.length yc)):=
       ⟨n.os,n.tape,n.output,by simpa[World.setCell]using n.size,fun k Q=>(gE _ _ _ _ (show¬k=g by omega)).trans ((gE _ _ _ _ (show¬k=g by omega)).trans (n.block k Q))⟩
      obtain⟨r,S,_⟩:=EN (q:=R) (i:=m) a2;obtain⟨r0,r1⟩:=C.cell S;have b8:=C.frozen (m*2);have b9:=C.frozen (m*2+1);have bN:m<q.length+1:=oM;(have bf:O (d<m):=by have :=Y.o;show d<m;omega);clear C S n T X;go_wp2_with fail;go_roundw;(case rel=>exact⟨d,R.set m y,by have :=Y.o;omega,by first|rfl|go_num|(simp[*]),F,bb.o,bg.o,a8⟩);case measure=>have :=bf.o;simp[intOf, *]
     have a7:O (m=0\/∃x,(q.map (·.1))[m-1]?=some x/\¬eV x f>0):=.inr ⟨y.1,by rw[show m-1=d by have :=Y.o;omega,cY,HY.o.1];rfl,ho⟩;clear aw bn;(have a6:O (xP ((q.take m++(f,Value.slice A f.args.length B)::q.drop m).map (·.1)) (l.take (k+1))):=by rw[Z.o,cB,lF,IG,List.map_drop];exact Wj N.o ab.o (by rw[aP];exact hm) X.o a7.o);have ak:O (∀p,p∈q.take m++(f,Value.slice A f.args.length B)::q.drop m->(DN D p/\Φ p)):=by
      intro p s;rcases dP.mp s with s|s
      ·exact I.o p (jG s)
      rcases eQ.mp s with rfl|s
      ·exact⟨⟨aa.o,a9.o⟩,ay.o⟩
      exact I.o p (qA s)
     have F:=C.put m a2 (f,Value.slice A f.args.length B);rw[T.o.fin hm]at F;have V:(q.take m++(f,Value.slice A f.args.length B)::q.drop m).length=q.length+1:=by simp;omega
     have a8:Below w.heap.size w ((wz.setCell ⟨g,m*2,none⟩ (.int .i64 f.z)).setCell ⟨g,m*2+1,none⟩ (.slice A f.args.length B)):=
      ⟨n.os,n.tape,n.output,by simpa[World.setCell]using n.size,fun k Q=>(gE _ _ _ _ (show¬k=g by omega)).trans ((gE _ _ _ _ (show¬k=g by omega)).trans (n.block k Q))⟩
     obtain⟨r,S,_⟩:=EN (q:=R) (i:=m) a2;obtain⟨r0,r1⟩:=C.cell S;have b8:=C.frozen (m*2);have b9:=C.frozen (m*2+1);have d0:=aB (E.o n) M.o.1;have d1:=aB (E.o n) M.o.2;unfold vL at F;rw[V]at F;have aj:O _:=F;have a5:O ((q.take m++(f,Value.slice A f.args.length B)::q.drop m).length=q.length+1):=V;clear Z N ab X T C S F V a7;go_wp2_with fail;go_roundw;(case rel=>exact⟨k+1,_,oM,gN,by rw[a5.o];exact aj.o,a6.o,ak.o,a8,by rw[a5.o];omega⟩);case measure=>exact mI
   (have a6:O (xP (q.map (·.1)) (l.take (k+1))):=by rw[Z.o];exact aJI N.o (lD.mp hh));clear Z N;go_wp2_with fail;go_roundw;(case rel=>exact⟨k+1,q,oM,gN,ag,a6.o,I.o,U,oM⟩);case measure=>exact mI
  have ba:O (∃q2:List Fv,q2.map (·.1)=dR l/\W.ownsRow w.heap.size 55 2 (.slice az q.length aF) q2.length (q2.map dW).flatten/\∀p,p∈q2->(DN D p/\Φ p)):=⟨q,by rw[DU N.o,dU oM],a3,I.o⟩;clear a3 N I;go_wp2_with fail;go_ret;exact⟨_,rfl,ba.o,P⟩
theorem Uy(l:List aN)(v:Value)(b w:World)(r:Below b.heap.size b w)(m:dA b v l)(z:l.length<=2097152)(x:∀f,f∈l->fW f):
 Calls Tryz.prog 35 #[v] w fun e g=>∃d,e=.returned d/\(∃q:List Fv,q.map (·.1)=dR l/\g.ownsRow w.heap.size 55 2 d q.length (q.map dW).flatten/\∀p,p∈q->DN b p)/\Below w.heap.size w g:=
 (YD (fun _=>True) l v b w (fun _ _ _ _ _ _ _ _=>trivial) r m oM x).mono fun _ _ ⟨d,s,⟨q,i,j,k⟩,n⟩=>⟨d,s,⟨q,i,j,fun p y=>(k p y).1⟩,n⟩
theorem YC(l:List aN)(v:Value)(w:World)(g:dA w v l)(j:l.length<=2097152)(i:∀f,f∈l->fW f):
 Calls Tryz.prog 35 #[v] w fun e d=>∃b,e=.returned b/\aHG w d b (dR l)/\Below w.heap.size w d:=Uy l v w w (aH _ _) g j i
end Go.Proofs.YthenjegmigeieaaGreat
