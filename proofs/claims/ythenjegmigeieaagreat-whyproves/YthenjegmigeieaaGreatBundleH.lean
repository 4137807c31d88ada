/- Own texts, one behind the other (part 8). -/
import Derived.Test.YthenjegmigeieaaGreatBundleG
import Derived.Test.YthenjegmigeieaaGreatRows
import Derived.Deep.QuietTactic
import Derived.BigQuiet
import Derived.Deep.RegionHeld3
import Derived.Deep.DeepCutAuto
import Derived.Deep.RegionLaw
import Derived.Laws.AppendOwnNone
import Derived.RangeFuncNested
import Derived.RangeFuncBound
import Derived.RangeFuncCalls
import Derived.RangeFuncLeaves
set_option maxRecDepth 100000
set_option maxHeartbeats 8000000
namespace Go.Proofs.YthenjegmigeieaaGreat
open Go.RowKit
theorem Bh{w y:World}{b off:Nat}{d:List Int}(h:pH w (some ⟨b,off,none⟩) d)(n:Nat)(j:n<d.length)(g:Below w.heap.size w y):y.cell? ⟨b,off+n,none⟩=some (.int .i64 (bM d n)):=by obtain⟨f,k,e,i⟩:=qY h n j;(obtain⟨rfl,rfl⟩:b=f/\off=k:=by simpa using e);exact aB g i
theorem aJ9(d:List Int)(va vn vr:Value)(r:bB)(vt vb:Value)(w:World)(aI:d.length<=9223372036854775807)(hA:dM w va d)(hT:fT w vt r.p)(hL:pI w vb r.body)(hF:BS r):
 Calls Tryz.prog 111 #[eN va vn vr,lP r vt vb] w fun e w'=>e=.returned (.int .i64 (dT d r))/\Below w.heap.size w w':=by
 obtain⟨ao,R,rfl,hA⟩:=hA;obtain⟨a1,n,A,g,f⟩:=r;have HT:O (fT w vt n):=hT;have HL:O (pI w vb g):=hL;have ai:O (n.length<=9223372036854775807):=hF.1;have ah:O (∀i,i<g.length->JM (cJ g i)):=hF.2.2;have aT:g.length<=9223372036854775807:=hF.2.1;obtain⟨at_,Z,rfl,_,_⟩:=hT;obtain⟨ab,cb,rfl,a4⟩:=hL;have a4:IP w ab g:=a4;have hA:pH w ao d:=hA;simp only at HT HL;clear hF;have s:=RB.start w (.cells #[.slice ao d.length R,vn,vr] 26) (.cells #[.int .i64 a1, .slice at_ n.length Z, .int .i64 A, .slice ab g.length cb, .int .i64 f] 40)
 have m:O (dT d ⟨a1,n,A,g,f⟩=if lG d a1 then
  iD (if(n.length:Int)≠bM d a1.toNat then 1 else 0) (
  iD (if dG f 0 8 then 0 else 3) (
  iD (eM f n) (
  iD (if dG A 0 4 then 0 else 7) (
  iD (if A≠0/\(n.length=0\/g.length=0)then 1 else 0) (
  iD (if 4<g.length then 2 else 0) (
  iD (aU (fK d f) g) (if uC ⟨a1,n,A,g,f⟩then 0 else 4)))))))
 else 5):=rfl
 go_enter Tryz.func111,Tryz.ntmps111
 go_wp2_with fail;refine(AE _ _ _ _).mono ?_;rintro e S ⟨B,az⟩;subst az;cases g1:lG d a1
 ·have L:dG a1 0 ((d.length:Int)-1)=false:=g1;rw[L]at B;subst B;(have HV:O (dT d ⟨a1,n,A,g,f⟩=5):=by show _=_;rw[m.o,g1];rfl);clear m a4 hA L;go_wp2_with fail;go_ret;exact⟨rV,s.j⟩
 have L:dG a1 0 ((d.length:Int)-1)=true:=g1;rw[L]at B;subst B;clear L;obtain⟨k,rfl,hk⟩:=TV g1;obtain⟨b,K,rfl,hc⟩:=qY hA k hk;have ag:O (pH w (some ⟨b,K,none⟩) d):=hA;have hq:=aB s.j hc;rw[g1,if_pos rfl,fJ]at m;clear hc hA;go_upto_region 4 with fail;generalize (w.alloc (.cells #[.slice (some ⟨b,K,none⟩) d.length R,vn,vr] 26)).alloc (.cells #[.int .i64 k, .slice at_ n.length Z, .int .i64 A, .slice ab g.length cb, .int .i64 f] 40)=w1 at *;(have c1:w1.cell? ⟨w.heap.size,0,none⟩=some (.slice (some ⟨b,K,none⟩) d.length R):=cH s.b1);(have d0:w1.cell? ⟨w.heap.size+1,0,none⟩=some (.int .i64 k):=cH s.b2);(have d1:w1.cell? ⟨w.heap.size+1,1,none⟩=some (.slice at_ n.length Z):=cH s.b2);(have d2:w1.cell? ⟨w.heap.size+1,2,none⟩=some (.int .i64 A):=cH s.b2);(have d3:w1.cell? ⟨w.heap.size+1,3,none⟩=some (.slice ab g.length cb):=cH s.b2);(have W:w1.cell? ⟨w.heap.size+1,4,none⟩=some (.int .i64 f):=cH s.b2);cases g2:((n.length:Int) != bM d k);rotate_left
 ·(have h2:¬(n.length:Int)=bM d k:=by simpa using g2);(have HV:O (dT d ⟨k,n,A,g,f⟩=1):=by show _=_;rw[m.o,if_pos h2];rfl);clear m h2;go_region_held3 (fun y=>y.cell? ⟨w.heap.size,0,none⟩=some (.slice (some ⟨b,K,none⟩) d.length R)/\y.cell? ⟨w.heap.size+1,0,none⟩=some (.int .i64 k)/\y.cell? ⟨w.heap.size+1,1,none⟩=some (.slice at_ n.length Z)/\y.cell? ⟨b,K+k,none⟩=some (.int .i64 (bM d k))) (go_keep) (fail);have a6:=s.j.drew;go_wp2_with fail;go_ret;exact⟨rV,a6⟩
 (have h2:(n.length:Int)=bM d k:=by simpa using g2);rw[if_neg (by simp[h2]),eY]at m;clear h2;go_region_held3 (fun y=>y.cell? ⟨w.heap.size,0,none⟩=some (.slice (some ⟨b,K,none⟩) d.length R)/\y.cell? ⟨w.heap.size+1,0,none⟩=some (.int .i64 k)/\y.cell? ⟨w.heap.size+1,1,none⟩=some (.slice at_ n.length Z)/\y.cell? ⟨b,K+k,none⟩=some (.int .i64 (bM d k))) (go_keep) (fail);have s:=s.drew;clear c1 d0 d1 d2 d3 W hq;generalize w1.drew=wd at *;(have c1:wd.cell? ⟨w.heap.size,0,none⟩=some (.slice (some ⟨b,K,none⟩) d.length R):=cH s.b1);(have d0:wd.cell? ⟨w.heap.size+1,0,none⟩=some (.int .i64 k):=cH s.b2);(have d1:wd.cell? ⟨w.heap.size+1,1,none⟩=some (.slice at_ n.length Z):=cH s.b2);(have d2:wd.cell? ⟨w.heap.size+1,2,none⟩=some (.int .i64 A):=cH s.b2);(have d3:wd.cell? ⟨w.heap.size+1,3,none⟩=some (.slice ab g.length cb):=cH s.b2);(have W:wd.cell? ⟨w.heap.size+1,4,none⟩=some (.int .i64 f):=cH s.b2);go_wp2_with fail;refine(AE _ _ _ _).mono ?_;rintro e S ⟨B,rfl⟩;cases G:dG f 0 8
 ·rw[G]at B;subst B;(have HV:O (dT d ⟨k,n,A,g,f⟩=3):=by show _=_;rw[m.o,G];rfl);clear m;go_wp2_with fail;go_ret;exact⟨rV,s.j⟩
 rw[G]at B;subst B;rw[G,if_pos rfl,eY]at m;(have ax:0<=f/\f<=8:=by simp[dG]at G;exact G);obtain⟨aw,ay⟩:=ax;go_wp2_with fail;refine Calls.mono (EE n f _ _ ⟨aw,ay⟩ ai.o (dS HT.o s.j)) ?_;rintro e w3 ⟨rfl,rfl⟩;by_cases P:eM f n=0;rotate_left
 ·(have J:(eM f n != 0)=true:=by simpa using P);(have HV:O (dT d ⟨k,n,A,g,f⟩=eM f n):=by show _=_;rw[m.o,pD _ P]);clear m;go_wp2_with fail;go_ret;exact⟨rV,s.j⟩
 (have J:(eM f n != 0)=false:=by simpa using P);rw[P,eY]at m;rw[P];clear P ai HT J;go_wp2_with fail;refine(AE _ _ _ _).mono ?_;rintro e S ⟨B,rfl⟩;cases N:dG A 0 4
 ·rw[N]at B;subst B;(have HV:O (dT d ⟨k,n,A,g,f⟩=7):=by show _=_;rw[m.o,N];rfl);clear m;go_wp2_with fail;go_ret;exact⟨rV,s.j⟩
 rw[N]at B;subst B;rw[N,if_pos rfl,eY]at m;(have aS:0<=A:=by simp[dG]at N;exact N.1);by_cases h6:A≠0/\(n.length=0\/g.length=0)
 ·(have HV:O (dT d ⟨k,n,A,g,f⟩=1):=by show _=_;rw[m.o,if_pos h6];rfl);clear m;have g6:decide (0<A)=true:=aQ oM;by_cases h7:n.length=0
  ·(have g7:((n.length:Int)==0)=true:=by simp[h7]);clear h6 h7;go_wp2_with fail;go_ret;exact⟨rV,s.j⟩
  (have g7:((n.length:Int)==0)=false:=by simp;exact fun e=>h7 (by rw[e];rfl));have h8:g.length=0:=h6.2.resolve_left h7;(have g8:((g.length:Int)==0)=true:=by simp[h8]);clear h6 h7 h8;go_wp2_with fail;go_ret;exact⟨rV,s.j⟩
 rw[if_neg h6,eY]at m;go_upto_region 13 with fail;go_cut [59] (fun v wx=>v=.bool false/\wx=S)
 case first=>
  by_cases g6:0<A
  ·have an:decide (0<A)=true:=aQ g6;have h9:¬(n.length=0\/g.length=0):=fun h=>h6 ⟨oM,h⟩;(have g7:((n.length:Int)==0)=false:=by simp;exact fun e=>h9 (.inl (by rw[e];rfl)));(have g8:((g.length:Int)==0)=false:=by simp;exact fun e=>h9 (.inr (by rw[e];rfl)));clear h6 h9;go_wp2_with fail;go_meet;exact⟨rfl,rfl⟩
  have an:decide (0<A)=false:=aJ g6;clear h6;go_wp2_with fail;go_meet;exact⟨rfl,rfl⟩
 case rest=>
  obtain⟨rfl,rfl⟩:=hcut;clear h6;by_cases h8:4<g.length
  ·(have HV:O (dT d ⟨k,n,A,g,f⟩=2):=by show _=_;rw[m.o,if_pos h8];rfl);have g8:decide (4<g.length)=true:=aQ h8;have ap:decide ((4:Int)<(g.length:Int))=true:=aQ oM;clear m;go_wp2_with fail;go_ret;exact⟨rV,s.j⟩
  have g8:decide (4<g.length)=false:=aJ h8;have ap:decide ((4:Int)<(g.length:Int))=false:=aJ oM;rw[if_neg h8,eY]at m;go_wp2_with fail;clear c1 d0 d1 d2 d3 W;go_loopw [7] (fun i wr=>∃j:Nat,j<=g.length/\i=.int .i64 j/\RB w (.cells #[.slice (some ⟨b,K,none⟩) d.length R,vn,vr] 26) (.cells #[.int .i64 k, .slice at_ n.length Z, .int .i64 A, .slice ab g.length cb, .int .i64 f] 40) wr/\aU (fK d f) g=aU (fK d f) (g.drop j)) (fun i _=>g.length-(intOf i).toNat);case atStart=>exact⟨0,bG _,rfl,s,rfl⟩
  case round=>
   clear s;obtain⟨j,hj,rfl,s,am⟩:=hrel;have a8:O _:=am;clear am;(have c1:wr.cell? ⟨w.heap.size,0,none⟩=some (.slice (some ⟨b,K,none⟩) d.length R):=cH s.b1);(have d0:wr.cell? ⟨w.heap.size+1,0,none⟩=some (.int .i64 k):=cH s.b2);(have d1:wr.cell? ⟨w.heap.size+1,1,none⟩=some (.slice at_ n.length Z):=cH s.b2);(have d2:wr.cell? ⟨w.heap.size+1,2,none⟩=some (.int .i64 A):=cH s.b2);(have d3:wr.cell? ⟨w.heap.size+1,3,none⟩=some (.slice ab g.length cb):=cH s.b2);(have W:wr.cell? ⟨w.heap.size+1,4,none⟩=some (.int .i64 f):=cH s.b2);by_cases ad:j<g.length
   ·obtain⟨b3,aF,rfl,p0,p1,p2,v,p3,aj⟩:=vH a4 j ad;have a9:O (fT w v (cJ g j).p):=aj;obtain⟨U,V,rfl,_,_⟩:=aj;have q0:=aB s.j p0;have q1:=aB s.j p1;have q2:=aB s.j p2;have q3:=aB s.j p3;have C:O (aU (fK d f) g=iD (fK d f (cJ g j)) (aU (fK d f) (g.drop (j+1)))):=a8.o.trans (uP _ _ _ j ad);have a7:O (JM (cJ g j)):=ah.o j ad;have ak:Below wr.heap.size wr (wr.alloc (.cells #[.int .i64 (cJ g j).kind, .int .i64 (cJ g j).op, .int .i64 (cJ g j).z, .slice U (cJ g j).p.length V] 49)):=(aH _ _).alloc (aE _) _;have a2:=aR wr (.cells #[.int .i64 (cJ g j).kind, .int .i64 (cJ g j).op, .int .i64 (cJ g j).z, .slice U (cJ g j).p.length V] 49);have H:=s.u ak;clear p0 p1 p2 p3 ak a8 a4 HL;generalize hx:cJ g j=x at *;clear hx;obtain⟨T,D,E,l⟩:=x;simp only at *;go_upto_region 21 with fail;clear s c1 d0 d1 d2 d3 W q0 q1 q2 q3;generalize wr.alloc (.cells #[.int .i64 T, .int .i64 D, .int .i64 E, .slice U l.length V] 49)=X at *;generalize aq:wr.heap.size=M at *;clear aq;have s:=H;(have c1:X.cell? ⟨w.heap.size,0,none⟩=some (.slice (some ⟨b,K,none⟩) d.length R):=cH s.b1);(have d0:X.cell? ⟨w.heap.size+1,0,none⟩=some (.int .i64 k):=cH s.b2);(have d1:X.cell? ⟨w.heap.size+1,1,none⟩=some (.slice at_ n.length Z):=cH s.b2);(have d2:X.cell? ⟨w.heap.size+1,2,none⟩=some (.int .i64 A):=cH s.b2);(have d3:X.cell? ⟨w.heap.size+1,3,none⟩=some (.slice (some ⟨b3,aF,none⟩) g.length cb):=cH s.b2);(have W:X.cell? ⟨w.heap.size+1,4,none⟩=some (.int .i64 f):=cH s.b2);clear s;(have l0:X.cell? ⟨M,0,none⟩=some (.int .i64 T):=cH a2);(have l1:X.cell? ⟨M,1,none⟩=some (.int .i64 D):=cH a2);(have l2:X.cell? ⟨M,2,none⟩=some (.int .i64 E):=cH a2);(have l3:X.cell? ⟨M,3,none⟩=some (.slice U l.length V):=cH a2);go_wp2_with fail;refine(AE _ _ _ _).mono ?_;rintro e S ⟨B,rfl⟩;cases g9:dG T 1 4
    ·rw[g9]at B;subst B;(have a5:¬T=1/\¬T=2/\¬T=3/\¬T=4:=by simp[dG]at g9;omega);(have q:dX d ⟨T,D,E,l⟩=7:=by simp[dX,a5.1,a5.2.1,a5.2.2.1,a5.2.2.2]);(have HV:O (dT d ⟨k,n,A,g,f⟩=7):=by show _=_;rw[m.o,C.o,fK,q];rfl);clear m C q;go_wp2_with fail;go_ret;exact⟨rV,H.j⟩
    rw[g9]at B;subst B;(have a5:T=1\/T=2\/T=3\/T=4:=by simp[dG]at g9;omega);clear g9;rcases a5 with rfl|rfl|rfl|rfl
    ·skip;cases G:(D != 0);rotate_left
     ·(have h3:¬D=0:=by simpa using G);(have q:dX d ⟨1,D,E,l⟩=3:=by rw[dX,if_pos sI,if_pos h3]);(have HV:O (dT d ⟨k,n,A,g,f⟩=3):=by show _=_;rw[m.o,C.o,fK,q];rfl);clear m C q;go_wp2_with fail;go_ret;exact⟨rV,H.j⟩
     (have h3:D=0:=by simpa using G);go_wp2_with fail;refine(AE _ _ _ _).mono ?_;rintro e S ⟨B,rfl⟩;cases J:lG d E
     ·have L:dG E 0 ((d.length:Int)-1)=false:=J;rw[L]at B;subst B;clear L;(have q:dX d ⟨1,D,E,l⟩=5:=by rw[dX,if_pos sI,if_neg (by simpa using h3)];simp only[J];rfl);(have HV:O (dT d ⟨k,n,A,g,f⟩=5):=by show _=_;rw[m.o,C.o,fK,q];rfl);clear m C q;go_wp2_with fail;go_ret;exact⟨rV,H.j⟩
     have L:dG E 0 ((d.length:Int)-1)=true:=J;rw[L]at B;subst B;clear L;obtain⟨kp,rfl,ae⟩:=TV J;have hq:=Bh ag.o kp ae H.j;(have Y:dX d ⟨1,D,kp,l⟩=if(l.length:Int)≠bM d kp then 1 else 0:=by rw[dX,if_pos sI,if_neg (by simpa using h3)];simp only[J];rfl);go_upto_region 28 with fail;cases N:((l.length:Int) != bM d kp)
     ·(have I:(l.length:Int)=bM d kp:=by simpa using N);(have Q:dX d ⟨1,D,kp,l⟩=0:=by rw[Y,if_neg (by simp[I])]);clear Y I;go_region_held3 (fun y=>y.cell? ⟨w.heap.size,0,none⟩=some (.slice (some ⟨b,K,none⟩) d.length R)/\y.cell? ⟨M,2,none⟩=some (.int .i64 kp)/\y.cell? ⟨M,3,none⟩=some (.slice U l.length V)/\y.cell? ⟨b,K+kp,none⟩=some (.int .i64 (bM d kp))) (go_keep) (fail);have a0:=H.drew;have af:=(show S.drew.heap[M]?=_ from a2);clear c1 d0 d1 d2 d3 W hq l0 l1 l2 l3 a2 H;generalize S.drew=wy at *;(have l3:wy.cell? ⟨M,3,none⟩=some (.slice U l.length V):=cH af);(have W:wy.cell? ⟨w.heap.size+1,4,none⟩=some (.int .i64 f):=cH a0.b2);(have q:dX d ⟨1,D,kp,l⟩=0:=by exact Q);go_wp2_with fail;refine Calls.mono (EE l f _ _ ⟨oM,oM⟩ a7.o (dS a9.o a0.j)) ?_;rintro e w5 ⟨rfl,rfl⟩;by_cases F:eM f l=0;rotate_left
      ·(have a3:(eM f l != 0)=true:=by simpa using F);(have HV:O (dT d ⟨k,n,A,g,f⟩=eM f l):=by show _=_;rw[m.o,C.o,fK,q,eY,pD _ F,pD _ F]);clear m C q;go_wp2_with fail;go_ret;exact⟨rV,a0.j⟩
      (have a3:(eM f l != 0)=false:=by simpa using F);(have HV:O (aU (fK d f) g=aU (fK d f) (g.drop (j+1))):=by show _=_;rw[C.o,fK,q,eY,F,eY]);clear C q;rw[F];go_wp2_with fail;go_roundw;(case rel=>exact⟨j+1,oM,gN,a0,HV.o⟩);case measure=>exact mI
     (have I:¬(l.length:Int)=bM d kp:=by simpa using N);(have Q:dX d ⟨1,D,kp,l⟩=1:=by rw[Y,if_pos I]);clear Y I;(have HV:O (dT d ⟨k,n,A,g,f⟩=1):=by show _=_;rw[m.o,C.o,fK,Q];rfl);clear m C Q;go_region_held3 (fun y=>y.cell? ⟨w.heap.size,0,none⟩=some (.slice (some ⟨b,K,none⟩) d.length R)/\y.cell? ⟨M,2,none⟩=some (.int .i64 kp)/\y.cell? ⟨M,3,none⟩=some (.slice U l.length V)/\y.cell? ⟨b,K+kp,none⟩=some (.int .i64 (bM d kp))) (go_keep) (fail);have a6:=H.j.drew;go_wp2_with fail;go_ret;exact⟨rV,a6⟩
    ·skip;cases G:(D != 0);rotate_left
     ·(have h3:¬D=0:=by simpa using G);(have q:dX d ⟨2,D,E,l⟩=3:=by rw[dX,if_pos sI,if_pos h3]);(have HV:O (dT d ⟨k,n,A,g,f⟩=3):=by show _=_;rw[m.o,C.o,fK,q];rfl);clear m C q;go_wp2_with fail;go_ret;exact⟨rV,H.j⟩
     (have h3:D=0:=by simpa using G);go_wp2_with fail;refine(AE _ _ _ _).mono ?_;rintro e S ⟨B,rfl⟩;cases J:lG d E
     ·have L:dG E 0 ((d.length:Int)-1)=false:=J;rw[L]at B;subst B;clear L;(have q:dX d ⟨2,D,E,l⟩=5:=by rw[dX,if_pos sI,if_neg (by simpa using h3)];simp only[J];rfl);(have HV:O (dT d ⟨k,n,A,g,f⟩=5):=by show _=_;rw[m.o,C.o,fK,q];rfl);clear m C q;go_wp2_with fail;go_ret;exact⟨rV,H.j⟩
     have L:dG E 0 ((d.length:Int)-1)=true:=J;rw[L]at B;subst B;clear L;obtain⟨kp,rfl,ae⟩:=TV J;have hq:=Bh ag.o kp ae H.j;(have Y:dX d ⟨2,D,kp,l⟩=if(l.length:Int)≠bM d kp then 1 else 0:=by rw[dX,if_pos sI,if_neg (by simpa using h3)];simp only[J];rfl);go_upto_region 28 with fail;cases N:((l.length:Int) != bM d kp)
     ·(have I:(l.length:Int)=bM d kp:=by simpa using N);(have Q:dX d ⟨2,D,kp,l⟩=0:=by rw[Y,if_neg (by simp[I])]);clear Y I;go_region_held3 (fun y=>y.cell? ⟨w.heap.size,0,none⟩=some (.slice (some ⟨b,K,none⟩) d.length R)/\y.cell? ⟨M,2,none⟩=some (.int .i64 kp)/\y.cell? ⟨M,3,none⟩=some (.slice U l.length V)/\y.cell? ⟨b,K+kp,none⟩=some (.int .i64 (bM d kp))) (go_keep) (fail);have a0:=H.drew;have af:=(show S.drew.heap[M]?=_ from a2);clear c1 d0 d1 d2 d3 W hq l0 l1 l2 l3 a2 H;generalize S.drew=wy at *;(have l3:wy.cell? ⟨M,3,none⟩=some (.slice U l.length V):=cH af);(have W:wy.cell? ⟨w.heap.size+1,4,none⟩=some (.int .i64 f):=cH a0.b2);(have q:dX d ⟨2,D,kp,l⟩=0:=by exact Q);go_wp2_with fail;refine Calls.mono (EE l f _ _ ⟨oM,oM⟩ a7.o (dS a9.o a0.j)) ?_;rintro e w5 ⟨rfl,rfl⟩;by_cases F:eM f l=0;rotate_left
      ·(have a3:(eM f l != 0)=true:=by simpa using F);(have HV:O (dT d ⟨k,n,A,g,f⟩=eM f l):=by show _=_;rw[m.o,C.o,fK,q,eY,pD _ F,pD _ F]);clear m C q;go_wp2_with fail;go_ret;exact⟨rV,a0.j⟩
      (have a3:(eM f l != 0)=false:=by simpa using F);(have HV:O (aU (fK d f) g=aU (fK d f) (g.drop (j+1))):=by show _=_;rw[C.o,fK,q,eY,F,eY]);clear C q;rw[F];go_wp2_with fail;go_roundw;(case rel=>exact⟨j+1,oM,gN,a0,HV.o⟩);case measure=>exact mI
     (have I:¬(l.length:Int)=bM d kp:=by simpa using N);(have Q:dX d ⟨2,D,kp,l⟩=1:=by rw[Y,if_pos I]);clear Y I;(have HV:O (dT d ⟨k,n,A,g,f⟩=1):=by show _=_;rw[m.o,C.o,fK,Q];rfl);clear m C Q;go_region_held3 (fun y=>y.cell? ⟨w.heap.size,0,none⟩=some (.slice (some ⟨b,K,none⟩) d.length R)/\y.cell? ⟨M,2,none⟩=some (.int .i64 kp)/\y.cell? ⟨M,3,none⟩=some (.slice U l.length V)/\y.cell? ⟨b,K+kp,none⟩=some (.int .i64 (bM d kp))) (go_keep) (fail);have a6:=H.j.drew;go_wp2_with fail;go_ret;exact⟨rV,a6⟩
    ·skip;go_wp2_with fail;refine(AE _ _ _ _).mono ?_;rintro e S ⟨B,rfl⟩;cases G:dG D 1 4
     ·rw[G]at B;subst B;(have q:dX d ⟨3,D,E,l⟩=3:=by rw[dX,if_neg sI,if_pos rfl];simp only[G];rfl);(have HV:O (dT d ⟨k,n,A,g,f⟩=3):=by show _=_;rw[m.o,C.o,fK,q];rfl);clear m C q;go_wp2_with fail;go_ret;exact⟨rV,H.j⟩
     rw[G]at B;subst B;cases J:(E != 0);rotate_left
     ·(have P:¬E=0:=by simpa using J);(have q:dX d ⟨3,D,E,l⟩=1:=by rw[dX,if_neg sI,if_pos rfl];simp only[G];simp[P]);(have HV:O (dT d ⟨k,n,A,g,f⟩=1):=by show _=_;rw[m.o,C.o,fK,q];rfl);clear m C q;go_wp2_with fail;go_ret;exact⟨rV,H.j⟩
     (have P:E=0:=by simpa using J);by_cases I:l.length=2;rotate_left
     ·(have N:((l.length:Int) != 2)=true:=by simp;omega);(have q:dX d ⟨3,D,E,l⟩=1:=by rw[dX,if_neg sI,if_pos rfl];simp only[G];simp[I]);(have HV:O (dT d ⟨k,n,A,g,f⟩=1):=by show _=_;rw[m.o,C.o,fK,q];rfl);clear m C q;go_wp2_with fail;go_ret;exact⟨rV,H.j⟩
     (have N:((l.length:Int) != 2)=false:=by rw[I];rfl);(have Q:dX d ⟨3,D,E,l⟩=0:=by rw[dX,if_neg sI,if_pos rfl];simp only[G];simp[P,I]);clear P I;(have q:dX d ⟨3,D,E,l⟩=0:=by exact Q);go_wp2_with fail;refine Calls.mono (EE l f _ _ ⟨oM,oM⟩ a7.o (dS a9.o H.j)) ?_;rintro e w5 ⟨rfl,rfl⟩;by_cases F:eM f l=0;rotate_left
     ·(have a3:(eM f l != 0)=true:=by simpa using F);(have HV:O (dT d ⟨k,n,A,g,f⟩=eM f l):=by show _=_;rw[m.o,C.o,fK,q,eY,pD _ F,pD _ F]);clear m C q;go_wp2_with fail;go_ret;exact⟨rV,H.j⟩
     (have a3:(eM f l != 0)=false:=by simpa using F);(have HV:O (aU (fK d f) g=aU (fK d f) (g.drop (j+1))):=by show _=_;rw[C.o,fK,q,eY,F,eY]);clear C q;rw[F];go_wp2_with fail;go_roundw;(case rel=>exact⟨j+1,oM,gN,H,HV.o⟩);case measure=>exact mI
    skip;go_wp2_with fail;refine(AE _ _ _ _).mono ?_;rintro e S ⟨B,rfl⟩;cases G:dG D 5 7
    ·rw[G]at B;subst B;(have q:dX d ⟨4,D,E,l⟩=3:=by rw[dX,if_neg sI,if_neg sI,if_pos rfl];simp only[G];rfl);(have HV:O (dT d ⟨k,n,A,g,f⟩=3):=by show _=_;rw[m.o,C.o,fK,q];rfl);clear m C q;go_wp2_with fail;go_ret;exact⟨rV,H.j⟩
    rw[G]at B;subst B;cases J:(E != 0);rotate_left
    ·(have P:¬E=0:=by simpa using J);(have q:dX d ⟨4,D,E,l⟩=1:=by rw[dX,if_neg sI,if_neg sI,if_pos rfl];simp only[G];simp[P]);(have HV:O (dT d ⟨k,n,A,g,f⟩=1):=by show _=_;rw[m.o,C.o,fK,q];rfl);clear m C q;go_wp2_with fail;go_ret;exact⟨rV,H.j⟩
    (have P:E=0:=by simpa using J);by_cases I:l.length=3;rotate_left
    ·(have N:((l.length:Int) != 3)=true:=by simp;omega);(have q:dX d ⟨4,D,E,l⟩=1:=by rw[dX,if_neg sI,if_neg sI,if_pos rfl];simp only[G];simp[I]);(have HV:O (dT d ⟨k,n,A,g,f⟩=1):=by show _=_;rw[m.o,C.o,fK,q];rfl);clear m C q;go_wp2_with fail;go_ret;exact⟨rV,H.j⟩
    (have N:((l.length:Int) != 3)=false:=by rw[I];rfl);(have Q:dX d ⟨4,D,E,l⟩=0:=by rw[dX,if_neg sI,if_neg sI,if_pos rfl];simp only[G];simp[P,I]);clear P I;(have q:dX d ⟨4,D,E,l⟩=0:=by exact Q);go_wp2_with fail;refine Calls.mono (EE l f _ _ ⟨oM,oM⟩ a7.o (dS a9.o H.j)) ?_;rintro e w5 ⟨rfl,rfl⟩;by_cases F:eM f l=0;rotate_left
    ·(have a3:(eM f l != 0)=true:=by simpa using F);(have HV:O (dT d ⟨k,n,A,g,f⟩=eM f l):=by show _=_;rw[m.o,C.o,fK,q,eY,pD _ F,pD _ F]);clear m C q;go_wp2_with fail;go_ret;exact⟨rV,H.j⟩
    (have a3:(eM f l != 0)=false:=by simpa using F);(have HV:O (aU (fK d f) g=aU (fK d f) (g.drop (j+1))):=by show _=_;rw[C.o,fK,q,eY,F,eY]);clear C q;rw[F];go_wp2_with fail;go_roundw;(case rel=>exact⟨j+1,oM,gN,H,HV.o⟩);case measure=>exact mI
   (have hz:aU (fK d f) g=0:=by rw[a8.o,bD oM];rfl);have ac:VQ ⟨k,n,A,g,f⟩:=⟨by show 0<=f;omega,by show f<=8;omega,by show g.length<=4;omega,fun i hi=>aF1 (uQ hz _ (XC hi)) (by show 0<=f;omega) (ah.o i hi)⟩;rw[hz,eY]at m;clear a8 hz a4;go_wp2_with fail;refine Calls.mono (aKA ⟨k,n,A,g,f⟩ _ _ _ (nU HL.o s.j) ac) ?_;rintro e S ⟨B,au⟩;have al:=s.j.trans (au.mono s.j.size);cases aa:uC ⟨k,n,A,g,f⟩
   ·rw[aa]at B m;subst B;(have HV:O (dT d ⟨k,n,A,g,f⟩=4):=by show _=_;rw[m.o];rfl);clear m ac aa;go_wp2_with fail;go_ret;exact⟨rV,al⟩
   rw[aa]at B m;subst B;(have HV:O (dT d ⟨k,n,A,g,f⟩=0):=by show _=_;rw[m.o];rfl);clear m ac aa;go_wp2_with fail;go_ret;exact⟨rV,al⟩
theorem aB9(k:Int)(w:World):Calls Tryz.prog 163 #[.int .i64 k, .string ⟨#[]⟩] w fun e b=>e=.returned (.bool false)/\b=w:=by
 go_enter Tryz.func163,Tryz.ntmps163
 go_wp2_with fail;go_ret;exact⟨rfl,rfl⟩
theorem aGH(k:Int)(s:ByteArray)(w:World)(h0:s.toList.isEmpty=false)(d:5000<s.size):Calls Tryz.prog 163 #[.int .i64 k, .string s] w fun e b=>e=.returned (.bool false)/\b=w:=by
 go_enter Tryz.func163,Tryz.ntmps163
 go_wp2_with fail;go_ret;exact⟨rfl,rfl⟩
theorem aGM(s:ByteArray)(w:World)(h0:s.toList.isEmpty=false)(f:s.size<=5000):Calls Tryz.prog 163 #[.int .i64 0, .string s] w fun e b=>e=.returned (.bool false)/\b=w:=by
 have d:decide ((5000:Int)<(s.size:Int))=false:=by simp;omega
 go_enter Tryz.func163,Tryz.ntmps163
 go_wp2_with fail;go_ret;exact⟨rfl,rfl⟩
theorem Kv(s:ByteArray)(w:World)(h0:s.toList.isEmpty=false)(m:s.size<=5000)(g:0<s.size)(k K:Int)(l:(k==0)=false)(i:(K==k)=false)(d:uX s.data.toList=K):
 Calls Tryz.prog 163 #[.int .i64 k, .string s] w fun e b=>e=.returned (.bool false)/\b=w:=by
 (have j:decide ((5000:Int)<(s.size:Int))=false:=by simp;omega);(have f:O (Calls Tryz.prog 203 #[.string s, .int .i64 0] w fun e b=>e=.returned (.tuple #[.int .i64 K, .int .i64 (eG s.data.toList:Nat)])/\b=w):=by have h:=vJ s 0 w oM g;rw[gJ,d]at h;exact h);clear d
 go_enter Tryz.func163,Tryz.ntmps163
 go_wp2_with fail;refine Calls.mono f.o ?_;rintro e n ⟨rfl,rfl⟩;go_wp2_with fail;go_ret;exact⟨rfl,rfl⟩
theorem aGI(s:ByteArray)(w:World)(h0:s.toList.isEmpty=false)(n:s.size<=5000)(g:0<s.size)(k K:Int)(m:(k==0)=false)(i:(K==k)=true)(j:((eG s.data.toList:Int)==(s.size:Int))=false)(d:uX s.data.toList=K):
 Calls Tryz.prog 163 #[.int .i64 k, .string s] w fun e b=>e=.returned (.bool false)/\b=w:=by
 (have l:decide ((5000:Int)<(s.size:Int))=false:=by simp;omega);(have f:O (Calls Tryz.prog 203 #[.string s, .int .i64 0] w fun e b=>e=.returned (.tuple #[.int .i64 K, .int .i64 (eG s.data.toList:Nat)])/\b=w):=by have h:=vJ s 0 w oM g;rw[gJ,d]at h;exact h);clear d
 go_enter Tryz.func163,Tryz.ntmps163
 go_wp2_with fail;refine Calls.mono f.o ?_;rintro e p ⟨rfl,rfl⟩;go_wp2_with fail;go_ret;exact⟨rfl,rfl⟩
theorem aCB(s:ByteArray)(w:World)(h0:s.toList.isEmpty=false)(m:s.size<=5000)(g:0<s.size)(i:((eG s.data.toList:Int)==(s.size:Int))=true)(l:12<eG s.data.toList)(d:uX s.data.toList=1):
 Calls Tryz.prog 163 #[.int .i64 1, .string s] w fun e b=>e=.returned (.bool false)/\b=w:=by
 (have k:decide ((5000:Int)<(s.size:Int))=false:=by simp;omega);(have f:O (Calls Tryz.prog 203 #[.string s, .int .i64 0] w fun e b=>e=.returned (.tuple #[.int .i64 1, .int .i64 (eG s.data.toList:Nat)])/\b=w):=by have h:=vJ s 0 w oM g;rw[gJ,d]at h;exact h);clear d;have j:decide ((12:Int)<((eG s.data.toList:Nat):Int))=true:=by simp;omega
 go_enter Tryz.func163,Tryz.ntmps163
 go_wp2_with fail;refine Calls.mono f.o ?_;rintro e n ⟨rfl,rfl⟩;go_wp2_with fail;go_ret;exact⟨rfl,rfl⟩
theorem aGJ(s:ByteArray)(w:World)(h0:s.toList.isEmpty=false)(m:s.size<=5000)(g:0<s.size)(i:((eG s.data.toList:Int)==(s.size:Int))=true)(l:eG s.data.toList<=12)(d:uX s.data.toList=1):
 Calls Tryz.prog 163 #[.int .i64 1, .string s] w fun e b=>e=.returned (.bool true)/\b=w:=by
 (have k:decide ((5000:Int)<(s.size:Int))=false:=by simp;omega);(have f:O (Calls Tryz.prog 203 #[.string s, .int .i64 0] w fun e b=>e=.returned (.tuple #[.int .i64 1, .int .i64 (eG s.data.toList:Nat)])/\b=w):=by have h:=vJ s 0 w oM g;rw[gJ,d]at h;exact h);clear d;have j:decide ((12:Int)<((eG s.data.toList:Nat):Int))=false:=by simp;omega
 go_enter Tryz.func163,Tryz.ntmps163
 go_wp2_with fail;refine Calls.mono f.o ?_;rintro e n ⟨rfl,rfl⟩;go_wp2_with fail;go_ret;exact⟨rfl,rfl⟩
theorem aCC(s:ByteArray)(w:World)(h0:s.toList.isEmpty=false)(m:s.size<=5000)(g:0<s.size)(i:((eG s.data.toList:Int)==(s.size:Int))=true)(l:12<eG s.data.toList)(d:uX s.data.toList=2):
 Calls Tryz.prog 163 #[.int .i64 2, .string s] w fun e b=>e=.returned (.bool false)/\b=w:=by
 (have k:decide ((5000:Int)<(s.size:Int))=false:=by simp;omega);(have f:O (Calls Tryz.prog 203 #[.string s, .int .i64 0] w fun e b=>e=.returned (.tuple #[.int .i64 2, .int .i64 (eG s.data.toList:Nat)])/\b=w):=by have h:=vJ s 0 w oM g;rw[gJ,d]at h;exact h);clear d;have j:decide ((12:Int)<((eG s.data.toList:Nat):Int))=true:=by simp;omega
 go_enter Tryz.func163,Tryz.ntmps163
 go_wp2_with fail;refine Calls.mono f.o ?_;rintro e n ⟨rfl,rfl⟩;go_wp2_with fail;go_ret;exact⟨rfl,rfl⟩
theorem aGK(s:ByteArray)(w:World)(h0:s.toList.isEmpty=false)(m:s.size<=5000)(g:0<s.size)(i:((eG s.data.toList:Int)==(s.size:Int))=true)(l:eG s.data.toList<=12)(d:uX s.data.toList=2):
 Calls Tryz.prog 163 #[.int .i64 2, .string s] w fun e b=>e=.returned (.bool true)/\b=w:=by
 (have k:decide ((5000:Int)<(s.size:Int))=false:=by simp;omega);(have f:O (Calls Tryz.prog 203 #[.string s, .int .i64 0] w fun e b=>e=.returned (.tuple #[.int .i64 2, .int .i64 (eG s.data.toList:Nat)])/\b=w):=by have h:=vJ s 0 w oM g;rw[gJ,d]at h;exact h);clear d;have j:decide ((12:Int)<((eG s.data.toList:Nat):Int))=false:=by simp;omega
 go_enter Tryz.func163,Tryz.ntmps163
 go_wp2_with fail;refine Calls.mono f.o ?_;rintro e n ⟨rfl,rfl⟩;go_wp2_with fail;go_ret;exact⟨rfl,rfl⟩
theorem aCD(s:ByteArray)(w:World)(h0:s.toList.isEmpty=false)(m:s.size<=5000)(g:0<s.size)(i:((eG s.data.toList:Int)==(s.size:Int))=true)(l:7<eG s.data.toList)(d:uX s.data.toList=3):
 Calls Tryz.prog 163 #[.int .i64 3, .string s] w fun e b=>e=.returned (.bool false)/\b=w:=by
 (have j:decide ((5000:Int)<(s.size:Int))=false:=by simp;omega);(have f:O (Calls Tryz.prog 203 #[.string s, .int .i64 0] w fun e b=>e=.returned (.tuple #[.int .i64 3, .int .i64 (eG s.data.toList:Nat)])/\b=w):=by have h:=vJ s 0 w oM g;rw[gJ,d]at h;exact h);clear d;have k:decide ((7:Int)<((eG s.data.toList:Nat):Int))=true:=by simp;omega
 go_enter Tryz.func163,Tryz.ntmps163
 go_wp2_with fail;refine Calls.mono f.o ?_;rintro e n ⟨rfl,rfl⟩;go_wp2_with fail;go_ret;exact⟨rfl,rfl⟩
theorem aCA(s:ByteArray)(w:World)(h0:s.toList.isEmpty=false)(q:s.size<=5000)(g:0<s.size)(i:((eG s.data.toList:Int)==(s.size:Int))=true)(n:eG s.data.toList<=7)(p:1<eG s.data.toList)(j:((s[0].toNat:Int)==48)=true)(d:uX s.data.toList=3):
 Calls Tryz.prog 163 #[.int .i64 3, .string s] w fun e b=>e=.returned (.bool false)/\b=w:=by
 (have l:decide ((5000:Int)<(s.size:Int))=false:=by simp;omega);(have f:O (Calls Tryz.prog 203 #[.string s, .int .i64 0] w fun e b=>e=.returned (.tuple #[.int .i64 3, .int .i64 (eG s.data.toList:Nat)])/\b=w):=by have h:=vJ s 0 w oM g;rw[gJ,d]at h;exact h);clear d;(have m:decide ((7:Int)<((eG s.data.toList:Nat):Int))=false:=by simp;omega);have k:decide ((1:Int)<((eG s.data.toList:Nat):Int))=true:=by simp;omega
 go_enter Tryz.func163,Tryz.ntmps163
 go_wp2_with fail;refine Calls.mono f.o ?_;rintro e r ⟨rfl,rfl⟩;go_wp2_with fail;go_ret;exact⟨rfl,rfl⟩
theorem aCE(s:ByteArray)(w:World)(h0:s.toList.isEmpty=false)(n:s.size<=5000)(g:0<s.size)(i:((eG s.data.toList:Int)==(s.size:Int))=true)(m:eG s.data.toList<=1)(d:uX s.data.toList=3):
 Calls Tryz.prog 163 #[.int .i64 3, .string s] w fun e b=>e=.returned (.bool true)/\b=w:=by
 (have k:decide ((5000:Int)<(s.size:Int))=false:=by simp;omega);(have f:O (Calls Tryz.prog 203 #[.string s, .int .i64 0] w fun e b=>e=.returned (.tuple #[.int .i64 3, .int .i64 (eG s.data.toList:Nat)])/\b=w):=by have h:=vJ s 0 w oM g;rw[gJ,d]at h;exact h);clear d;(have l:decide ((7:Int)<((eG s.data.toList:Nat):Int))=false:=by simp;omega);have j:decide ((1:Int)<((eG s.data.toList:Nat):Int))=false:=by simp;omega
 go_enter Tryz.func163,Tryz.ntmps163
 go_wp2_with fail;refine Calls.mono f.o ?_;rintro e p ⟨rfl,rfl⟩;go_wp2_with fail;go_ret;exact⟨rfl,rfl⟩
theorem aCF(s:ByteArray)(w:World)(h0:s.toList.isEmpty=false)(q:s.size<=5000)(g:0<s.size)(i:((eG s.data.toList:Int)==(s.size:Int))=true)(n:eG s.data.toList<=7)(p:1<eG s.data.toList)(j:((s[0].toNat:Int)==48)=false)(d:uX s.data.toList=3):
 Calls Tryz.prog 163 #[.int .i64 3, .string s] w fun e b=>e=.returned (.bool true)/\b=w:=by
 (have l:decide ((5000:Int)<(s.size:Int))=false:=by simp;omega);(have f:O (Calls Tryz.prog 203 #[.string s, .int .i64 0] w fun e b=>e=.returned (.tuple #[.int .i64 3, .int .i64 (eG s.data.toList:Nat)])/\b=w):=by have h:=vJ s 0 w oM g;rw[gJ,d]at h;exact h);clear d;(have m:decide ((7:Int)<((eG s.data.toList:Nat):Int))=false:=by simp;omega);have k:decide ((1:Int)<((eG s.data.toList:Nat):Int))=true:=by simp;omega
 go_enter Tryz.func163,Tryz.ntmps163
 go_wp2_with fail;refine Calls.mono f.o ?_;rintro e r ⟨rfl,rfl⟩;go_wp2_with fail;go_ret;exact⟨rfl,rfl⟩
theorem aGL(s:ByteArray)(w:World)(h0:s.toList.isEmpty=false)(k:s.size<=5000)(g:0<s.size)(i:((eG s.data.toList:Int)==(s.size:Int))=true)(d:uX s.data.toList=4):
 Calls Tryz.prog 163 #[.int .i64 4, .string s] w fun e b=>e=.returned (.bool true)/\b=w:=by
 (have j:decide ((5000:Int)<(s.size:Int))=false:=by simp;omega);(have f:O (Calls Tryz.prog 203 #[.string s, .int .i64 0] w fun e b=>e=.returned (.tuple #[.int .i64 4, .int .i64 (eG s.data.toList:Nat)])/\b=w):=by have h:=vJ s 0 w oM g;rw[gJ,d]at h;exact h);clear d
 go_enter Tryz.func163,Tryz.ntmps163
 go_wp2_with fail;refine Calls.mono f.o ?_;rintro e l ⟨rfl,rfl⟩;go_wp2_with fail;go_ret;exact⟨rfl,rfl⟩
theorem aJ7(k:Int)(s:ByteArray)(w:World):Calls Tryz.prog 163 #[.int .i64 k, .string s] w fun e J=>e=.returned (.bool (mE k s.data.toList))/\J=w:=by
 (have N:s.data.toList.length=s.size:=by simp);by_cases l:0<s.size
 ·have v:=zF s 0 l;rw[gJ]at v;(have j:s.toList.isEmpty=false:=by rw[Lib.toList_data,v];rfl);by_cases E:5000<s.size
  ·have n:mE k s.data.toList=false:=aJ (fun h=>oM);rw[n];exact aGH k s w j E
  have y:=YZ s[0] (s.data.toList.drop (0+1));rw[<-v]at y;by_cases A:k=0
  ·subst A;have n:mE 0 s.data.toList=false:=aJ (fun h=>by
    obtain⟨_,_,K,L,_⟩:=h
    rcases y with⟨i,g⟩|⟨i,b,f,g⟩|⟨i,b,f,g⟩|⟨i,b,f,g⟩|⟨i,b,f,p,q,g⟩|⟨i,b,f,g⟩|⟨i,b,f,p,q,g⟩|⟨i,b,g⟩<;>omega)
   rw[n];exact aGM s w j oM
  have B:(k==0)=false:=fR.2 A;(have F:1<=eG s.data.toList->uX s.data.toList=mS s.data.toList:=fun h=>by unfold uX;rw[if_neg oM]);(have G:s.data.toList≠[]:=by rw[v];simp);by_cases D:eG s.data.toList=0
  ·have n:mE k s.data.toList=false:=aJ (fun h=>oM);rw[n];exact Kv s w j oM l k 0 B (fR.2 (fun e=>A e.symm)) (by unfold uX;rw[if_pos D])
  have d:=F oM;by_cases r:mS s.data.toList=k
  ·by_cases M:eG s.data.toList=s.size
   ·have m:((eG s.data.toList:Int)==(s.size:Int))=true:=mN.2 oM;subst r;have x:kP s.data.toList=0->mE (mS s.data.toList) s.data.toList=true:=fun z=>aQ ⟨G,oM,z,rfl,oM⟩;have C:¬kP s.data.toList=0->mE (mS s.data.toList) s.data.toList=false:=fun z=>aJ (fun h=>z h.2.2.1);rcases y with⟨i,g⟩|⟨i,b,f,g⟩|⟨i,b,f,g⟩|⟨i,b,f,g⟩|⟨i,b,f,p,q,g⟩|⟨i,b,f,g⟩|⟨i,b,f,p,q,g⟩|⟨i,b,g⟩
    ·exact absurd i D
    ·rw[C oM];rcases b with b|b
     ·rw[b]at d ⊢;exact aCB s w j oM l m f d
     rw[b]at d ⊢;exact aCC s w j oM l m f d
    ·rw[x g];rcases b with b|b
     ·rw[b]at d ⊢;exact aGJ s w j oM l m f d
     rw[b]at d ⊢;exact aGK s w j oM l m f d
    ·rw[C oM,b];rw[b]at d;exact aCD s w j oM l m f d
    ·rw[C oM,b];rw[b]at d;exact aCA s w j oM l m p f (mN.2 q) d
    ·rw[x g,b];rw[b]at d;exact aCE s w j oM l m f d
    ·rw[x g,b];rw[b]at d;exact aCF s w j oM l m p f (fR.2 q) d
    rw[x g,b];rw[b]at d;exact aGL s w j oM l m d
   have n:mE k s.data.toList=false:=aJ (fun h=>oM);rw[n];exact aGI s w j oM l k _ B (mN.2 r) (fR.2 oM) d
  have n:mE k s.data.toList=false:=aJ (fun h=>r h.2.2.2.1);rw[n];exact Kv s w j oM l k _ B (fR.2 r) d
 have I:s.data.toList=[]:=eB oM;(have H:s=⟨#[]⟩:=by apply ByteArray.ext;exact Array.eq_empty_of_size_eq_zero (by show s.size=0;omega));rw[I,H];exact aB9 k w
theorem aFX(k:Int)(s:List UInt8)(w:World):Calls Tryz.prog 163 #[.int .i64 k, .string ⟨s.toArray⟩] w fun e b=>e=.returned (.bool (mE k s))/\b=w:=by have h:=aJ7 k ⟨s.toArray⟩ w;rw[List.toList_toArray]at h;exact h
theorem aSP(s:List UInt8):CR s=((s==[110,111,116])||(s==[99,111,117,110,116])||(s==[115,117,109])||(s==[108,101,97,115,116])||(s==[109,111,115,116])):=by
 unfold CR CP;cases b:(s==[99,111,117,110,116])
 ·cases d:(s==[115,117,109])
  ·cases e:(s==[108,101,97,115,116])
   ·cases f:(s==[109,111,115,116])<;>simp
   simp
  simp
 simp
theorem aGN(s:List UInt8)(w:World):Calls Tryz.prog 164 #[.string ⟨s.toArray⟩] w fun e b=>e=.returned (.bool (CR s))/\b=w:=by
 rw[aSP];cases d:(s==[110,111,116])
 ·cases f:(s==[99,111,117,110,116])
  ·cases g:(s==[115,117,109])
   ·cases i:(s==[108,101,97,115,116])
    ·go_enter Tryz.func164,Tryz.ntmps164
     go_wp2;go_ret;exact⟨rfl,rfl⟩
    go_enter Tryz.func164,Tryz.ntmps164
    go_wp2;go_ret;exact⟨rfl,rfl⟩
   go_enter Tryz.func164,Tryz.ntmps164
   go_wp2;go_ret;exact⟨rfl,rfl⟩
  go_enter Tryz.func164,Tryz.ntmps164
  go_wp2;go_ret;exact⟨rfl,rfl⟩
 go_enter Tryz.func164,Tryz.ntmps164
 go_wp2;go_ret;exact⟨rfl,rfl⟩
theorem aGG(s:List UInt8)(w:World):Calls Tryz.prog 110 #[.string ⟨s.toArray⟩] w fun e b=>e=.returned (.bool (oR s))/\b=w:=by
 unfold oR;cases d:mE 1 s
 ·go_enter Tryz.func110,Tryz.ntmps110
  go_wp2_with(go_at_call 163;refine(aFX _ _ _).mono ?_;rintro e b ⟨rfl,rfl⟩);go_ret;exact⟨rfl,rfl⟩
 go_enter Tryz.func110,Tryz.ntmps110
 go_wp2_with(first|(go_at_call 163;refine(aFX _ _ _).mono ?_;rintro e b ⟨rfl,rfl⟩)|(go_at_call 164;refine(aGN _ _).mono ?_;rintro e b ⟨rfl,rfl⟩));go_ret;exact⟨rfl,rfl⟩
structure PB (w:World) (o:Obj) (wr:World):Prop where
 j:Below w.heap.size w wr
 box:wr.heap[w.heap.size]?=some o
theorem PB.u{w wr d:World}{o:Obj}(h:PB w o wr)(b:Below wr.heap.size wr d):PB w o d:=
 ⟨h.j.trans (b.mono h.j.size),(b.block _ (bP h.box)).trans h.box⟩
theorem PB.start(w:World)(o:Obj):PB w o (w.alloc o):=⟨(aH _ _).alloc (aE _) _,aR w o⟩
theorem PB.drew{w wr:World}{o:Obj}(h:PB w o wr):PB w o wr.drew:=⟨h.j.drew,h.box⟩
theorem Pb(l:List (List UInt8))(s:List UInt8)(k:Nat)(h:k<l.length):(l.drop k).contains s=((oP l k==s)||(l.drop (k+1)).contains s):=by rw[dB h,List.contains_cons];(have :oP l k=l[k]:=by simp[oP,List.getD_eq_getElem?_getD,h]);rw[this,Bool.beq_comm]
theorem aN4(ns:List (List UInt8))(j m:Nat)(h:m<j):oP (ns.take j) m=oP ns m:=by simp[oP,List.getD_eq_getElem?_getD,h]
theorem KQ(p:bC)(va vn vr:Value)(w:World)(hP:iU w va vn vr p)(hF:jK p):
 Calls Tryz.prog 59 #[eN va vn vr] w fun e D=>e=.returned (.int .i64 (dJ p))/\Below w.heap.size w D:=by
 obtain⟨f,d,g⟩:=p;obtain⟨E,G,F⟩:=hP;have HA:O (dM w va f):=E;obtain⟨A,B,rfl,E⟩:=E;obtain⟨v,q,rfl,G⟩:=G;obtain⟨P,C,rfl,F⟩:=F;have E:pH w A f:=E;have G:aBA w v d:=G;have F:BL w P g:=F;have a9:O (∀i,i<g.length->BS (aW g i)):=hF.rs;clear hF;have V:=PB.start w (.cells #[.slice A f.length B, .slice v d.length q, .slice P g.length C] 26);have n:O (dJ ⟨f,d,g⟩=if 10<f.length\/12<g.length then 2 else if¬d.length=f.length then 1 else iD (aU (jT f d) (List.range d.length)) (aU (dT f) g)):=rfl;by_cases Q:10<f.length
 ·(have HV:O (dJ ⟨f,d,g⟩=2):=by show _=_;rw[n.o,if_pos (.inl Q)]);have g1:decide (10<f.length)=true:=aQ Q;have ac:decide ((10:Int)<(f.length:Int))=true:=aQ oM;clear n E G F
  go_enter Tryz.func59,Tryz.ntmps59
  go_wp2_with fail;go_ret;exact⟨rV,V.j⟩
 have g1:decide (10<f.length)=false:=aJ Q;have ac:decide ((10:Int)<(f.length:Int))=false:=aJ oM;by_cases R:12<g.length
 ·(have HV:O (dJ ⟨f,d,g⟩=2):=by show _=_;rw[n.o,if_pos (.inr R)]);have g2:decide (12<g.length)=true:=aQ R;have ad:decide ((12:Int)<(g.length:Int))=true:=aQ oM;clear n E G F
  go_enter Tryz.func59,Tryz.ntmps59
  go_wp2_with fail;go_ret;exact⟨rV,V.j⟩
 have g2:decide (12<g.length)=false:=aJ R;have ad:decide ((12:Int)<(g.length:Int))=false:=aJ oM;rw[if_neg (fun h=>h.elim Q R)]at n;by_cases S:d.length=f.length;rotate_left
 ·(have HV:O (dJ ⟨f,d,g⟩=1):=by show _=_;rw[n.o,if_pos S]);(have g3:((d.length:Int) != (f.length:Int))=true:=by simp;omega);(have ae:(d.length != f.length)=true:=by simp;omega);clear n E G F
  go_enter Tryz.func59,Tryz.ntmps59
  go_wp2_with fail;go_ret;exact⟨rV,V.j⟩
 rw[if_neg (fun h=>h S)]at n;have H3:O (d.length=f.length):=S;(have g3:((d.length:Int) != (f.length:Int))=false:=by simp;omega);(have ae:(d.length != f.length)=false:=by simp;omega);have ak:d.length<=10:=oM;clear S
 go_enter Tryz.func59,Tryz.ntmps59
 go_wp2_with fail;go_loopw [3] (fun i wr=>∃j:Nat,j<=d.length/\i=.int .i64 j/\PB w (.cells #[.slice A f.length B, .slice v d.length q, .slice P g.length C] 26) wr/\aU (jT f d) (List.range d.length)=aU (jT f d) ((List.range d.length).drop j)) (fun i _=>d.length-(intOf i).toNat);case atStart=>exact⟨0,bG _,rfl,V,rfl⟩
 case round=>
  clear V;obtain⟨j,hj,rfl,l,U⟩:=hrel;have K:O _:=U;clear U;(have c0:wr.cell? ⟨w.heap.size,0,none⟩=some (.slice A f.length B):=cH l.box);(have c1:wr.cell? ⟨w.heap.size,1,none⟩=some (.slice v d.length q):=cH l.box);by_cases M:j<d.length
  ·obtain⟨b,k,rfl,X⟩:=aCO G j M;(have ag:j<f.length:=by rw[<-H3.o];exact M);obtain⟨b2,aj,rfl,Y⟩:=qY E j ag;have q0:=aB l.j X;have q1:=aB l.j Y;(have a4:O (∀y m,Below w.heap.size w y->m<d.length->y.cell? ⟨b,k+m,none⟩=some (.string ⟨(oP d m).toArray⟩)):=by intro y m hy hm;obtain⟨b',ai,e,hc⟩:=aCO G m hm;(obtain⟨rfl,rfl⟩:b=b'/\k=ai:=by simpa using e);exact aB hy hc);have r:O (aU (jT f d) (List.range d.length)=iD (jT f d j) (aU (jT f d) ((List.range d.length).drop (j+1)))):=K.o.trans (Xg f d j M);have H:O (jT f d j=iD (if dG (bM f j) 0 3 then 0 else 3) (iD (if oR (oP d j)then 0 else 1) (if(d.take j).contains (oP d j)then 6 else 0))):=rfl;clear X Y E G F K;generalize bM f j=a at *;generalize hs:oP d j=s at *;have aa:O _:=hs;clear hs;go_wp2_with fail;refine(AE _ _ _ _).mono ?_;rintro e w2 ⟨J,rfl⟩;cases T:dG a 0 3
   ·rw[T]at J;subst J;(have HV:O (dJ ⟨f,d,g⟩=3):=by show _=_;rw[n.o,r.o,H.o,T];rfl);clear n r H;go_wp2_with fail;go_ret;exact⟨rV,l.j⟩
   rw[T]at J;subst J;rw[T,if_pos rfl,eY]at H;go_wp2_with fail;refine(aGG s _).mono ?_;rintro e w3 ⟨J,rfl⟩;cases N:oR s
   ·rw[N]at J;subst J;(have HV:O (dJ ⟨f,d,g⟩=1):=by show _=_;rw[n.o,r.o,H.o,N];rfl);clear n r H;go_wp2_with fail;go_ret;exact⟨rV,l.j⟩
   rw[N]at J;subst J;rw[N,if_pos rfl,eY]at H;clear c0 c1 q0 q1 T N;go_wp2_with fail;go_loopw [4] (fun i wq=>∃m:Nat,m<=j/\i=.int .i64 m/\PB w (.cells #[.slice (some ⟨b2,aj,none⟩) f.length B, .slice (some ⟨b,k,none⟩) d.length q, .slice P g.length C] 26) wq/\(d.take j).contains s=((d.take j).drop m).contains s) (fun i _=>j-(intOf i).toNat);case atStart=>exact⟨0,bG _,rfl,l,rfl⟩
   case round=>
    clear l;obtain⟨m,hm,rfl,l,a7⟩:=hrel;have a0:O _:=a7;clear a7;(have c1:wr.cell? ⟨w.heap.size,1,none⟩=some (.slice (some ⟨b,k,none⟩) d.length q):=cH l.box);by_cases ah:m<j
    ·have q0:=a4.o _ m l.j oM;have q1:=a4.o _ j l.j M;rw[aa.o]at q1;(have a8:m<(d.take j).length:=by rw[cW];omega);(have Z:O ((d.take j).contains s=((oP d m==s)||((d.take j).drop (m+1)).contains s)):=by show _=_;rw[a0.o,Pb _ _ m a8,aN4 d j m ah]);clear a0 a8;have am:m<d.length:=oM;go_upto_region 15 with fail;cases g6:(oP d m==s)
     ·(have HV:O ((d.take j).contains s=((d.take j).drop (m+1)).contains s):=by show _=_;rw[Z.o,g6];rfl);clear Z;go_region_held3 (fun y=>y.cell? ⟨w.heap.size,1,none⟩=some (.slice (some ⟨b,k,none⟩) d.length q)/\y.cell? ⟨b,k+m,none⟩=some (.string ⟨(oP d m).toArray⟩)/\y.cell? ⟨b,k+j,none⟩=some (.string ⟨s.toArray⟩)) (go_keep) (fail);have a2:=l.drew;go_wp2_with fail;go_roundw;(case rel=>exact⟨m+1,oM,gN,a2,HV.o⟩);case measure=>exact mI
     (have HV:O (dJ ⟨f,d,g⟩=6):=by show _=_;rw[n.o,r.o,H.o,Z.o,g6];rfl);clear Z n r H;go_region_held3 (fun y=>y.cell? ⟨w.heap.size,1,none⟩=some (.slice (some ⟨b,k,none⟩) d.length q)/\y.cell? ⟨b,k+m,none⟩=some (.string ⟨(oP d m).toArray⟩)/\y.cell? ⟨b,k+j,none⟩=some (.string ⟨s.toArray⟩)) (go_keep) (fail);have a2:=l.drew.j;go_wp2_with fail;go_ret;exact⟨rV,a2⟩
    (have W:(d.take j).contains s=false:=by rw[a0.o,bD (by rw[cW];omega)];rfl);(have HV:O (aU (jT f d) (List.range d.length)=aU (jT f d) ((List.range d.length).drop (j+1))):=by show _=_;rw[r.o,H.o,W];rfl);clear r H a0 W;go_wp2_with fail;go_roundw;(case rel=>exact⟨j+1,oM,gN,l,HV.o⟩);case measure=>exact mI
  (have W:aU (jT f d) (List.range d.length)=0:=by rw[K.o,bD sO];rfl);rw[W,eY]at n;have af:f.length<=9223372036854775807:=oM;clear K W E G;go_wp2_with fail;go_loopw [5] (fun i wr=>∃j:Nat,j<=g.length/\i=.int .i64 j/\PB w (.cells #[.slice A f.length B, .slice v d.length q, .slice P g.length C] 26) wr/\aU (dT f) g=aU (dT f) (g.drop j)) (fun i _=>g.length-(intOf i).toNat);case atStart=>exact⟨0,bG _,rfl,l,rfl⟩
  case round=>
   clear l c0 c1;obtain⟨j,hj,rfl,l,U⟩:=hrel;have K:O _:=U;clear U;(have c0:wr.cell? ⟨w.heap.size,0,none⟩=some (.slice A f.length B):=cH l.box);(have c1:wr.cell? ⟨w.heap.size,1,none⟩=some (.slice v d.length q):=cH l.box);(have c2:wr.cell? ⟨w.heap.size,2,none⟩=some (.slice P g.length C):=cH l.box);by_cases M:j<g.length
   ·obtain⟨b,k,rfl,X,⟨vt,Y,hT⟩,p2,⟨vb,p3,hB⟩,p4⟩:=rH F j M;have HT:O (fT w vt (aW g j).p):=hT;have HB:O (pI w vb (aW g j).body):=hB;obtain⟨at_,ct,rfl,_,_⟩:=hT;obtain⟨ab,cb,rfl,_⟩:=hB;have q0:=aB l.j X;have q1:=aB l.j Y;have q2:=aB l.j p2;have q3:=aB l.j p3;have q4:=aB l.j p4;have r:O (aU (dT f) g=iD (dT f (aW g j)) (aU (dT f) (g.drop (j+1)))):=K.o.trans (uP _ _ _ j M);have a3:O (BS (aW g j)):=a9.o j M;clear X Y p2 p3 p4 K F;generalize hx:aW g j=x at *;clear hx;(have a5:O (∀y,(PB w (.cells #[.slice A f.length B, .slice v d.length q, .slice (some ⟨b,k,none⟩) g.length C] 26) y/\y.cell? ⟨w.heap.size,0,none⟩=some (.slice A f.length B)/\y.cell? ⟨w.heap.size,1,none⟩=some (.slice v d.length q)/\y.cell? ⟨w.heap.size,2,none⟩=some (.slice (some ⟨b,k,none⟩) g.length C)/\y.cell? ⟨b,k+j*5,none⟩=some (.int .i64 x.z)/\y.cell? ⟨b,k+j*5+1,none⟩=some (.slice at_ x.p.length ct)/\y.cell? ⟨b,k+j*5+2,none⟩=some (.int .i64 x.x)/\y.cell? ⟨b,k+j*5+3,none⟩=some (.slice ab x.body.length cb)/\y.cell? ⟨b,k+j*5+4,none⟩=some (.int .i64 x.vars))->Calls Tryz.prog 111 #[eN (.slice A f.length B) (.slice v d.length q) (.slice (some ⟨b,k,none⟩) g.length C),lP x (.slice at_ x.p.length ct) (.slice ab x.body.length cb)] y fun e D=>e=.returned (.int .i64 (dT f x))/\(PB w (.cells #[.slice A f.length B, .slice v d.length q, .slice (some ⟨b,k,none⟩) g.length C] 26) D/\D.cell? ⟨w.heap.size,0,none⟩=some (.slice A f.length B)/\D.cell? ⟨w.heap.size,1,none⟩=some (.slice v d.length q)/\D.cell? ⟨w.heap.size,2,none⟩=some (.slice (some ⟨b,k,none⟩) g.length C)/\D.cell? ⟨b,k+j*5,none⟩=some (.int .i64 x.z)/\D.cell? ⟨b,k+j*5+1,none⟩=some (.slice at_ x.p.length ct)/\D.cell? ⟨b,k+j*5+2,none⟩=some (.int .i64 x.x)/\D.cell? ⟨b,k+j*5+3,none⟩=some (.slice ab x.body.length cb)/\D.cell? ⟨b,k+j*5+4,none⟩=some (.int .i64 x.vars))):=by rintro y ⟨a1,k0,k1,k2,k3,k4,k5,k6,k7⟩;refine Calls.mono (aJ9 f _ _ _ x _ _ y af (aM HA.o a1.j) (dS HT.o a1.j) (nU HB.o a1.j) a3.o) ?_;rintro e D ⟨rfl,I⟩;exact⟨rfl,a1.u I,aB I k0,aB I k1,aB I k2,aB I k3,aB I k4,aB I k5,aB I k6,aB I k7⟩);have a2:=l.drew;clear HT HB a3;go_upto_region 20 with fail;go_region_held3 (fun y=>(PB w (.cells #[.slice A f.length B, .slice v d.length q, .slice (some ⟨b,k,none⟩) g.length C] 26) y/\y.cell? ⟨w.heap.size,0,none⟩=some (.slice A f.length B)/\y.cell? ⟨w.heap.size,1,none⟩=some (.slice v d.length q)/\y.cell? ⟨w.heap.size,2,none⟩=some (.slice (some ⟨b,k,none⟩) g.length C)/\y.cell? ⟨b,k+j*5,none⟩=some (.int .i64 x.z)/\y.cell? ⟨b,k+j*5+1,none⟩=some (.slice at_ x.p.length ct)/\y.cell? ⟨b,k+j*5+2,none⟩=some (.int .i64 x.x)/\y.cell? ⟨b,k+j*5+3,none⟩=some (.slice ab x.body.length cb)/\y.cell? ⟨b,k+j*5+4,none⟩=some (.int .i64 x.vars))) (go_keep) ((go_at_call 111;refine Calls.mono (a5.o _ ?_) ?_;(simp[*]);rintro e w2 ⟨rfl,Q,R,S,h4,N,h6,h7,h8,L⟩));have a6:=Q;clear R S h4 N h6 h7 h8 L a5;by_cases L:dT f x=0;rotate_left
    ·(have HV:O (dJ ⟨f,d,g⟩=dT f x):=by show _=_;rw[n.o,r.o,pD _ L]);(have g9:(dT f x != 0)=true:=by simpa using L);clear n r L;go_wp2_with fail;go_ret;exact⟨rV,a6.j⟩
    (have HV:O (aU (dT f) g=aU (dT f) (g.drop (j+1))):=by show _=_;rw[r.o,L,eY]);rw[L];clear r L;go_wp2_with fail;go_roundw;(case rel=>exact⟨j+1,oM,gN,a6,HV.o⟩);case measure=>exact mI
   (have HV:O (dJ ⟨f,d,g⟩=0):=by show _=_;rw[n.o,K.o,bD oM];rfl);clear n F;go_wp2_with fail;go_ret;exact⟨rV,l.j⟩

abbrev aUE(r:jN)(v u:Value):Obj:=.cells #[.int .i64 r.at_, .string ⟨r.name.toArray⟩,v, .int .i64 r.x,u] 240
abbrev aV6(r:bB)(v u:Value):Obj:=.cells #[.int .i64 r.z,v, .int .i64 r.x,u, .int .i64 r.vars] 40
abbrev aV5(x:cI)(v:Value):Obj:=.cells #[.int .i64 x.kind, .int .i64 x.op, .int .i64 x.z,v] 49

def gU:bC:=⟨[2,2],[[113],[112]],
 [⟨1,[⟨0,0⟩,⟨1,0⟩],0,[⟨1,0,0,[⟨0,0⟩,⟨1,0⟩]⟩],2⟩,
  ⟨1,[⟨0,0⟩,⟨2,0⟩],0,[⟨1,0,1,[⟨0,0⟩,⟨1,0⟩]⟩,⟨1,0,0,[⟨1,0⟩,⟨2,0⟩]⟩],3⟩]⟩
def oD(w:World):List Obj->World
 |[]=>w
 |o::os=>oD (w.alloc o) os
theorem KJ:∀(b:List Obj)(w:World),Below w.heap.size w (oD w b):=by
 intro b
 induction b with
 |nil=>intro w;exact aH _ _
 |cons o b e=>
  intro w;have d:Below w.heap.size w (w.alloc o):=(aH _ _).alloc (aE _) o;exact d.trans ((e (w.alloc o)).mono d.size)
theorem TT:∀(b:List Obj)(w:World)(k:Nat)(o:Obj),b[k]?=some o->(oD w b).heap[w.heap.size+k]?=some o:=by
 intro b
 induction b with
 |nil=>intro w k o h;simp at h
 |cons x b g=>
  intro w k o h
  cases k with
  |zero=>
   (have f:x=o:=by simpa using h);subst f;have d:=aR w x;exact((KJ b (w.alloc x)).block _ (bP d)).trans d
  |succ k=>
   have :=g (w.alloc x) k o (by simpa using h);(have e:(w.alloc x).heap.size=w.heap.size+1:=by simp);rw[e]at this;rw[show w.heap.size+(k+1)=w.heap.size+1+k by omega];exact this
theorem wM(b:List Obj)(w:World)(k:Nat)(c:Array Value)(t:Nat)(i:Nat)(v:Value)(h:b[k]?=some (.cells c t))(d:c[i]?=some v):
 (oD w b).cell? ⟨w.heap.size+k,i,none⟩=some v:=by
 rw[cD (TT b w k _ h)];exact d
abbrev NS(n k l:Nat):Value:=.slice (some ⟨n+k,0,none⟩) l l
abbrev uI(i:Int):Value:=.int .i64 i
def qU(n:Nat):List Obj:=
 [.cells #[NS n 4 2,NS n 5 2,NS n 13 2] 26,
  .cells #[uI 0,uI 0] 147, .cells #[uI 1,uI 0] 147, .cells #[uI 2,uI 0] 147,
  .cells #[uI 2,uI 2] 3,
  .cells #[.string ⟨#[113]⟩, .string ⟨#[112]⟩] 9,
  .cells #[uI 0,uI 0,uI 1,uI 0] 147,
  .cells #[uI 0,uI 0,uI 1,uI 0] 147,
  .cells #[uI 1,uI 0,uI 0,NS n 7 2] 49,
  .cells #[uI 0,uI 0,uI 2,uI 0] 147,
  .cells #[uI 0,uI 0,uI 1,uI 0] 147,
  .cells #[uI 1,uI 0,uI 2,uI 0] 147,
  .cells #[uI 1,uI 0,uI 1,NS n 10 2,uI 1,uI 0,uI 0,NS n 11 2] 49,
  .cells #[uI 1,NS n 6 2,uI 0,NS n 8 1,uI 2,uI 1,NS n 9 2,uI 0,NS n 12 2,uI 3] 40]
theorem EF(w:World)(d:List Obj)(k:Nat)(a b:Int)(h:d[k]?=some (.cells #[uI a,uI 0,uI b,uI 0] 147)):
 fT (oD w d) (NS w.heap.size k 2) [⟨a,0⟩,⟨b,0⟩]:=by
 refine⟨_,_,rfl,aE _, .inr ⟨_,0,rfl,fun i e=>?_⟩⟩
 match i,e with
 |0,_=>exact⟨wM d w k _ _ 0 _ h rfl,wM d w k _ _ 1 _ h rfl⟩
 |1,_=>exact⟨wM d w k _ _ 2 _ h rfl,wM d w k _ _ 3 _ h rfl⟩
theorem Lf(w:World):iU (oD w (qU w.heap.size)) (NS w.heap.size 4 2) (NS w.heap.size 5 2) (NS w.heap.size 13 2) gU:=by
 have c:∀(k:Nat)(c:Array Value)(t i:Nat)(v:Value),(qU w.heap.size)[k]?=some (.cells c t)->c[i]?=some v->(oD w (qU w.heap.size)).cell? ⟨w.heap.size+k,i,none⟩=some v:=
  fun k c t i v=>wM _ w k c t i v
 refine⟨?_,?_,?_⟩
 ·refine⟨_,_,rfl, .inr ⟨_,0,rfl,fun i b=>?_⟩⟩
  match i,b with
  |0,_=>exact c 4 _ _ 0 _ rfl rfl
  |1,_=>exact c 4 _ _ 1 _ rfl rfl
 ·refine⟨_,_,rfl, .inr ⟨_,0,rfl,fun i b=>?_⟩⟩
  match i,b with
  |0,_=>exact c 5 _ _ 0 _ rfl rfl
  |1,_=>exact c 5 _ _ 1 _ rfl rfl
 refine⟨_,_,rfl, .inr ⟨_,0,rfl,fun i b=>?_⟩⟩
 match i,b with
 |0,_=>
  refine⟨c 13 _ _ 0 _ rfl rfl,⟨_,c 13 _ _ 1 _ rfl rfl,EF w _ 6 0 1 rfl⟩,c 13 _ _ 2 _ rfl rfl,⟨_,c 13 _ _ 3 _ rfl rfl,?_⟩,c 13 _ _ 4 _ rfl rfl⟩;refine⟨_,_,rfl, .inr ⟨_,0,rfl,fun j d=>?_⟩⟩
  match j,d with
  |0,_=>exact⟨c 8 _ _ 0 _ rfl rfl,c 8 _ _ 1 _ rfl rfl,c 8 _ _ 2 _ rfl rfl,_,c 8 _ _ 3 _ rfl rfl,EF w _ 7 0 1 rfl⟩
 |1,_=>
  refine⟨c 13 _ _ 5 _ rfl rfl,⟨_,c 13 _ _ 6 _ rfl rfl,EF w _ 9 0 2 rfl⟩,c 13 _ _ 7 _ rfl rfl,⟨_,c 13 _ _ 8 _ rfl rfl,?_⟩,c 13 _ _ 9 _ rfl rfl⟩;refine⟨_,_,rfl, .inr ⟨_,0,rfl,fun j d=>?_⟩⟩
  match j,d with
  |0,_=>exact⟨c 12 _ _ 0 _ rfl rfl,c 12 _ _ 1 _ rfl rfl,c 12 _ _ 2 _ rfl rfl,_,c 12 _ _ 3 _ rfl rfl,EF w _ 10 0 1 rfl⟩
  |1,_=>exact⟨c 12 _ _ 4 _ rfl rfl,c 12 _ _ 5 _ rfl rfl,c 12 _ _ 6 _ rfl rfl,_,c 12 _ _ 7 _ rfl rfl,EF w _ 11 1 2 rfl⟩
theorem sK:jK gU:=by
 refine⟨dE,dE,dE,fun i d=>?_⟩
 match i,d with
 |0,_=>
  refine⟨dE,dE,fun j b=>?_⟩
  match j,b with
  |0,_=>exact(by decide:(2:Nat)<=9223372036854775807)
 |1,_=>
  refine⟨dE,dE,fun j b=>?_⟩
  match j,b with
  |0,_=>exact(by decide:(2:Nat)<=9223372036854775807)
  |1,_=>exact(by decide:(2:Nat)<=9223372036854775807)
theorem WP(p:Int)(a:Option Addr)(n c:Nat)(w:World):
 Calls Tryz.prog 65 #[.int .i64 p, .slice a n c] w fun e i=>e=.returned (kS p (.slice a n c))/\Below w.heap.size w i:=by
 have g:∀o,Below w.heap.size w (w.alloc o):=fun o=>(aH _ _).alloc (aE _) o
 go_enter Tryz.func65,Tryz.ntmps65
 go_wp2_with fail;have b:=kT w (.cells #[.int .i64 p, .slice a n c] 55);(have d:(w.alloc (.cells #[.int .i64 p, .slice a n c] 55)).cell? ⟨w.heap.size,0,none⟩=some (.int .i64 p):=cH b);(have f:(w.alloc (.cells #[.int .i64 p, .slice a n c] 55)).cell? ⟨w.heap.size,1,none⟩=some (.slice a n c):=cH b);refine dF (v:=kS p (.slice a n c)) (by simp[results,Tryz.results65,go_sem,d,f]) rfl ⟨rfl,g _⟩
theorem Vk(n k l:Nat):wW (NS n k l):=by intro b m d h;injection h with _ e f;omega
theorem aKG(w:World):iR (oD w (qU w.heap.size)) (NS w.heap.size 13 2):=by
 have g:(oD w (qU w.heap.size)).cell? ⟨w.heap.size+13,3,none⟩=some (NS w.heap.size 8 1):=wM (qU w.heap.size) w 13 _ _ 3 _ rfl rfl;have i:(oD w (qU w.heap.size)).cell? ⟨w.heap.size+13,8,none⟩=some (NS w.heap.size 12 2):=wM (qU w.heap.size) w 13 _ _ 8 _ rfl rfl;generalize oD w (qU w.heap.size)=W at *;generalize w.heap.size=N at *;intro b s n p m k r v f;injection m with d j q;injection d with d;injection d with d l;subst j l;rw[<-d]at f;rcases(show k=0\/k=1 by omega)with rfl|rfl
 ·have e:W.cell? ⟨N+13,3,none⟩=some v:=f;rw[g]at e;rw[<-Option.some.inj e];exact Vk _ _ _
 have e:W.cell? ⟨N+13,8,none⟩=some v:=f;rw[i]at e;rw[<-Option.some.inj e];exact Vk _ _ _
theorem YU(w:World):Calls Tryz.prog 63 #[] w fun e k=>∃l m j,e=.returned (eN l m j)/\iU k l m j gU/\iR k j/\Below w.heap.size w k:=by
 have i:O (iU (oD w (qU w.heap.size)) (NS w.heap.size 4 2) (NS w.heap.size 5 2) (NS w.heap.size 13 2) gU/\iR (oD w (qU w.heap.size)) (NS w.heap.size 13 2)/\Below w.heap.size w (oD w (qU w.heap.size))):=⟨Lf w,aKG w,KJ _ w⟩;have g:(oD w (qU w.heap.size)).heap[w.heap.size]?=_:=TT (qU w.heap.size) w 0 _ rfl;(have b:(oD w (qU w.heap.size)).cell? ⟨w.heap.size,0,none⟩=some (NS w.heap.size 4 2):=cH g);(have d:(oD w (qU w.heap.size)).cell? ⟨w.heap.size,1,none⟩=some (NS w.heap.size 5 2):=cH g);(have f:(oD w (qU w.heap.size)).cell? ⟨w.heap.size,2,none⟩=some (NS w.heap.size 13 2):=cH g);have n:O (_/\_/\_):=⟨b,d,f⟩;clear g b d f
 go_enter Tryz.func63,Tryz.ntmps63
 go_wp2_with fail;change bodyPost _ _ _ _ _ (oD w (qU w.heap.size));obtain⟨b,d,f⟩:=n.o;generalize oD w (qU w.heap.size)=p at *;refine dF (v:=eN (NS w.heap.size 4 2) (NS w.heap.size 5 2) (NS w.heap.size 13 2)) (by simp[results,Tryz.results63,go_sem,b,d,f]) rfl ⟨_,_,_,rfl,i.o.1,i.o.2.1,i.o.2.2⟩
def oI:List aN:=[⟨0,[1,2]⟩,⟨0,[2,3]⟩,⟨1,[1,2]⟩,⟨1,[1,3]⟩,⟨1,[2,3]⟩]
theorem tV(y:World)(a b:Int):dM (y.alloc (.cells #[.int .i64 a, .int .i64 b] 3)) (.slice (some ⟨y.heap.size,0,none⟩) 2 2) [a,b]:=by
 refine⟨_,_,rfl, .inr ⟨_,0,rfl,fun i d=>?_⟩⟩
 match i,d with
 |0,_=>rw[cD (kT y _)];rfl
 |1,_=>rw[cD (kT y _)];rfl
def pK:List aN:=[⟨0,[1,2]⟩,⟨0,[2,3]⟩]
theorem AM:∀f,f∈pK->fW f:=by intro f b;simp only[pK,List.mem_cons,List.not_mem_nil,or_false]at b;rcases b with rfl|rfl<;>exact(by decide:(2:Nat)<=9223372036854775807)
theorem Zb(o:List aN)(h:kM gU o=0):aX gU pK o=0:=by unfold aX;rw[h];kernel_rfl
def iZ:bB:=aW gU.m 0
def iH:bB:=aW gU.m 1
theorem BK{r:bB}(h:r∈gU.m):r=iZ\/r=iH:=by
 rcases eQ.mp h with h|h
 ·exact .inl h
 rcases eQ.mp h with h|h
 ·exact .inr h
 cases h
theorem aOU:iZ∈gU.m:=dC
theorem aOV:iH∈gU.m:=bO _ dC
theorem Ex:oE gU iZ.z=0:=kR
theorem Ey:oE gU iH.z=0:=kR
def UM:List aN:=[⟨0,[1,2]⟩,⟨0,[2,3]⟩,⟨1,[1,2]⟩,⟨1,[2,3]⟩]
theorem Zc:dR pK=pK:=kR
theorem aHU:mO pK (bS pK iZ)=UM:=kR
theorem aHP:mO UM (bS UM iH)=oI:=kR
theorem aHQ:bS oI iZ=[⟨1,[1,2]⟩,⟨1,[2,3]⟩]:=kR
theorem aHR:bS oI iH=[⟨1,[1,3]⟩]:=kR
theorem aHS:(gP oI iZ).length=2:=kR
theorem aHT:(gP oI iH).length=1:=kR
theorem Lw:jR gU 0 pK oI:=by have b:=jR.step jR.refl (FY (p:=gU) (T:=pK) aOU Ex);rw[aHU]at b;have d:=jR.step b (FY (p:=gU) (T:=UM) aOV Ey);rw[aHP]at d;exact d
theorem Lq:oV gU pK (some oI):=by
 have i:gU.g.length=2:=rfl;unfold oV;rw[i,Zc];refine⟨some oI,⟨some pK,rfl,?_⟩,?_⟩
 ·refine⟨Lw,fun r e _ f b=>?_,dE,fun r e _=>?_⟩
  ·rcases BK e with rfl|rfl
   ·rw[aHQ]at b;rcases eQ.mp b with rfl|b
    ·exact bO _ (bO _ dC)
    rcases eQ.mp b with rfl|b
    ·exact bO _ (bO _ (bO _ (bO _ dC)))
    cases b
   rw[aHR]at b;rcases eQ.mp b with rfl|b
   ·exact bO _ (bO _ (bO _ dC))
   cases b
  rcases BK e with rfl|rfl
  ·rw[aHS];decide
  rw[aHT];decide
 refine⟨jR.refl,fun r e d=>?_,dE,fun r e d=>?_⟩
 ·rcases BK e with rfl|rfl
  ·rw[Ex]at d;cases d
  rw[Ey]at d;cases d
 rcases BK e with rfl|rfl
 ·rw[Ex]at d;cases d
 rw[Ey]at d;cases d
theorem sS{o:List aN}(h:kM gU o=0):pX gU pK o 0 oI:=.inr ⟨Zb o h,some oI,Lq,rfl,rfl⟩
theorem Xf(w:World):Calls Tryz.prog 75 #[] w fun e g=>∃v,e=.returned v/\dA g v pK/\Below w.heap.size w g:=by
 have y:O (∀(p:Int)(a:Option Addr)(n c:Nat)(w:World),Calls Tryz.prog 65 #[.int .i64 p, .slice a n c] w fun e g=>e=.returned (kS p (.slice a n c))/\Below w.heap.size w g):=WP
 go_enter Tryz.func75,Tryz.ntmps75
 go_wp2_with fail;have s:O _:=tV w 1 2;have d:O _:=dD w (.cells #[.int .i64 1, .int .i64 2] 3);generalize l:w.heap.size=k at *;generalize w.alloc (.cells #[.int .i64 1, .int .i64 2] 3)=E at *;refine Calls.mono (y.o _ _ _ _ _) ?_;rintro _ b ⟨rfl,m⟩;have z:O _:=aM s.o m;have i:O (Below k w b):=d.o.trans (m.mono (by rw[<-l];rw[<-l]at d;exact d.o.size));clear m s d;go_wp2_with fail;have x:O _:=tV b 2 3;have A:O _:=aM z.o (dD b (.cells #[.int .i64 2, .int .i64 3] 3));have j:O (Below k w (b.alloc (.cells #[.int .i64 2, .int .i64 3] 3))):=i.o.trans ((dD b _).mono (by have :=i.o.size;omega));clear z i;generalize D:b.heap.size=C at *;generalize b.alloc (.cells #[.int .i64 2, .int .i64 3] 3)=F at *;refine Calls.mono (y.o _ _ _ _ _) ?_;rintro _ q ⟨rfl,f⟩;have B:O _:=aIY q ⟨0,[1,2]⟩ ⟨0,[2,3]⟩ _ _ (aM A.o f) (aM x.o f);have r:O (Below k w q):=j.o.trans (f.mono (by have :=j.o.size;omega));clear f x A j;go_wp2_with fail;go_ret;exact⟨_,rfl,B.o,by rw[l];exact r.o.trans ((dD q _).mono (by have :=r.o.size;omega))⟩
def UG(B:Nat)(w:World)(q:List Fv):Prop:=∀p,p∈q->w.ownsRow B 3 1 p.2 p.1.args.length (p.1.args.map (Value.int .i64))
theorem UG.u{B:Nat}{w w':World}{q:List Fv}(h:UG B w q)(b:Below w.heap.size w w'):UG B w' q:=fun p d=>bI (h p d) b
theorem aDD{w:World}{T:Array Oper}{rest:List Oper}{o:Oper}{a:Act}{Q:Exit->Act->World->Prop}(K:o.guard=none)(s x:Operand)
 (M:o.op=.call {callee:=.builtin .append,args:=#[s,x],argTypes:=#[27,27]}) (B z:Nat) (v:Value) (n:Nat) (q:List Fv) (P:a.eval s=v) (hn:n=q.length) (m:w.ownsRow B 55 2 v n (q.map dW).flatten) (G:UG B w q)
 (u:Value) (b:List Fv) (R:a.eval x=u) (N:w.ownsRow z 55 2 u b.length (b.map dW).flatten) (H:UG z w b) (W:B<=z) (F:B<=w.heap.size) (hl:q.length+b.length<=4194304)
 (h:∀y f,f.ownsRow B 55 2 y (q++b).length ((q++b).map dW).flatten->UG B f (q++b)->Below B w f->wpList Tryz.prog T Q rest (a.put o.dst y) f):wpList Tryz.prog T Q (o::rest) a w:=by
 obtain⟨S,L,a3,a4,a5⟩:=iT vK;subst hn;rcases jJ N with⟨r,V⟩|⟨g,U,r⟩
 ·have a1:b=[]:=eB V;subst a1;refine BB K s x 27 M B 55 S 2 Tryz.underlying27 L v q.length _ P m (by rw[R,r]) ?_;exact h v w (by rw[jM];exact m) (by rw[jM];exact G) (aH _ _)
 subst r;refine fX w K s x 27 M B 55 S _ 2 32 Tryz.underlying27 L a3 a4 a5 rfl dE v q.length _ P m ⟨g,0,none⟩ b.length U (b.map dW).flatten R (by rw[pE]) (fun j c D=>?_) (fun c X=>?_) (by unfold maxLen;omega) oM F ?_
 ·have Z:j<b.length*2:=by
   rcases jW j (b.length*2)with C|C
   ·exact C
   rw[cZ (by rw[pE];exact C)]at D;cases D
  rw[Addr.add_lit,dV,World.ownsRow.cellAt N j Z];exact D
 ·obtain⟨l9,Y,I⟩:=wT.mp X;obtain⟨p,d,rfl⟩:=cR.mp Y;obtain⟨a9,c9,a2⟩:=bJ (H p d);simp only[dW,List.mem_cons,List.not_mem_nil,or_false]at I;rcases I with rfl|rfl
  ·rfl
  rw[a2];rfl
 intro y f a0 J _;have E:∀(A:Nat)(l:List Int)(u:Value),w.ownsRow A 3 1 u l.length (l.map (Value.int .i64))->f.ownsRow A 3 1 u l.length (l.map (Value.int .i64)):=fun A l u r=>gR r (fun k c i=>(J.block k (bP i) (fun e=>by have :=xJ m e.symm i;cases this)).trans i);refine h y f ?_ (fun p d=>?_) ((aH B w).grown J F (fun k i=>(m.lt k i).1))
 ·rw[bA,cB,fZ];exact a0
 rcases dP.mp d with d|d
 ·exact E _ _ _ (G p d)
 exact gL (E _ _ _ (H p d)) W

end Go.Proofs.YthenjegmigeieaaGreat
namespace Go.Proofs.YthenjegmigeieaaGreat
structure aEX (p:bC) (M:List aN) (i:Nat):Prop where
 err:gM p i M=0
 o:jD p i M=rX (gP M (aW p.m i))
 hds:nH p i M=bS M (aW p.m i)
 hl:(bS M (aW p.m i)).length<=2000
 wl:(rX (gP M (aW p.m i))).length<=2000
 ht:∀f,f∈bS M (aW p.m i)->f.args.length=(aW p.m i).p.length
 tl:(aW p.m i).p.length<=3
 tin:∀x,x∈gP M (aW p.m i)->gX x.length (aW p.m i).p/\x.length<=8
 fo:¬(aW p.m i).x=0->0<(aW p.m i).p.length
theorem aMF{p:bC}{l M:List aN}(h:pX p l [] 0 M){i:Nat}(n:i<p.m.length):aEX p M i:=by
 have r:=vX h rfl;have j:=tY r.1;have g:=vW j.1 j.2.1;have w:=sQ j.1 j.2.2.1;have e:=lZ g (nM w.2) r.2;have E:=rN h;have B:=(xA g w.2 r.2).2.1 _ (pS n);have d:=g.ok.c _ (pS n);have y:=gC d e.right;have C:=rP y (gF e.right) (kW e.up);have q:gM p i M=0:=by
  rcases LP j.1 e n with h|⟨_,h|h⟩
  ·exact h.1
  ·have :=E.1;omega
  omega
 (have D:gV p (i:Int)=aW p.m i:=by unfold gV;rw[fJ]);refine⟨q,?_,FZ g.ok e n q,bH QR B,?_,fun f k=>?_,?_,fun x F=>?_,fun k=>?_⟩
 ·unfold jD;rw[if_neg (fun h=>h q),D,CK e.up]
 ·rw[(AS C).length_eq];exact B
 ·have s:=tZ d e.right k;have a:=s.al;rw[CN k]at a;have b:=d.tl;omega
 ·have H:=d.tl;have I:=g.ok.ar (aW p.m i).z.toNat (by have :=d.p0;have :=d.p1;omega);omega
 ·have A:=(lV y (gF e.right) x).mp F;have J:=d.v0;have K:=d.v8;refine⟨fun t ht=>?_,by rw[A.1];omega⟩;have v:=d.tm t ht;have s:=v.lo;have G:=v.hi;unfold qK;rw[A.1];omega
 have :=(d.ff k).1;omega
end Go.Proofs.YthenjegmigeieaaGreat
namespace Go.Proofs.YthenjegmigeieaaGreat
open Go.RowKit
theorem BW.u{B:Nat}{w w':World}{v:Value}{q:List Sv}(h:BW B w v q)(b:Below w.heap.size w w'):BW B w' v q:=⟨bI h.1 b,fun x d=>(h.2 x d).u b⟩
theorem aDF{w:World}{S:Array Oper}{rest:List Oper}{o:Oper}{a:Act}{Q:Exit->Act->World->Prop}(L:o.guard=none)(s x:Operand)
 (N:o.op=.call {callee:=.builtin .append,args:=#[s,x],argTypes:=#[71,71]}) (A B H:Nat) (v:Value) (n:Nat) (q:List Sv) (P:a.eval s=v) (X:n=q.length) (r:w.ownsRow B 80 4 v n (q.map jO).flatten) (J:∀x,x∈q->DX A w x)
 (u:Value) (d:List Sv) (E:a.eval x=u) (D:BW H w u d) (V:A<=H) (I:B<=w.heap.size) (hl:q.length+d.length<=4194304)
 (h:∀F i,i.ownsRow B 80 4 F (q++d).length ((q++d).map jO).flatten->(∀x,x∈q++d->DX A i x)->Below B w i->wpList Tryz.prog S Q rest (a.put o.dst F) i):wpList Tryz.prog S Q (o::rest) a w:=by
 obtain⟨R,M,a0,a1,a2⟩:=iT LG;subst X;rcases jJ D.1 with⟨z,U⟩|⟨g,T,z⟩
 ·have Z:d=[]:=eB U;subst Z;refine BB L s x 71 N B 80 R 4 Tryz.underlying71 M v q.length _ P r (by rw[E,z]) ?_;exact h v w (by rw[jM];exact r) (by rw[jM];exact J) (aH _ _)
 subst z;refine fX w L s x 71 N B 80 R _ 4 64 Tryz.underlying71 M a0 a1 a2 rfl dE v q.length _ P r ⟨g,0,none⟩ d.length T (d.map jO).flatten E (by rw[Xz]) (fun j c G=>?_) (aQS fun x E=>(D.2 x E).ok) (by unfold maxLen;omega) oM I ?_
 ·have W:j<d.length*4:=by
   rcases jW j (d.length*4)with b|b
   ·exact b
   rw[cZ (by rw[Xz];exact b)]at G;cases G
  rw[Addr.add_lit,dV,World.ownsRow.cellAt D.1 j W];exact G
 intro F i Y K _;have C:∀(A:Nat)(l:List Int)(u:Value),w.ownsRow A 3 1 u l.length (l.map (Value.int .i64))->i.ownsRow A 3 1 u l.length (l.map (Value.int .i64)):=fun A l u z=>gR z (fun k c m=>(K.block k (bP m) (fun e=>by have :=xJ r e.symm m;cases this)).trans m);refine h F i ?_ (fun p y=>?_) ((aH B w).grown K I (fun k m=>(r.lt k m).1))
 ·rw[bA,cB,fZ];exact Y
 rcases dP.mp y with y|y
 ·have b:=J p y;exact⟨C _ _ _ b.f,C _ _ _ b.v,b.fl,b.vl⟩
 have b:=(D.2 p y).le V;exact⟨C _ _ _ b.f,C _ _ _ b.v,b.fl,b.vl⟩
def JB(p:bC)(l M:List aN)(i:Nat):List eC:=(dR l).map (fun f=>⟨f, -1,[]⟩)++(List.range i).flatMap (yC p M)
theorem aBN(p:bC)(l M:List aN)(i:Nat):JB p l M (i+1)=JB p l M i++yC p M i:=by unfold JB;rw[List.range_succ,ES,<-iP];simp
theorem WK{p:bC}{M:List aN}{i:Nat}(h:(rX (gP M (aW p.m i))).length<=2000):(yC p M i).length<=2000:=bH (yN _ _) h
theorem QI(p:bC)(l:List aN)(va vn vr vl:Value)(w:World)(N:iU w va vn vr p)(hF:jK p)(aj:iR w vr)(hV:dA w vl l)(c9:l.length<=9223372036854775807)(b3:∀f,f∈l->fW f):
 Calls Tryz.prog 81 #[eN va vn vr,vl] w fun e w'=>∃v c q M,e=.returned (.tuple #[v, .int .i64 c])/\pX p l [] c M/\(c=0->q.map (·.s)=kD p l M)/\q.length<=24060/\BW w.heap.size w' v q/\Below w.heap.size w w':=by
 obtain⟨i0,cb,cn,cp,cq⟩:=iT LG;obtain⟨V,n0,rfl,_⟩:=id N.ar;obtain⟨W,n1,rfl,_⟩:=id N.nm;obtain⟨Q,R,rfl,c8⟩:=id N.rl;obtain⟨al,cl,rfl,_⟩:=id hV;have X:=dD w (pB V n0 W n1 Q R p);have a8:O _:=aR w (pB V n0 W n1 Q R p);have HB:O (Below w.heap.size w _):=X;have HP:O (iU w (.slice V p.g.length n0) (.slice W p.q.length n1) (.slice Q p.m.length R) p/\jK p/\iR w (.slice Q p.m.length R)):=⟨N,hF,aj⟩;have HV:O (dA w (.slice al l.length cl) l):=hV;have HC:O _:=QS p l _ _ _ _ _ (N.u X) hF (aj.u N.rl X) (bR hV X) c9 b3;clear N hF aj hV b3 c8 X
 go_enter Tryz.func81,Tryz.ntmps81
 go_upto_region 1 with fail;generalize w.alloc (pB V n0 W n1 Q R p)=j at *;(have ac:O (∀y,Below j.heap.size j y->y.cell? ⟨w.heap.size,0,none⟩=some (.slice V p.g.length n0)/\y.cell? ⟨w.heap.size,1,none⟩=some (.slice W p.q.length n1)/\y.cell? ⟨w.heap.size,2,none⟩=some (.slice Q p.m.length R)):=fun y hy=>by have h:=(hy.block _ (bP a8.o)).trans a8.o;exact⟨cH h,cH h,cH h⟩);have U:O (∀y,Below j.heap.size j y->Below w.heap.size w y):=fun y hy=>HB.o.trans (hy.mono HB.o.size);have aS:O (w.heap.size<=j.heap.size):=HB.o.size;obtain⟨c0,Y,Z⟩:=ac.o j (aH _ _);go_wp2_with fail;refine Calls.mono HC.o ?_;rintro _ J ⟨vm,c,M,rfl,hR,ae,b4⟩;have P:O (pX p l [] c M):=hR;have bk:O (dA J vm M):=ae;obtain⟨am,cm,rfl,_⟩:=id ae;have S:O (Below j.heap.size j J):=b4;clear c0 Y Z hR ae b4 HC a8 HB;by_cases hc:c=0
 ·subst hc;have hz:=tY (vX P.o rfl).1;have ap:=sQ hz.1 hz.2.2.1;have ak:=vW hz.1 hz.2.1;have aw:O (∀f,f∈l->f.args.length<=3):=fun f n=>rO ak.ok (ap.2 f n);have bj:O (∀i,i<p.m.length->aEX p M i):=fun i hi=>aMF P.o hi;have aT:O (M.length<=60/\∀f,f∈M->fW f):=⟨(rN P.o).1,fun f n=>by have :=(rN P.o).2 f n;unfold fW;omega⟩;have cc:=ap.1;have cE:=ak.ok.r12;have cF:(dR l).length<=60:=bH (CZ l) cc;have bx:O (∀f,f∈dR l->f.args.length<=3):=fun f n=>aw.o f (iK.mp n);have aF:O _:=ME l _ J (bR HV.o (U.o J S.o)) oM (fun f n=>bH (aw.o f n) dE);clear hz ap ak;go_wp2_with fail;refine Calls.mono aF.o ?_;rintro _ b ⟨vs,rfl,ad,ag⟩;have ab:O (tG J.heap.size b vs (dR l)):=ad;obtain⟨qh,ba,b9,_⟩:=id ad;obtain⟨ah,ch,bc⟩:=bJ b9;(have bb:qh.length=(dR l).length:=by rw[<-ba,aP]);rw[bb]at bc;subst bc;have T:O (Below j.heap.size j b):=S.o.trans (ag.mono S.o.size);have bn:O (dA b (.slice am M.length cm) M):=bR bk.o ag;have bl:O (j.heap.size<=J.heap.size):=S.o.size;(have bN:O (JB p l M 0=((dR l).map (fun f=>(⟨f, -1,[]⟩:eC)))):=by show _=_;unfold JB;simp);clear ad ba b9 bb ag aF;go_wp2_with fail;go_loopw [24,8] (fun kv sv wr=>∃(k:Nat)(d:List Sv),k<=(dR l).length/\kv=.int .i64 k/\O (d.length=k)/\O (wr.ownsRow b.heap.size 80 4 sv d.length (d.map jO).flatten)/\O (∀x,x∈d->DX j.heap.size b x)/\O (d.map (·.s)=((dR l).take k).map (fun f=>(⟨f, -1,[]⟩:eC)))/\O (Below b.heap.size b wr)) (fun kv _ _=>(dR l).length-(intOf kv).toNat);case atStart=>exact⟨0,[],bG _,rfl,rfl,eD _ _ _ _,fun _ A=>absurd A sI,rfl,aH _ _⟩
  case round=>
   obtain⟨k,d,hk,rfl,aa,H,I,L,B⟩:=hrel;(have cx:d.length<=60:=by have :=aa.o;omega);obtain⟨ao,co,rfl⟩:=bJ H.o;by_cases C:k<(dR l).length
   ·obtain⟨cr,cs,cj,b6⟩:=WR (m:=0) ab.o (fun _ _=>bG _);injection cj with bX _ bY;subst bX bY;obtain⟨ct,cw,rfl,b7⟩:=b6.resolve_left (fun h=>by rw[h]at C;cases C);obtain⟨p0,F,G,p1,c6,ck,_⟩:=b7 k C;have bo:O (b.ownsRow J.heap.size 3 1 (.slice F (aZ (dR l) k).args.length G) (aZ (dR l) k).args.length ((aZ (dR l) k).args.map (Value.int .i64))):=Vx ab.o C p1;(have bz:O (((dR l).take (k+1)).map (fun f=>(⟨f, -1,[]⟩:eC))=((dR l).take k).map (fun f=>(⟨f, -1,[]⟩:eC))++[⟨aZ (dR l) k, -1,[]⟩]):=by show _=_;(have hg:(dR l)[k]?=some (aZ (dR l) k):=by simp[aZ,C]);rw[eI,hg,cB];rfl);(have bd:O ((aZ (dR l) k).args.length<=3):=bx.o _ (mT _ k C);have D:=aB B.o p0;have q1:=aB B.o p1;clear b6 b7 p0 p1 c6 ck;generalize aZ (dR l) k=f at *;go_upto_region 8 with fail;have ai:=dD wr (.cells #[.int .i64 f.z, .slice F f.args.length G] 55);have an:=aR wr (.cells #[.int .i64 f.z, .slice F f.args.length G] 55);have a4:O (Below b.heap.size b _):=B.o.trans (ai.mono B.o.size);have b0:O ((wr.alloc (.cells #[.int .i64 f.z, .slice F f.args.length G] 55)).ownsRow b.heap.size 80 4 (.slice ao d.length co) d.length (d.map jO).flatten):=bI H.o ai;clear D q1 ai;generalize ca:wr.heap.size=FB at *;generalize wr.alloc (.cells #[.int .i64 f.z, .slice F f.args.length G] 55)=wa at *;(have D:wa.cell? ⟨FB,0,none⟩=some (.int .i64 f.z):=cH an);(have q1:wa.cell? ⟨FB,1,none⟩=some (.slice F f.args.length G):=cH an);clear an ca;go_wp2_with(at_builtin;refine fX _ rfl (.tmp 28) (.tmp 31) 71 rfl b.heap.size 80 i0 _ 4 64 Tryz.underlying71 cb cn cp cq rfl dE _ _ _ rfl (b0.o.alloc _) ⟨wa.heap.size,0,none⟩ 1 1 [.int .i64 f.z, .slice F f.args.length G, .int .i64 (-1), .slice none 0 0] rfl rfl ?c1 ?c2 ?c3 ?c4 ?c5 ?_);(case c2=>exact⟨rfl,rfl,rfl,rfl⟩);(case c3=>unfold maxLen;omega);(case c4=>omega);(case c5=>have :=a4.o.size;omega);intro cG w6 au b8 _;obtain⟨bU,bW,rfl⟩:=bJ au;have bf:O (Below b.heap.size b w6):=(a4.o.alloc a4.o.size _).grown b8 (by have :=a4.o.size;simp;omega) (fun k hk=>(b0.o.lt k hk).1);have bq:O (w6.ownsRow b.heap.size 80 4 (.slice bU (d.length+1) bW) (d++[(⟨⟨f, -1,[]⟩, .slice F f.args.length G, .slice none 0 0⟩:Sv)]).length ((d++[(⟨⟨f, -1,[]⟩, .slice F f.args.length G, .slice none 0 0⟩:Sv)]).map jO).flatten):=by show World.ownsRow _ _ _ _ _ _ _;rw[bA,cB,fZ];simpa[jO]using au);have bw:O (∀x,x∈d++[(⟨⟨f, -1,[]⟩, .slice F f.args.length G, .slice none 0 0⟩:Sv)]->DX j.heap.size b x):=fun x A=>by
     rcases dP.mp A with A|A
     ·exact I.o x A
     rcases cQ.mp A with rfl;exact⟨gL bo.o bl.o,eD _ _ _ _,bd.o,bG _⟩
    (have bu:O ((d++[(⟨⟨f, -1,[]⟩, .slice F f.args.length G, .slice none 0 0⟩:Sv)]).map (·.s)=((dR l).take (k+1)).map (fun f=>(⟨f, -1,[]⟩:eC))):=by show _=_;rw[bz.o,<-L.o,cB];rfl);clear au b8 D q1;go_wp2_with fail;go_roundw;(case rel=>exact⟨k+1,_,C,gN,by show _=_;rw[bA,aa.o];rfl,bq.o,bw.o,bu.o,bf.o⟩);case measure=>exact mI
   obtain⟨D,a3⟩:∃D,D=d:=⟨_,rfl⟩;have a9:O (D.map (·.s)=JB p l M 0/\D.length<=60):=⟨by rw[a3,bN.o,L.o,dU oM],by rw[a3];omega⟩;(have aV:O (wr.ownsRow b.heap.size 80 4 (.slice ao d.length co) D.length (D.map jO).flatten):=by rw[a3];exact H.o);have b1:O (∀x,x∈D->DX j.heap.size wr x):=fun x A=>(I.o x (by rw[<-a3];exact A)).u B.o;have ax:O (Below b.heap.size b wr):=B.o;obtain⟨c0,Y,Z⟩:=ac.o wr (T.o.trans (B.o.mono T.o.size));clear a3 H I L B ab aa;go_wp2_with fail;clear c0 Y Z C;go_loopw [37,8] (fun iv sv wz=>∃(i:Nat)(d:List Sv),i<=p.m.length/\iv=.int .i64 i/\O (wz.ownsRow b.heap.size 80 4 sv d.length (d.map jO).flatten)/\O (∀x,x∈d->DX j.heap.size wz x)/\O (d.map (·.s)=JB p l M i)/\d.length<=60+i*2000/\O (Below b.heap.size b wz)) (fun iv _ _=>p.m.length-(intOf iv).toNat);case atStart=>exact⟨0,D,bG _,rfl,aV.o,b1.o,a9.o.1,by have :=a9.o.2;omega,ax.o⟩
   case round=>
    clear aV b1 a9 ax;obtain⟨i,r,hi,rfl,H,I,L,cy,B⟩:=hrel;obtain⟨az,cz,rfl⟩:=bJ H.o;have K:O (Below j.heap.size j wr):=T.o.trans (B.o.mono T.o.size);by_cases C:i<p.m.length
    ·have n:=bj.o i C;have aI:O _:=aG4 p i M _ _ _ _ wr (HP.o.1.u (U.o wr K.o)) HP.o.2.1 (HP.o.2.2.u HP.o.1.rl (U.o wr K.o)) (bR bn.o B.o) aT.o.1 aT.o.2 C n.err n.o n.hds n.hl n.wl n.ht n.tl n.tin n.fo;have bm:O ((yC p M i).length<=2000):=WK n.wl;clear n;obtain⟨c0,Y,Z⟩:=ac.o wr K.o;go_wp2_with fail;refine Calls.mono aI.o ?_;rintro _ w5 ⟨v5,E,rfl,av,af,a6⟩;(have bt:O ((r++E).map (·.s)=JB p l M (i+1)):=by show _=_;rw[cB,L.o,av,aBN]);(have cv:E.length<=2000:=by have h9:=congrArg List.length av;rw[aP]at h9;have :=bm.o;omega);obtain⟨a5,c5,ci⟩:=bJ af.1;subst ci;have bs:O (BW wr.heap.size w5 (.slice a5 E.length c5) E):=af;have bp:O (w5.ownsRow b.heap.size 80 4 (.slice az r.length cz) r.length (r.map jO).flatten):=bI H.o a6;have bv:O (∀x,x∈r->DX j.heap.size w5 x):=fun x A=>(I.o x A).u a6;have ay:O (Below b.heap.size b w5):=B.o.trans (a6.mono B.o.size);have cf:b.heap.size<=w5.heap.size:=ay.o.size;have cg:j.heap.size<=wr.heap.size:=K.o.size;have bZ:r.length+E.length<=4194304:=oM;clear av af a6 aI c0 Y Z H I L B K;go_wp2_with(at_builtin;refine aDF rfl (.tmp 40) (.tmp 44) rfl j.heap.size b.heap.size wr.heap.size _ r.length r rfl rfl bp.o bv.o _ E rfl bs.o cg cf bZ ?_);intro v7 w7 aq b2 b5;obtain⟨a7,c7,rfl⟩:=bJ aq;(have br:O (w7.ownsRow b.heap.size 80 4 (.slice a7 (r.length+E.length) c7) (r++E).length ((r++E).map jO).flatten):=by show World.ownsRow _ _ _ _ _ _ _;rw[bA,cB,fZ];exact aq);have be:O (∀x,x∈r++E->DX j.heap.size w7 x):=fun x A=>b2 x (dP.mp A);have bg:O (Below b.heap.size b w7):=ay.o.trans b5;(have ce:(r++E).length<=60+(i+1)*2000:=by rw[bA];omega);clear aq b2 b5;go_wp2_with fail;go_roundw;(case rel=>exact⟨i+1,r++E,C,gN,br.o,be.o,bt.o,ce,bg.o⟩);case measure=>exact mI
    obtain rfl:i=p.m.length:=oM;have bi:O (BW w.heap.size wr (.slice az r.length cz) r):=⟨gL H.o (bH aS.o T.o.size),fun x A=>(I.o x A).le aS.o⟩;have bh:O _:=U.o wr K.o;have cd:r.length<=24060:=oM;clear H I B K;go_wp2_with fail;refine dF (fM rfl _ _ _) rfl ?_;exact⟨_,0,r,M,rfl,P.o,fun _=>L.o,cd,bi.o,bh.o⟩
 (have cu:((c:Int) != 0)=true:=by simpa using hc);go_wp2_with fail;refine dF (fM rfl _ _ _) rfl ?_;exact⟨_,c,[],M,rfl,P.o,fun h=>absurd h hc,bG _,⟨eD _ _ _ _,fun _ A=>absurd A sI⟩,U.o J S.o⟩
section
variable {F:Fence} {n:Nat} {P:Program}
def Ux{α:Type}(F:Fence)(n:Nat)(P:Program)(g:Nat)(lb:Array Value)(p:α->Array Value)(Kp:World->World->Prop)(k:α->World->Prop)(S m:List α->Prop)(N:Nat)(w:World):Prop:=
 ∀(l:Nat)(J i:List α->World->Prop)(W:World),Below w.heap.size w W->AbidesFrom W.heap.size J->AbidesFrom W.heap.size i->
  (∀b x f,J b f->k x f->b.length<N->YieldAt F (n-1) P l (p x) f fun e d=>(e=.returned (.bool true)/\J (b++[x]) d/\Kp f d)\/(e=.returned (.bool false)/\i (b++[x]) d))->
  J [] W->CallsIn F n P g (#[.func (.yield l) #[] #[]]++lb) W fun e d=>(∃v,e=.returned v)/\((∃j,S j/\J j d)\/(∃b,m b/\i b d))
theorem aGD{α:Type}{g:Operand}{ps:Array Tmp}{assign body:Code}{Q:Exit->Act->World->Prop}{a:Act}{w:World}
 (aF:F.round=none) (h1:1<=n) {gf:Nat} {lb:Array Value} (hg:a.eval g=.func (.func gf) #[] lb) (ai:F.fn gf) (eg:∀a6 w,(callFunc gf a6).run P w=.ok (.enter gf a6) w)
 {a0:α->Array Value} {Kp:World->World->Prop} {Rd:α->World->Prop} {S Sp:List α->Prop} {N:Nat} {w0:World} (aI:Ux F (n-1) P gf lb a0 Kp Rd S Sp N w0)
 (a4:∀{A B C:World},Kp A B->Kp B C->Kp A C) (a2:∀(W:World)(l:Nat)(o o':Obj),w.heap.size<=l->W.heap[l]?=some o->o.isCells=false->o.isWalk=false->Kp W (W.putObj l o')) (a9:Below w0.heap.size w0 w) (az:∀x,(a0 x).size=ps.size)
 (I:List α->World->Prop) (M:Code->List α->World->Prop) (J:OwnFrom w.heap.size I) (a1:∀c,OwnFrom w.heap.size (M c)) (h0:I [] w) (Ax:α->Act->World->Prop) (a7:∀x m,OwnFrom w.heap.size (fun(_:Unit) W=>Ax x m W))
 (a8:∀(l:Nat)(b:List α)(x:α)(W:World)(K:Act->World->Prop),I b W->Rd x W->(∀m Y,KeepsFrom w.heap.size W Y->Kp W Y->I b Y->Ax x m Y->K m Y)->
  assign.wpIn (F.inRound l) (n-1-1) P (Exit.then K (fun _ _ _=>False)) {tmps:=(ps.zip (a0 x)).foldl (fun t (p,v)=>t.setIfInBounds p v) a.tmps,defers:=[]} W)
 (aa:∀(l:Nat)(b:List α)(x:α)(m:Act)(W:World),(∃r,W.heap[l]?=some (.loop r))->I b W->Ax x m W->b.length<N->body.wpIn (F.inRound l) (n-1-1) P (ownPostG w.heap.size Kp I M (b++[x]) W) m W)
 (ab:∀(D:Nat)(xs:List α)(W:World),w.heap.size<=D->S xs->I xs W->W.heap[D]?=some (.deferred (some []))->Q .normal {a with defers:={target:=.collected D,args:=#[]}::a.defers} W)
 (af:∀(D:Nat)(c:Code)(b:List α)(W:World),w.heap.size<=D->Sp b->M c b W->W.heap[D]?=some (.deferred (some []))->c.wpIn F n P Q {a with defers:={target:=.collected D,args:=#[]}::a.defers} W):
 (Code.rangeFunc g ps assign body).wpIn F n P Q a w:=by
 refine wpIn_rangeFunc fun fn an=>?_;rw[aF];obtain⟨d,q⟩:∃d:LoopState->Option Code->Loop,d=fun st pe=>{state:=st,pending:=pe,fn,tmps:=a.tmps,params:=ps,assign,body,defers:=w.heap.size}:=⟨_,rfl⟩;obtain⟨D,hD⟩:∃D,D=w.heap.size:=⟨_,rfl⟩;obtain⟨V,T⟩:∃V,V=(w.alloc (.deferred (some []))).alloc (.loop (d .ready none)):=⟨_,rfl⟩;(have vl:V.heap[D+1]?=some (.loop (d .ready none)):=by have :=World.alloc_heap_new (w.alloc (.deferred (some []))) (.loop (d .ready none));rw[World.size_alloc]at this;rw[T,hD];exact this);(have vd:V.heap[D]?=some (.deferred (some [])):=by rw[T,hD];exact(Below.heap_alloc _ _ _ sI).trans (World.alloc_heap_new w _));(have vs:V.heap.size=D+2:=by rw[T,hD];simp);(have vI:I [] V:=by rw[T];exact J.alloc _ (J.alloc _ h0));(have vb:Below w0.heap.size w0 V:=by rw[T];exact a9.trans ((((aH _ w).alloc (aE _) _).alloc sI _).mono a9.size));have ah:=run_enterLoop_outer (P:=P) (w:=w) fn a.tmps ps assign body;refine⟨w.heap.size+1,[{target:=.collected w.heap.size,args:=#[]}],V,{target:=.fn (.func gf) lb,args:=#[.func (.yield (w.heap.size+1)) #[] #[]]},V,gf,#[.func (.yield (w.heap.size+1)) #[] #[]]++lb,V,?_,?_,?_,?_,fun _=>h1,?_⟩
 ·rw[T,q];exact ah
 ·simp only[resolve,hg];simp[go_sem]
 ·intro f' ac;simp[Target.leads]at ac;subst ac;exact ai
 ·simp[invoke,go_sem,eg]
 rw[<-hD];rw[<-hD]at J a1 a7 a2 a8 aa ab af;(have ag:∀{A:World}{E:Option Nat},(∀r,E=some r->V.heap.size<=r/\∃o:Obj,A.heap[r]?=some o/\o.isWalk=true)->(∀r,E=some r->D<=r/\∃o:Obj,A.heap[r]?=some o/\o.isCells=false):=fun f r e=>by obtain⟨hB,o,ho,hw⟩:=f r e;exact⟨oM,o,ho,Obj.not_cells_of_walk hw⟩);have keep:∀{A B:World}{E:Option Nat}{k:Nat}{o:Obj},A.grownBy B E->(∀r,E=some r->V.heap.size<=r/\∃o:Obj,A.heap[r]?=some o/\o.isWalk=true)->A.heap[k]?=some o->o.isWalk=false->B.heap[k]?=some o:=fun y f hA ho=>(grownBy_keeps y (fun r e=>(f r e).2) hA ho).trans hA
 refine(aI (D+1) (fun b W=>I b W/\W.heap[D+1]?=some (.loop (d .ready none))/\W.heap[D]?=some (.deferred (some [])))
  (fun b W=>∃c,M c b W/\W.heap[D+1]?=some (.loop (d .done (some c)))/\W.heap[D]?=some (.deferred (some []))) V vb
  (fun s A B E hs y f=>⟨J s A B E hs.1 y (ag f),keep y f hs.2.1 rfl,keep y f hs.2.2 rfl⟩)
  (fun s A B E ⟨c,hc,i,L⟩ y f=>⟨c,a1 c s A B E hc y (ag f),keep y f i rfl,keep y f L rfl⟩)
  (fun b x W0 hJ aj ax=>?_) ⟨vI,vl,vd⟩).mono ?_
 ·obtain⟨ao,ae,ar⟩:=hJ;have hy:=run_yield (P:=P) (args:=a0 x) ae (by rw[q];exact az x);rw[q]at hy;refine⟨fn,_,assign,body,hy,roundIn_of_wpIn an (a8 _ b x W0 _ ao aj fun m W ad av hi am=>?_)⟩;have i:=ad.same _ _ oM ae rfl;have L:=ad.same _ _ (aE _) ar rfl;have ay:D+1<W.heap.size:=(aG.1 i).1;refine⟨_,run_beginRound i (by rw[q]),?_⟩;obtain⟨U,R⟩:∃U,U=W.putObj (D+1) (.loop {d .ready none with state:=.busy}):=⟨_,rfl⟩;rw[<-R];(have ul:U.heap[D+1]?=some (.loop {d .ready none with state:=.busy}):=by rw[R];exact World.putObj_heap_same ay);(have ud:U.heap[D]?=some (.deferred (some [])):=by rw[R];exact(World.putObj_heap_other oM).trans L);have au:Kp W0 U:=a4 av (by rw[R];exact a2 _ _ _ _ oM i rfl rfl);(have aq:I b U:=by rw[R];exact J.putObj _ hi oM i rfl);have al:Ax x m U:=by rw[R];exact(a7 x m).putObj (s:=()) _ am oM i rfl
  have fin:∀(j:Option Code)(Z:World),KeepsFrom D U Z->
   (Instr.endRound (D+1) j).run P Z=.ok (.bool j.isNone) (Z.putObj (D+1) (.loop (d (if j.isNone then .ready else .done) j)))/\Z.heap[D+1]?=some (.loop {d .ready none with state:=.busy})/\
   (Z.putObj (D+1) (.loop (d (if j.isNone then .ready else .done) j))).heap[D+1]?=some (.loop (d (if j.isNone then .ready else .done) j))/\(Z.putObj (D+1) (.loop (d (if j.isNone then .ready else .done) j))).heap[D]?=some (.deferred (some [])):=fun j Z X=>by
   have G:=X.same _ _ oM ul rfl;have :=run_endRound (P:=P) j G;rw[q]at this ⊢;exact⟨this,by rw[q]at G;exact G,World.putObj_heap_same (aG.1 G).1,(World.putObj_heap_other oM).trans (X.same _ _ (aE _) ud rfl)⟩
  have left:∀(c:Code)(Z:World),KeepsFrom D U Z->M c (b++[x]) Z->∃v H,(Instr.endRound (D+1) (some c)).run P Z=.ok v H/\((Ending.returned v=.returned (.bool true)/\(I (b++[x]) H/\H.heap[D+1]?=some (.loop (d .ready none))/\H.heap[D]?=some (.deferred (some [])))/\Kp W0 H)\/
   (Ending.returned v=.returned (.bool false)/\∃c,M c (b++[x]) H/\H.heap[D+1]?=some (.loop (d .done (some c)))/\H.heap[D]?=some (.deferred (some [])))):=fun c Z X hx=>by
   obtain⟨f,G,a5,zd⟩:=fin (some c) Z X;exact⟨_,_,f, .inr ⟨rfl,c,(a1 c).putObj _ hx oM G rfl,a5,zd⟩⟩
  refine wpIn_mono (aa _ b x m U ⟨_,ul⟩ aq al ax) ?_;rintro e a3 Z z
  cases e with
  |normal=>
   obtain⟨X,aw,ap⟩:=z;obtain⟨f,G,a5,zd⟩:=fin none Z X;exact⟨_,_,f, .inl ⟨rfl,⟨J.putObj _ ap oM G rfl,a5,zd⟩,a4 (a4 au aw) (a2 _ _ _ _ oM G rfl rfl)⟩⟩
  |ret=>exact left .ret Z z.1 z.2
  |exit id=>exact left (.exit id) Z z.1 z.2
  |goto t=>exact left (.goto t) Z z.1 z.2
  |panic ch=>exact z.elim
  |outgrown=>exact z.elim
 rintro e W2 ⟨⟨v,rfl⟩,(⟨xs,hS,hi,i,L⟩|⟨b,ak,c,hi,i,L⟩)⟩
 ·exact⟨none,_,by have :=run_endLoop (P:=P) i (by rw[q];simp);rw[q]at this;exact this,ab _ xs _ (aE _) hS (J.putObj _ hi oM i rfl) ((World.putObj_heap_other oM).trans L)⟩
 exact⟨some c,_,by have :=run_endLoop (P:=P) i (by rw[q];simp);rw[q]at this;exact this,af _ c b _ (aE _) ak ((a1 c).putObj _ hi oM i rfl) ((World.putObj_heap_other oM).trans L)⟩
theorem aNQ{α:Type}{g:Operand}{ps:Array Tmp}{assign body:Code}{Q:Exit->Act->World->Prop}{a:Act}{w:World}
 {l₀:Nat} {r₀:Loop} (az:F.round=some l₀) (ax:w.heap[l₀]?=some (.loop r₀)) (h1:1<=n) {gf:Nat} {lb:Array Value} (hg:a.eval g=.func (.func gf) #[] lb) (af:F.fn gf) (eg:∀a6 w,(callFunc gf a6).run P w=.ok (.enter gf a6) w)
 {a0:α->Array Value} {Kp:World->World->Prop} {Rd:α->World->Prop} {S Sp:List α->Prop} {N:Nat} {w0:World} (aF:Ux F (n-1) P gf lb a0 Kp Rd S Sp N w0)
 (a4:∀{A B C:World},Kp A B->Kp B C->Kp A C) (a2:∀(W:World)(l:Nat)(o o':Obj),w.heap.size<=l->W.heap[l]?=some o->o.isCells=false->o.isWalk=false->Kp W (W.putObj l o')) (a9:Below w0.heap.size w0 w) (ay:∀x,(a0 x).size=ps.size)
 (I:List α->World->Prop) (H:Code->List α->World->Prop) (L:OwnFrom w.heap.size I) (a1:∀c,OwnFrom w.heap.size (H c)) (h0:I [] w) (Ax:α->Act->World->Prop) (a7:∀x m,OwnFrom w.heap.size (fun(_:Unit) W=>Ax x m W))
 (a8:∀(l:Nat)(b:List α)(x:α)(W:World)(K:Act->World->Prop),I b W->Rd x W->(∀m M,KeepsFrom w.heap.size W M->Kp W M->I b M->Ax x m M->K m M)->
  assign.wpIn (F.inRound l) (n-1-1) P (Exit.then K (fun _ _ _=>False)) {tmps:=(ps.zip (a0 x)).foldl (fun t (p,v)=>t.setIfInBounds p v) a.tmps,defers:=[]} W)
 (aa:∀(l:Nat)(b:List α)(x:α)(m:Act)(W:World),I b W->Ax x m W->b.length<N->body.wpIn (F.inRound l) (n-1-1) P (ownPostG w.heap.size Kp I H (b++[x]) W) m W)
 (ak:∀(xs:List α)(W:World),S xs->I xs W->Q .normal a W)
 (aI:∀(c:Code)(b:List α)(W:World),Sp b->H c b W->c.wpIn F n P Q a W):
 (Code.rangeFunc g ps assign body).wpIn F n P Q a w:=by
 refine wpIn_rangeFunc fun fn al=>?_;rw[az];obtain⟨d,q⟩:∃d:LoopState->Option Code->Loop,d=fun st pe=>{state:=st,pending:=pe,fn,tmps:=a.tmps,params:=ps,assign,body,defers:=r₀.defers}:=⟨_,rfl⟩;obtain⟨D,hD⟩:∃D,D=w.heap.size:=⟨_,rfl⟩;obtain⟨V,T⟩:∃V,V=w.alloc (.loop (d .ready none)):=⟨_,rfl⟩;(have vl:V.heap[D]?=some (.loop (d .ready none)):=by rw[T,hD];exact World.alloc_heap_new w _);(have vs:V.heap.size=D+1:=by rw[T,hD];simp);(have vI:I [] V:=by rw[T];exact L.alloc _ h0);(have vb:Below w0.heap.size w0 V:=by rw[T];exact a9.trans (((aH _ w).alloc (aE _) _).mono a9.size));have ae:=run_enterLoop_inner (P:=P) ax fn a.tmps ps assign body;refine⟨w.heap.size,[],V,{target:=.fn (.func gf) lb,args:=#[.func (.yield w.heap.size) #[] #[]]},V,gf,#[.func (.yield w.heap.size) #[] #[]]++lb,V,?_,?_,?_,?_,fun _=>h1,?_⟩
 ·rw[T,q];exact ae
 ·simp only[resolve,hg];simp[go_sem]
 ·intro f' ab;simp[Target.leads]at ab;subst ab;exact af
 ·simp[invoke,go_sem,eg]
 rw[<-hD];rw[<-hD]at L a1 a7 a2 a8 aa;(have ad:∀{A:World}{z:Option Nat},(∀r,z=some r->V.heap.size<=r/\∃o:Obj,A.heap[r]?=some o/\o.isWalk=true)->(∀r,z=some r->D<=r/\∃o:Obj,A.heap[r]?=some o/\o.isCells=false):=fun i r e=>by obtain⟨hB,o,ho,hw⟩:=i r e;exact⟨oM,o,ho,Obj.not_cells_of_walk hw⟩);have keep:∀{A B:World}{z:Option Nat}{k:Nat}{o:Obj},A.grownBy B z->(∀r,z=some r->V.heap.size<=r/\∃o:Obj,A.heap[r]?=some o/\o.isWalk=true)->A.heap[k]?=some o->o.isWalk=false->B.heap[k]?=some o:=fun G i hA ho=>(grownBy_keeps G (fun r e=>(i r e).2) hA ho).trans hA
 refine(aF D (fun b W=>I b W/\W.heap[D]?=some (.loop (d .ready none)))
  (fun b W=>∃c,H c b W/\W.heap[D]?=some (.loop (d .done (some c)))) V vb
  (fun s A B z hs G i=>⟨L s A B z hs.1 G (ad i),keep G i hs.2 rfl⟩)
  (fun s A B z ⟨c,hc,f⟩ G i=>⟨c,a1 c s A B z hc G (ad i),keep G i f rfl⟩)
  (fun b x W0 hJ ag av=>?_) ⟨vI,vl⟩).mono ?_
 ·obtain⟨am,ac⟩:=hJ;have hy:=run_yield (P:=P) (args:=a0 x) ac (by rw[q];exact ay x);rw[q]at hy;refine⟨fn,_,assign,body,hy,roundIn_of_wpIn al (a8 _ b x W0 _ am ag fun m W aq ar X aj=>?_)⟩;have f:=aq.same _ _ (aE _) ac rfl;have aw:D<W.heap.size:=(aG.1 f).1;refine⟨_,run_beginRound f (by rw[q]),?_⟩;obtain⟨U,R⟩:∃U,U=W.putObj D (.loop {d .ready none with state:=.busy}):=⟨_,rfl⟩;rw[<-R];(have ul:U.heap[D]?=some (.loop {d .ready none with state:=.busy}):=by rw[R];exact World.putObj_heap_same aw);have ap:Kp W0 U:=a4 ar (by rw[R];exact a2 _ _ _ _ (aE _) f rfl rfl);(have ao:I b U:=by rw[R];exact L.putObj _ X (aE _) f rfl);have ai:Ax x m U:=by rw[R];exact(a7 x m).putObj (s:=()) _ aj (aE _) f rfl
  have fin:∀(j:Option Code)(Z:World),KeepsFrom D U Z->
   (Instr.endRound D j).run P Z=.ok (.bool j.isNone) (Z.putObj D (.loop (d (if j.isNone then .ready else .done) j)))/\Z.heap[D]?=some (.loop {d .ready none with state:=.busy})/\
   (Z.putObj D (.loop (d (if j.isNone then .ready else .done) j))).heap[D]?=some (.loop (d (if j.isNone then .ready else .done) j)):=fun j Z Y=>by
   have E:=Y.same _ _ (aE _) ul rfl;have :=run_endRound (P:=P) j E;rw[q]at this ⊢;exact⟨this,by rw[q]at E;exact E,World.putObj_heap_same (aG.1 E).1⟩
  have left:∀(c:Code)(Z:World),KeepsFrom D U Z->H c (b++[x]) Z->∃v J,(Instr.endRound D (some c)).run P Z=.ok v J/\((Ending.returned v=.returned (.bool true)/\(I (b++[x]) J/\J.heap[D]?=some (.loop (d .ready none)))/\Kp W0 J)\/
   (Ending.returned v=.returned (.bool false)/\∃c,H c (b++[x]) J/\J.heap[D]?=some (.loop (d .done (some c))))):=fun c Z Y hx=>by
   obtain⟨i,E,a5⟩:=fin (some c) Z Y;exact⟨_,_,i, .inr ⟨rfl,c,(a1 c).putObj _ hx (aE _) E rfl,a5⟩⟩
  refine wpIn_mono (aa _ b x m U ao ai av) ?_;rintro e a3 Z y
  cases e with
  |normal=>
   obtain⟨Y,au,an⟩:=y;obtain⟨i,E,a5⟩:=fin none Z Y;exact⟨_,_,i, .inl ⟨rfl,⟨L.putObj _ an (aE _) E rfl,a5⟩,a4 (a4 ap au) (a2 _ _ _ _ (aE _) E rfl rfl)⟩⟩
  |ret=>exact left .ret Z y.1 y.2
  |exit id=>exact left (.exit id) Z y.1 y.2
  |goto t=>exact left (.goto t) Z y.1 y.2
  |panic ch=>exact y.elim
  |outgrown=>exact y.elim
 rintro e W2 ⟨⟨v,rfl⟩,(⟨xs,hS,X,f⟩|⟨b,ah,c,X,f⟩)⟩
 ·exact⟨none,_,by have :=run_endLoop (P:=P) f (by rw[q];simp);rw[q]at this;exact this,ak xs _ hS (L.putObj _ X (aE _) f rfl)⟩
 exact⟨some c,_,by have :=run_endLoop (P:=P) f (by rw[q];simp);rw[q]at this;exact this,aI c b _ ah ((a1 c).putObj _ X (aE _) f rfl)⟩
end
def CT(P:eC->Bool)(q:List Sv):Int:=match q.findIdx? (fun x=>P x.s)with |some i=>i|none=> -1
theorem PP{P:eC->Bool}{q:List Sv}(h:q.findIdx? (fun x=>P x.s)=none):CT P q= -1:=by unfold CT;rw[h]
theorem PQ{P:eC->Bool}{q:List Sv}{i:Nat}(h:q.findIdx? (fun x=>P x.s)=some i):CT P q=i:=by unfold CT;rw[h]
def QZ(P:eC->Bool)(q:List Sv)(k:Nat):Prop:=∀i x,i<k->q[i]?=some x->P x.s=false
theorem aMI{P:eC->Bool}{q:List Sv}{k:Nat}(h:QZ P q k)(b:k<q.length)(e:P (tW q k).s=true):CT P q=k:=by
 refine PQ (IL.mpr ⟨b,?_,fun j d=>?_⟩)
 ·have :=wN q k b;rw[aD b,Option.some.injEq]at this;rw[this];exact e
 rw[h j _ d (aD (Nat.lt_trans d b))];decide
theorem aMJ{P:eC->Bool}{q:List Sv}{k:Nat}(h:QZ P q k)(e:q.length<=k):CT P q= -1:=by refine PP (UE.mpr fun x d=>?_);obtain⟨i,b,rfl⟩:=mH d;exact h i _ oM (aD b)
theorem aIH{P:eC->Bool}{q:List Sv}:decide (0<=CT P q)=(q.map (·.s)).any P:=by
 cases h:q.findIdx? (fun x=>P x.s)with
 |none=>
  rw[PP h];have d:=UE.mp h;(have :(q.map (·.s)).any P=false:=by rw[XO];intro s f;obtain⟨x,g,rfl⟩:=cR.mp f;rw[d x g];decide);rw[this];rfl
 |some i=>
  rw[PQ h];obtain⟨e,b,_⟩:=IL.mp h;have :(q.map (·.s)).any P=true:=kI.mpr ⟨_,cR.mpr ⟨_,dY e,rfl⟩,b⟩;rw[this];simp
theorem Jp(q:List Sv)(ao:Option Addr)(a4:Nat)(w:World)(h:Nat)(cb:Array Value)(C:eC->Prop)(P:eC->Bool)(z:AA w ao q)(hl:q.length<=9223372036854775807)(E:∀x,x∈q->nY w x)(he:∀r w,(callFunc h r).run Tryz.prog w=.ok (.enter h r) w)(A:∀x,x∈q->C x.s)(B:Yj h cb w C P):
 Calls Tryz.prog 89 #[.slice ao q.length a4, .func (.func h) #[] cb] w fun e w'=>e=.returned (.int .i64 (CT P q))/\Below w.heap.size w w':=by
 have R:O (AA w ao q):=z;have U:O (∀x,x∈q->nY w x):=E;have HK:O (Yj h cb w C P):=B;have S:O (∀x,x∈q->C x.s):=A;clear z E B A
 go_enter Tryz.func89,Tryz.ntmps89
 go_wp2_with fail;go_loopw [8] (fun i wr=>∃k:Nat,k<=q.length/\i=.int .i64 k/\O (QZ P q k)/\Below w.heap.size w wr) (fun i _=>q.length-(intOf i).toNat);case atStart=>exact⟨0,bG _,rfl,fun i _ G=>absurd G oM,aH _ _⟩
 case round=>
  obtain⟨k,hk,rfl,j,d⟩:=hrel;by_cases f:k<q.length
  ·obtain⟨b,a7,rfl,J,K,L,M⟩:=EG R.o k f;have m:O (nY wr (tW q k)):=(U.o _ (uY q k f)).u d;have T:O (C (tW q k).s):=S.o _ (uY q k f);have l:O (q[k]?=some (tW q k)):=wN q k f;have n:O (P (tW q k).s=true->CT P q=k):=aMI j.o f;have W:=aB d J;have X:=aB d K;have Y:=aB d L;have Z:=aB d M;clear J K L M;generalize tW q k=x at *;obtain⟨⟨⟨p,v⟩,N,Q⟩,fv,vv⟩:=x;dsimp only at W X Y Z;have V:O _:=m.o;obtain⟨⟨⟨af,cf,F,_⟩,_⟩,⟨av,cv,H,_⟩,_⟩:=m.o;dsimp only at F H;subst F H;clear m;go_wp2_with fail;refine Calls.mono (HK.o wr p v N Q af cf av cv d V.o T.o) ?_;rintro e w1 ⟨a6,a5⟩;subst a6;dsimp only;have D:=d.trans (a5.mono d.size);cases I:P ⟨⟨p,v⟩,N,Q⟩
   ·have HV:O (QZ P q (k+1)):=fun i y G g=>by
     by_cases e:i=k
     ·subst e;rw[l.o]at g;injection g with g;rw[<-g];exact I
     exact j.o i y oM g
    clear l n;go_wp2_with fail;go_roundw;(case rel=>exact⟨k+1,oM,gN,HV.o,D⟩);case measure=>exact mI
   have HV:O (CT P q=k):=n.o I;clear l n;go_wp2_with fail;go_ret;exact⟨rV,D⟩
  have HV:O (CT P q= -1):=aMJ j.o oM;go_wp2_with fail;go_ret;exact⟨rV,d⟩
theorem SM(q:List Sv)(v:Value)(w:World)(h:Nat)(cb:Array Value)(C:eC->Prop)(P:eC->Bool)(n:lR w v q)(z:q.length<=9223372036854775807)(i:∀x,x∈q->nY w x)(y:∀b w,(callFunc h b).run Tryz.prog w=.ok (.enter h b) w)(f:∀x,x∈q->C x.s)(g:Yj h cb w C P):
 Calls Tryz.prog 82 #[v, .func (.func h) #[] cb] w fun e A=>e=.returned (.bool ((q.map (·.s)).any P))/\Below w.heap.size w A:=by
 obtain⟨l,m,rfl,_,d⟩:=n;have j:O _:=Jp q l m w h cb C P d z i y f g;have k:O _:=@aIH P q;clear d i g f
 go_enter Tryz.func82,Tryz.ntmps82
 go_wp2_with fail;refine Calls.mono j.o ?_;rintro e B ⟨rfl,p⟩;generalize CT P q=r at *;go_wp2_with fail;go_ret;exact⟨by rw[<-k.o];rfl,p⟩
theorem Kg(n:Nat)(S:n=171\/n=90)(w:World)(b:Nat)(f:aN)(a:Option Addr)(c:Nat)(L:w.heap[b]?=some (.cells #[.int .i64 f.z, .slice a f.args.length c] 55))(R:dM w (.slice a f.args.length c) f.args)(Q:fW f):Yj n #[.pointer (some ⟨b,0,none⟩)] w (fun _=>True) (fun s=>rQ s f):=by
 intro z p d m g i k j l E M _;show Calls Tryz.prog n #[.agg #[.int .i64 p, .slice i d.length k, .int .i64 m, .slice j g.length l], .pointer (some ⟨b,0,none⟩)] z _;have P:O (nY z ⟨⟨⟨p,d⟩,m,g⟩, .slice i d.length k, .slice j g.length l⟩):=M;clear M;have D:=(E.block b (bP L)).trans L;have v:=dD z (.cells #[.int .i64 p, .slice i d.length k, .int .i64 m, .slice j g.length l] 80);have C:=(v.block b (bP D)).trans D;have r:=aR z (.cells #[.int .i64 p, .slice i d.length k, .int .i64 m, .slice j g.length l] 80);have A:O _:=Jv _ f _ _ (P.o.u v) (aM (aM R E) v) Q;have y:O _:=v;clear D E v;generalize N:z.alloc (.cells #[.int .i64 p, .slice i d.length k, .int .i64 m, .slice j g.length l] 80)=q at *;(have c0:q.cell? ⟨b,0,none⟩=some (.int .i64 f.z):=cH C);(have G:q.cell? ⟨b,1,none⟩=some (.slice a f.args.length c):=cH C);(have H:q.cell? ⟨z.heap.size,0,none⟩=some (.int .i64 p):=cH r);(have I:q.cell? ⟨z.heap.size,1,none⟩=some (.slice i d.length k):=cH r);(have J:q.cell? ⟨z.heap.size,2,none⟩=some (.int .i64 m):=cH r);(have K:q.cell? ⟨z.heap.size,3,none⟩=some (.slice j g.length l):=cH r);clear C r;rcases S with rfl|rfl
 ·go_enter Tryz.func171,Tryz.ntmps171
  go_upto_region 1 with fail;clear N;go_wp2_with fail;refine Calls.mono A.o ?_;rintro e F ⟨rfl,x⟩;have B:O (Below z.heap.size z F):=y.o.trans (x.mono y.o.size);clear A c0 G H I J K x;go_wp2_with fail;go_ret;exact⟨rfl,B.o⟩
 go_enter Tryz.func90,Tryz.ntmps90
 go_upto_region 1 with fail;clear N;go_wp2_with fail;refine Calls.mono A.o ?_;rintro e F ⟨rfl,x⟩;have B:O (Below z.heap.size z F):=y.o.trans (x.mono y.o.size);clear A c0 G H I J K x;go_wp2_with fail;go_ret;exact⟨rfl,B.o⟩
theorem aSR:∀b w,(callFunc 171 b).run Tryz.prog w=.ok (.enter 171 b) w:=jQ Tryz.func171 kR rfl
theorem aUI:∀b w,(callFunc 90 b).run Tryz.prog w=.ok (.enter 90 b) w:=jQ Tryz.func90 kR rfl
theorem Kq(q:List Sv)(f:aN)(v u:Value)(w:World)(y:lR w v q)(D:q.length<=9223372036854775807)(B:∀x,x∈q->nY w x)(d:dM w u f.args)(r:fW f):
 Calls Tryz.prog 125 #[v,kS f.z u] w fun e j=>e=.returned (.bool (gQ (q.map (·.s)) f))/\Below w.heap.size w j:=by
 obtain⟨a,c,rfl,_⟩:=id d;have I:∀(n:Fn)(first m:Array Value)(w:World),(Instr.makeFunc n first m).run Tryz.prog w=.ok (.func n first m) w:=fun _ _ _ _=>rfl;have b:=dD w (.cells #[.int .i64 f.z, .slice a f.args.length c] 55);have p:=aR w (.cells #[.int .i64 f.z, .slice a f.args.length c] 55);obtain⟨i,g⟩:∃i,i=gQ (q.map (·.s)) f:=⟨_,rfl⟩;(have l:O (Calls Tryz.prog 82 #[v, .func (.func 171) #[] #[.pointer (some ⟨w.heap.size,0,none⟩)]] (w.alloc (.cells #[.int .i64 f.z, .slice a f.args.length c] 55)) fun e j=>e=.returned (.bool i)/\Below (w.alloc (.cells #[.int .i64 f.z, .slice a f.args.length c] 55)).heap.size (w.alloc (.cells #[.int .i64 f.z, .slice a f.args.length c] 55)) j):=by rw[g];exact SM q v _ 171 _ _ _ (y.u b) D (fun x E=>(B x E).u b) aSR (fun _ _=>trivial) (Kg 171 (.inl rfl) _ w.heap.size f a c p (aM d b) r));rw[<-g];clear g;have k:O _:=b;obtain⟨G,H,rfl,_⟩:=y;clear d B r b p
 go_enter Tryz.func125,Tryz.ntmps125
 go_upto_region 1 with fail;generalize w.alloc (.cells #[.int .i64 f.z, .slice a f.args.length c] 55)=J at *;go_wp2_with fail;refine Calls.mono l.o ?_;rintro e F ⟨rfl,A⟩;have C:O (Below w.heap.size w F):=k.o.trans (A.mono k.o.size);clear l A;go_wp2_with fail;go_ret;exact⟨rfl,C.o⟩
def tS(a b:eC):Bool:=a.c==b.c&&(decide (a.vars=b.vars)&&rQ a b.d)
theorem aE1{a b:eC}:tS a b=true↔a=b:=by
 unfold tS;rw[eF,eF,yB,CF,mN];constructor
 ·rintro⟨d,e,f⟩;cases a;cases b;simp only at d e f;rw[d,e,f]
 rintro rfl;exact⟨rfl,rfl,rfl⟩
theorem aNW(p:Int)(d:List Int)(b:Int)(vs:List Int)(af:Option Addr)(cf:Nat)(m:Option Addr)(n:Nat)(j:Int)(i:List Int)(k:Int)(f:List Int)(r:Option Addr)(v:Nat)(s:Option Addr)(x:Nat)(w:World)
 (V:nY w ⟨⟨⟨p,d⟩,b,vs⟩, .slice af d.length cf, .slice m vs.length n⟩) (W:nY w ⟨⟨⟨j,i⟩,k,f⟩, .slice r i.length v, .slice s f.length x⟩) (hl:vs.length<=1000000):
 Calls Tryz.prog 84 #[.agg #[.int .i64 p, .slice af d.length cf, .int .i64 b, .slice m vs.length n], .agg #[.int .i64 j, .slice r i.length v, .int .i64 k, .slice s f.length x]] w
  fun e w'=>e=.returned (.bool (tS ⟨⟨p,d⟩,b,vs⟩ ⟨⟨j,i⟩,k,f⟩))/\Below w.heap.size w w':=by
 have H:=(aH w.heap.size w).alloc (aE _) (.cells #[.int .i64 p, .slice af d.length cf, .int .i64 b, .slice m vs.length n] 80);have C:=H.alloc H.size (.cells #[.int .i64 j, .slice r i.length v, .int .i64 k, .slice s f.length x] 80);have I:=aR w (.cells #[.int .i64 p, .slice af d.length cf, .int .i64 b, .slice m vs.length n] 80);have y:=aR (w.alloc (.cells #[.int .i64 p, .slice af d.length cf, .int .i64 b, .slice m vs.length n] 80)) (.cells #[.int .i64 j, .slice r i.length v, .int .i64 k, .slice s f.length x] 80);have N:=dD (w.alloc (.cells #[.int .i64 p, .slice af d.length cf, .int .i64 b, .slice m vs.length n] 80)) (.cells #[.int .i64 j, .slice r i.length v, .int .i64 k, .slice s f.length x] 80);have A:=(N.block _ (bP I)).trans I;(have X:(w.alloc (.cells #[.int .i64 p, .slice af d.length cf, .int .i64 b, .slice m vs.length n] 80)).heap.size=w.heap.size+1:=by simp);rw[X]at y;have M:O (nY _ ⟨⟨⟨p,d⟩,b,vs⟩, .slice af d.length cf, .slice m vs.length n⟩):=V.u C;have G:O (nY _ ⟨⟨⟨j,i⟩,k,f⟩, .slice r i.length v, .slice s f.length x⟩):=W.u C;have J:O (Below w.heap.size w _):=C;clear V W H C N I X
 go_enter Tryz.func84,Tryz.ntmps84
 go_upto_region 1 with fail;generalize (w.alloc (.cells #[.int .i64 p, .slice af d.length cf, .int .i64 b, .slice m vs.length n] 80)).alloc (.cells #[.int .i64 j, .slice r i.length v, .int .i64 k, .slice s f.length x] 80)=q at *;(have c0:q.cell? ⟨w.heap.size,0,none⟩=some (.int .i64 p):=cH A);(have P:q.cell? ⟨w.heap.size,1,none⟩=some (.slice af d.length cf):=cH A);(have Q:q.cell? ⟨w.heap.size,2,none⟩=some (.int .i64 b):=cH A);(have R:q.cell? ⟨w.heap.size,3,none⟩=some (.slice m vs.length n):=cH A);(have S:q.cell? ⟨w.heap.size+1,0,none⟩=some (.int .i64 j):=cH y);(have T:q.cell? ⟨w.heap.size+1,1,none⟩=some (.slice r i.length v):=cH y);(have d2:q.cell? ⟨w.heap.size+1,2,none⟩=some (.int .i64 k):=cH y);(have d3:q.cell? ⟨w.heap.size+1,3,none⟩=some (.slice s f.length x):=cH y);have K:O _:=Ec vs f _ _ q M.o.2.1 G.o.2.1 hl;clear A y;by_cases B:b=k
 ·(have g:(b==k)=true:=by simpa using B);(have HV:O (tS ⟨⟨p,d⟩,b,vs⟩ ⟨⟨j,i⟩,k,f⟩=(decide (vs=f)&&rQ ⟨⟨p,d⟩,b,vs⟩ ⟨j,i⟩)):=by show _=_;unfold tS;rw[show((⟨⟨p,d⟩,b,vs⟩:eC).c==(⟨⟨j,i⟩,k,f⟩:eC).c)=true from g];rfl);clear B;go_wp2_with fail;refine Calls.mono K.o ?_;rintro _ Y ⟨rfl,l⟩;have a0:=l;have e0:=aB l c0;have e1:=aB l P;have e2:=aB l Q;have e3:=aB l R;have f0:=aB l S;have f1:=aB l T;have L:O _:=Jv _ ⟨j,i⟩ _ Y (M.o.u l) (aM G.o.1.1 l) G.o.1.2;have E:O (Below w.heap.size w Y):=J.o.trans (l.mono J.o.size);clear l a0 K c0 P Q R S T d2 d3;by_cases D:vs=f
  ·have z:decide (vs=f)=true:=aQ D;rw[z];(have F:O (tS ⟨⟨p,d⟩,b,vs⟩ ⟨⟨j,i⟩,k,f⟩=rQ ⟨⟨p,d⟩,b,vs⟩ ⟨j,i⟩):=by show _=_;rw[HV.o,z];rfl);clear D HV;go_wp2_with fail;refine Calls.mono L.o ?_;rintro _ w3 ⟨rfl,U⟩;have Z:O (Below w.heap.size w w3):=E.o.trans (U.mono E.o.size);dsimp only;generalize rQ ⟨⟨p,d⟩,b,vs⟩ ⟨j,i⟩=t at *;clear U L e0 e1 e2 e3 f0 f1;go_wp2_with fail;go_ret;exact⟨by rw[F.o];rfl,Z.o⟩
  have z:decide (vs=f)=false:=aJ D;rw[z];(have F:O (tS ⟨⟨p,d⟩,b,vs⟩ ⟨⟨j,i⟩,k,f⟩=false):=by show _=_;rw[HV.o,z];rfl);clear D HV;go_wp2_with fail;go_ret;exact⟨by rw[F.o];rfl,E.o⟩
 (have g:(b==k)=false:=by simpa using B);have g':decide (b=k)=false:=aJ B;(have HV:O (tS ⟨⟨p,d⟩,b,vs⟩ ⟨⟨j,i⟩,k,f⟩=false):=by show _=_;unfold tS;rw[show((⟨⟨p,d⟩,b,vs⟩:eC).c==(⟨⟨j,i⟩,k,f⟩:eC).c)=false from g];rfl);clear B;go_wp2_with fail;go_ret;exact⟨rV,J.o⟩
end Go.Proofs.YthenjegmigeieaaGreat
namespace Go.Proofs.YthenjegmigeieaaGreat
open Go.RowKit Go.Shelf
attribute [local go_sem] Oper.semAt_some
abbrev Fa:=aN×Option Addr×Nat
abbrev Vw(x:Fa):Array Value:=#[.agg #[.int .i64 x.1.z, .slice x.2.1 x.1.args.length x.2.2]]
def aHF(x:Fa)(W:World):Prop:=W.ownsRow 0 3 1 (.slice x.2.1 x.1.args.length x.2.2) x.1.args.length (x.1.args.map (Value.int .i64))/\fW x.1
def HN(b PB SB:Nat)(W W':World):Prop:=HK b PB W W'/\HK b SB W W'
theorem HN.refl(b PB SB:Nat)(W:World):HN b PB SB W W:=⟨HK.refl _ _ _,HK.refl _ _ _⟩
theorem HN.trans{b PB SB:Nat}{A B C:World}(h:HN b PB SB A B)(k:HN b PB SB B C):HN b PB SB A C:=⟨h.1.trans k.1,h.2.trans k.2⟩
theorem HN.of_below{d PB SB:Nat}{W W':World}(g:d<=W.heap.size)(h:Below W.heap.size W W'):HN d PB SB W W':=
 have e:Below d W W':=⟨h.os,h.tape,h.output,h.size,fun k f=>h.block k oM⟩
 ⟨⟨e,fun _ _ b=>(h.block PB (aG.mp b).1).trans b⟩,⟨e,fun _ _ b=>(h.block SB (aG.mp b).1).trans b⟩⟩
def RD(x:cI)(vs:List Int):List aN:=if x.kind=1 then [⟨x.z,bQ x.p vs⟩] else []
theorem Og(b:List cI)(x:cI)(vs:List Int):(((b++[x]).filter fun l=>decide (l.kind=1)).map fun l=>(⟨l.z,bQ l.p vs⟩:aN))=((b.filter fun l=>decide (l.kind=1)).map fun l=>⟨l.z,bQ l.p vs⟩)++RD x vs:=by
 rw[lC,cB]
 congr 1
 unfold RD;by_cases h:x.kind=1
 ·rw[if_pos h,lU,if_pos (by simpa using h)];rfl
 rw[if_neg h,lU,if_neg (by simpa using h)];rfl
def uE(r:bB)(vs:List Int)(k:Nat):List aN:=uF {r with body:=r.body.take k} vs
theorem Of(r:bB)(vs:List Int):uE r vs 0=[]:=by unfold uE uF;rfl
theorem Oc{r:bB}{vs:List Int}{k:Nat}(b:k<r.body.length):uE r vs (k+1)=uE r vs k++RD (cJ r.body k) vs:=by unfold uE uF;(have :r.body.take (k+1)=r.body.take k++[cJ r.body k]:=by rw[eI];congr 1;unfold cJ;rw[aC,aD b];rfl);dsimp only;rw[this];exact Og _ _ _
theorem WF(r:bB)(vs:List Int):uE r vs r.body.length=uF r vs:=by unfold uE uF;dsimp only;rw[lA]
theorem WG(r:bB)(vs:List Int)(k:Nat):(uE r vs k).length<=k:=by unfold uE uF;dsimp only;rw[aP];exact bH (wZ _ _) (by rw[cW];omega)
theorem Od{r:bB}{vs:List Int}{k:Nat}:uF r vs=uE r vs (k+1)++((r.body.drop (k+1)).filter fun l=>decide (l.kind=1)).map fun l=>(⟨l.z,bQ l.p vs⟩:aN):=by unfold uE uF;dsimp only;rw[<-cB,<-lC,nL]
structure tM (p:bC) (s:eC):Prop where
 at_:s.c= -1\/(0<=s.c/\s.c<(p.m.length:Int))
 len:¬s.c= -1->(mF p s.c).body.length<=60
 lits:¬s.c= -1->∀x,x∈(mF p s.c).body->x.kind=1->x.p.length<=1000000/\gX s.vars.length x.p
theorem Ww(n:Nat)(hn:1<=n)(l PB SB:Nat)(f W:World)(p:bC)(s:eC)(va vn fv:Value)(ar:Option Addr)(cr:Nat)(U:Option Addr)(V:Nat)(hR:BL f ar p.m)(hX:dM f (.slice U s.vars.length V) s.vars)(M:tM p s)
 (J Jx:List Fa->World->Prop) (ah:∀s A B,J s A->A.grownBy B none->J s B) (aS:Below f.heap.size f W)
 (hY:∀H x T,J H T->aHF x T->H.length<60->YieldAt Fence.wide (n-1) Tryz.prog l (Vw x) T fun e I=>(e=.returned (.bool true)/\J (H++[x]) I/\HN f.heap.size PB SB T I)\/(e=.returned (.bool false)/\Jx (H++[x]) I))
 (hP:W.heap[PB]?=some (.cells #[va,vn, .slice ar p.m.length cr] 26)) (hS:W.heap[SB]?=some (.cells #[.int .i64 s.d.z,fv, .int .i64 s.c, .slice U s.vars.length V] 80)) (h0:J [] W):
 CallsIn Fence.wide n Tryz.prog 170 #[.func (.yield l) #[] #[], .pointer (some ⟨SB,0,none⟩), .pointer (some ⟨PB,0,none⟩)] W fun e I=>(∃v,e=.returned v)/\
  ((∃g,g.map (·.1)=fV p s/\J g I)\/(∃H,(∃t,fV p s=H.map (·.1)++t)/\Jx H I)):=by
 refine NW Tryz.func170 rfl trivial ?_ rfl;simp only[Tryz.ntmps170,List.size_toArray,List.length_cons,List.length_nil,Nat.reduceAdd,Nat.reduceSub,Array.replicate_succ,Array.replicate_zero,List.push_toArray,List.append_toArray,List.nil_append,List.cons_append];(have p2:W.cell? ⟨PB,2,none⟩=some (.slice ar p.m.length cr):=cH hP);(have s2:W.cell? ⟨SB,2,none⟩=some (.int .i64 s.c):=cH hS);have HY:O _:=hY;have a7:O _:=ah;have HP:O _:=hP;have HS:O _:=hS;have HR:O _:=hR;have HX:O _:=hX;have HW:O _:=aS;clear hY ah hP hS hR hX;by_cases y:s.c= -1
 ·(have aw:O (fV p s=[]):=by show _=_;unfold fV;rw[if_pos (.inl y)]);(have X:(s.c== -1)=true:=by simpa using y);rw[y]at s2;clear y X M;gi_wp2;refine dF (sA rfl _ _ _) rfl ?_;exact⟨⟨_,rfl⟩, .inl ⟨[],by rw[aw.o];rfl,h0⟩⟩
 obtain⟨aT,aV⟩:=M.at_.resolve_left y;have a1:O _:=M.len y;have aa:O _:=M.lits y;obtain⟨i,hi⟩:∃i:Nat,s.c=(i:Int):=⟨s.c.toNat,oM⟩;have b0:i<p.m.length:=oM;(have a5:mF p s.c=aW p.m i:=by unfold mF;rw[hi];rfl);have Q:O (fV p s=if(aW p.m i).x=0 then uF (aW p.m i) s.vars else []):=by
  show _=_;unfold fV;rw[a5];by_cases j:(aW p.m i).x=0
  ·rw[if_neg (by rintro(h|h);exact y h;exact h j),if_pos j]
  rw[if_pos (.inr j),if_neg j]
 (have X:(s.c== -1)=false:=by simpa using y);rw[a5]at a1 aa;obtain⟨rb,ro,rfl,hq⟩:=rH HR.o i b0;obtain⟨_,_,q2,⟨bv,Z,hB⟩,_⟩:=hq;obtain⟨ab,cb,rfl,af⟩:=hB;have an:O (IP f ab (aW p.m i).body):=af;have HQ:O _:=Z;have f2:=aB HW.o q2;have f3:=aB HW.o Z;rw[hi]at s2 HS;(have gi:((i:Int)== -1)=false:=by rw[<-hi];exact X);clear y X M a5 aT aV af q2 Z;generalize aW p.m i=r at *;by_cases j:r.x=0
 ·rw[j]at f2;(have P:O (fV p s=uF r s.vars):=by show _=_;rw[Q.o,if_pos j]);have g2:((0:Int) != 0)=false:=rfl;clear j Q;gi_wp2;gi_loopw [27] (fun v wr=>∃(k:Nat)(g:List Fa),k<=r.body.length/\v=.int .i64 k/\O (g.map (·.1)=uE r s.vars k)/\O (J g wr)/\O (HN f.heap.size PB SB W wr)) (fun v _=>r.body.length-(intOf v).toNat);case atStart=>exact⟨0,[],bG _,rfl,(Of _ _).symm,h0,HN.refl _ _ _ _⟩
  case round=>
   clear f2 f3 p2 s2 h0;obtain⟨k,g,hk,rfl,S,HJ,N⟩:=hrel;have b6:=a1.o;have E:Below f.heap.size f wr:=HW.o.trans N.o.1.1;by_cases L:k<r.body.length
   ·obtain⟨b,b7,rfl,l0,l1,l2,v,l3,hT⟩:=vH an.o k L;have HT:O (fT wr v (cJ r.body k).p):=dS hT E;obtain⟨at_,D,rfl,b5,aI⟩:=id hT;have q0:=aB E l0;have q1:=aB E l1;have q2:=aB E l2;have Z:=aB E l3;have a3:=N.o.2.2 _ rfl HS.o;have ae:O (dM wr (.slice U s.vars.length V) s.vars):=aM HX.o E;have ad:O _:=Oc (vs:=s.vars) L;(have az:O (g.length<60):=by show _<_;have K:=WG r s.vars k;rw[<-S.o,aP]at K;have :=a1.o;omega);have ac:O ((cJ r.body k).kind=1->(cJ r.body k).p.length<=1000000/\gX s.vars.length (cJ r.body k).p):=aa.o _ (by unfold cJ;rw[aC,aD L];exact dY L);have al:f.heap.size<=wr.heap.size:=E.size;clear l0 l1 l2 l3 hT aI E;generalize cJ r.body k=x at *;obtain⟨C,G,q,w⟩:=x;dsimp only at *;have F:=dD wr (.cells #[.int .i64 C, .int .i64 G, .int .i64 q, .slice at_ w.length D] 49);have Y:=aR wr (.cells #[.int .i64 C, .int .i64 G, .int .i64 q, .slice at_ w.length D] 49);have aj:=(F.block _ (bP a3)).trans a3;have ax:O _:=dS HT.o F;have ay:O _:=aM ae.o F;have a8:O _:=a7.o _ _ _ HJ.o (lI F none);have a9:O (HN f.heap.size PB SB W _):=N.o.trans (HN.of_below al F);have b1:f.heap.size<=(wr.alloc (.cells #[.int .i64 C, .int .i64 G, .int .i64 q, .slice at_ w.length D] 49)).heap.size:=bH al F.size;(have z0:(wr.alloc (.cells #[.int .i64 C, .int .i64 G, .int .i64 q, .slice at_ w.length D] 49)).cell? ⟨wr.heap.size,0,none⟩=some (.int .i64 C):=cH Y);(have z2:(wr.alloc (.cells #[.int .i64 C, .int .i64 G, .int .i64 q, .slice at_ w.length D] 49)).cell? ⟨wr.heap.size,2,none⟩=some (.int .i64 q):=cH Y);(have z3:(wr.alloc (.cells #[.int .i64 C, .int .i64 G, .int .i64 q, .slice at_ w.length D] 49)).cell? ⟨wr.heap.size,3,none⟩=some (.slice at_ w.length D):=cH Y);(have y3:(wr.alloc (.cells #[.int .i64 C, .int .i64 G, .int .i64 q, .slice at_ w.length D] 49)).cell? ⟨SB,3,none⟩=some (.slice U s.vars.length V):=cH aj);clear a3 aj Y HT ae HJ N F;by_cases K:C=1
    ·subst K;obtain⟨b2,am⟩:=ac.o rfl;have HF:O _:=BF q w s.vars _ _ _ ax.o ay.o b2 am;clear am ac;gi_wp2;refine⟨trivial,CallsIn.mono (ER.2 HF.o) ?_⟩;rintro _ w2 ⟨v2,rfl,a6,a4⟩;obtain⟨a2,c2,rfl⟩:=bJ a6;have ao:O (aHF (⟨q,bQ w s.vars⟩,a2,c2) w2):=⟨gL a6 (bG _),by unfold fW bQ;rw[aP];omega⟩;have ap:O _:=a7.o _ _ _ a8.o (lI a4 none);have aq:O (HN f.heap.size PB SB W w2):=a9.o.trans (HN.of_below b1 a4);(have R:O ((g++[((⟨q,bQ w s.vars⟩:aN),a2,c2)]).map (·.1)=uE r s.vars (k+1)):=by show _=_;rw[ad.o,<-S.o,cB];rfl);obtain⟨fn,b8,b3,b4,hy,aF⟩:=HY.o g _ _ ap.o ao.o az.o;dsimp only[Vw]at hy;clear z0 z2 z3 y3 a6 a4 HF;gi_wp2;refine aF.mono ?_;rintro e W3 (⟨rfl,ag,ak⟩|⟨rfl,ai⟩)
     ·have a0:O _:=ag;have au:O (HN f.heap.size PB SB W W3):=aq.o.trans ak;clear ag ak;gi_wp2;go_roundw;(case rel=>exact⟨k+1,_,L,gN,R.o,a0.o,au.o⟩);case measure=>exact mI
     have a0:O _:=ai;clear ai;gi_wp2;refine dF (sA rfl _ _ _) rfl ?_;exact⟨⟨_,rfl⟩, .inr ⟨_,⟨_,by rw[P.o,R.o];exact Od⟩,a0.o⟩⟩
    (have g3:(C==1)=false:=by simpa using K);(have R:O (g.map (·.1)=uE r s.vars (k+1)):=by show _=_;rw[ad.o,<-S.o];unfold RD;rw[if_neg K,jM]);clear K;gi_wp2;refine⟨trivial,?_⟩;gi_wp2;refine⟨(fun _ h=>by cases h),?_⟩;gi_wp2;go_roundw;(case rel=>exact⟨k+1,g,L,gN,R.o,a8.o,a9.o⟩);case measure=>exact mI
   obtain rfl:k=r.body.length:=oM;gi_wp2;go_end0;exact⟨⟨_,rfl⟩, .inl ⟨g,by rw[S.o,P.o,WF],HJ.o⟩⟩
 (have P:O (fV p s=[]):=by show _=_;rw[Q.o,if_neg j]);(have g2:(r.x != 0)=true:=by simpa using j);clear j Q;gi_wp2;refine dF (sA rfl _ _ _) rfl ?_;exact⟨⟨_,rfl⟩, .inl ⟨[],by rw[P.o];rfl,h0⟩⟩
end Go.Proofs.YthenjegmigeieaaGreat
namespace Go.Proofs.YthenjegmigeieaaGreat
open Go.RowKit Go.Shelf
attribute [local go_sem] Oper.semAt_some
theorem Xd{X Y:World}{f:Option Nat}(hg:X.grownBy Y f)(l:∀r,f=some r->∃o:Obj,X.heap[r]?=some o/\o.isCells=false){B e c n:Nat}{v:Value}{g:List Value}(h:X.ownsRow B e c v n g):Y.ownsRow B e c v n g:=
 gR h fun k a b=>(hg.block k (bP b) (fun i=>by obtain⟨o,d,j⟩:=l k i.symm;rw[b]at d;cases d;cases j)).trans b
theorem aF4(n:Nat)(b d f:Option Addr)(l m p:Nat)(c0 c1 c2:Nat)(s:Int)(af:Option Addr)(q cf:Nat)(v:Int)(g:Option Addr)(r j:Nat)(w:World):
 CallsIn Fence.wide n Tryz.prog 124 #[.agg #[.slice b l c0, .slice d m c1, .slice f p c2], .agg #[.int .i64 s, .slice af q cf, .int .i64 v, .slice g r j]] w fun e x=>e=.returned (.func (.func 170) #[] #[.pointer (some ⟨w.heap.size+1,0,none⟩), .pointer (some ⟨w.heap.size,0,none⟩)])/\
  x=(w.alloc (.cells #[.slice b l c0, .slice d m c1, .slice f p c2] 26)).alloc (.cells #[.int .i64 s, .slice af q cf, .int .i64 v, .slice g r j] 80):=by
 have y:∀(k:Fn)(first i:Array Value)(w:World),(Instr.makeFunc k first i).run Tryz.prog w=.ok (.func k first i) w:=fun _ _ _ _=>rfl;refine NW Tryz.func124 rfl trivial ?_ rfl;simp only[Tryz.ntmps124,List.size_toArray,List.length_cons,List.length_nil,Nat.reduceAdd,Nat.reduceSub,Array.replicate_succ,Array.replicate_zero,List.push_toArray,List.append_toArray,List.nil_append,List.cons_append];gi_wp2;go_ret;exact⟨rfl,rfl⟩
theorem Wb(w:World)(b o1 o2 d:Obj):((((w.alloc b).alloc o1).alloc o2).alloc d).heap[w.heap.size]?=some b/\((((w.alloc b).alloc o1).alloc o2).alloc d).heap[w.heap.size+1]?=some o1/\((((w.alloc b).alloc o1).alloc o2).alloc d).heap[w.heap.size+2]?=some o2/\((((w.alloc b).alloc o1).alloc o2).alloc d).heap[w.heap.size+3]?=some d:=by
 refine⟨?_,?_,?_,?_⟩
 ·show((((w.heap.push b).push o1).push o2).push d)[w.heap.size]?=_;rw[iE,if_neg (by simp only[Array.size_push];omega),iE,if_neg (by simp only[Array.size_push];omega),iE,if_neg (by simp only[Array.size_push];omega),iE,if_pos rfl]
 ·show((((w.heap.push b).push o1).push o2).push d)[w.heap.size+1]?=_;rw[iE,if_neg (by simp only[Array.size_push];omega),iE,if_neg (by simp only[Array.size_push];omega),iE,if_pos (by simp only[Array.size_push])]
 ·show((((w.heap.push b).push o1).push o2).push d)[w.heap.size+2]?=_;rw[iE,if_neg (by simp only[Array.size_push];omega),iE,if_pos (by simp only[Array.size_push])]
 show((((w.heap.push b).push o1).push o2).push d)[w.heap.size+3]?=_;rw[iE,if_pos (by simp only[Array.size_push])]
theorem Xk{tmps:Array Value}{w:World}{b:Nat}{v:Bool}(d:tmps.getD 6 undef=.pointer (some ⟨b,0,none⟩))(hg:w.cell? ⟨b,0,none⟩=some (.bool v)):(results Tryz.f85 tmps).run Tryz.prog w=.ok (.bool v) w:=by(have e:tmps[6]?.getD undef=.pointer (some ⟨b,0,none⟩):=by simpa using d);simp[results,e,asAddr,loadVar,go_sem,hg]
theorem aG8(w:World)(b o1:Obj):((w.alloc b).alloc o1).heap[w.heap.size]?=some b/\((w.alloc b).alloc o1).heap[w.heap.size+1]?=some o1:=by
 refine⟨?_,?_⟩
 ·show((w.heap.push b).push o1)[w.heap.size]?=_;rw[iE,if_neg (by simp only[Array.size_push];omega),iE,if_pos rfl]
 show((w.heap.push b).push o1)[w.heap.size+1]?=_;rw[iE,if_pos (by simp only[Array.size_push])]
theorem Af{B d:Nat}{w X Y:World}{f:Option Nat}(b:Below d w X)(hg:X.grownBy Y f)(l:d<=w.heap.size)(j:d<=B)(i:∀r,f=some r->B<=r):Below d w Y:=
 ⟨hg.os.trans b.os,hg.tape.trans b.tape,hg.output.trans b.output,bH b.size hg.size,fun k g=>(hg.block k (by have :=b.size;omega) (fun e=>by have :=i k e.symm;omega)).trans (b.block k g)⟩
theorem Bq(p:bC)(q:List Sv)(C:Int)(i:List Int)(E:Int)(vs:List Int)(af:Option Addr)(cf:Nat)(L:Option Addr)(M:Nat)(va vn vr vq:Value)(w:World)(hP:iU w va vn vr p)(hQ:lR w vq q)(hl:q.length<=9223372036854775807)(hq:∀x,x∈q->nY w x)
 (hx:nY w ⟨⟨⟨C,i⟩,E,vs⟩, .slice af i.length cf, .slice L vs.length M⟩) (aw:tM p ⟨⟨C,i⟩,E,vs⟩):
 Calls Tryz.prog 85 #[eN va vn vr,vq, .agg #[.int .i64 C, .slice af i.length cf, .int .i64 E, .slice L vs.length M]] w fun e w'=>e=.returned (.bool (lS p (q.map (·.s)) ⟨⟨C,i⟩,E,vs⟩))/\Below w.heap.size w w':=by
 obtain⟨a0,n0,rfl,_⟩:=id hP.ar;obtain⟨a1,n1,rfl,_⟩:=id hP.nm;obtain⟨Q,V,rfl,ap⟩:=id hP.rl;obtain⟨aq,cq,rfl,b2,b0⟩:=id hQ;refine(ER (n:=3)).1 ?_;refine callsIn_of_wp_marks Tryz.func85 rfl trivial ?_ rfl;simp only[Tryz.ntmps85,List.size_toArray,List.length_cons,List.length_nil,Nat.reduceAdd,Nat.reduceSub,Array.replicate_succ,Array.replicate_zero,List.push_toArray,List.append_toArray,List.nil_append,List.cons_append];obtain⟨d,a7⟩:∃d,d=(((w.alloc (pB a0 n0 a1 n1 Q V p)).alloc (.cells #[.slice aq q.length cq] 71)).alloc (.cells #[.int .i64 C, .slice af i.length cf, .int .i64 E, .slice L vs.length M] 80)).alloc (.cells #[.bool false] 4):=⟨_,rfl⟩;(have G:d.heap.size=w.heap.size+4:=by rw[a7];simp);(have b4:Below w.heap.size w d:=by rw[a7];exact((((aH _ w).alloc (aE _) _).alloc sI _).alloc sO _).alloc sO _);obtain⟨k0,k1,k2,k3⟩:=Wb w (pB a0 n0 a1 n1 Q V p) (.cells #[.slice aq q.length cq] 71) (.cells #[.int .i64 C, .slice af i.length cf, .int .i64 E, .slice L vs.length M] 80) (.cells #[.bool false] 4);rw[<-a7]at k0 k1 k2 k3;have aF:O (BL w Q p.m):=ap;have HQ:O (lR w (.slice aq q.length cq) q/\q.length<=9223372036854775807/\∀x,x∈q->nY w x):=⟨hQ,hl,hq⟩;have HX:O (dM w (.slice L vs.length M) vs):=hx.2.1;have az:O _:=aw;clear ap hQ hq hx aw hP b0;have aI:O _:=G;clear G;gi_wp2;rw[<-a7];have G:=aI.o;clear a7;refine⟨trivial,(aF4 2 a0 a1 Q p.g.length p.q.length p.m.length n0 n1 V C af i.length cf E L vs.length M d).mono ?_⟩;rintro e w' ⟨rfl,rfl⟩;obtain⟨N,ae⟩:∃N,N=(d.alloc (pB a0 n0 a1 n1 Q V p)).alloc (.cells #[.int .i64 C, .slice af i.length cf, .int .i64 E, .slice L vs.length M] 80):=⟨_,rfl⟩;(have s6:N.heap.size=d.heap.size+2:=by rw[ae];simp);(have b6:Below d.heap.size d N:=by rw[ae];exact((aH _ d).alloc (aE _) _).alloc sI _);obtain⟨ac,ad⟩:=aG8 d (pB a0 n0 a1 n1 Q V p) (.cells #[.int .i64 C, .slice af i.length cf, .int .i64 E, .slice L vs.length M] 80);rw[<-ae]at ac ad ⊢;clear ae;have aa:Below w.heap.size w N:=b4.trans (b6.mono b4.size);have r1:=(b6.block _ (bP k1)).trans k1;have H:N.heap[w.heap.size+1+1+1]?=some (.cells #[.bool false] 4):=(b6.block _ (bP k3)).trans k3;have a8:O _:=aa;have an:O _:=r1;have a9:O _:=H
 have aS:O (Ux Fence.wide 2 Tryz.prog 170 #[.pointer (some ⟨d.heap.size+1,0,none⟩), .pointer (some ⟨d.heap.size,0,none⟩)] Vw (HN w.heap.size d.heap.size (d.heap.size+1)) aHF (fun ys=>ys.map (·.1)=fV p ⟨⟨C,i⟩,E,vs⟩) (fun Z=>∃t,fV p ⟨⟨C,i⟩,E,vs⟩=Z.map (·.1)++t) 60 N):=fun l J Jx W hW hJ _ hY h0=>
  Ww 2 dE l d.heap.size (d.heap.size+1) w W p ⟨⟨C,i⟩,E,vs⟩ _ _ _ Q V L M aF.o HX.o az.o J Jx (fun s A B I R=>hJ s A B none I R (fun _ e=>by cases e)) (aa.trans (hW.mono aa.size)) hY ((hW.block _ (bP ac)).trans ac) ((hW.block _ (bP ad)).trans ad) h0
 have a6:O (N.heap.size=w.heap.size+6/\d.heap.size=w.heap.size+4):=⟨oM,G⟩;clear k0 k1 k2 k3 b4 b6 r1 H ac ad aa G s6;gi_wp2;obtain⟨U,G⟩:=a6.o
 refine aGD (n:=3) rfl oM (gf:=170) (lb:=#[.pointer (some ⟨d.heap.size+1,0,none⟩), .pointer (some ⟨d.heap.size,0,none⟩)]) ?hg trivial (jQ Tryz.func170 kR rfl) aS.o
  (fun h k=>HN.trans h k) (fun W j o o' hl h h1 h2=>⟨HK.put oM W j o o' hl h h1 h2,HK.put oM W j o o' hl h h1 h2⟩) (aH _ _) (fun _=>rfl)
  (fun(Z:List Fa) W=>Below N.heap.size N W/\∀f,f∈Z.map (fun x:Fa=>x.1)->gQ (q.map (·.s)) f=true)
  (fun c (Z:List Fa) W=>c=.ret/\(W.heap[w.heap.size+1+1+1]?=some (.cells #[.bool false] 4)/\Below w.heap.size w W)/\∃f,f∈Z.map (fun x:Fa=>x.1)/\gQ (q.map (·.s)) f=false)
  (fun _ X Y ay I R hr=>⟨Af I.1 R (aE _) (aE _) (fun r e=>(hr r e).1),I.2⟩)
  (fun c _ X Y ay I R hr=>⟨I.1,⟨(R.block _ (bP I.2.1.1) (fun e=>by have :=(hr _ e.symm).1;omega)).trans I.2.1.1,Af I.2.1.2 R (aE _) oM (fun r e=>(hr r e).1)⟩,I.2.2⟩)
  ⟨aH _ _,fun f F=>by simp at F⟩
  (fun(x:Fa) a' W=>(∃Bx,W.heap[Bx]?=some (.cells #[.int .i64 x.1.z, .slice x.2.1 x.1.args.length x.2.2] 55)/\a'={tmps:=#[eN (.slice a0 p.g.length n0) (.slice a1 p.q.length n1) (.slice Q p.m.length V), .slice aq q.length cq, .agg #[.int .i64 C, .slice af i.length cf, .int .i64 E, .slice L vs.length M], .pointer (some ⟨w.heap.size,0,none⟩), .pointer (some ⟨w.heap.size+1,0,none⟩), .pointer (some ⟨w.heap.size+1+1,0,none⟩), .pointer (some ⟨w.heap.size+1+1+1,0,none⟩), .pointer (some ⟨Bx,0,none⟩), .agg #[.slice a0 p.g.length n0, .slice a1 p.q.length n1, .slice Q p.m.length V], .agg #[.int .i64 C, .slice af i.length cf, .int .i64 E, .slice L vs.length M], .func (.func 170) #[] #[.pointer (some ⟨d.heap.size+1,0,none⟩), .pointer (some ⟨d.heap.size,0,none⟩)], .agg #[.int .i64 x.1.z, .slice x.2.1 x.1.args.length x.2.2],undef,undef,undef,undef],defers:=[]})/\aHF x W)
  (fun x a' _ X Y ay I R hr=>by
   obtain⟨⟨Bx,h1,h2⟩,h3,h4⟩:=I
   exact⟨⟨Bx,(R.block _ (bP h1) (fun e=>by obtain⟨_,o,h5,h6⟩:=hr _ e.symm;rw[h1]at h5;cases h5;cases h6)).trans h1,h2⟩,Xd R (fun r e=>(hr r e).2) h3,h4⟩)
  ?assign ?body ?done ?stop
 (case hg=>rfl);case assign=>rintro l Z ⟨⟨fp,fa⟩,xa,xc⟩ W K ⟨y,T⟩ ⟨hO,hF⟩ hK;clear U G;dsimp only at hO hF hK;gi_wp2;obtain⟨U,G⟩:=a6.o;have ba:=dD W (.cells #[.int .i64 fp, .slice xa fa.length xc] 55);exact hK _ _ (KeepsFrom.of_grownBy (lI ba none) (fun _ e=>by cases e)) (HN.of_below (by have :=y.size;omega) ba) ⟨y.trans (ba.mono y.size),T⟩ ⟨⟨W.heap.size,aR W _,rfl⟩,bI hO ba,hF⟩
 case body=>
  rintro l Z ⟨⟨fp,fa⟩,xa,xc⟩ a' W _ ⟨y,T⟩ ⟨⟨Bx,hX,rfl⟩,hO,hF⟩ b1;dsimp only at hX hO hF;have hI:=yI hO;clear hO;have a3:Below w.heap.size w W:=a8.o.trans (by have :=a8.o.size;exact⟨y.os,y.tape,y.output,y.size,fun k hk=>y.block k oM⟩);have am:O _:=Kq q ⟨fp,fa⟩ _ _ W (HQ.o.1.u a3) HQ.o.2.1 (fun x hx=>(HQ.o.2.2 x hx).u a3) hI hF;have r1:=(y.block _ (bP an.o)).trans an.o;have H:=(y.block _ (bP a9.o)).trans a9.o;(have c1:W.cell? ⟨w.heap.size+1,0,none⟩=some (.slice aq q.length cq):=cH r1);(have x0:W.cell? ⟨Bx,0,none⟩=some (.int .i64 fp):=cH hX);(have x1:W.cell? ⟨Bx,1,none⟩=some (.slice xa fa.length xc):=cH hX);have a4:O _:=a3;have S:O _:=y;have al:O _:=T;clear U G a3 y T hI hF hX r1;gi_wp2;refine⟨trivial,(CallsIn.inRound l (ER.2 am.o)).mono ?_⟩;rintro _ W3 ⟨rfl,ak⟩;have P:O _:=ak;have ah:=(ak.block _ (bP H)).trans H;(have c3:W3.cell? ⟨w.heap.size+1+1+1,0,none⟩=some (.bool false):=cH ah);have f3:=cM ah 0;have a5:O _:=ah;clear ak x0 x1 c1 am H ah;cases ag:gQ (q.map (·.s)) ⟨fp,fa⟩
  ·have ai:O _:=ag;clear ag;gi_wp2;obtain⟨U,G⟩:=a6.o;refine⟨(KeepsFrom.of_grownBy (lI P.o none) (fun _ e=>by cases e)).trans ((KeepsOthers.setCell _ _ _).from _),rfl,⟨bV a5.o _,?_⟩,⟨fp,fa⟩,by simp,ai.o⟩;have h9:Below w.heap.size w W3:=a4.o.trans (by have :=a4.o.size;exact⟨P.o.os,P.o.tape,P.o.output,P.o.size,fun k hk=>P.o.block k oM⟩);exact h9.setCell (p:=⟨w.heap.size+1+1+1,0,none⟩) (by show w.heap.size<=w.heap.size+1+1+1;omega) _
  have ai:O _:=ag;clear ag;gi_wp2;obtain⟨U,G⟩:=a6.o;refine⟨KeepsFrom.of_grownBy (lI P.o none) (fun _ e=>by cases e),HN.of_below a4.o.size P.o,S.o.trans (P.o.mono S.o.size),fun f F=>?_⟩;rw[cB]at F;rcases dP.mp F with F|F
  ·exact al.o f F
  rcases cQ.mp F with rfl;exact ai.o
 case done=>
  rintro D xs W hD hS ⟨y,T⟩ hK;have H:=(y.block _ (bP a9.o)).trans a9.o;(have c3:W.cell? ⟨w.heap.size+1+1+1,0,none⟩=some (.bool false):=cH H);have f3:=cM H 0;have HS:O _:=hS;have al:O _:=T;have S:O _:=y;(have aj:O (lS p (q.map (·.s)) ⟨⟨C,i⟩,E,vs⟩=true):=by refine oT.mpr fun f F=>T f ?_;rw[<-hS]at F;exact F);have ab:D≠w.heap.size+1+1+1:=oM;have a5:O _:=H;clear U G hS T y;gi_wp2;obtain⟨U,G⟩:=a6.o;have ao:(W.setCell ⟨w.heap.size+1+1+1,0,none⟩ (.bool true)).heap[D]?=some (.deferred (some [])):=(gE _ _ _ _ ab).trans hK;have hC:(W.setCell ⟨w.heap.size+1+1+1,0,none⟩ (.bool true)).heap[w.heap.size+1+1+1]?=some (.cells #[.bool true] 4):=bV a5.o _;refine⟨by simp, .inl ⟨_,_,rfl,run_takeDeferred ao,?_⟩⟩;refine⟨_,Xk (b:=w.heap.size+1+1+1) (v:=true) rfl ?_,by rw[aj.o],?_⟩
  ·rw[cD ((World.putObj_heap_other (Ne.symm ab)).trans hC)];rfl
  have h9:Below w.heap.size w W:=a8.o.trans (by have :=a8.o.size;exact⟨S.o.os,S.o.tape,S.o.output,S.o.size,fun k hk=>S.o.block k oM⟩);have aT:=h9.setCell (p:=⟨w.heap.size+1+1+1,0,none⟩) (by show w.heap.size<=w.heap.size+1+1+1;omega) (.bool true);exact aT.trans (belowK_b (w:=w) (aE _) _ D _ _ oM ao rfl rfl)
 case stop=>
  rintro D c Z W hD ⟨t,au⟩ ⟨rfl,⟨H,a3⟩,f,F,ax⟩ hK;have aj:O (lS p (q.map (·.s)) ⟨⟨C,i⟩,E,vs⟩=false):=by
   cases hh:lS p (q.map (·.s)) ⟨⟨C,i⟩,E,vs⟩
   ·show _=_;rfl
   have :=oT.mp hh f (by rw[au];exact dP.mpr (.inl F));rw[ax]at this;cases this
  have ab:D≠w.heap.size+1+1+1:=oM;have a4:O _:=a3;have a5:O _:=H;clear au F ax a3 H;have aV:w.heap.size<=D:=oM;clear U G;gi_wp2;refine⟨by simp, .inl ⟨_,_,rfl,run_takeDeferred hK,?_⟩⟩;refine⟨_,Xk (b:=w.heap.size+1+1+1) (v:=false) rfl ?_,by rw[aj.o],?_⟩
  ·rw[cD ((World.putObj_heap_other (Ne.symm ab)).trans a5.o)];rfl
  exact a4.o.trans (belowK_b (w:=w) (aE _) _ D _ _ aV hK rfl rfl)
end Go.Proofs.YthenjegmigeieaaGreat
namespace Go.Proofs.YthenjegmigeieaaGreat
structure rG (p:bC) (l M:List aN):Prop where
 fn:Ym p
 given:∀f,f∈l->iQ p.g f
 is:oV p l (some M)
 few:M.length<=60
section
variable {p:bC} {l M:List aN}
theorem rG.right(h:rG p l M):∀f,f∈M->iQ p.g f:=(lZ h.fn (nM h.given) h.is).right
theorem rG.fits(h:rG p l M){s:eC}:s∈kD p l M↔aWP p l M s:=WE h.fn.ok h.right
theorem rG.in_(h:rG p l M){s:eC}(i:s∈kD p l M):s.d∈M:=by have j:=xA h.fn h.given h.is;refine aIF h.fn.ok h.right (fun f e=>?_) j.1 (h.fits.mp i);obtain⟨_,b⟩:=MQ h.fn (nM h.given) (n:=0) (k:=p.g.length) (S:=dR l) (T:=M) rfl (by rw[dV];exact h.is);exact b f (iK.mpr e)
structure RA (p:bC) (l M:List aN) (st:List eC):Prop where
 proof:gK p l M st
 once:oB st
 done:∀s,s∈kD p l M->gQ st s.d=true\/lS p st s=false
theorem aE0(h:rG p l M){st:List eC}(e:gK p l M st){f:aN}(d:gQ st f=true):f∈M:=by obtain⟨s,b,rfl⟩:=rR.mp d;exact h.in_ (MO e b)
theorem RA.iff(h:rG p l M){st:List eC}(ht:RA p l M st)(f:aN):gQ st f=true↔f∈M:=
 ⟨aE0 h ht.proof,Nx h.fn h.given h.is ht.done f⟩
theorem AW(h:rG p l M){st:List eC}(g:gK p l M st)(e:oB st):st.length<=60:=by(have b:=nW (l₂:=M) e fun f d=>by obtain⟨s,i,rfl⟩:=cR.mp d;exact h.in_ (MO g i));rw[aP]at b;have :=h.few;omega
theorem Oh:gK p l M []/\oB []:=⟨MP p l M,List.nodup_nil⟩
theorem aBJ{st:List eC}{s:eC}(h:gK p l M st/\oB st)(f:s∈kD p l M)(b:gQ st s.d=false)(e:lS p st s=true):gK p l M (st++[s])/\oB (st++[s]):=
 ⟨zT.mpr ⟨h.1,f,e⟩,WH h.2 b⟩
structure zD (p:bC) (l M:List aN) (f:aN) (x:List eC):Prop where
 proof:gK p l M x
 once:oB x
 last:∃r s,x=r++[s]/\s.d=f
theorem aBK{st:List eC}(h:gK p l M st/\oB st){i:Nat}{s:eC}(b:st[i]?=some s):zD p l M s.d (CU p (st.take (i+1)) s.d):=by refine⟨Cj _ (Oj _ h.1),Hy _ (WI _ h.2),?_⟩;rw[eI,b];obtain⟨r,e⟩:=Hx (p:=p) (st:=st.take i) (s:=s);exact⟨r,s,e,rfl⟩
end
end Go.Proofs.YthenjegmigeieaaGreat
namespace Go.Proofs.YthenjegmigeieaaGreat
open Go.RowKit
theorem aJB(p:bC)(l M:List aN)(q:List Sv)(va vn vr vq:Value)(w:World)(hP:iU w va vn vr p)(hQ:lR w vq q)(hl:q.length<=24060)(hq:∀x,x∈q->nY w x)(hM:rG p l M)(hR:q.map (·.s)=kD p l M)(ay:∀x,x∈q->tM p x.s):
 Calls Tryz.prog 88 #[eN va vn vr,vq] w fun e w'=>∃(v:Value)(q':List Sv),e=.returned v/\w'.ownsRow w.heap.size 80 4 v q'.length (q'.map jO).flatten/\(∀x,x∈q'->x∈q)/\RA p l M (q'.map (·.s))/\Below w.heap.size w w':=by
 obtain⟨i0,be,bh,bi,bj⟩:=iT LG;obtain⟨a0,n0,rfl,_⟩:=id hP.ar;obtain⟨a1,n1,rfl,_⟩:=id hP.nm;obtain⟨a2,n2,rfl,_⟩:=id hP.rl;obtain⟨aq,cq,rfl,bl,aw⟩:=id hQ;have bT:=dD w (pB a0 n0 a1 n1 a2 n2 p);have N:O _:=aR w (pB a0 n0 a1 n1 a2 n2 p);have HB:O (Below w.heap.size w _):=bT;have HP:O (iU w (.slice a0 p.g.length n0) (.slice a1 p.q.length n1) (.slice a2 p.m.length n2) p):=hP;have b7:O (AA w aq q):=aw;have an:O (∀x,x∈q->nY w x/\tM p x.s):=fun x z=>⟨hq x z,ay x z⟩;have HM:O (rG p l M):=hM;(have HR:O (∀s,s∈kD p l M↔∃x,x∈q/\x.s=s):=fun s=>by rw[<-hR,cR]);clear hP hQ aw hq hM hR ay bT
 go_enter Tryz.func88,Tryz.ntmps88
 go_upto_region 1 with fail;generalize w.alloc (pB a0 n0 a1 n1 a2 n2 p)=r at *;(have b9:O (∀y,Below r.heap.size r y->y.cell? ⟨w.heap.size,0,none⟩=some (.slice a0 p.g.length n0)/\y.cell? ⟨w.heap.size,1,none⟩=some (.slice a1 p.q.length n1)/\y.cell? ⟨w.heap.size,2,none⟩=some (.slice a2 p.m.length n2)):=fun y V=>by have h:=(V.block _ (bP N.o)).trans N.o;exact⟨cH h,cH h,cH h⟩);have Z:O (∀y,Below r.heap.size r y->Below w.heap.size w y):=fun y V=>HB.o.trans (V.mono HB.o.size);have b4:O (w.heap.size<=r.heap.size):=HB.o.size;clear N HB;go_wp2_with fail;go_loopw [5] (fun sv wr=>∃D:List Sv,O (wr.ownsRow r.heap.size 80 4 sv D.length (D.map jO).flatten)/\O (∀x,x∈D->x∈q)/\O (gK p l M (D.map (·.s))/\oB (D.map (·.s)))/\O (Below r.heap.size r wr)) (fun sv _=>61-IA sv);case atStart=>exact⟨[],eD _ _ _ _,fun _ h=>absurd h sI,Oh,aH _ _⟩
 case round=>
  obtain⟨wo,bg⟩:∃wo,wo=wr:=⟨_,rfl⟩;subst bg;obtain⟨D,K,P,H,J⟩:=hrel;obtain⟨ao,co,rfl⟩:=bJ K.o;(have bm:D.length<=60:=by have h9:=AW HM.o H.o.1 H.o.2;rw[aP]at h9;exact h9);go_wp2_with fail;go_loopw [5,13] (fun sv kv wr=>∃(k:Nat)(f:List Sv),k<=q.length/\kv=.int .i64 k/\O (wr.ownsRow r.heap.size 80 4 sv f.length (f.map jO).flatten)/\O (∀x,x∈f->x∈q)/\O (gK p l M (f.map (·.s))/\oB (f.map (·.s)))/\D.length<=f.length/\O (f.length=D.length->∀j x,j<k->q[j]?=some x->gQ (f.map (·.s)) x.s.d=true\/lS p (f.map (·.s)) x.s=false)/\O (Below r.heap.size r wr)) (fun _ kv _=>q.length-(intOf kv).toNat);case atStart=>exact⟨0,D,bG _,rfl,K.o,P.o,H.o,aE _,fun _ j _ U=>absurd U (nZ j),J.o⟩
  case round=>
   clear K P H J;obtain⟨L,bf⟩:∃L,L=wr:=⟨_,rfl⟩;subst bf;obtain⟨k,f,hk,rfl,K,P,H,aS,a8,J⟩:=hrel;obtain⟨az,cz,rfl⟩:=bJ K.o;(have bn:f.length<=60:=by have h9:=AW HM.o H.o.1 H.o.2;rw[aP]at h9;exact h9);by_cases S:k<q.length
   ·obtain⟨b,bo,rfl,p0,p1,p2,p3⟩:=EG b7.o k S;have ac:O (nY w (tW q k)/\tM p (tW q k).s):=an.o _ (uY q k S);have au:O (tW q k∈q):=uY q k S;have al:O (q[k]?=some (tW q k)):=wN q k S;have a3:=Z.o L J.o;have q0:=aB a3 p0;have q1:=aB a3 p1;have q2:=aB a3 p2;have q3:=aB a3 p3;clear p0 p1 p2 p3 a3;generalize tW q k=x at *;obtain⟨⟨⟨A,i⟩,E,n⟩,fv,vv⟩:=x;dsimp only at q0 q1 q2 q3;obtain⟨⟨⟨B,C,aF,_⟩,ax⟩,⟨F,G,aV,_⟩,_⟩:=ac.o.1;dsimp only at aF aV ax;subst aF aV;go_upto_region 6 with fail;have ad:=dD L (.cells #[.int .i64 A, .slice B i.length C, .int .i64 E, .slice F n.length G] 80);have aI:=aR L (.cells #[.int .i64 A, .slice B i.length C, .int .i64 E, .slice F n.length G] 80);have Y:O (Below r.heap.size r _):=J.o.trans (ad.mono J.o.size);have ab:O ((L.alloc (.cells #[.int .i64 A, .slice B i.length C, .int .i64 E, .slice F n.length G] 80)).ownsRow r.heap.size 80 4 (.slice az f.length cz) f.length (f.map jO).flatten):=bI K.o ad;clear q0 q1 q2 q3 ad K J;generalize bc:L.heap.size=T at *;generalize L.alloc (.cells #[.int .i64 A, .slice B i.length C, .int .i64 E, .slice F n.length G] 80)=wa at *;have N:O _:=aI;clear aI bc;(have q0:wa.cell? ⟨T,0,none⟩=some (.int .i64 A):=cH N.o);(have q1:wa.cell? ⟨T,1,none⟩=some (.slice B i.length C):=cH N.o);have a5:O (∀y,Below r.heap.size r y->(∀x,x∈f->nY y x)/\nY y ⟨⟨⟨A,i⟩,E,n⟩, .slice B i.length C, .slice F n.length G⟩):=fun y V=>⟨fun x z=>(an.o x (P.o x z)).1.u (Z.o y V),ac.o.1.u (Z.o y V)⟩;have aj:O _:=Kq f ⟨A,i⟩ _ _ wa (FW ab.o) oM (a5.o wa Y.o).1 (a5.o wa Y.o).2.1.1 ax;go_wp2_with fail;refine Calls.mono aj.o ?_;rintro _ I ⟨rfl,a7⟩;have Q:O (Below r.heap.size r I):=Y.o.trans (a7.mono Y.o.size);have a4:O (I.ownsRow r.heap.size 80 4 (.slice az f.length cz) f.length (f.map jO).flatten):=bI ab.o a7;have X:O _:=(a7.block _ (bP N.o)).trans N.o;obtain⟨pv,ah⟩:∃pv,pv=gQ (f.map (·.s)) ⟨A,i⟩:=⟨_,rfl⟩;rw[<-ah];have am:O _:=ah.symm;clear q0 q1 ah a7 aj ab N Y;cases pv
    ·(have r0:I.cell? ⟨T,0,none⟩=some (.int .i64 A):=cH X.o);(have r1:I.cell? ⟨T,1,none⟩=some (.slice B i.length C):=cH X.o);(have r2:I.cell? ⟨T,2,none⟩=some (.int .i64 E):=cH X.o);(have r3:I.cell? ⟨T,3,none⟩=some (.slice F n.length G):=cH X.o);obtain⟨c0,c1,c2⟩:=b9.o I Q.o;have ak:O _:=Bq p f A i E n B C F G _ _ _ _ I (HP.o.u (Z.o I Q.o)) (FW a4.o) oM (a5.o I Q.o).1 (a5.o I Q.o).2 ac.o.2;go_wp2_with fail;refine Calls.mono ak.o ?_;rintro _ w5 ⟨rfl,R⟩;have W:O (Below r.heap.size r w5):=Q.o.trans (R.mono Q.o.size);have aa:O (w5.ownsRow r.heap.size 80 4 (.slice az f.length cz) f.length (f.map jO).flatten):=bI a4.o R;have s0:=aB R r0;have s1:=aB R r1;have s2:=aB R r2;have s3:=aB R r3;obtain⟨rv,ai⟩:∃rv,rv=lS p (f.map (·.s)) ⟨⟨A,i⟩,E,n⟩:=⟨_,rfl⟩;rw[<-ai];have ap:O _:=ai.symm;clear r0 r1 r2 r3 c0 c1 c2 ai R ak a4 X Q;cases rv
     ·have a9:O (f.length=D.length->∀j x,j<k+1->q[j]?=some x->gQ (f.map (·.s)) x.s.d=true\/lS p (f.map (·.s)) x.s=false):=fun e j x U z=>by
       by_cases ae:j=k
       ·rw[ae,al.o]at z;injection z with z;subst z;exact .inr ap.o
       exact a8.o e j x oM z
      clear s0 s1 s2 s3;go_wp2_with fail;go_roundw;(case rel=>exact⟨k+1,f,S,gN,aa.o,P.o,H.o,aS,a9.o,W.o⟩);case measure=>exact mI
     (have b5:O (gK p l M ((f++[(⟨⟨⟨A,i⟩,E,n⟩, .slice B i.length C, .slice F n.length G⟩:Sv)]).map (·.s))/\oB ((f++[(⟨⟨⟨A,i⟩,E,n⟩, .slice B i.length C, .slice F n.length G⟩:Sv)]).map (·.s))):=by show _/\_;rw[cB];exact aBJ H.o ((HR.o _).mpr ⟨_,au.o,rfl⟩) am.o ap.o);(go_upto_region 7 with fail;go_wp2_with(at_builtin;go_loud (refine fX _ rfl (.tmp 28) (.tmp 30) 71 rfl r.heap.size 80 i0 _ 4 64 Tryz.underlying71 be bh bi bj rfl dE _ _ _ rfl (aa.o.alloc _) ⟨w5.heap.size,0,none⟩ 1 1 [.int .i64 A, .slice B i.length C, .int .i64 E, .slice F n.length G] rfl rfl ?c1 ?c2 ?c3 ?c4 ?c5 ?_));(case c1=>exact aJQ w5 _ _ _ _ 80);(case c2=>intro u hu;simp at hu;rcases hu with rfl|rfl|rfl|rfl<;>rfl);(case c3=>unfold maxLen;omega);(case c4=>omega);(case c5=>have :=W.o.size;simp;omega);intro bp w6 ag aT _;obtain⟨ba,bb,rfl⟩:=bJ ag;have b0:O (Below r.heap.size r w6):=(W.o.alloc W.o.size _).grown aT (by have :=W.o.size;simp;omega) (fun k hk=>(aa.o.lt k hk).1);have b6:O (w6.ownsRow r.heap.size 80 4 (.slice ba (f.length+1) bb) (f++[(⟨⟨⟨A,i⟩,E,n⟩, .slice B i.length C, .slice F n.length G⟩:Sv)]).length ((f++[(⟨⟨⟨A,i⟩,E,n⟩, .slice B i.length C, .slice F n.length G⟩:Sv)]).map jO).flatten):=by show World.ownsRow _ _ _ _ _ _ _;rw[bA,cB,fZ];simpa[jO]using ag);have b8:O (∀x,x∈f++[(⟨⟨⟨A,i⟩,E,n⟩, .slice B i.length C, .slice F n.length G⟩:Sv)]->x∈q):=fun x z=>by
      rcases dP.mp z with z|z
      ·exact P.o x z
      rcases cQ.mp z with rfl;exact au.o
     (have b2:O ((f++[(⟨⟨⟨A,i⟩,E,n⟩, .slice B i.length C, .slice F n.length G⟩:Sv)]).length=D.length->∀j x,j<k+1->q[j]?=some x->gQ ((f++[(⟨⟨⟨A,i⟩,E,n⟩, .slice B i.length C, .slice F n.length G⟩:Sv)]).map (·.s)) x.s.d=true\/lS p ((f++[(⟨⟨⟨A,i⟩,E,n⟩, .slice B i.length C, .slice F n.length G⟩:Sv)]).map (·.s)) x.s=false):=fun e=>by rw[bA]at e;simp at e;omega);(have bd:D.length<=(f++[(⟨⟨⟨A,i⟩,E,n⟩, .slice B i.length C, .slice F n.length G⟩:Sv)]).length:=by rw[bA];omega);clear ag aT s0 s1 s2 s3;go_wp2_with fail;go_roundw;(case rel=>exact⟨k+1,_,S,gN,b6.o,b8.o,b5.o,bd,b2.o,b0.o⟩);case measure=>exact mI
    have a9:O (f.length=D.length->∀j x,j<k+1->q[j]?=some x->gQ (f.map (·.s)) x.s.d=true\/lS p (f.map (·.s)) x.s=false):=fun e j x U z=>by
     by_cases ae:j=k
     ·rw[ae,al.o]at z;injection z with z;subst z;exact .inl am.o
     exact a8.o e j x oM z
    go_wp2_with fail;go_roundw;(case rel=>exact⟨k+1,f,S,gN,a4.o,P.o,H.o,aS,a9.o,Q.o⟩);case measure=>exact mI
   obtain rfl:k=q.length:=oM;by_cases a6:f.length=D.length
   ·(have g:((f.length:Int)==D.length)=true:=by simp[a6]);have HT:O (RA p l M (f.map (·.s))):=⟨H.o.1,H.o.2,fun s hs=>by
     obtain⟨x,z,rfl⟩:=(HR.o s).mp hs;obtain⟨j,U,rfl⟩:=mH z
     exact a8.o a6 j _ U (aD U)⟩
    have b3:O (L.ownsRow w.heap.size 80 4 (.slice az f.length cz) f.length (f.map jO).flatten):=gL K.o b4.o;have b1:O _:=Z.o L J.o;clear a6 K J;go_wp2_with fail;go_ret;exact⟨_,rfl,f,b3.o,P.o,HT.o,b1.o⟩
   (have g:((f.length:Int)==D.length)=false:=by simp;omega);have bk:D.length<f.length:=oM;clear a6;go_wp2_with fail;go_roundw;(case rel=>exact⟨f,K.o,P.o,H.o,J.o⟩);case measure=>simp[IA];omega
end Go.Proofs.YthenjegmigeieaaGreat
