/- Own texts, one behind the other (part 6). -/
import Derived.Test.YtfljoehbbncooaaGreatBundleE
import Derived.Test.YtfljoehbbncooaaGreatRows
import Derived.Shelf.SlSortCmp.NoneTotal
import Derived.WalkKit
import Derived.WalkSpells
import Derived.WalkLawsBesides
import Derived.Deep.QuietTactic
import Derived.BigQuiet
import Derived.LoopN
import Derived.Lib.IndexBytes
import Derived.Defers
import Derived.Recover
import Derived.RegionTactic
import Derived.ChangeAlike
import Derived.WalkSmall
import Derived.Sort.Grow
import Derived.Lib.Builder
import Derived.Lib.AppendStr
import Derived.Lib.OthersKept
import Derived.Laws.Externs
import Derived.Lib.UnsafeStr
import Derived.Deep.RegionHeld3
import Derived.Deep.DeepCutAuto
import Derived.Deep.RegionLaw
import Derived.RegionDies
import Derived.Deep.RegionHeld2
import Derived.Lib.Atoi
import Derived.BigRegion
import Derived.Lib.AtoiBound
import Derived.Lib.SliceRun
import Derived.Lib.LazyBuf
import Derived.Laws.AppendOwnNone
import Derived.Lib.AppendZeros
import Derived.Deep.OwnRows
import Derived.RangeFuncNested
import Derived.RangeFuncBound
import Derived.RangeFuncCalls
import Derived.RangeFuncLeaves
import Derived.Shelf.Abstract
import Derived.Shelf.RegionOpen
import Derived.OwnWalkIn
import Derived.TacticsInMore
import Derived.LoopNIn
import Derived.LoopIn
import Derived.Deep.MidRow
import Derived.Deep.WholeRow
import Derived.Deep.Slices
import Derived.Orders
import Derived.ProofKit
import Derived.Deep.Strs
set_option maxRecDepth 100000
set_option maxHeartbeats 8000000
namespace Go.Proofs.YtfljoehbbncooaaGreat
open Go.RowKit
theorem aWD:GE 122:=oQ Tryz.func122 kR rfl
theorem aWC:GE 119:=oQ Tryz.func119 kR rfl
theorem aRL(n:Int)(w:World):Calls Tryz.prog 122 #[.int .i64 n] w fun e b=>e=.returned (.bool (!dJ n))/\b=w:=by
 go_enter Tryz.func122,Tryz.ntmps122
 go_wp2_with fail;refine(Iy n _).mono ?_;rintro e c ⟨rfl,rfl⟩;go_wp2_with fail;go_ret;exact⟨rfl,rfl⟩
theorem aL6(w:World)(ao:Option Addr)(cap:Nat):Calls Tryz.prog 159 #[.slice ao 0 cap, .func (.func 122) #[] #[]] w fun e b=>e=.returned (.int .i64 (-1))/\Below w.heap.size w b:=by
 go_enter Tryz.func159,Tryz.ntmps159
 go_wp2_with fail;refine nF 1 ?_;rw[rounds_succ];go_wp2_with fail;go_ret;exact⟨rfl,aG _ _⟩
theorem aL7(l:List Int)(n b off cap:Nat)(w:World)(u:l.length=n)(G:n<=9223372036854775807)(m:∀i,i<n->w.cell? ⟨b,off+i,none⟩=some (.int .i64 (cI l i))):
 Calls Tryz.prog 159 #[.slice (some ⟨b,off,none⟩) n cap, .func (.func 122) #[] #[]] w fun e D=>∃r:Int,e=.returned (.int .i64 r)/\decide (0<=r)= !(l.all dJ)/\Below w.heap.size w D:=by
 have p:O (l.length=n):=u;have C:=aWD;unfold GE at C;clear u
 go_enter Tryz.func159,Tryz.ntmps159
 go_wp2_with fail;go_loopw [8] (fun i wr=>∃k:Nat,k<=n/\i=.int .i64 k/\l.all dJ=(l.drop k).all dJ/\Below w.heap.size w wr) (fun i _=>n-(intOf i).toNat);case atStart=>exact⟨0,bL _,rfl,rfl,aG _ _⟩
 case round=>
  obtain⟨k,F,rfl,q,d⟩:=hrel;have j:O (l.all dJ=(l.drop k).all dJ):=q;clear q;by_cases s:k<n
  ·have E:=aB d (m k s);have c:O (l.all dJ=(dJ (cI l k)&&(l.drop (k+1)).all dJ)):=j.o.trans (JD _ _ _ k (by rw[p.o];exact s));clear m j;generalize cI l k=x at *;go_wp2_with fail;refine(aRL x _).mono ?_;rintro e H ⟨f,rfl⟩;cases g:dJ x
   ·rw[g]at f;subst f;(have HV:O (l.all dJ=false):=by show _=_;rw[c.o,g];rfl);clear c;go_wp2_with fail;go_ret;exact⟨k,rfl,by rw[HV.o];simp,d⟩
   rw[g]at f;subst f;(have HV:O (l.all dJ=(l.drop (k+1)).all dJ):=by show _=_;rw[c.o,g];rfl);clear c;go_wp2_with fail;go_roundw;(case rel=>exact⟨k+1,oM,gN,HV.o,d⟩);case measure=>exact mI
  (have HV:O (l.all dJ=true):=by show _=_;rw[j.o,bG (by rw[p.o];omega)];rfl);clear m;go_wp2_with fail;go_ret;exact⟨-1,rfl,rV,d⟩
theorem Sw(l:List Int)(v:Value)(w:World)(j:eT w v l)(m:l.length<=9223372036854775807):
 Calls Tryz.prog 121 #[v, .func (.func 122) #[] #[]] w fun e c=>e=.returned (.bool (!(l.all dJ)))/\Below w.heap.size w c:=by
 obtain⟨d,cap,rfl,h⟩:=j;have f:O (Calls Tryz.prog 159 #[.slice d l.length cap, .func (.func 122) #[] #[]] w fun e c=>∃r:Int,e=.returned (.int .i64 r)/\decide (0<=r)= !(l.all dJ)/\Below w.heap.size w c):=by
  rcases h with rfl|⟨b,n,rfl,h⟩
  ·exact(aL6 w d cap).mono fun e c ⟨g,i⟩=>⟨-1,g,rfl,i⟩
  exact aL7 l l.length b n cap w rfl m h
 go_enter Tryz.func121,Tryz.ntmps121
 go_wp2_with fail;refine Calls.mono f.o ?_;rintro e q ⟨r,rfl,p,k⟩;go_wp2_with fail;go_ret;exact⟨rfl,k⟩
abbrev aTI(b:Int)(v:Value):Value:=.agg #[.int .i64 b,v]
theorem aWG(p:bK)(va vn vr:Value)(X Y:Nat)(g:Int)(args:List Int)(v:Value)(w:World)(n:w.heap[X]?=some (.cells #[va,vn,vr] 26))(Q:w.heap[Y]?=some (.cells #[.int .i64 g,v] 72))(P:nV w va vn vr p)(hF:lR p)(hV:eT w v args)(a6:args.length<=9223372036854775807):
 Calls Tryz.prog 119 #[.pointer (some ⟨X,0,none⟩), .pointer (some ⟨Y,0,none⟩)] w fun e w'=>e=Ig (mX p g args)/\Below w.heap.size w w':=by
 have V:O (nV w va vn vr p):=P;have a1:O (eT w v args):=hV;obtain⟨J,cap,rfl,hA⟩:=P.ar;obtain⟨l,m,rfl,_⟩:=hV;(have c0:w.cell? ⟨X,0,none⟩=some (.slice J p.x.length cap):=cH n);(have L:w.cell? ⟨X,1,none⟩=some vn:=cH n);(have M:w.cell? ⟨X,2,none⟩=some vr:=cH n);have f:O (mX p g args=iV (dB p) (lN p g args)):=rfl;clear P
 go_enter Tryz.func119,Tryz.ntmps119
 go_wp2_with fail;refine Calls.mono (Rf p _ _ _ _ V.o hF) ?_;rintro e F ⟨d,r⟩;by_cases h:dB p=0;rotate_left
 ·rw[DM h]at d;subst d;(have HV:O (mX p g args=dB p):=by show _=_;rw[f.o,qP _ h]);go_wp2_with fail;exact⟨rfl,by rw[HV.o,DM h],r⟩
 rw[h,LE]at d;subst d;rw[h,gC]at f;have q:=(r.block _ (cV n)).trans n;have C:=(r.block _ (cV Q)).trans Q;clear c0 L M;(have c0:F.cell? ⟨X,0,none⟩=some (.slice J p.x.length cap):=cH q);(have L:F.cell? ⟨X,1,none⟩=some vn:=cH q);(have M:F.cell? ⟨X,2,none⟩=some vr:=cH q);(have N:F.cell? ⟨Y,0,none⟩=some (.int .i64 g):=cH C);(have G:F.cell? ⟨Y,1,none⟩=some (.slice l args.length m):=cH C);clear n Q h hF V;unfold lN at f;go_wp2_with fail;refine Calls.mono (GT p.x J cap vn vr g _) ?_;rintro e T ⟨d,I⟩;have j:=r.trans (I.mono r.size);have a0:=(I.block _ (cV q)).trans q;have H:=(I.block _ (cV C)).trans C;cases s:nX p.x g
 ·rw[s]at d;subst d;(have HV:O (mX p g args=5):=by show _=_;rw[f.o,s];rfl);go_wp2_with fail;refine(iY 5 _).mono ?_;rintro e U ⟨rfl,D⟩;go_wp2_with fail;exact⟨rfl,rV,j.trans (D.mono j.size)⟩
 rw[s]at d;subst d;obtain⟨k,rfl,hk⟩:=Cw s;obtain⟨b,E,rfl,hc⟩:=sY hA k hk;have hq:=aB j hc;rw[s,if_pos rfl,lC]at f;clear c0 L M N G;(have c0:T.cell? ⟨X,0,none⟩=some (.slice (some ⟨b,E,none⟩) p.x.length cap):=cH a0);(have N:T.cell? ⟨Y,0,none⟩=some (.int .i64 k):=cH H);(have G:T.cell? ⟨Y,1,none⟩=some (.slice l args.length m):=cH H);clear hc hA q C r I;go_wp2_with fail;refine(kN 5 _).mono ?_;rintro e U ⟨rfl,rfl⟩;go_upto_region 3 with fail;cases Z:((args.length:Int) != cI p.x k)
 ·(have u:(args.length:Int)=cI p.x k:=by simpa using Z);rw[if_neg (by simp[u]),gC]at f;clear u;go_region_held3 (fun y=>y.cell? ⟨X,0,none⟩=some (.slice (some ⟨b,E,none⟩) p.x.length cap)/\y.cell? ⟨Y,0,none⟩=some (.int .i64 k)/\y.cell? ⟨Y,1,none⟩=some (.slice l args.length m)/\y.cell? ⟨b,E+k,none⟩=some (.int .i64 (cI p.x k))) (go_keep) ((go_at_call 112;refine Calls.mono (kN 1 _) ?_;rintro e y ⟨rfl,rfl⟩));have a2:U.drew.heap[Y]?=some (.cells #[.int .i64 k, .slice l args.length m] 72):=H;have D:=j.drew;clear hq c0 N G a0 H j;generalize U.drew=w4 at *;(have G:w4.cell? ⟨Y,1,none⟩=some (.slice l args.length m):=cH a2);have a8:∀(W:Fn)(first cap:Array Value)(w:World),(Instr.makeFunc W first cap).run Tryz.prog w=.ok (.func W first cap) w:=fun _ _ _ _=>rfl;go_wp2_with fail;refine Calls.mono (Sw args _ _ (bC a1.o D) a6) ?_;rintro e w5 ⟨d,a4⟩;have R:=D.trans (a4.mono D.size);cases g3:args.all dJ
  ·rw[g3]at d f;subst d;(have HV:O (mX p k args=3):=by show _=_;rw[f.o];rfl);go_wp2_with fail;refine(iY 3 _).mono ?_;rintro e w6 ⟨rfl,a5⟩;go_wp2_with fail;exact⟨rfl,rV,R.trans (a5.mono R.size)⟩
  rw[g3]at d f;subst d;(have HV:O (mX p k args=0):=by show _=_;rw[f.o];rfl);go_wp2_with fail;refine(kN 3 _).mono ?_;rintro e w6 ⟨rfl,rfl⟩;go_wp2_with fail;exact⟨rfl, .tuple #[],by simp[results,Tryz.results119],rV,R⟩
 (have u:¬(args.length:Int)=cI p.x k:=by simpa using Z);(have HV:O (mX p k args=1):=by show _=_;rw[f.o,if_pos u];rfl);clear f u;refine JX (S:=(fun y=>y.cell? ⟨X,0,none⟩=some (.slice (some ⟨b,E,none⟩) p.x.length cap)/\y.cell? ⟨Y,0,none⟩=some (.int .i64 k)/\y.cell? ⟨Y,1,none⟩=some (.slice l args.length m)/\y.cell? ⟨b,E+k,none⟩=some (.int .i64 (cI p.x k)))) kR (by go_keep) (fun a7=>?_);refine iM (i:=0) (v:=?v0x0) rfl kR kR kR (fun _ _ _ h=>h) (Or.inl ⟨by rfl,?hy0x0⟩) (by assumption) ?_;(case hy0x0=>intro w c;(try dsimp only at c);go_simp;try with_reducible rfl);(try simp only[Act.put,List.setIfInBounds_toArray]);refine iM (i:=1) (v:=?v1x1) rfl kR kR kR (fun _ _ _ h=>h) (Or.inl ⟨by rfl,?hy1x1⟩) (by assumption) ?_;(case hy1x1=>intro w c;(try dsimp only at c);go_simp;try with_reducible rfl);(try simp only[Act.put]);refine iM (i:=2) (v:=?v2x2) rfl kR kR kR (fun _ _ _ h=>h) (Or.inl ⟨by rfl,?hy2x2⟩) (by assumption) ?_;(case hy2x2=>intro w c;(try dsimp only at c);go_simp;try with_reducible rfl);(try simp only[Act.put]);refine iM (i:=3) (v:=?v3x3) rfl kR kR kR (fun _ _ _ h=>h) (Or.inl ⟨by rfl,?hy3x3⟩) (by assumption) ?_;(case hy3x3=>intro w c;(try dsimp only at c);go_simp;try with_reducible rfl);(try simp only[Act.put]);refine iM (i:=4) (v:=?v4x4) rfl kR kR kR (fun _ _ _ h=>h) (Or.inl ⟨by rfl,?hy4x4⟩) (by assumption) ?_;(case hy4x4=>intro w c;(try dsimp only at c);go_simp;try with_reducible rfl);(try simp only[Act.put]);refine iM (i:=5) (v:=?v5x5) rfl kR kR kR (fun _ _ _ h=>h) (Or.inl ⟨by rfl,?hy5x5⟩) (by assumption) ?_;(case hy5x5=>intro w c;(try dsimp only at c);go_simp;try with_reducible rfl);(try simp only[Act.put]);refine iM (i:=6) (v:=?v6x6) rfl kR kR kR (fun _ _ _ h=>h) (Or.inl ⟨by rfl,?hy6x6⟩) (by assumption) ?_;(case hy6x6=>intro w c;(try dsimp only at c);go_simp;try with_reducible rfl);(try simp only[Act.put]);refine iM (i:=7) (v:=?v7x7) rfl kR kR kR (fun _ _ _ h=>h) (Or.inl ⟨by rfl,?hy7x7⟩) (by assumption) ?_;(case hy7x7=>intro w c;(try dsimp only at c);go_simp;try with_reducible rfl);(try simp only[Act.put]);refine iM (i:=8) (v:=?v8x8) rfl kR kR kR (fun _ _ _ h=>h) (Or.inl ⟨by rfl,?hy8x8⟩) (by assumption) ?_;(case hy8x8=>intro w c;(try dsimp only at c);go_simp;try with_reducible rfl);(try simp only[Act.put]);refine iM (i:=9) (v:=?v9x9) rfl kR kR kR (fun _ _ _ h=>h) (Or.inl ⟨by rfl,?hy9x9⟩) (by assumption) ?_;(case hy9x9=>intro w c;(try dsimp only at c);go_simp;try with_reducible rfl);(try simp only[Act.put]);refine EJ (rs:=[10]) kR sI ?_;refine AllReadyH.cons rfl (fun K hK=>?_) AllReadyH.nil;go_simp;go_at_call 112;refine Calls.mono (iY 1 _) ?_;rintro e y2 ⟨rfl,a3⟩;exact⟨rfl,rV,j.drew.trans (a3.mono j.size)⟩
theorem RP(p:bK)(va vn vr:Value)(b:Int)(args:List Int)(v:Value)(w:World)(c:nV w va vn vr p)(D:lR p)(n:eT w v args)(I:args.length<=9223372036854775807):
 Calls Tryz.prog 76 #[gU va vn vr,aTI b v] w fun e J=>e=.returned (.int .i64 (mX p b args))/\Below w.heap.size w J:=by
 obtain⟨i,q,rfl,_⟩:=id c.ar;obtain⟨j,r,rfl,_⟩:=id c.nm;obtain⟨k,s,rfl,_⟩:=id c.rl;obtain⟨l,x,rfl,_⟩:=id n;have L:∀(m:Fn)(first cap:Array Value)(w:World),(Instr.makeFunc m first cap).run Tryz.prog w=.ok (.func m first cap) w:=fun _ _ _ _=>rfl;have F:∀(u:World)(o:Obj),Below u.heap.size u (u.alloc o):=fun u o=>(aG _ _).alloc (aH _) o;have g:=RB.start w (pB i q j r k s p) (.cells #[.int .i64 b, .slice l args.length x] 72)
 go_enter Tryz.func76,Tryz.ntmps76
 go_wp2_with fail;generalize (w.alloc (pB i q j r k s p)).alloc (.cells #[.int .i64 b, .slice l args.length x] 72)=C at *;refine Calls.mono (Yf 119 _ none 0 (mX p b args) (fun _=>True) C aWC (fun _ e=>by cases e) (fun _ _ _ _ _=>trivial) ?_) ?_
 ·have f:=g.z (F C (.cells #[.int .i64 0, .int .i64 0] 118));refine Calls.mono (aWG p _ _ _ w.heap.size (w.heap.size+1) b args _ _ f.b1 f.b2 (c.z f.d) D (bC n f.d) I) ?_;rintro e K ⟨rfl,E⟩;exact⟨rfl,rX E _,trivial⟩
 rintro e K ⟨rfl,H,_⟩;have G:=g.d.trans ((WK H).mono g.d.size);go_wp2_with fail;simp only[bKM];go_wp2_with fail;go_ret;exact⟨rfl,G⟩
def iJ(p:bK)(l:List aQ):Int:=aW (fun f:aQ=>mX p f.g f.args) l
def jT(p:bK)(i:Int)(l:List aQ):Int:=
 if dB p≠0 then dB p else if i<0\/(p.y.length:Int)<=i then 5 else if 60<l.length then 2 else iJ p l
theorem GK(p:bK)(l:List aQ)(k:Nat)(h:k<l.length):iJ p (l.drop k)=if mX p (bF l k).g (bF l k).args≠0 then mX p (bF l k).g (bF l k).args else iJ p (l.drop (k+1)):=by
 rw[SG l k h];unfold iJ;rw[aW];by_cases b:mX p (bF l k).g (bF l k).args=0
 ·simp[b]
 simp[b]
theorem aND(p:bK)(i:Int)(facts:List aQ)(va vn vr vf:Value)(w:World)(N:nV w va vn vr p)(hF:lR p)(hV:bS w vf facts)(ae:facts.length<=9223372036854775807)(a7:∀f,f∈facts->gD f):
 Calls Tryz.prog 213 #[gU va vn vr, .int .i64 i,vf] w fun e w'=>e=.returned (.int .i64 (jT p i facts))/\Below w.heap.size w w':=by
 obtain⟨m,q,rfl,_⟩:=id N.ar;obtain⟨n,s,rfl,_⟩:=id N.nm;obtain⟨j,l,rfl,_⟩:=id N.rl;obtain⟨af,cf,rfl,_,a6⟩:=id hV;have E:=(aG w.heap.size w).alloc (aH _) (pB m q n s j l p);have d:O _:=bA w (pB m q n s j l p);have c:O _:=E;have HP:O (nV w (.slice m p.x.length q) (.slice n p.r.length s) (.slice j p.y.length l) p):=N;have HF:O _:=hF;have aa:O _:=a6;have ab:O _:=a7;have ai:=hF.rl;clear N hF hV a6 a7 E
 go_enter Tryz.func213,Tryz.ntmps213
 go_upto_region 1 with fail;generalize w.alloc (pB m q n s j l p)=X at *;(have c0:X.cell? ⟨w.heap.size,0,none⟩=some (.slice m p.x.length q):=cH d.o);(have c1:X.cell? ⟨w.heap.size,1,none⟩=some (.slice n p.r.length s):=cH d.o);(have M:X.cell? ⟨w.heap.size,2,none⟩=some (.slice j p.y.length l):=cH d.o);go_wp2_with fail;refine Calls.mono (VJ p _ _ _ X (nV.z HP.o c.o) HF.o) ?_;rintro _ w2 ⟨rfl,a3⟩;have u:O (Below w.heap.size w w2):=c.o.trans (a3.mono c.o.size);have Y:O _:=(a3.block _ (cV d.o)).trans d.o;clear c0 c1 M a3 c d;(have M:w2.cell? ⟨w.heap.size,2,none⟩=some (.slice j p.y.length l):=cH Y.o);by_cases F:dB p=0
 ·(have g1:(dB p != 0)=false:=by simpa using F);(have J:O (jT p i facts=if i<0\/(p.y.length:Int)<=i then 5 else if 60<facts.length then 2 else iJ p facts):=by show _=_;unfold jT;rw[if_neg (by simpa using F)]);clear F;by_cases P:i<0\/(p.y.length:Int)<=i
  ·(have D:O (jT p i facts=5):=by show _=_;rw[J.o,if_pos P]);by_cases V:i<0
   ·have g2:decide (i<0)=true:=aP V;clear P V;go_wp2_with fail;go_ret;exact⟨by rw[D.o];rfl,u.o⟩
   have g2:decide (i<0)=false:=aF V;have g3:decide ((p.y.length:Int)<=i)=true:=aP oM;have g4:decide (i<(p.y.length:Int))=false:=aF oM;clear P V;go_wp2_with fail;go_ret;exact⟨by rw[D.o];rfl,u.o⟩
  (have D:O (jT p i facts=if 60<facts.length then 2 else iJ p facts):=by show _=_;rw[J.o,if_neg P]);have g2:decide (i<0)=false:=aF oM;have g3:decide ((p.y.length:Int)<=i)=false:=aF oM;have g4:decide (i<(p.y.length:Int))=true:=aP oM;clear P J;by_cases W:60<facts.length
  ·(have S:O (jT p i facts=2):=by show _=_;rw[D.o,if_pos W]);have g6:decide (60<facts.length)=true:=aP W;go_wp2_with fail;go_ret;exact⟨by rw[S.o];rfl,u.o⟩
  (have S:O (jT p i facts=iJ p facts):=by show _=_;rw[D.o,if_neg W]);have g6:decide (60<facts.length)=false:=aF W;clear D;go_wp2_with fail;go_loopw [30] (fun iv wr=>∃k:Nat,k<=facts.length/\iv=.int .i64 k/\O (iJ p facts=iJ p (facts.drop k))/\O (Below w.heap.size w wr)/\O (wr.heap[w.heap.size]?=some (pB m q n s j l p))) (fun iv _=>facts.length-(intOf iv).toNat);case atStart=>exact⟨0,bL _,rfl,rfl,u.o,Y.o⟩
  case round=>
   clear u Y M;obtain⟨k,hk,rfl,K,c,d⟩:=hrel;by_cases Q:k<facts.length
   ·obtain⟨b,aj,rfl,p0,fv,p1,a8⟩:=nM aa.o k Q;have q0:=aB c.o p0;have q1:=aB c.o p1;have ad:O (eT w fv (bF facts k).args):=a8;obtain⟨T,U,rfl,_⟩:=a8;have ac:O (gD (bF facts k)):=ab.o _ (lU facts k Q);have R:O _:=GK p facts k Q;clear p0 p1;generalize bF facts k=f at *;go_upto_region 11 with fail;have E:=(aG wr.heap.size wr).alloc (aH _) (.cells #[.int .i64 f.g, .slice T f.args.length U] 72);have Z:O _:=bA wr (.cells #[.int .i64 f.g, .slice T f.args.length U] 72);have I:O _:=c.o.trans (E.mono c.o.size);have C:O _:=(E.block _ (cV d.o)).trans d.o;clear q0 q1 E c d;generalize wr.alloc (.cells #[.int .i64 f.g, .slice T f.args.length U] 72)=H at *;generalize wr.heap.size=TB at *;(have c0:H.cell? ⟨w.heap.size,0,none⟩=some (.slice m p.x.length q):=cH C.o);(have c1:H.cell? ⟨w.heap.size,1,none⟩=some (.slice n p.r.length s):=cH C.o);(have M:H.cell? ⟨w.heap.size,2,none⟩=some (.slice j p.y.length l):=cH C.o);(have f0:H.cell? ⟨TB,0,none⟩=some (.int .i64 f.g):=cH Z.o);(have f1:H.cell? ⟨TB,1,none⟩=some (.slice T f.args.length U):=cH Z.o);go_wp2_with fail;refine Calls.mono (RP p _ _ _ f.g f.args _ H (nV.z HP.o I.o) HF.o (bC ad.o I.o) ac.o) ?_;rintro _ w3 ⟨rfl,a4⟩;have a5:O _:=I.o.trans (a4.mono I.o.size);have a9:O _:=(a4.block _ (cV C.o)).trans C.o;clear c0 c1 M f0 f1 a4 I C Z;by_cases G:mX p f.g f.args=0
    ·(have ge:(mX p f.g f.args != 0)=false:=by simpa using G);(have L:O (iJ p facts=iJ p (facts.drop (k+1))):=by show _=_;rw[K.o,R.o,if_neg (by simpa using G)]);clear G K R;go_wp2_with fail;go_roundw;(case rel=>exact⟨k+1,Q,gN,L.o,a5.o,a9.o⟩);case measure=>exact mI
    (have ge:(mX p f.g f.args != 0)=true:=by simpa using G);(have L:O (jT p i facts=mX p f.g f.args):=by show _=_;rw[S.o,K.o,R.o,if_pos (by simpa using G)]);clear G K R;go_wp2_with fail;go_ret;exact⟨by rw[L.o];rfl,a5.o⟩
   have ah:decide (k<facts.length)=false:=aF Q;(have L:O (jT p i facts=0):=by show _=_;rw[S.o,K.o,bG oM];rfl);go_wp2_with fail;go_ret;exact⟨by rw[L.o];rfl,c.o⟩
 (have g1:(dB p != 0)=true:=by simpa using F);(have J:O (jT p i facts=dB p):=by show _=_;unfold jT;rw[if_pos (by simpa using F)]);clear F;go_wp2_with fail;go_ret;exact⟨by rw[J.o];rfl,u.o⟩
end Go.Proofs.YtfljoehbbncooaaGreat
namespace Go.Proofs.YtfljoehbbncooaaGreat
open Go.Shelf Go.RowKit Go.Lib Go.Sort
abbrev Nv:=List Int×Value
def bDW(w:World)(g:Nat)(x:Nv):Prop:=(∀w':World,(∀k,k<w.heap.size->¬k=g->w'.heap[k]?=w.heap[k]?)->eT w' x.2 x.1)/\x.1.length<=9223372036854775807
abbrev NvS(w:World)(g:Nat):={x:Nv//bDW w g x}
theorem bBM(w:World)(g:Nat):bDW w g ([], .slice none 0 0):=⟨fun _ _=>⟨none,0,rfl, .inl rfl⟩,by show([]:List Int).length<=_;decide⟩
theorem bEY{w:World}{g:Nat}:∀{q:List Nv},(∀p,p∈q->bDW w g p)->∃Q:List (NvS w g),Q.map (·.1)=q:=by
 intro q
 induction q with
 |nil=>intro _;exact⟨[],rfl⟩
 |cons a r ih=>
  intro h;obtain⟨Q,hQ⟩:=ih (fun p hp=>h p (by simp[hp]));exact⟨⟨a,h a sI⟩::Q,by simp[hQ]⟩
abbrev bBL(w:World)(g:Nat):Inhabited (NvS w g):=⟨⟨_,bBM w g⟩⟩
def aET{w:World}{g:Nat}(x:NvS w g):Value:=x.1.2
def Zx{w:World}{g:Nat}(x y:NvS w g):Int:=fP x.1.1 y.1.1
theorem bBQ(a b:List Int):eU ⟨0,a⟩ ⟨0,b⟩=fP a b:=by unfold eU;rw[if_pos (mR.mpr rfl)]
theorem bH9(w:World)(g:Nat):SWO (ltOf (Zx (w:=w) (g:=g)))where
 irrefl x:=by unfold ltOf Zx;rw[<-bBQ,zD];decide
 trans x y z h1 h2:=by unfold ltOf Zx at *;simp only[decide_eq_true_eq,<-bBQ]at *;exact vV h1 h2
 ntrans x y z h1 h2:=by
  unfold ltOf Zx at *;simp only[decide_eq_false_iff_not,<-bBQ]at *;intro h3;rcases LP ⟨0,x.1.1⟩ ⟨0,y.1.1⟩with h4|h4|h4
  ·exact h1 h4
  ·rw[h4]at h3;exact h2 h3
  exact h2 (vV h4 h3)
theorem bH8{w:World}{g:Nat}:OneCell (aET (w:=w) (g:=g)):=by intro x;obtain⟨⟨a,u⟩,h⟩:=x;obtain⟨ao,cap,hu,_⟩:=h.1 w (fun _ _ _=>rfl);have hu:u=.slice ao a.length cap:=hu;subst hu;rfl
theorem TD{α:Type}[Inhabited α](enc:α->Value)(w:World)(g m:Nat)(d:Array α)(os:Array Obj)(i:Nat)(hi:i<w.heap.size)(hne:¬i=g):(sortWorld enc w g 0 m d os).heap[i]?=w.heap[i]?:=by unfold sortWorld putRow mapBlock Sort.ahead grow;show((w.heap.modify g _)++os)[i]?=_;rw[sA (by simpa using hi),zY,if_neg (fun e=>hne e.symm)]
theorem aAP{α:Type}[Inhabited α](enc:α->Value)(w:World)(g m:Nat)(d:Array α)(os:Array Obj):w.heap.size<=(sortWorld enc w g 0 m d os).heap.size:=by unfold sortWorld putRow mapBlock Sort.ahead grow;show _<=((w.heap.modify g _)++os).size;simp
theorem bEX(w:World)(g size:Nat):@CmpLays1 (NvS w g) (bBL w g) Tryz.prog 110 #[] aET Zx g 0 size w:=by
 letI:Inhabited (NvS w g):=bBL w g
 intro m os dk _ x y;have hl:∀k,k<w.heap.size->¬k=g->(sortWorld (aET (w:=w) (g:=g)) w g 0 m dk os).heap[k]?=w.heap[k]?:=fun k hk hne=>TD _ _ _ _ _ _ k hk hne;refine Calls.mono (Pz x.1.1 y.1.1 x.1.2 y.1.2 _ (x.2.1 _ hl) (y.2.1 _ hl) x.2.2) ?_;rintro e w' ⟨rfl,rfl⟩;exact⟨rfl,0,#[],by simp[grow,World.drewN]⟩
theorem aXY(w:World)(B g cap:Nat)(q:List Nv)(hown:w.ownsRow B 22 1 (.slice (some ⟨g,0,none⟩) q.length cap) q.length (q.map (·.2)))(hq:∀p,p∈q->bDW w g p)(hn:q.length<4611686018427387904):
 Calls Tryz.prog 215 #[.slice (some ⟨g,0,none⟩) q.length cap, .func (.func 110) #[] #[]] w fun e w'=>e=.returned (.tuple #[])/\∃q':List Nv,q'.Perm q/\(q'.map (·.1)).Pairwise (fun a b=>¬fP b a<0)/\w'.ownsRow B 22 1 (.slice (some ⟨g,0,none⟩) q'.length cap) q'.length (q'.map (·.2))/\w.grownBy w' (some g):=by
 obtain⟨Q,rfl⟩:=bEY hq
 letI:Inhabited (NvS w g):=bBL w g
 have eg:∀args w,(callFunc 110 args).run Tryz.prog w=.ok (.enter 110 args) w:=oQ Tryz.func110 kR rfl;(have hsz:Q.toArray.size=Q.length:=by simp);have hlt:g<w.heap.size:=(hown.lt g rfl).2;rw[aY]at hown;(have hH:Holds (aET (w:=w) (g:=g)) w g 0 Q.toArray:=by intro j hj;(have hj2:j<Q.length:=by simpa using hj);refine⟨?_,by rw[eP];exact World.ownsRow.frozenAt hown j⟩;rw[eP,World.ownsRow.cellAt hown j oM,dW,dW,aM hj2];(have h2:(Q.toArray)[j]! =Q[j]:=by simp[hj2]);rw[h2];rfl);have hcon:=Any.slices_SortFunc Tryz.sortI aET bH8 Zx (bH9 w g) 110 #[] g 0 cap Q.toArray w eg (bEX w g _) hH hlt (by rw[hsz];simpa using hn);rw[hsz]at hcon;change Calls Tryz.prog 215 _ _ _ at hcon;rw[aY];refine hcon.mono ?_;rintro e w' ⟨rfl,d',n,os,hp,hs,rfl⟩;obtain⟨p1,p2,p3⟩:=hp;(have hds:d'.size=Q.length:=by rw[p1];simp);(have e1:d'.extract 0 Q.length=d':=by rw[<-hds];simp);(have e2:Q.toArray.extract 0 Q.length=Q.toArray:=by simp);rw[e1,e2]at p3;refine⟨rfl,d'.toList.map (·.1),p3.map _,?_,?_,rfl,rfl,rfl,aAP _ _ _ _ _ _,fun k hk hne=>TD _ _ _ _ _ _ k hk (fun e=>hne (by rw[e]))⟩
 ·rw[vL,vL,wN];intro i j hi hj hij;(have hi2:i<d'.size:=by simpa using hi);(have hj2:j<d'.size:=by simpa using hj);have :=hs i j (bL _) hij oM;rw[getElem!_pos d' j hj2,getElem!_pos d' i hi2]at this;unfold ltOf Zx at this;simp only[decide_eq_false_iff_not]at this;simpa using this
 (have hl:(d'.toList.map (·.1)).length=Q.length:=by rw[aY,vM,hds]);obtain⟨h1,h2⟩:=hown;rcases h2 with⟨h2,_⟩|⟨g',cap',cur,hv,hb,hh,hc1,hc2,hc3,hc4⟩
 ·cases h2
 injection hv with e1 _ e3;injection e1 with e1;injection e1 with e1;subst e1 e3;refine⟨by rw[aY,Nat.mul_one], .inr ⟨g,cap,putCells aET 0 d' cur,rfl,hb,?_,by rw[hl];exact hc1,hc2,by simpa[putCells]using hc3,?_⟩⟩
 ·unfold sortWorld putRow mapBlock Sort.ahead grow;show((w.heap.modify g _)++os)[g]?=_;rw[sA (by simpa using hlt),zY,if_pos rfl,hh];rfl
 apply kP;intro t;rw[jA,fZ,hl,Nat.mul_one];by_cases ht:t<Q.length
 ·rw[if_pos ht];(have hcs:t<cur.size:=by rw[hc3];omega);have h4:t<d'.size:=oM;unfold putCells;rw[QF,jO hcs,nU,if_pos oM,Nat.sub_zero,getElem!_pos d' _ h4,dW,dW,fZ,jO h4];rfl
 rw[if_neg ht,dK];rw[aY,hl];omega
theorem aSG(p:Option Addr)(cap:Nat)(fv:Value)(w:World):Calls Tryz.prog 215 #[.slice p 0 cap,fv] w fun e w'=>e=.returned (.tuple #[])/\w'=w:=
 AnyF.slices_SortFunc_none (P:=Tryz.prog) (ρ:=Tryz.sortI_ren) {Tryz.sortI with } p cap fv w
end Go.Proofs.YtfljoehbbncooaaGreat
namespace Go.Proofs.YtfljoehbbncooaaGreat
open Go.RowKit
def jU(p:bK)(i:Int):cA:=dX p.y i.toNat
def kI(p:bK)(i:Int)(l:List aQ):Int:=if jT p i l≠0 then jT p i l else if 2000<(kF (eZ l) (jU p i)).length then 2 else 0
def mS(p:bK)(i:Int)(l:List aQ):List (List Int):=if kI p i l≠0 then [] else BD (kF (eZ l) (jU p i))
structure zE (p:bK) (i:Int) (l:List aQ):Prop where
 ok:xK p
 lo:0<=i
 hi:i<(p.y.length:Int)
 len:l.length<=60
 fs:∀f,f∈l->mD p.x f
theorem NH{p:bK}{i:Int}{l:List aQ}(h:jT p i l=0):zE p i l:=by
 unfold jT at h;by_cases b:dB p=0
 ·rw[if_neg (by simpa using b)]at h;by_cases c:i<0\/(p.y.length:Int)<=i
  ·rw[if_pos c]at h;cases h
  rw[if_neg c]at h;by_cases d:60<l.length
  ·rw[if_pos d]at h;cases h
  rw[if_neg d]at h;exact⟨RH b,oM,oM,oM,fun f e=>Gc.mp (yL (DY h f e)).2⟩
 rw[if_pos b]at h;exact absurd h b
theorem bM5{l:List cA}{k:Nat}(h:k<l.length):dX l k∈l:=by unfold dX;rw[aI,aM h];exact fG h
theorem zE.A{p:bK}{i:Int}{l:List aQ}(h:zE p i l):oY p.x (jU p i):=h.ok.A _ (bM5 (by have :=h.lo;have :=h.hi;omega))
theorem zE.set{p:bK}{i:Int}{l:List aQ}(h:zE p i l):∀f,f∈eZ l->mD p.x f:=fun f b=>h.fs f (lM.mp b)
theorem LX{p:bK}(h:xK p){f:aQ}(b:mD p.x f):f.args.length<=3:=by have c:=b.al;have d:=h.ar f.g.toNat (by have :=b.p0;have :=b.p1;omega);omega
theorem Fz{p:bK}(h:xK p){r:cA}(hr:oY p.x r){l:cX}(d:l∈r.body):l.v.length<=3:=by
 have c:=US hr (facts:=[]) (fun f m=>absurd m sI) d;rcases c.k with b|b|b|b
 ·obtain⟨e,i,j⟩:=RD hr d (.inl b);have :=h.ar l.g.toNat oM;omega
 ·obtain⟨e,i,j⟩:=RD hr d (.inr b);have :=h.ar l.g.toNat oM;omega
 ·have :=c.k3 b;omega
 have :=c.k4 b;omega
theorem Wc{b:List Int}{r:cA}(hr:oY b r){l:cX}(c:l∈r.body):KZ l:=fun t ht _=>((hr.lit l c).2 t ht).num
theorem zO(l:List aQ):(eZ l).Nodup:=(kU l).1.imp fun {a b} h e=>by subst e;exact CO.irrefl _ h
theorem ZI{L M:List (List Int)}(c:L.Perm M)(f:M.Nodup)(i:L.Pairwise fun a b=>¬fP b a<0):L=BD M:=by
 refine aDU ?_ (fun x=>c.mem_iff);have g:L.Nodup:=c.nodup_iff.mpr f;refine(i.and g).imp ?_;rintro a b ⟨d,e⟩;rcases LP ⟨0,a⟩ ⟨0,b⟩with h|h|h
 ·unfold CO at h;rw[bBQ]at h;exact h
 ·injection h with _ h;exact absurd h e
 unfold CO at h;rw[bBQ]at h;exact absurd h d
def mM(w:World)(vr:Value):Prop:=∀b c n cap,vr=.slice (some ⟨b,c,none⟩) n cap->∀k,k<n->∀v,w.cell? ⟨b,c+k*5+3,none⟩=some v->aDB v
theorem bB4{w y:World}{ao:Option Addr}{co:Nat}{q:List (List Int×Value)}{f:List (List Int)}(H:AU w.heap.size y (.slice ao q.length co) q)(U:q.length<=2000)(s:q.map (·.1)=f)(M:f.Nodup)(n:Below w.heap.size w y)(S:∀x,x∈f->x.length<=8):
 Calls Tryz.prog 215 #[.slice ao q.length co, .func (.func 110) #[] #[]] y fun e i=>e=.returned (.tuple #[])/\∃j:List (List Int×Value),AU w.heap.size i (.slice ao q.length co) j/\j.map (·.1)=BD f/\Below w.heap.size w i:=by
 obtain⟨r,u⟩:=H;rcases id r.2 with⟨C,G⟩|⟨g,cap,T,C,J,K,_⟩
 ·injection C with l F m;subst l m;have Q:q=[]:=dQ G;subst Q;refine Calls.mono (aSG none 0 _ y) ?_;rintro e i ⟨rfl,rfl⟩;have I:f=[]:=s.symm;subst I;exact⟨rfl,[],⟨r,u⟩,rfl,n⟩
 injection C with l F m;subst l m;(have E:∀(k:Nat)(a:Array Value),y.heap[k]?=some (.cells a 3)->¬k=g:=fun k a b e=>by rw[e,K]at b;injection b with b;injection b with _ b;cases b);refine Calls.mono (aXY y w.heap.size g co q r (fun p d=>⟨fun i b=>tY (pY (u p d) (fun k a c=>(b k (cV c) (E k a c)).trans c)),?_⟩) oM) ?_
 ·have :=S p.1 (by rw[<-s];exact nW d);omega
 rintro e i ⟨rfl,j,d,R,N,D⟩;have L:=d.length_eq;refine⟨rfl,j,⟨by rw[<-L];exact N,fun p P=>pY (u p (d.mem_iff.mp P)) (fun k a c=>(D.block k (cV c) (fun e=>E k a c (Option.some.inj e))).trans c)⟩,ZI (by rw[<-s];exact d.map _) M R,n.grown D n.size (fun k b=>(Option.some.inj b)▸J)⟩
def bIN(d e f:Value)(X b off k:Nat)(g:Nat)(c:Value):Prop:=
 match g with
 |17=>c=(.pointer (some ⟨X,2,none⟩):Value)
 |18=>c=(d:Value)
 |19=>c=(.int .i64 (k:Nat):Value)
 |20=>c=(.pointer (some ⟨b,off+k*5,none⟩):Value)
 |21=>c=(e:Value)
 |22=>c=(f:Value)
 |_=>True
def aIZ(f g i:Value)(X b off k:Nat)(L:List aQ)(j:List (List Int))(c:Nat)(d:Value)(e:World):Prop:=
 if c=23 then bS e d L
 else if c=24 then∃q,AU X e d q/\q.map (·.1)=j else bIN f g i X b off k c d
theorem AU.z{B:Nat}{w w':World}{v:Value}{q:List (List Int×Value)}(h:AU B w v q)(b:Below w.heap.size w w'):AU B w' v q:=⟨bO h.1 b,fun p c=>bO (h.2 p c) b⟩
theorem aOI(d e f:Value)(X b off k:Nat)(L:List aQ)(i:List (List Int))(c:Nat)(m:Value)(W g:World)(j:Below W.heap.size W g)(h:aIZ d e f X b off k L i c m W):aIZ d e f X b off k L i c m g:=by
 unfold aIZ at h ⊢;by_cases ht:c=23
 ·rw[if_pos ht]at h ⊢;exact bQ h j
 rw[if_neg ht]at h ⊢;by_cases l:c=24
 ·rw[if_pos l]at h ⊢;obtain⟨q,n,p⟩:=h;exact⟨q,n.z j,p⟩
 rw[if_neg l]at h ⊢;exact h
theorem aZ5(p:bK)(i:Int)(facts:List aQ)(va vn vr vf:Value)(w:World)(V:nV w va vn vr p)(hF:lR p)(an:mM w vr)(hV:bS w vf facts)(b1:facts.length<=9223372036854775807)(a7:∀f,f∈facts->gD f):
 Calls Tryz.prog 193 #[gU va vn vr, .int .i64 i,vf] w fun e s=>∃v q,e=.returned (.tuple #[v, .int .i64 (kI p i facts)])/\AU w.heap.size s v q/\q.map (·.1)=mS p i facts/\Below w.heap.size w s:=by
 obtain⟨Z,n0,rfl,_⟩:=id V.ar;obtain⟨a1,n1,rfl,_⟩:=id V.nm;obtain⟨S,u,rfl,al⟩:=id V.rl;obtain⟨E,F,rfl,_,b0⟩:=id hV;have bT:=(aG w.heap.size w).alloc (aH _) (pB Z n0 a1 n1 S u p);have M:O _:=bA w (pB Z n0 a1 n1 S u p);have HB:O _:=bT;have HC:O _:=aND p i facts _ _ _ _ _ (V.z bT) hF (bQ hV bT) b1 a7;have ad:O (bS w (.slice E facts.length F) facts):=hV;have az:O _:=a7;have ag:O _:=al;have aa:O (mM w (.slice S p.y.length u)):=an;clear V hF hV b0 a7 bT an al
 go_enter Tryz.func193,Tryz.ntmps193
 go_upto_region 1 with fail;generalize w.alloc (pB Z n0 a1 n1 S u p)=w1 at *;(have c0:w1.cell? ⟨w.heap.size,0,none⟩=some (.slice Z p.x.length n0):=cH M.o);(have c1:w1.cell? ⟨w.heap.size,1,none⟩=some (.slice a1 p.r.length n1):=cH M.o);(have T:w1.cell? ⟨w.heap.size,2,none⟩=some (.slice S p.y.length u):=cH M.o);go_wp2_with fail;refine Calls.mono HC.o ?_;rintro _ L ⟨rfl,J⟩;have d:O (Below w.heap.size w L):=HB.o.trans (J.mono HB.o.size);have a8:O _:=(J.block _ (cV M.o)).trans M.o;have ai:O (w.heap.size<=L.heap.size):=d.o.size;clear c0 c1 T J HB M HC;by_cases G:jT p i facts=0
 ·(have g0:(jT p i facts != 0)=false:=by simpa using G);have g:=NH G;obtain⟨k,rfl⟩:∃k:Nat,i=k:=⟨i.toNat,by have :=g.lo;omega⟩;(have hk:k<p.y.length:=by have :=g.hi;omega);have ac:O _:=G;(have Y:O (jU p (k:Int)=dX p.y k):=by show _=_;unfold jU;rw[lC]);(have R:oY p.x (dX p.y k):=by have :=g.A;rw[Y.o]at this;exact this);have X:=lF R g.set;have a4:=lS g.set;have aJ:O ((kF (eZ facts) (dX p.y k)).Nodup):=wD X a4 (zO facts);(have aS:O (∀x,x∈kF (eZ facts) (dX p.y k)->x.length<=8):=fun x hx=>by have :=((tH X a4 x).mp hx).1;have :=X.v8;omega);(obtain⟨b,C,rfl,q0,⟨vt,q1,hT⟩,q2,⟨vb,q3,hL⟩,q4⟩:=AH ag.o k hk;have aq:=aa.o _ _ _ _ rfl k hk _ q3;obtain⟨at_,Q,rfl,_⟩:=id hT;obtain⟨N,P,rfl,_⟩:=id hL;have aR:O (∀c,Below L.heap.size L c->Calls Tryz.prog 64 #[.slice E facts.length F] c fun e s=>∃K,e=.returned K/\pQ c.heap.size s K (eZ facts)/\Below c.heap.size c s):=fun c hb=>XS facts _ c (bQ ad.o (d.o.trans (hb.mono d.o.size))) (by have :=g.len;omega) (fun f hf=>by have :=LX g.ok (g.fs f hf);omega);have aC:O (∀c v,Below L.heap.size L c->bS c v (eZ facts)->Calls Tryz.prog 214 #[rZ (dX p.y k) (.slice at_ (dX p.y k).v.length Q) (.slice N (dX p.y k).body.length P),v] c fun e s=>∃K q,e=.returned K/\AU c.heap.size s K q/\q.map (·.1)=(kF (eZ facts) (dX p.y k)).take 2001/\Below c.heap.size c s):=fun c v hb hv=>by have am:Below w.heap.size w c:=d.o.trans (hb.mono d.o.size);exact aWJ (eZ facts) (dX p.y k) _ _ v c hv (by have :=DU facts;have :=g.len;omega) (fun f hf=>by unfold gD;have :=LX g.ok (g.set f hf);omega) X a4 (fun l hl=>by have :=Fz g.ok R hl;omega) (fun l hl=>Wc R hl) (fV hT am) (wB hL am) aq (by have :=R.b4;omega) R.v0);have p0:=aB d.o q0;have p1:=aB d.o q1;have p2:=aB d.o q2;have p3:=aB d.o q3;have p4:=aB d.o q4;(have T:L.cell? ⟨w.heap.size,2,none⟩=some (.slice (some ⟨b,C,none⟩) p.y.length u):=cH a8.o);clear q0 q1 q2 q3 q4 hT hL aq g R X a4 G a8 ad az ag aa;generalize dX p.y k=r at *;go_upto_region 4 with fail;refine qF (aIZ (.slice (some ⟨b,C,none⟩) p.y.length u) (rZ r (.slice at_ r.v.length Q) (.slice N r.body.length P)) (.slice E facts.length F) w.heap.size b C k (eZ facts) ((kF (eZ facts) r).take 2001)) 8 dE kR kR kR (aOI (.slice (some ⟨b,C,none⟩) p.y.length u) (rZ r (.slice at_ r.v.length Q) (.slice N r.body.length P)) (.slice E facts.length F) w.heap.size b C k (eZ facts) ((kF (eZ facts) r).take 2001)) ?hopA ?htailA
  case hopA=>
   refine oC (fun a c h=>by have e3:a.eval (.tmp 3)=(.pointer (some ⟨w.heap.size,0,none⟩):Value):=h.old 3;exact iQ (.pointer (some ⟨w.heap.size,2,none⟩))) ?_;refine oC (fun a c h=>by have b7:a.eval (.tmp 17)=(.pointer (some ⟨w.heap.size,2,none⟩):Value):=h.of 17;have c0:=aB h.z T;exact iQ (.slice (some ⟨b,C,none⟩) p.y.length u)) ?_;refine oC (fun a c h=>by have e1:a.eval (.tmp 1)=(.int .i64 (k:Nat):Value):=h.old 1;exact iQ (.int .i64 (k:Nat))) ?_;refine oC (fun a c h=>by have b8:a.eval (.tmp 18)=(.slice (some ⟨b,C,none⟩) p.y.length u:Value):=h.of 18;have b9:a.eval (.tmp 19)=(.int .i64 (k:Nat):Value):=h.of 19;exact iQ (.pointer (some ⟨b,C+k*5,none⟩))) ?_;refine oC (fun a c h=>by have ba:a.eval (.tmp 20)=(.pointer (some ⟨b,C+k*5,none⟩):Value):=h.of 20;have c0:=aB h.z p0;have c1:=aB h.z p1;have T:=aB h.z p2;have c3:=aB h.z p3;have c4:=aB h.z p4;exact iQ (rZ r (.slice at_ r.v.length Q) (.slice N r.body.length P))) ?_;refine oC (fun a c h=>by have e2:a.eval (.tmp 2)=(.slice E facts.length F:Value):=h.old 2;exact iQ (.slice E facts.length F)) ?_;refine oC (fun a c h=>?_) ?_
   ·have bc:a.eval (.tmp 22)=(.slice E facts.length F:Value):=h.of 22;refine fI (f:=64) (args:=#[.slice E facts.length F]) (bI rfl) ?_ ?_
    ·have ec:=kZ a;have ef:=AO a;generalize a.eval=ev at *;clear h;go_simp
    refine Calls.mono (aR.o c h.z) ?_;rintro _ y2 ⟨K,rfl,b3,J⟩;refine⟨_,rfl,fun t ht=>?_,J⟩;cases ht;exact b3.toV
   refine oC (fun a c h=>?_) ?_
   ·have bb:a.eval (.tmp 21)=(rZ r (.slice at_ r.v.length Q) (.slice N r.body.length P):Value):=h.of 21;have b5:bS c (a.eval (.tmp 23)) (eZ facts):=h.of 23;refine fI (f:=214) (args:=#[rZ r (.slice at_ r.v.length Q) (.slice N r.body.length P),a.eval (.tmp 23)]) (bI rfl) ?_ ?_
    ·have ec:=kZ a;have ef:=AO a;generalize a.eval=ev at *;clear h;go_simp
    refine Calls.mono (aC.o c _ h.z b5) ?_;rintro _ y2 ⟨K,q,rfl,av,a5,J⟩;refine⟨_,rfl,fun t ht=>?_,J⟩;cases ht;exact⟨q,⟨gP av.1 (bP ai.o h.z.size),fun p W=>gP (av.2 p W) (bP ai.o h.z.size)⟩,a5⟩
   exact OI.nil
  case htailA=>
   rintro⟨j,H⟩ c I;obtain⟨q,a3,a5⟩:∃q,AU w.heap.size c (Act.eval ⟨j,H⟩ (.tmp 24)) q/\q.map (·.1)=(kF (eZ facts) r).take 2001:=I.all 7 _ 24 dE rfl rfl;obtain⟨m,n,eo⟩:=bR a3.1;have aj:Act.eval ⟨j,H⟩ (.tmp 24)=.slice m q.length n:=eo;rw[aj]at a3;have ax:j.size=31:=I.size;have a9:O (Below w.heap.size w c):=d.o.trans (I.z.mono d.o.size);show wpOps Tryz.prog _ _ [8] _ _;rw[lH];refine xF (v:=.slice m q.length n) (w':=c) rfl (bI rfl) ?_ ?_
   ·show Sem.run Tryz.prog (execOp (Act.eval ⟨j,H⟩) _) c=_;generalize Act.eval ⟨j,H⟩=ev at *;clear I;go_simp
   (have ay:∀t,t∉[17,18,19,20,21,22,23,24,9]->(j.setIfInBounds 9 (.slice m q.length n)).getD t undef=_:=fun t ht=>by have hA:t≠9:=fun e=>ht (by rw[e];decide);exact(jM (a:=⟨j,H⟩) hA).trans (I.still t ht));have U:(j.setIfInBounds 9 (.slice m q.length n)).getD 9 undef=.slice m q.length n:=jV (a:=⟨j,H⟩) (by show 9<j.size;omega);obtain rfl:H=[]:=I.defers;(have aw:(j.setIfInBounds 9 (.slice m q.length n)).size=31:=by simp[ax]);have aN:O (AU w.heap.size c (.slice m q.length n) q):=a3;have ae:O _:=a5;clear I a3 a5 aj eo ax;show Exit.then _ _ Exit.normal ⟨j.setIfInBounds 9 (.slice m q.length n),[]⟩ c;generalize j.setIfInBounds 9 (.slice m q.length n)=tm at *;obtain⟨fQ,hQ,a6⟩:=oR [17,18,19,20,21,22,23,24,9] tm _ (aw.trans rF) ay;clear aw ay;simp only[List.foldl_cons,List.foldl_nil,(hQ 9).trans U]at a6;clear U hQ;simp only[List.setIfInBounds_toArray,List.set_cons_zero,List.set_cons_succ]at a6;subst a6;clear p0 p1 p2 p3 p4 T;(have au:q.length=min 2001 (kF (eZ facts) r).length:=by have U:=congrArg List.length ae.o;rw[aY,dV]at U;exact U);by_cases hm:2000<q.length
   ·have g1:decide (2000<q.length)=true:=aP hm;have aT:decide ((2000:Int)<(q.length:Int))=true:=aP oM;(have D:O (kI p k facts=2):=by show _=_;unfold kI;rw[if_neg (by rw[ac.o];simp),Y.o,if_pos oM]);clear hm au;go_wp2_with fail;refine dP (lQ rfl _ _ _) rfl ?_;exact⟨_,[],by rw[D.o];rfl,⟨eS _ _ _ _,fun p W=>absurd W sI⟩,by unfold mS;rw[if_pos (by rw[D.o];decide)];rfl,a9.o⟩
   have g1:decide (2000<q.length)=false:=aF hm;have aT:decide ((2000:Int)<(q.length:Int))=false:=aF oM;(have D:O (kI p k facts=0):=by show _=_;unfold kI;rw[if_neg (by rw[ac.o];simp),Y.o,if_neg oM]);(have aO:O (q.map (·.1)=kF (eZ facts) r):=by show _=_;rw[ae.o,dM oM]);have ah:O (Calls Tryz.prog 215 #[.slice m q.length n, .func (.func 110) #[] #[]] c fun e s=>e=.returned (.tuple #[])/\∃q',AU w.heap.size s (.slice m q.length n) q'/\q'.map (·.1)=BD (kF (eZ facts) r)/\Below w.heap.size w s):=bB4 aN.o oM aO.o aJ.o a9.o aS.o;clear hm au;go_wp2_with fail;refine Calls.mono ah.o ?_;rintro _ w5 ⟨rfl,q',ak,b6,b2⟩;have aD:O _:=ak;clear ak ah;go_wp2_with fail;refine dP (lQ rfl _ _ _) rfl ?_;exact⟨_,q',by rw[D.o];rfl,aD.o,by unfold mS;rw[if_neg (by rw[D.o];simp),Y.o];exact b6,b2⟩
 (have g0:(jT p i facts != 0)=true:=by simpa using G);(have D:O (kI p i facts=jT p i facts):=by show _=_;unfold kI;rw[if_pos (by simpa using G)]);have aL:O _:=G;clear G;go_wp2_with fail;refine dP (lQ rfl _ _ _) rfl ?_;exact⟨_,[],by rw[D.o];rfl,⟨eS _ _ _ _,fun p W=>absurd W sI⟩,by unfold mS;rw[if_pos (by rw[D.o];exact aL.o)];rfl,d.o⟩
theorem FD{r:List Int}{j:Nat}(h:j<r.length):r.take (j+1)=r.take j++[cI r j]:=by rw[gQ,aM h];unfold cI;rw[aI,aM h];rfl
theorem aGN{l:List Int}{k:Nat}(h0:0<k)(h:k<l.length):sF (l.take (k+1))=min (sF (l.take k)) (cI l k):=by
 rw[show min (sF (l.take k)) (cI l k)=if cI l k<sF (l.take k)then cI l k else sF (l.take k)from by split<;>omega,FD h]
 cases l with
 |nil=>simp at h
 |cons a r=>
  obtain⟨j,rfl⟩:∃j,k=j+1:=⟨k-1,oM⟩;rw[JT];show(r.take j++[_]).foldl _ a=_;rw[rL];rfl
theorem aGK{l:List Int}{k:Nat}(h0:0<k)(h:k<l.length):sE (l.take (k+1))=max (sE (l.take k)) (cI l k):=by
 rw[show max (sE (l.take k)) (cI l k)=if sE (l.take k)<cI l k then cI l k else sE (l.take k)from by split<;>omega,FD h]
 cases l with
 |nil=>simp at h
 |cons a r=>
  obtain⟨j,rfl⟩:∃j,k=j+1:=⟨k-1,oM⟩;rw[JT];show(r.take j++[_]).foldl _ a=_;rw[rL];rfl
theorem aJ7{l:List Int}(h:0<l.length):sF (l.take 1)=cI l 0:=by
 cases l with
 |nil=>simp at h
 |cons a r=>rfl
theorem aJ6{l:List Int}(h:0<l.length):sE (l.take 1)=cI l 0:=by
 cases l with
 |nil=>simp at h
 |cons a r=>rfl
theorem tG{w:World}{ao:Option Addr}{l:List Int}(h:vS w ao l){k:Nat}(d:k<l.length):∃b c,ao=some ⟨b,c,none⟩/\w.cell? ⟨b,c+k,none⟩=some (.int .i64 (cI l k)):=by
 rcases h with h|⟨b,c,e,f⟩
 ·rw[h]at d;exact absurd d sI
 exact⟨b,c,e,f k d⟩
theorem bDV(l:List Int)(v:Value)(w:World)(r:eT w v l)(h0:0<l.length)(L:l.length<=1000000):Calls Tryz.prog 237 #[v] w fun e D=>e=.returned (.int .i64 (sF l))/\D=w:=by
 obtain⟨E,cap,rfl,d⟩:=r;obtain⟨b,M,rfl,s⟩:=tG d h0;have g:O _:=d;have j:O _:=aJ7 h0;have G:decide ((l.length:Int)<1)=false:=aF oM;have H:decide (l.length<1)=false:=aF oM;clear d;rw[BQ]at s
 go_enter Tryz.func237,Tryz.ntmps237
 go_wp2_with fail;go_loopw [3,4] (fun C iv wr=>w=wr/\∃k:Nat,0<k/\k<=l.length/\iv=.int .i64 k/\C=.int .i64 (sF (l.take k))) (fun _ iv _=>l.length-(intOf iv).toNat);case atStart=>exact⟨rfl,1,oM,oM,rfl,by rw[j.o]⟩
 case round=>
  obtain⟨rfl,k,u,K,rfl,rfl⟩:=hrel;by_cases c:k<l.length
  ·obtain⟨F,N,f,I⟩:=tG g.o c;injection f with f;injection f with p q;subst p q;have n:O _:=aGN u c;generalize sF (l.take k)=m at *;generalize cI l k=x at *;go_wp2_with fail;go_roundw;(case rel=>exact⟨trivial,k+1,oM,c,gN,by rw[n.o]⟩);case measure=>exact mI
  have J:decide (k<l.length)=false:=aF c;(have i:O (sF (l.take k)=sF l):=by show _=_;rw[dM oM]);go_wp2_with fail;go_ret;exact⟨by rw[<-i.o];rfl,rfl⟩
theorem bDQ(l:List Int)(v:Value)(w:World)(r:eT w v l)(h0:0<l.length)(L:l.length<=1000000):Calls Tryz.prog 238 #[v] w fun e D=>e=.returned (.int .i64 (sE l))/\D=w:=by
 obtain⟨E,cap,rfl,d⟩:=r;obtain⟨b,M,rfl,s⟩:=tG d h0;have g:O _:=d;have j:O _:=aJ6 h0;have G:decide ((l.length:Int)<1)=false:=aF oM;have H:decide (l.length<1)=false:=aF oM;clear d;rw[BQ]at s
 go_enter Tryz.func238,Tryz.ntmps238
 go_wp2_with fail;go_loopw [3,4] (fun C iv wr=>w=wr/\∃k:Nat,0<k/\k<=l.length/\iv=.int .i64 k/\C=.int .i64 (sE (l.take k))) (fun _ iv _=>l.length-(intOf iv).toNat);case atStart=>exact⟨rfl,1,oM,oM,rfl,by rw[j.o]⟩
 case round=>
  obtain⟨rfl,k,u,K,rfl,rfl⟩:=hrel;by_cases c:k<l.length
  ·obtain⟨F,N,f,I⟩:=tG g.o c;injection f with f;injection f with p q;subst p q;have n:O _:=aGK u c;generalize sE (l.take k)=m at *;generalize cI l k=x at *;go_wp2_with fail;go_roundw;(case rel=>exact⟨trivial,k+1,oM,c,gN,by rw[n.o]⟩);case measure=>exact mI
  have J:decide (k<l.length)=false:=aF c;(have i:O (sE (l.take k)=sE l):=by show _=_;rw[dM oM]);go_wp2_with fail;go_ret;exact⟨by rw[<-i.o];rfl,rfl⟩
theorem bB6{l:List Int}{k:Nat}(h:k<l.length):(l.take (k+1)).sum=(l.take k).sum+cI l k:=by rw[FD h,List.sum_append];simp
theorem XI:∀{l:List Int},(∀n,n∈l->dJ n=true)->l.sum<=1000000*(l.length:Int)/\ -(1000000*(l.length:Int))<=l.sum
 |[],_=>by simp
 |a::r,h=>by have d:=XI (l:=r) (fun n c=>h n (bY _ c));have b:=h a dL;unfold dJ at b;have e:=mK.mp b;rw[List.sum_cons,nJ];omega
theorem PX(f:Int)(l:List Int)(v:Value)(w:World)(i:eT w v l)(h0:0<l.length)(r:l.length<=1000000)(q:∀n,n∈l->dJ n=true):Calls Tryz.prog 218 #[.int .i64 f,v] w fun e H=>e=.returned (.int .i64 (gL f l))/\H=w:=by
 have HV:O _:=i;obtain⟨J,cap,rfl,p⟩:=id i;by_cases c:f=1
 ·subst c
  go_enter Tryz.func218,Tryz.ntmps218
  go_wp2_with fail;go_ret;exact⟨rfl,rfl⟩
 by_cases d:f=3
 ·subst d
  go_enter Tryz.func218,Tryz.ntmps218
  go_wp2_with fail;refine Calls.mono (bDV l _ w HV.o h0 r) ?_;rintro _ I ⟨rfl,rfl⟩;go_wp2_with fail;go_ret;exact⟨rfl,rfl⟩
 by_cases g:f=4
 ·subst g
  go_enter Tryz.func218,Tryz.ntmps218
  go_wp2_with fail;refine Calls.mono (bDQ l _ w HV.o h0 r) ?_;rintro _ I ⟨rfl,rfl⟩;go_wp2_with fail;go_ret;exact⟨rfl,rfl⟩
 (have C:O (gL f l=l.sum):=by show _=_;unfold gL;rw[if_neg c,if_neg d,if_neg g]);(have L:(f==1)=false:=by simpa using c);(have M:(f==3)=false:=by simpa using d);(have N:(f==4)=false:=by simpa using g);have u:O _:=p;have E:O _:=q;clear c d g p i q
 go_enter Tryz.func218,Tryz.ntmps218
 go_wp2_with fail;go_loopw [5,23] (fun G iv wr=>w=wr/\∃k:Nat,k<=l.length/\iv=.int .i64 k/\G=.int .i64 (l.take k).sum) (fun _ iv _=>l.length-(intOf iv).toNat);case atStart=>exact⟨rfl,0,oM,rfl,rfl⟩
 case round=>
  obtain⟨rfl,k,R,rfl,rfl⟩:=hrel;by_cases b:k<l.length
  ·obtain⟨K,T,rfl,P⟩:=tG u.o b;have j:O _:=bB6 b;have s:=XI (l:=l.take (k+1)) (fun n F=>E.o n (mC F));rw[j.o,dV,FT b]at s;(have S:IntKind.i64.wrap ((l.take k).sum+cI l k)=(l.take k).sum+cI l k:=by simp[IntKind.wrap,IntKind.bits,IntKind.signed];omega);clear s;generalize (l.take k).sum=m at *;generalize cI l k=x at *;go_wp2_with fail;go_roundw;(case rel=>exact⟨trivial,k+1,b,gN,by rw[j.o]⟩);case measure=>exact mI
  have Q:decide (k<l.length)=false:=aF b;(have D:O ((l.take k).sum=l.sum):=by show _=_;rw[dM oM]);go_wp2_with fail;go_ret;exact⟨by rw[C.o,<-D.o];rfl,rfl⟩
end Go.Proofs.YtfljoehbbncooaaGreat
namespace Go.Proofs.YtfljoehbbncooaaGreat
open Go.RowKit
end Go.Proofs.YtfljoehbbncooaaGreat
namespace Go.Proofs.YtfljoehbbncooaaGreat
open Go.RowKit
end Go.Proofs.YtfljoehbbncooaaGreat
namespace Go.Proofs.YtfljoehbbncooaaGreat
open Go.RowKit
end Go.Proofs.YtfljoehbbncooaaGreat
namespace Go.Proofs.YtfljoehbbncooaaGreat
open Go.RowKit
end Go.Proofs.YtfljoehbbncooaaGreat
namespace Go.Proofs.YtfljoehbbncooaaGreat
open Go.RowKit
end Go.Proofs.YtfljoehbbncooaaGreat
namespace Go.Proofs.YtfljoehbbncooaaGreat
open Go.RowKit
end Go.Proofs.YtfljoehbbncooaaGreat
namespace Go.Proofs.YtfljoehbbncooaaGreat
open Go.RowKit Go.Sort Go.Lib
end Go.Proofs.YtfljoehbbncooaaGreat
namespace Go.Proofs.YtfljoehbbncooaaGreat
open Go.RowKit
end Go.Proofs.YtfljoehbbncooaaGreat
namespace Go.Proofs.YtfljoehbbncooaaGreat
open Go.RowKit
end Go.Proofs.YtfljoehbbncooaaGreat
namespace Go.Proofs.YtfljoehbbncooaaGreat
open Go.RowKit
end Go.Proofs.YtfljoehbbncooaaGreat
namespace Go.Proofs.YtfljoehbbncooaaGreat
open Go.RowKit
end Go.Proofs.YtfljoehbbncooaaGreat
namespace Go.Proofs.YtfljoehbbncooaaGreat
open Go.RowKit
end Go.Proofs.YtfljoehbbncooaaGreat
namespace Go.Proofs.YtfljoehbbncooaaGreat
open Go.RowKit
end Go.Proofs.YtfljoehbbncooaaGreat
namespace Go.Proofs.YtfljoehbbncooaaGreat
open Go.RowKit
end Go.Proofs.YtfljoehbbncooaaGreat
namespace Go.Proofs.YtfljoehbbncooaaGreat
open Go.RowKit
end Go.Proofs.YtfljoehbbncooaaGreat
namespace Go.Proofs.YtfljoehbbncooaaGreat
open Go.RowKit
end Go.Proofs.YtfljoehbbncooaaGreat
namespace Go.Proofs.YtfljoehbbncooaaGreat
open Go.Shelf Go.RowKit Go.Lib Go.Sort
end Go.Proofs.YtfljoehbbncooaaGreat
namespace Go.Proofs.YtfljoehbbncooaaGreat
open Go.RowKit
end Go.Proofs.YtfljoehbbncooaaGreat
namespace Go.Proofs.YtfljoehbbncooaaGreat
open Go.RowKit
end Go.Proofs.YtfljoehbbncooaaGreat
namespace Go.Proofs.YtfljoehbbncooaaGreat
open Go.RowKit
end Go.Proofs.YtfljoehbbncooaaGreat
namespace Go.Proofs.YtfljoehbbncooaaGreat
open Go.RowKit
end Go.Proofs.YtfljoehbbncooaaGreat
namespace Go.Proofs.YtfljoehbbncooaaGreat
open Go.RowKit
end Go.Proofs.YtfljoehbbncooaaGreat
namespace Go.Proofs.YtfljoehbbncooaaGreat
open Go.RowKit Go.Shelf
attribute [local go_sem] Oper.semAt_some
end Go.Proofs.YtfljoehbbncooaaGreat
namespace Go.Proofs.YtfljoehbbncooaaGreat
open Go.RowKit
end Go.Proofs.YtfljoehbbncooaaGreat
namespace Go.Proofs.YtfljoehbbncooaaGreat
open Go.RowKit
end Go.Proofs.YtfljoehbbncooaaGreat
namespace Go.Proofs.YtfljoehbbncooaaGreat
open Go.RowKit
end Go.Proofs.YtfljoehbbncooaaGreat
namespace Go.Proofs.YtfljoehbbncooaaGreat
open Go.RowKit
end Go.Proofs.YtfljoehbbncooaaGreat
namespace Go.Proofs.YtfljoehbbncooaaGreat
open Go.RowKit
end Go.Proofs.YtfljoehbbncooaaGreat
namespace Go.Proofs.YtfljoehbbncooaaGreat
open Go.RowKit
end Go.Proofs.YtfljoehbbncooaaGreat
namespace Go.Proofs.YtfljoehbbncooaaGreat
open Go.RowKit
end Go.Proofs.YtfljoehbbncooaaGreat
namespace Go.Proofs.YtfljoehbbncooaaGreat
open Go.Shelf Go.RowKit Go.Lib Go.Sort
end Go.Proofs.YtfljoehbbncooaaGreat
namespace Go.Proofs.YtfljoehbbncooaaGreat
open Go.RowKit
end Go.Proofs.YtfljoehbbncooaaGreat
namespace Go.Proofs.YtfljoehbbncooaaGreat
open Go.RowKit
end Go.Proofs.YtfljoehbbncooaaGreat
namespace Go.Proofs.YtfljoehbbncooaaGreat
open Go.RowKit
end Go.Proofs.YtfljoehbbncooaaGreat
namespace Go.Proofs.YtfljoehbbncooaaGreat
open Go.RowKit
theorem PM:Tryz.prog.cellsOf 3=1:=kR
section
variable {H:Type} {enc:TypeId×Value->H} {w:World} {base:Nat} {spare:Nat->Bool} {held:Bool}
theorem bBP{α:Type}{M e:TypeId}{k:Nat}(ht:Tryz.prog.underlying M=some (.slice e))(K:Tryz.prog.cellsOf e=k)(U:0<k)(d:α)(r:Nat->Nat->α->Prop)
 (P:∀n f y b c,f.length=k->(∀j,j<k->w.cell? ⟨b,c+j,none⟩=f[j]?)->DataW.trod enc Tryz.prog w base spare held n e f=some y->∃a,r b c a)
 {Q:Nat} {v:Value} {x:DataW H×List MemPlace} (h:DataW.trod enc Tryz.prog w base spare held Q M [v]=some x):
 ∃(ao:Option Addr)(l:List α)(cap:Nat),v=.slice ao l.length cap/\l.length<=9223372036854775807/\(l=[]\/∃b c,ao=some ⟨b,c,none⟩/\∀i,i<l.length->r b (c+i*k) (l.getD i d)):=by
 haveI:Inhabited α:=⟨d⟩
 rcases Deep.open_slice ht h with⟨C,_⟩|⟨a,len,cap,m,n,D,Pl,C,hb,hl,V,W,hx,G⟩
 ·(have p:v=.slice none 0 0:=by simpa using C);exact⟨none,[],0,p,by simp, .inl rfl⟩
 (have p:v=.slice (some a) len cap:=by simpa using C);(have a0:len<=m:=by rw[W];split<;>omega);by_cases R:len=0
 ·subst R;exact⟨some a,[],cap,p,by simp, .inl rfl⟩
 obtain⟨b,c,Z⟩:=a;have Y:Z=none:=by
  obtain⟨f,g,_⟩:=G 0 oM;rw[K]at g;obtain⟨_,L,s⟩:=World.cells?_some g;have E:=s 0 U
  cases F:f[0]? with
  |none=>rw[List.getElem?_eq_none_iff]at F;omega
  |some u=>
   rw[F]at E;simpa[Addr.add]using World.cell?_spot E
 subst Y;(have N:∀i,i<len->∃q:α,r b (c+i*k) q:=by intro i I;obtain⟨f,g,S⟩:=G i oM;rw[K]at g;obtain⟨_,L,s⟩:=World.cells?_some g;refine P n f _ b (c+i*k) L (fun j T=>?_) S;have :=s j T;rw[Deep.add_add,WideShapes.add_plain]at this;rw[<-this,FY]);(obtain⟨q,X⟩:=Deep.choose_lt N;refine⟨some ⟨b,c,none⟩,(List.range len).map q,cap,by rw[p];simp,by unfold maxLen at V;simp;omega, .inr ⟨b,c,rfl,fun i I=>?_⟩⟩;(have J:i<len:=by simpa using I);have ht:((List.range len).map q).getD i d=q i:=by rw[aI,dW,CR J];rfl);rw[ht];exact X i J
theorem KR{t:TypeId}{b c:Field}{i:Nat}{d:List Value}{x:DataW H×List MemPlace}(ht:Tryz.prog.underlying t=some (.struct #[b,c]))(h:DataW.trod enc Tryz.prog w base spare held i t d=some x):
 ∃e f n,d.length=Tryz.prog.cellsOf t/\DataW.trod enc Tryz.prog w base spare held n b.type ((d.drop b.offset).take (Tryz.prog.cellsOf b.type))=some e/\
  DataW.trod enc Tryz.prog w base spare held n c.type ((d.drop c.offset).take (Tryz.prog.cellsOf c.type))=some f:=by
 obtain⟨l,n,_,rfl,j,k,g⟩:=DataW.trod_struct ht h
 match l,k with
 |[e,f],_=>exact⟨e,f,n,j,by simpa using g 0 b rfl,by simpa using g 1 c rfl⟩
end
end Go.Proofs.YtfljoehbbncooaaGreat
namespace Go.Proofs.YtfljoehbbncooaaGreat
open Go.RowKit
theorem aUZ:Tryz.prog.cellsOf 72=2:=kR
theorem aDN:Tryz.prog.cellsOf 22=1:=kR
section
variable {H:Type} {enc:TypeId×Value->H} {w:World} {base:Nat} {spare:Nat->Bool} {held:Bool}
theorem EE{α:Type}{s e:TypeId}{k:Nat}(ht:Tryz.prog.underlying s=some (.slice e))(I:Tryz.prog.cellsOf e=k)(J:0<k)(d:α)(g:Nat->Nat->α->Prop)
 (C:∀n p y b f,p.length=k->(∀j,j<k->w.cell? ⟨b,f+j,none⟩=p[j]?)->DataW.trod enc Tryz.prog w base spare held n e p=some y->∃a,g b f a)
 {E:Nat} {v:Value} {x:DataW H×List MemPlace} (h:DataW.trod enc Tryz.prog w base spare held E s [v]=some x):
 ∃(ao:Option Addr)(l:List α)(cap:Nat),v=.slice ao l.length cap/\l.length<=cap/\l.length<=9223372036854775807/\(l=[]\/∃b f,ao=some ⟨b,f,none⟩/\∀i,i<l.length->g b (f+i*k) (l.getD i d)):=by
 obtain⟨ao,l,cap,q,L,K⟩:=bBP ht I J d g C h;refine⟨ao,l,cap,q,?_,L,K⟩;rcases Deep.open_slice ht h with⟨r,_⟩|⟨a,len,u,m,n,D,M,r,N,P,_⟩
 ·(have c:v=.slice none 0 0:=by simpa using r);rw[q]at c;injection c with _ F G;omega
 (have c:v=.slice (some a) len u:=by simpa using r);rw[q]at c;injection c with _ F G;omega
theorem Mg{j:Nat}{v:Value}{x:DataW H×List MemPlace}(h:DataW.trod enc Tryz.prog w base spare held j 22 [v]=some x):∃l,eT w v l/\l.length<=9223372036854775807:=by
 obtain⟨f,l,cap,u,_,s,q⟩:=EE Tryz.underlying22 PM dE (0:Int) (fun b c a=>w.cell? ⟨b,c,none⟩=some (.int .i64 a)) (fun n g y b c r d k=>by
  match g,r with
  |[D],_=>
   obtain⟨C,e,_,_⟩:=DataW.trod_int Tryz.underlying3 k;simp at e;subst e
   exact⟨C,d 0 dE⟩) h
 refine⟨l,⟨f,cap,u,?_⟩,s⟩;rcases q with h|⟨b,c,m,d⟩
 ·exact .inl h
 exact .inr ⟨b,c,m,fun i p=>by have :=d i p;rw[Nat.mul_one]at this;exact this⟩
theorem aXB{e:Nat}{v0 v1:Value}{x:DataW H×List MemPlace}(h:DataW.trod enc Tryz.prog w base spare held e 72 [v0,v1]=some x):∃k args,v0=.int .i64 k/\eT w v1 args/\args.length<=9223372036854775807:=by obtain⟨l,m,n,_,c,d⟩:=KR Tryz.underlying72 h;simp[PM,aDN]at c d;obtain⟨i,b,_,_⟩:=DataW.trod_int Tryz.underlying3 c;obtain⟨j,f,g⟩:=Mg d;simp at b;exact⟨i,j,b,f,g⟩
end
end Go.Proofs.YtfljoehbbncooaaGreat
namespace Go.Proofs.YtfljoehbbncooaaGreat
open Go.RowKit
section
variable {H:Type} {enc:TypeId×Value->H} {w:World} {base:Nat} {spare:Nat->Bool} {held:Bool}
theorem aMP{I:Nat}{v:Value}{x:DataW H×List MemPlace}(h:DataW.trod enc Tryz.prog w base spare held I 30 [v]=some x):∃l,bS w v l/\l.length<=9223372036854775807/\∀f,f∈l->gD f:=by
 obtain⟨u,l,cap,k,L,Q,s⟩:=EE Tryz.underlying30 aUZ dE (⟨0,[]⟩:aQ) (fun b j f=>QP w b j f/\gD f) (fun n F y b j N c q=>by
  match F,N with
  |[U,S],_=>
   obtain⟨R,C,G,K,P⟩:=aXB q
   exact⟨⟨R,C⟩,⟨by rw[<-G];exact c 0 dE,S,c 1 dE,K⟩,P⟩) h
 refine⟨l,⟨u,cap,k,⟨L,fun e=>?_⟩,?_⟩,Q,fun f M=>?_⟩
 ·subst e;rcases Deep.open_slice Tryz.underlying30 h with⟨p,_⟩|⟨a,len,E,m,n,D,T,p,_⟩
  ·(have g:v=.slice none 0 0:=by simpa using p);rw[k]at g;injection g with _ _ q
  (have g:v=.slice (some a) len E:=by simpa using p);rw[k]at g;injection g with J;cases J
 ·rcases s with h|⟨b,j,r,c⟩
  ·exact .inl h
  exact .inr ⟨b,j,r,fun i d=>(c i d).1⟩
 obtain⟨i,d,rfl⟩:=tO M;rcases s with h|⟨b,j,r,c⟩
 ·rw[h]at d;simp at d
 have :=(c i d).2;rwa[aI,aM d]at this
end
end Go.Proofs.YtfljoehbbncooaaGreat
namespace Go.Proofs.YtfljoehbbncooaaGreat
structure fK where
 a:Int
 n:Int
deriving DecidableEq
structure aX where
 id:fK
 ps:List fK
 says:List aQ
 ts:List fK
def fR(x:fK):Bool:=decide (0<=x.a/\x.a<=5/\1<=x.n/\x.n<=200)
def gO(x y:fK):Int:=if fX x.a y.a=0 then fX x.n y.n else fX x.a y.a
def dI{α:Type}(o:α->α->Int):List α->Bool
 |x::y::r=>decide (o x y<0)&&dI o (y::r)
 |_=>true
def jK(n:Int):Bool:=decide (-1000000<=n/\n<=1000000)
def gS(f:aQ):Bool:=decide (0<=f.g/\f.g<=9/\f.args.length<=3)&&f.args.all jK
def FJ(u:aX):Bool:=decide (1<u.id.n)&& !(u.ps.contains (fK.mk u.id.a (u.id.n-1)))
def eV(u:aX):Int:=
 if fR u.id=false then 3
 else if 6<u.ps.length\/6<u.says.length\/6<u.ts.length then 2
 else if u.ps.all fR=false\/u.ts.all fR=false then 3
 else if dI gO u.ps=false\/dI gO u.ts=false then 4
 else if FJ u=true then 5
 else if u.says.all gS=false then 3
 else if dI eU u.says=false then 4 else 0
structure nB (u:aX):Prop where
 id:fR u.id=true
 ps:u.ps.length<=6
 says:u.says.length<=6
 ts:u.ts.length<=6
 pid:∀x,x∈u.ps->fR x=true
 tid:∀x,x∈u.ts->fR x=true
 fs:∀f,f∈u.says->gS f=true
theorem WI{u:aX}(h:eV u=0):nB u:=by
 unfold eV at h;split at h
 ·cases h
 rename_i g;split at h
 ·cases h
 rename_i j;split at h
 ·cases h
 rename_i d;split at h
 ·cases h
 split at h
 ·cases h
 split at h
 ·cases h
 rename_i i;(have e:fR u.id=true:=by simpa using g);have c:u.ps.all fR=true/\u.ts.all fR=true:=by
  constructor
  ·cases b:u.ps.all fR with
   |true=>rfl
   |false=>exact absurd (Or.inl b) d
  cases b:u.ts.all fR with
  |true=>rfl
  |false=>exact absurd (Or.inr b) d
 have f:u.says.all gS=true:=by
  cases b:u.says.all gS with
  |true=>rfl
  |false=>exact absurd b i
 exact⟨e,oM,oM,oM,fun x b=>fA.mp c.1 x b,fun x b=>fA.mp c.2 x b,fun x b=>fA.mp f x b⟩
abbrev oX:=List UInt8
abbrev yH(α:Type):=oX->Option (α×oX)
end Go.Proofs.YtfljoehbbncooaaGreat
namespace Go.Proofs.YtfljoehbbncooaaGreat
open Go.RowKit
abbrev rY(x:fK):Value:=.agg #[.int .i64 x.a, .int .i64 x.n]
def GS(l:List fK)(i:Nat):fK:=l.getD i ⟨0,0⟩
def bGU(w:World)(b off:Nat)(x:fK):Prop:=w.cell? ⟨b,off,none⟩=some (.int .i64 x.a)/\w.cell? ⟨b,off+1,none⟩=some (.int .i64 x.n)
def IP(w:World)(ao:Option Addr)(l:List fK):Prop:=l=[]\/∃b c,ao=some ⟨b,c,none⟩/\∀i,i<l.length->bGU w b (c+i*2) (GS l i)
def uI(w:World)(v:Value)(l:List fK):Prop:=∃b cap,v=.slice b l.length cap/\(l.length<=cap/\(b=none->cap=0))/\IP w b l
theorem iO{w w':World}{v:Value}{l:List fK}(h:uI w v l)(c:Below w.heap.size w w'):uI w' v l:=by
 obtain⟨e,cap,rfl,f,h⟩:=h;refine⟨e,cap,rfl,f,?_⟩;rcases h with h|⟨b,g,rfl,h⟩
 ·exact .inl h
 exact .inr ⟨b,g,rfl,fun i d=>⟨aB c (h i d).1,aB c (h i d).2⟩⟩
theorem FM{w:World}{ao:Option Addr}{l:List fK}(h:IP w ao l)(i:Nat)(d:i<l.length):∃b c,ao=some ⟨b,c,none⟩/\bGU w b (c+i*2) (GS l i):=by
 rcases h with h|⟨b,c,e,f⟩
 ·rw[h]at d;exact absurd d sI
 exact⟨b,c,e,f i d⟩
theorem aL3(l:List fK)(k:Nat)(b:k<l.length):l.drop k=GS l k::l.drop (k+1):=by rw[dA b];simp[GS,List.getD_eq_getElem?_getD,b]
theorem ZU(x:fK)(w:World):Calls Tryz.prog 128 #[rY x] w fun e s=>e=.returned (.bool (!fR x))/\Gr w s:=by
 obtain⟨a,n⟩:=x;have b:O (Gr w (w.alloc (.cells #[.int .i64 a, .int .i64 n] 39))):=(Gr.refl w).alloc _;have d:O _:=bA w (.cells #[.int .i64 a, .int .i64 n] 39);have c:O (fR ⟨a,n⟩=(decide (0<=a)&&(decide (a<=5)&&(decide (1<=n)&&decide (n<=200))))):=by show _=_;unfold fR;simp only[Bool.decide_and]
 go_enter Tryz.func128,Tryz.ntmps128
 go_upto_region 1 with fail;generalize w.alloc (.cells #[.int .i64 a, .int .i64 n] 39)=k at *;(have c0:k.cell? ⟨w.heap.size,0,none⟩=some (.int .i64 a):=cH d.o);(have u:k.cell? ⟨w.heap.size,1,none⟩=some (.int .i64 n):=cH d.o);by_cases f:a<0
 ·have l:decide (a<0)=true:=aP f;go_wp2_with fail;go_ret;exact⟨by rw[c.o,aF (p:=0<=a) oM];rfl,b.o⟩
 have l:decide (a<0)=false:=aF f;by_cases g:6<=a
 ·have m:decide (6<=a)=true:=aP g;go_wp2_with fail;go_ret;exact⟨by rw[c.o,aP (p:=0<=a) oM,aF (p:=a<=5) oM];rfl,b.o⟩
 have m:decide (6<=a)=false:=aF g;by_cases i:n<1
 ·have q:decide (n<1)=true:=aP i;go_wp2_with fail;go_ret;exact⟨by rw[c.o,aP (p:=0<=a) oM,aP (p:=a<=5) oM,aF (p:=1<=n) oM];rfl,b.o⟩
 have q:decide (n<1)=false:=aF i;by_cases j:200<n
 ·have r:decide (200<n)=true:=aP j;go_wp2_with fail;go_ret;exact⟨by rw[c.o,aP (p:=0<=a) oM,aP (p:=a<=5) oM,aP (p:=1<=n) oM,aF (p:=n<=200) oM];rfl,b.o⟩
 have r:decide (200<n)=false:=aF j;go_wp2_with fail;go_ret;exact⟨by rw[c.o,aP (p:=0<=a) oM,aP (p:=a<=5) oM,aP (p:=1<=n) oM,aP (p:=n<=200) oM];rfl,b.o⟩
theorem zP{α:Type}(o:α->α->Int)(d:α):∀(l:List α)(k:Nat),k+1<l.length->dI o (l.drop k)=(decide (o (l.getD k d) (l.getD (k+1) d)<0)&&dI o (l.drop (k+1)))
 |[],k,h=>by simp at h
 |[_],k,h=>by simp at h
 |x::y::r,0,_=>rfl
 |x::y::r,k+1,h=>by rw[List.drop_succ_cons,zP o d (y::r) k (by simpa using h)];rfl
theorem BG{α:Type}(o:α->α->Int):∀(l:List α)(k:Nat),¬k+1<l.length->dI o (l.drop k)=true
 |[],k,_=>by simp[dI]
 |[_],0,_=>rfl
 |[_],k+1,_=>by simp[dI]
 |_::_::_,0,h=>absurd sI h
 |x::y::r,k+1,h=>by rw[List.drop_succ_cons];exact BG o (y::r) k (by simpa using h)
theorem aAT(x y:fK)(w:World):Calls Tryz.prog 131 #[rY x,rY y] w fun e D=>e=.returned (.int .i64 (gO x y))/\Gr w D:=by
 obtain⟨p,n⟩:=x;obtain⟨q,m⟩:=y;have g:O (Gr w (((w.alloc (.cells #[.int .i64 p, .int .i64 n] 39)).alloc (.cells #[.int .i64 q, .int .i64 m] 39)))):=((Gr.refl w).alloc _).alloc _;have d:=xE (w:=w) (o1:=.cells #[.int .i64 p, .int .i64 n] 39) (o2:=.cells #[.int .i64 q, .int .i64 m] 39) (aG _ _);have r:O (gO ⟨p,n⟩ ⟨q,m⟩=Bb (fX p q) (fX n m)):=rfl
 go_enter Tryz.func131,Tryz.ntmps131
 go_upto_region 1 with fail;generalize (w.alloc (.cells #[.int .i64 p, .int .i64 n] 39)).alloc (.cells #[.int .i64 q, .int .i64 m] 39)=c at *;(have c0:c.cell? ⟨w.heap.size,0,none⟩=some (.int .i64 p):=cH d.1);(have s:c.cell? ⟨w.heap.size,1,none⟩=some (.int .i64 n):=cH d.1);(have u:c.cell? ⟨w.heap.size+1,0,none⟩=some (.int .i64 q):=cH d.2);(have C:c.cell? ⟨w.heap.size+1,1,none⟩=some (.int .i64 m):=cH d.2);clear d;have j:∀a b o,Gr a b->Gr a (b.alloc o):=fun _ _ o h=>h.alloc o;have k:∀a b,Gr a b->Gr a b.drew:=fun _ _ h=>h.drew;have l:Gr c c:=Gr.refl c
 go_region_held3 (fun f=>f.cell? ⟨w.heap.size,0,none⟩=some (.int .i64 p)/\f.cell? ⟨w.heap.size,1,none⟩=some (.int .i64 n)/\f.cell? ⟨w.heap.size+1,0,none⟩=some (.int .i64 q)/\f.cell? ⟨w.heap.size+1,1,none⟩=some (.int .i64 m)/\Gr c f) (go_keep) (first
  |(go_at_call 109;refine Calls.mono (Yg _ _ _) ?_;rintro e E ⟨rfl,rfl⟩)
  |(go_at_call 108;refine Calls.mono (aTS _ (fX p q) (fX n m) _ ?_ ?_) ?_;(simp);(simp);rintro e E ⟨rfl,rfl⟩))
 have i:O (Gr w (c.alloc (.cells #[.int .i64 (fX p q), .int .i64 (fX n m)] 3)).drew):=(g.o.alloc _).drew;clear j k l c0 s u C g;go_wp2_with fail;go_ret;exact⟨by rw[r.o];rfl,i.o⟩
theorem TY(x y:fK)(w:World):Calls Tryz.prog 55 #[rY x,rY y] w fun e u=>e=.returned (.int .i64 (gO x y))/\Gr w u:=by
 obtain⟨p,n⟩:=x;obtain⟨q,m⟩:=y;have c:O (Gr w (((w.alloc (.cells #[.int .i64 p, .int .i64 n] 39)).alloc (.cells #[.int .i64 q, .int .i64 m] 39)))):=((Gr.refl w).alloc _).alloc _;have d:=xE (w:=w) (o1:=.cells #[.int .i64 p, .int .i64 n] 39) (o2:=.cells #[.int .i64 q, .int .i64 m] 39) (aG _ _);have b:O (gO ⟨p,n⟩ ⟨q,m⟩=if fX p q=0 then fX n m else fX p q):=rfl
 go_enter Tryz.func55,Tryz.ntmps55
 go_upto_region 1 with fail;generalize (w.alloc (.cells #[.int .i64 p, .int .i64 n] 39)).alloc (.cells #[.int .i64 q, .int .i64 m] 39)=i at *;(have c0:i.cell? ⟨w.heap.size,0,none⟩=some (.int .i64 p):=cH d.1);(have C:i.cell? ⟨w.heap.size,1,none⟩=some (.int .i64 n):=cH d.1);(have D:i.cell? ⟨w.heap.size+1,0,none⟩=some (.int .i64 q):=cH d.2);(have E:i.cell? ⟨w.heap.size+1,1,none⟩=some (.int .i64 m):=cH d.2);clear d;by_cases f:p=q
 ·subst f;have F:decide (p<p)=false:=aF oM;have G:decide (p=p)=true:=aP rfl;(have r:(p==p)=true:=by simp);rw[EX,if_pos rfl]at b;by_cases l:n=m
  ·subst l;(have s:(n==n)=true:=by simp);go_wp2_with fail;go_ret;exact⟨by rw[b.o,EX];rfl,c.o⟩
  (have s:(n==m)=false:=by simpa using l);by_cases k:n<m
  ·have g:decide (n<m)=true:=aP k;go_wp2_with fail;go_ret;exact⟨by rw[b.o];unfold fX;rw[if_pos k];rfl,c.o⟩
  have g:decide (n<m)=false:=aF k;go_wp2_with fail;go_ret;exact⟨by rw[b.o];unfold fX;rw[if_neg oM,if_pos oM];rfl,c.o⟩
 (have r:(p==q)=false:=by simpa using f);have H:decide (p=q)=false:=aF f;rw[if_neg (fun h=>f (mR.mp h))]at b;by_cases j:p<q
 ·have g:decide (p<q)=true:=aP j;go_wp2_with fail;go_ret;exact⟨by rw[b.o];unfold fX;rw[if_pos j];rfl,c.o⟩
 have g:decide (p<q)=false:=aF j;go_wp2_with fail;go_ret;exact⟨by rw[b.o];unfold fX;rw[if_neg oM,if_pos oM];rfl,c.o⟩
theorem Qd(l:List fK)(v:Value)(w:World)(hV:uI w v l)(hl:l.length<=1000000):Calls Tryz.prog 29 #[v] w fun e g=>e=.returned (.bool (dI gO l))/\Below w.heap.size w g:=by
 obtain⟨ao,cap,rfl,_,V⟩:=hV;have R:O (IP w ao l):=V;clear V
 go_enter Tryz.func29,Tryz.ntmps29
 go_wp2_with fail;go_loopw [3] (fun iv wr=>∃k:Nat,1<=k/\k<=l.length+1/\iv=.int .i64 k/\O (dI gO l=dI gO (l.drop (k-1)))/\Below w.heap.size w wr) (fun iv _=>l.length+2-(intOf iv).toNat);case atStart=>exact⟨1,aH _,oM,rfl,rfl,aG _ _⟩
 case round=>
  obtain⟨k,a5,hk,rfl,D,d⟩:=hrel;obtain⟨j,I⟩:∃j,k=j+1:=⟨k-1,oM⟩;by_cases W:k<l.length
  ·have a3:j<l.length:=oM;(have a7:IntKind.i64.wrap ((k:Int)-1)=(j:Int):=by have e:((k:Int)-1)=(j:Int):=oM;rw[e];simp[IntKind.wrap,IntKind.bits,IntKind.signed];omega);(have u:O (dI gO l=(decide (gO (GS l j) (GS l k)<0)&&dI gO (l.drop j.succ))):=by show _=_;rw[D.o,I,qS];exact zP gO ⟨0,0⟩ l j oM);have a2:O (k=j+1):=I;clear I;obtain⟨b,c,rfl,Z,p1⟩:=FM R.o j a3;obtain⟨b2,a8,K,r0,r1⟩:=FM R.o k W;injection K with K;injection K with i a4 _;subst i a4;have E:=aB d Z;have F:=aB d p1;have c0:=aB d r0;have G:=aB d r1;clear Z p1 r0 r1 D;generalize GS l j=x at *;generalize GS l k=y at *;obtain⟨m,n⟩:=x;obtain⟨p,q⟩:=y;(have C:O (∀z,Below wr.heap.size wr z->Calls Tryz.prog 55 #[rY ⟨m,n⟩,rY ⟨p,q⟩] z fun e g=>e=.returned (.int .i64 (gO ⟨m,n⟩ ⟨p,q⟩))/\Below wr.heap.size wr g/\g.cell? ⟨b,c+j*2,none⟩=some (.int .i64 m)/\g.cell? ⟨b,c+j*2+1,none⟩=some (.int .i64 n)/\g.cell? ⟨b,c+k*2,none⟩=some (.int .i64 p)/\g.cell? ⟨b,c+k*2+1,none⟩=some (.int .i64 q)):=by intro z Y;refine(TY ⟨m,n⟩ ⟨p,q⟩ z).mono ?_;rintro e g ⟨h1,h2⟩;have s:=Y.trans (h2.z.mono Y.size);exact⟨h1,s,aB s E,aB s F,aB s c0,aB s G⟩);generalize J:gO ⟨m,n⟩ ⟨p,q⟩=Q at *;have S:∀b o,Below wr.heap.size wr b->Below wr.heap.size wr (b.alloc o):=fun _ o h=>h.alloc h.size o;have T:∀b,Below wr.heap.size wr b->Below wr.heap.size wr b.drew:=fun _ h=>⟨h.os,h.tape,h.output,h.size,h.block⟩;have U:Below wr.heap.size wr wr:=aG _ _;clear J;by_cases X:0<=Q
   ·have J:decide (0<=Q)=true:=aP X;(have r:O (dI gO l=false):=by show _=_;rw[u.o,aF oM];rfl);clear u;go_upto_region 4 with fail
    go_region_held3 (fun f=>f.cell? ⟨b,c+j*2,none⟩=some (.int .i64 m)/\f.cell? ⟨b,c+j*2+1,none⟩=some (.int .i64 n)/\f.cell? ⟨b,c+k*2,none⟩=some (.int .i64 p)/\f.cell? ⟨b,c+k*2+1,none⟩=some (.int .i64 q)/\Below wr.heap.size wr f) (go_keep) (
     (go_at_call 55;refine Calls.mono (C.o _ ?_) ?_;(simp[*]);rintro e w2 ⟨rfl,i,L,M,N,P⟩))
    clear S T U C L M N P;have H:=d.trans (i.mono d.size);clear E F c0 G i d;go_wp2_with fail;go_ret;exact⟨by rw[r.o];rfl,H⟩
   have J:decide (0<=Q)=false:=aF X;(have r:O (dI gO l=dI gO (l.drop k)):=by show _=_;rw[u.o,aP oM,qJ,a2.o]);clear u;go_upto_region 4 with fail
   go_region_held3 (fun f=>f.cell? ⟨b,c+j*2,none⟩=some (.int .i64 m)/\f.cell? ⟨b,c+j*2+1,none⟩=some (.int .i64 n)/\f.cell? ⟨b,c+k*2,none⟩=some (.int .i64 p)/\f.cell? ⟨b,c+k*2+1,none⟩=some (.int .i64 q)/\Below wr.heap.size wr f) (go_keep) (
    (go_at_call 55;refine Calls.mono (C.o _ ?_) ?_;(simp[*]);rintro e w2 ⟨rfl,i,L,M,N,P⟩))
   clear S T U C L M N P;have H:=d.trans (i.mono d.size);clear E F c0 G i d;go_wp2_with fail;go_roundw;(case rel=>exact⟨k+1,oM,oM,gN,r.o,H⟩);case measure=>exact mI
  have a6:decide (k<l.length)=false:=aF W;have r:O (dI gO l=true):=D.o.trans (BG gO l (k-1) oM);go_wp2_with fail;go_ret;exact⟨by rw[r.o];rfl,d⟩
theorem Vq(l:List fK)(v:Value)(w:World)(hV:uI w v l)(hl:l.length<=1000000):Calls Tryz.prog 130 #[v, .func (.func 131) #[] #[]] w fun e g=>e=.returned (.bool (dI gO l))/\Below w.heap.size w g:=by
 obtain⟨ao,cap,rfl,_,V⟩:=hV;have R:O (IP w ao l):=V;clear V
 go_enter Tryz.func130,Tryz.ntmps130
 go_wp2_with fail;go_loopw [5] (fun iv wr=>∃k:Nat,1<=k/\k<=l.length+1/\iv=.int .i64 k/\O (dI gO l=dI gO (l.drop (k-1)))/\Below w.heap.size w wr) (fun iv _=>l.length+2-(intOf iv).toNat);case atStart=>exact⟨1,aH _,oM,rfl,rfl,aG _ _⟩
 case round=>
  obtain⟨k,a5,hk,rfl,D,d⟩:=hrel;obtain⟨j,I⟩:∃j,k=j+1:=⟨k-1,oM⟩;by_cases W:k<l.length
  ·have a3:j<l.length:=oM;(have a7:IntKind.i64.wrap ((k:Int)-1)=(j:Int):=by have e:((k:Int)-1)=(j:Int):=oM;rw[e];simp[IntKind.wrap,IntKind.bits,IntKind.signed];omega);(have u:O (dI gO l=(decide (gO (GS l j) (GS l k)<0)&&dI gO (l.drop j.succ))):=by show _=_;rw[D.o,I,qS];exact zP gO ⟨0,0⟩ l j oM);have a2:O (k=j+1):=I;clear I;obtain⟨b,c,rfl,Z,p1⟩:=FM R.o j a3;obtain⟨b2,a8,K,r0,r1⟩:=FM R.o k W;injection K with K;injection K with i a4 _;subst i a4;have E:=aB d Z;have F:=aB d p1;have c0:=aB d r0;have G:=aB d r1;clear Z p1 r0 r1 D;generalize GS l j=x at *;generalize GS l k=y at *;obtain⟨m,n⟩:=x;obtain⟨p,q⟩:=y;(have C:O (∀z,Below wr.heap.size wr z->Calls Tryz.prog 131 #[rY ⟨m,n⟩,rY ⟨p,q⟩] z fun e g=>e=.returned (.int .i64 (gO ⟨m,n⟩ ⟨p,q⟩))/\Below wr.heap.size wr g/\g.cell? ⟨b,c+j*2,none⟩=some (.int .i64 m)/\g.cell? ⟨b,c+j*2+1,none⟩=some (.int .i64 n)/\g.cell? ⟨b,c+k*2,none⟩=some (.int .i64 p)/\g.cell? ⟨b,c+k*2+1,none⟩=some (.int .i64 q)):=by intro z Y;refine(aAT ⟨m,n⟩ ⟨p,q⟩ z).mono ?_;rintro e g ⟨h1,h2⟩;have s:=Y.trans (h2.z.mono Y.size);exact⟨h1,s,aB s E,aB s F,aB s c0,aB s G⟩);generalize J:gO ⟨m,n⟩ ⟨p,q⟩=Q at *;have S:∀b o,Below wr.heap.size wr b->Below wr.heap.size wr (b.alloc o):=fun _ o h=>h.alloc h.size o;have T:∀b,Below wr.heap.size wr b->Below wr.heap.size wr b.drew:=fun _ h=>⟨h.os,h.tape,h.output,h.size,h.block⟩;have U:Below wr.heap.size wr wr:=aG _ _;clear J;by_cases X:0<=Q
   ·have J:decide (0<=Q)=true:=aP X;(have r:O (dI gO l=false):=by show _=_;rw[u.o,aF oM];rfl);clear u;go_upto_region 4 with fail
    go_region_held3 (fun f=>f.cell? ⟨b,c+j*2,none⟩=some (.int .i64 m)/\f.cell? ⟨b,c+j*2+1,none⟩=some (.int .i64 n)/\f.cell? ⟨b,c+k*2,none⟩=some (.int .i64 p)/\f.cell? ⟨b,c+k*2+1,none⟩=some (.int .i64 q)/\Below wr.heap.size wr f) (go_keep) (
     (go_at_call 131;refine Calls.mono (C.o _ ?_) ?_;(simp[*]);rintro e w2 ⟨rfl,i,L,M,N,P⟩))
    clear S T U C L M N P;have H:=d.trans (i.mono d.size);clear E F c0 G i d;go_wp2_with fail;go_ret;exact⟨by rw[r.o];rfl,H⟩
   have J:decide (0<=Q)=false:=aF X;(have r:O (dI gO l=dI gO (l.drop k)):=by show _=_;rw[u.o,aP oM,qJ,a2.o]);clear u;go_upto_region 4 with fail
   go_region_held3 (fun f=>f.cell? ⟨b,c+j*2,none⟩=some (.int .i64 m)/\f.cell? ⟨b,c+j*2+1,none⟩=some (.int .i64 n)/\f.cell? ⟨b,c+k*2,none⟩=some (.int .i64 p)/\f.cell? ⟨b,c+k*2+1,none⟩=some (.int .i64 q)/\Below wr.heap.size wr f) (go_keep) (
    (go_at_call 131;refine Calls.mono (C.o _ ?_) ?_;(simp[*]);rintro e w2 ⟨rfl,i,L,M,N,P⟩))
   clear S T U C L M N P;have H:=d.trans (i.mono d.size);clear E F c0 G i d;go_wp2_with fail;go_roundw;(case rel=>exact⟨k+1,oM,oM,gN,r.o,H⟩);case measure=>exact mI
  have a6:decide (k<l.length)=false:=aF W;have r:O (dI gO l=true):=D.o.trans (BG gO l (k-1) oM);go_wp2_with fail;go_ret;exact⟨by rw[r.o];rfl,d⟩
theorem aU9(l:List aQ)(v:Value)(w:World)(hV:bS w v l)(hl:l.length<=1000000)(hf:∀f,f∈l->gD f):Calls Tryz.prog 135 #[v, .func (.func 69) #[] #[]] w fun e m=>e=.returned (.bool (dI eU l))/\Below w.heap.size w m:=by
 obtain⟨ao,cap,rfl,_,hA⟩:=hV;have W:O (lD w ao l):=hA;have X:O (∀f,f∈l->gD f):=hf;clear hf;clear hA
 go_enter Tryz.func135,Tryz.ntmps135
 go_wp2_with fail;go_loopw [5] (fun iv wr=>∃k:Nat,1<=k/\k<=l.length+1/\iv=.int .i64 k/\O (dI eU l=dI eU (l.drop (k-1)))/\Below w.heap.size w wr) (fun iv _=>l.length+2-(intOf iv).toNat);case atStart=>exact⟨1,aH _,oM,rfl,rfl,aG _ _⟩
 case round=>
  obtain⟨k,a9,hk,rfl,G,c⟩:=hrel;obtain⟨j,L⟩:∃j,k=j+1:=⟨k-1,oM⟩;by_cases M:k<l.length
  ·have a5:j<l.length:=oM;(have ab:IntKind.i64.wrap ((k:Int)-1)=(j:Int):=by have e:((k:Int)-1)=(j:Int):=oM;rw[e];simp[IntKind.wrap,IntKind.bits,IntKind.signed];omega);(have r:O (dI eU l=(decide (eU (bF l j) (bF l k)<0)&&dI eU (l.drop j.succ))):=by show _=_;rw[G.o,L,qS];exact zP eU ⟨0,[]⟩ l j oM);have a7:O (k=j+1):=L;clear L;obtain⟨b,d,rfl,p0,fv,p1,a3⟩:=nM W.o j a5;obtain⟨b2,ac,P,r0,gv,r1,a4⟩:=nM W.o k M;injection P with P;injection P with n a8 _;subst n a8;have s:O (eT w fv (bF l j).args/\eT w gv (bF l k).args/\gD (bF l j)/\gD (bF l k)):=⟨a3,a4,X.o _ (lU l j a5),X.o _ (lU l k M)⟩;obtain⟨C,E,rfl,_⟩:=a3;obtain⟨D,F,rfl,_⟩:=a4;have H:=aB c p0;have I:=aB c p1;have c0:=aB c r0;have J:=aB c r1;clear p0 p1 r0 r1 G;generalize bF l j=x at *;generalize bF l k=y at *;(have u:O (∀z,Below wr.heap.size wr z->Calls Tryz.prog 69 #[lT x.g (.slice C x.args.length E),lT y.g (.slice D y.args.length F)] z fun e m=>e=.returned (.int .i64 (eU x y))/\Below wr.heap.size wr m/\m.cell? ⟨b,d+j*2,none⟩=some (.int .i64 x.g)/\m.cell? ⟨b,d+j*2+1,none⟩=some (.slice C x.args.length E)/\m.cell? ⟨b,d+k*2,none⟩=some (.int .i64 y.g)/\m.cell? ⟨b,d+k*2+1,none⟩=some (.slice D y.args.length F)):=by intro z Q;have a6:=c.trans (Q.mono c.size);refine(GH x y _ _ z (bC s.o.1 a6) (bC s.o.2.1 a6) s.o.2.2.1 s.o.2.2.2).mono ?_;rintro e m ⟨h1,h2⟩;have q:=Q.trans (h2.z.mono Q.size);exact⟨h1,q,aB q H,aB q I,aB q c0,aB q J⟩);generalize N:eU x y=V at *;have Y:∀b o,Below wr.heap.size wr b->Below wr.heap.size wr (b.alloc o):=fun _ o h=>h.alloc h.size o;have Z:∀b,Below wr.heap.size wr b->Below wr.heap.size wr b.drew:=fun _ h=>⟨h.os,h.tape,h.output,h.size,h.block⟩;have a2:Below wr.heap.size wr wr:=aG _ _;clear N;by_cases ho:0<=V
   ·have N:decide (0<=V)=true:=aP ho;(have p:O (dI eU l=false):=by show _=_;rw[r.o,aF oM];rfl);clear r;go_upto_region 4 with fail
    go_region_held3 (fun i=>i.cell? ⟨b,d+j*2,none⟩=some (.int .i64 x.g)/\i.cell? ⟨b,d+j*2+1,none⟩=some (.slice C x.args.length E)/\i.cell? ⟨b,d+k*2,none⟩=some (.int .i64 y.g)/\i.cell? ⟨b,d+k*2+1,none⟩=some (.slice D y.args.length F)/\Below wr.heap.size wr i) (go_keep) (
     (go_at_call 69;refine Calls.mono (u.o _ ?_) ?_;(simp[*]);rintro e w2 ⟨rfl,n,R,S,T,U⟩))
    clear Y Z a2 u R S T U;have K:=c.trans (n.mono c.size);clear H I c0 J n c;go_wp2_with fail;go_ret;exact⟨by rw[p.o];rfl,K⟩
   have N:decide (0<=V)=false:=aF ho;(have p:O (dI eU l=dI eU (l.drop k)):=by show _=_;rw[r.o,aP oM,qJ,a7.o]);clear r;go_upto_region 4 with fail
   go_region_held3 (fun i=>i.cell? ⟨b,d+j*2,none⟩=some (.int .i64 x.g)/\i.cell? ⟨b,d+j*2+1,none⟩=some (.slice C x.args.length E)/\i.cell? ⟨b,d+k*2,none⟩=some (.int .i64 y.g)/\i.cell? ⟨b,d+k*2+1,none⟩=some (.slice D y.args.length F)/\Below wr.heap.size wr i) (go_keep) (
    (go_at_call 69;refine Calls.mono (u.o _ ?_) ?_;(simp[*]);rintro e w2 ⟨rfl,n,R,S,T,U⟩))
   clear Y Z a2 u R S T U;have K:=c.trans (n.mono c.size);clear H I c0 J n c;go_wp2_with fail;go_roundw;(case rel=>exact⟨k+1,oM,oM,gN,p.o,K⟩);case measure=>exact mI
  have aa:decide (k<l.length)=false:=aF M;have p:O (dI eU l=true):=G.o.trans (BG eU l (k-1) oM);go_wp2_with fail;go_ret;exact⟨by rw[p.o];rfl,c⟩
theorem WJ{α:Type}(P:α->Bool)(d:α)(l:List α)(k:Nat)(b:k<l.length)(h:l.any P=(l.drop k).any P):l.any P=(P (l.getD k d)||(l.drop (k+1)).any P):=by rw[h,dA b,List.any_cons,aI,aM b];rfl
theorem Hq{α:Type}(P:α->Bool)(l:List α)(k:Nat)(b:¬k<l.length)(h:l.any P=(l.drop k).any P):l.any P=false:=by rw[h,bG oM];rfl
theorem aI3(n:Int)(w:World):Calls Tryz.prog 168 #[.int .i64 n] w fun e i=>e=.returned (.bool (!jK n))/\i=w:=by
 (have b:O (jK n=(decide (-1000000<=n)&&decide (n<=1000000))):=by show _=_;unfold jK;simp only[Bool.decide_and]);by_cases c:n< -1000000
 ·have f:decide (n< -1000000)=true:=aP c
  go_enter Tryz.func168,Tryz.ntmps168
  go_wp2_with fail;go_ret;exact⟨by rw[b.o,aF (p:= -1000000<=n) oM];rfl,rfl⟩
 have f:decide (n< -1000000)=false:=aF c;by_cases d:1000000<n
 ·have g:decide (1000000<n)=true:=aP d
  go_enter Tryz.func168,Tryz.ntmps168
  go_wp2_with fail;go_ret;exact⟨by rw[b.o,aP (p:= -1000000<=n) oM,aF (p:=n<=1000000) oM];rfl,rfl⟩
 have g:decide (1000000<n)=false:=aF d
 go_enter Tryz.func168,Tryz.ntmps168
 go_wp2_with fail;go_ret;exact⟨by rw[b.o,aP (p:= -1000000<=n) oM,aP (p:=n<=1000000) oM];rfl,rfl⟩
theorem aQ9(l:List Int)(v:Value)(w:World)(E:eT w v l)(K:l.length<=1000000):Calls Tryz.prog 159 #[v, .func (.func 168) #[] #[]] w fun e f=>∃r:Int,e=.returned (.int .i64 r)/\(decide (0<=r)=l.any (fun n=> !jK n))/\Below w.heap.size w f:=by
 obtain⟨D,cap,rfl,q⟩:=E;have u:O (vS w D l):=q;clear q
 go_enter Tryz.func159,Tryz.ntmps159
 go_wp2_with fail;go_loopw [8] (fun iv wr=>∃k:Nat,k<=l.length/\iv=.int .i64 k/\O (l.any (fun n=> !jK n)=(l.drop k).any (fun n=> !jK n))/\Below w.heap.size w wr) (fun iv _=>l.length-(intOf iv).toNat);case atStart=>exact⟨0,bL _,rfl,rfl,aG _ _⟩
 case round=>
  obtain⟨k,J,rfl,g,c⟩:=hrel;by_cases d:k<l.length
  ·have m:O _:=WJ (fun n=> !jK n) 0 l k d g.o;obtain⟨b,L,rfl,s⟩:=sY u.o k d;have H:=aB c s;clear s g;have p:O (l.any (fun n=> !jK n)=((fun n=> !jK n) (cI l k)||(l.drop (k+1)).any (fun n=> !jK n))):=m.o;clear m;generalize cI l k=x at *;have j:O (∀z,Calls Tryz.prog 168 #[.int .i64 x] z fun e f=>e=.returned (.bool ((fun n=> !jK n) x))/\Below z.heap.size z f):=fun z=>(aI3 x z).mono fun e f h=>⟨h.1,by rw[h.2];exact aG _ _⟩;generalize (fun n=> !jK n) x=bx at *;cases bx
   ·go_wp2_with(go_at_call 168;refine Calls.mono (j.o _) ?_;rintro e G ⟨rfl,i⟩);have F:=c.trans (i.mono c.size);go_roundw;(case rel=>exact⟨k+1,d,gN,p.o.trans (by rw[rE]),F⟩);case measure=>exact mI
   go_wp2_with(go_at_call 168;refine Calls.mono (j.o _) ?_;rintro e G ⟨rfl,i⟩);go_ret;exact⟨k,rfl,by rw[p.o,aP oM];rfl,c.trans (i.mono c.size)⟩
  have I:decide (k<l.length)=false:=aF d;have C:O (l.any (fun n=> !jK n)=false):=Hq (fun n=> !jK n) l k d g.o;go_wp2_with fail;go_ret;exact⟨-1,rfl,by rw[C.o];rfl,c⟩
theorem aCN(l:List Int)(v:Value)(w:World)(b:eT w v l)(f:l.length<=1000000):Calls Tryz.prog 121 #[v, .func (.func 168) #[] #[]] w fun e i=>e=.returned (.bool (l.any (fun n=> !jK n)))/\Below w.heap.size w i:=by
 obtain⟨j,cap,rfl,_⟩:=id b;have c:O _:=aQ9 l _ w b f;generalize l.any (fun n=> !jK n)=k at *;clear b
 go_enter Tryz.func121,Tryz.ntmps121
 go_wp2_with(go_at_call 159;refine Calls.mono c.o ?_;rintro e m ⟨r,rfl,g,d⟩);go_ret;exact⟨by rw[<-g];rfl,d⟩
theorem aC9(f:aQ)(v:Value)(w:World)(i:eT w v f.args)(u:gD f):Calls Tryz.prog 134 #[lT f.g v] w fun e k=>e=.returned (.bool (!gS f))/\Below w.heap.size w k:=by
 obtain⟨p,x⟩:=f;have i:eT w v x:=i;have u:x.length<=9223372036854775807:=u;obtain⟨b,cap,rfl,_⟩:=id i;have j:Below w.heap.size w (w.alloc (.cells #[.int .i64 p, .slice b x.length cap] 72)):=(Gr.refl w).alloc _ |>.z;have m:O (x.length<=1000000->Calls Tryz.prog 121 #[.slice b x.length cap, .func (.func 168) #[] #[]] (w.alloc (.cells #[.int .i64 p, .slice b x.length cap] 72)) fun e k=>e=.returned (.bool (x.any (fun n=> !jK n)))/\Below (w.alloc (.cells #[.int .i64 p, .slice b x.length cap] 72)).heap.size (w.alloc (.cells #[.int .i64 p, .slice b x.length cap] 72)) k):=fun h=>aCN x _ _ (bC i j) h;have c:O _:=j;have l:O _:=bA w (.cells #[.int .i64 p, .slice b x.length cap] 72);(have d:O ((!gS ⟨p,x⟩)=(!decide (0<=p)||(!decide (p<=9)||(!decide (x.length<=3)||x.any (fun n=> !jK n))))):=by show _=_;unfold gS;simp only[Bool.decide_and,Bool.not_and,Bool.or_assoc];rw[MT]);clear i j
 go_enter Tryz.func134,Tryz.ntmps134
 go_upto_region 1 with fail;generalize w.alloc (.cells #[.int .i64 p, .slice b x.length cap] 72)=C at *;(have c0:C.cell? ⟨w.heap.size,0,none⟩=some (.int .i64 p):=cH l.o);(have K:C.cell? ⟨w.heap.size,1,none⟩=some (.slice b x.length cap):=cH l.o);by_cases q:p<0
 ·have E:decide (p<0)=true:=aP q;go_wp2_with fail;go_ret;exact⟨by rw[d.o,aF (p:=0<=p) oM];rfl,c.o⟩
 have E:decide (p<0)=false:=aF q;by_cases r:10<=p
 ·have F:decide (10<=p)=true:=aP r;go_wp2_with fail;go_ret;exact⟨by rw[d.o,aP (p:=0<=p) oM,aF (p:=p<=9) oM];rfl,c.o⟩
 have F:decide (10<=p)=false:=aF r;by_cases s:3<x.length
 ·have G:decide (3<x.length)=true:=aP s;have H:decide ((3:Int)<(x.length:Int))=true:=aP oM;go_wp2_with fail;go_ret;exact⟨by rw[d.o,aP (p:=0<=p) oM,aP (p:=p<=9) oM,aF (p:=x.length<=3) oM];rfl,c.o⟩
 have G:decide (3<x.length)=false:=aF s;have H:decide ((3:Int)<(x.length:Int))=false:=aF oM;have D:O _:=m.o oM;rw[aP (p:=0<=p) oM,aP (p:=p<=9) oM,aP (p:=x.length<=3) oM]at d;generalize x.any (fun n=> !jK n)=J at *;clear m;go_wp2_with(go_at_call 121;refine Calls.mono D.o ?_;rintro e L ⟨rfl,I⟩);go_ret;exact⟨by rw[d.o];rfl,c.o.trans (I.mono c.o.size)⟩
theorem aL8(l:List fK)(v:Value)(w:World)(G:uI w v l)(N:l.length<=1000000):Calls Tryz.prog 166 #[v, .func (.func 128) #[] #[]] w fun e f=>∃r:Int,e=.returned (.int .i64 r)/\(decide (0<=r)=l.any (fun x=> !fR x))/\Below w.heap.size w f:=by
 obtain⟨F,cap,rfl,_,s⟩:=G;have D:O (IP w F l):=s;clear s
 go_enter Tryz.func166,Tryz.ntmps166
 go_wp2_with fail;go_loopw [8] (fun iv wr=>∃k:Nat,k<=l.length/\iv=.int .i64 k/\O (l.any (fun x=> !fR x)=(l.drop k).any (fun x=> !fR x))/\Below w.heap.size w wr) (fun iv _=>l.length-(intOf iv).toNat);case atStart=>exact⟨0,bL _,rfl,rfl,aG _ _⟩
 case round=>
  obtain⟨k,M,rfl,j,c⟩:=hrel;by_cases d:k<l.length
  ·have p:O _:=WJ (fun x=> !fR x) ⟨0,0⟩ l k d j.o;obtain⟨b,P,rfl,u,C⟩:=FM D.o k d;have J:=aB c u;have K:=aB c C;clear u C j;have q:O (l.any (fun x=> !fR x)=((fun x=> !fR x) (GS l k)||(l.drop (k+1)).any (fun x=> !fR x))):=p.o;clear p;generalize GS l k=x at *;obtain⟨g,i⟩:=x;have n:O (∀z,Calls Tryz.prog 128 #[rY ⟨g,i⟩] z fun e f=>e=.returned (.bool ((fun x=> !fR x) ⟨g,i⟩))/\Below z.heap.size z f):=fun z=>(ZU ⟨g,i⟩ z).mono fun e f h=>⟨h.1,h.2.z⟩;generalize (fun x=> !fR x) ⟨g,i⟩=bx at *;cases bx
   ·go_wp2_with(go_at_call 128;refine Calls.mono (n.o _) ?_;rintro e I ⟨rfl,m⟩);have H:=c.trans (m.mono c.size);go_roundw;(case rel=>exact⟨k+1,d,gN,q.o.trans (by rw[rE]),H⟩);case measure=>exact mI
   go_wp2_with(go_at_call 128;refine Calls.mono (n.o _) ?_;rintro e I ⟨rfl,m⟩);go_ret;exact⟨k,rfl,by rw[q.o,aP oM];rfl,c.trans (m.mono c.size)⟩
  have L:decide (k<l.length)=false:=aF d;have E:O (l.any (fun x=> !fR x)=false):=Hq (fun x=> !fR x) l k d j.o;go_wp2_with fail;go_ret;exact⟨-1,rfl,by rw[E.o];rfl,c⟩
theorem WN(l:List fK)(v:Value)(w:World)(b:uI w v l)(f:l.length<=1000000):Calls Tryz.prog 129 #[v, .func (.func 128) #[] #[]] w fun e i=>e=.returned (.bool (l.any (fun x=> !fR x)))/\Below w.heap.size w i:=by
 obtain⟨j,cap,rfl,_⟩:=id b;have c:O _:=aL8 l _ w b f;generalize l.any (fun x=> !fR x)=k at *;clear b
 go_enter Tryz.func129,Tryz.ntmps129
 go_wp2_with(go_at_call 166;refine Calls.mono c.o ?_;rintro e m ⟨r,rfl,g,d⟩);go_ret;exact⟨by rw[<-g];rfl,d⟩
theorem aL5(l:List aQ)(v:Value)(w:World)(P:bS w v l)(X:l.length<=1000000)(C:∀f,f∈l->gD f):Calls Tryz.prog 118 #[v, .func (.func 134) #[] #[]] w fun e m=>∃r:Int,e=.returned (.int .i64 r)/\(decide (0<=r)=l.any (fun x=> !gS x))/\Below w.heap.size w m:=by
 obtain⟨L,cap,rfl,_,s⟩:=P;have F:O (lD w L l):=s;have H:O (∀f,f∈l->gD f):=C;clear C;clear s
 go_enter Tryz.func118,Tryz.ntmps118
 go_wp2_with fail;go_loopw [8] (fun iv wr=>∃k:Nat,k<=l.length/\iv=.int .i64 k/\O (l.any (fun x=> !gS x)=(l.drop k).any (fun x=> !gS x))/\Below w.heap.size w wr) (fun iv _=>l.length-(intOf iv).toNat);case atStart=>exact⟨0,bL _,rfl,rfl,aG _ _⟩
 case round=>
  obtain⟨k,W,rfl,i,c⟩:=hrel;by_cases d:k<l.length
  ·have p:O _:=WJ (fun x=> !gS x) ⟨0,[]⟩ l k d i.o;obtain⟨b,Y,rfl,D,N,E,u⟩:=nM F.o k d;have T:=aB c D;have U:=aB c E;have I:O (gD (bF l k)):=H.o _ (lU l k d);have J:O (eT wr N (bF l k).args):=bC u c;obtain⟨K,M,rfl,_⟩:=u;clear D E i;have q:O (l.any (fun x=> !gS x)=((fun x=> !gS x) (bF l k)||(l.drop (k+1)).any (fun x=> !gS x))):=p.o;clear p;generalize bF l k=x at *;have n:O (∀z,z=wr->Calls Tryz.prog 134 #[lT x.g (.slice K x.args.length M)] z fun e m=>e=.returned (.bool ((fun x=> !gS x) x))/\Below z.heap.size z m):=fun z R=>aC9 x _ z (by rw[R];exact J.o) I.o;generalize (fun x=> !gS x) x=bx at *;cases bx
   ·go_wp2_with(go_at_call 134;refine Calls.mono (n.o _ rfl) ?_;rintro e S ⟨rfl,j⟩);have Q:=c.trans (j.mono c.size);go_roundw;(case rel=>exact⟨k+1,d,gN,q.o.trans (by rw[rE]),Q⟩);case measure=>exact mI
   go_wp2_with(go_at_call 134;refine Calls.mono (n.o _ rfl) ?_;rintro e S ⟨rfl,j⟩);go_ret;exact⟨k,rfl,by rw[q.o,aP oM];rfl,c.trans (j.mono c.size)⟩
  have V:decide (k<l.length)=false:=aF d;have G:O (l.any (fun x=> !gS x)=false):=Hq (fun x=> !gS x) l k d i.o;go_wp2_with fail;go_ret;exact⟨-1,rfl,by rw[G.o];rfl,c⟩
theorem Yk(l:List aQ)(v:Value)(w:World)(b:bS w v l)(i:l.length<=1000000)(c:∀f,f∈l->gD f):Calls Tryz.prog 133 #[v, .func (.func 134) #[] #[]] w fun e k=>e=.returned (.bool (l.any (fun x=> !gS x)))/\Below w.heap.size w k:=by
 obtain⟨m,cap,rfl,_⟩:=id b;have d:O _:=aL5 l _ w b i c;generalize l.any (fun x=> !gS x)=n at *;clear b c
 go_enter Tryz.func133,Tryz.ntmps133
 go_wp2_with(go_at_call 118;refine Calls.mono d.o ?_;rintro e p ⟨r,rfl,j,g⟩);go_ret;exact⟨by rw[<-j];rfl,g⟩
abbrev Ab(u:aX)(b c d:Value):Value:=.agg #[.int .i64 u.id.a, .int .i64 u.id.n,b,c,d]
theorem bF7(x y:fK):(x==y)=((x.a==y.a)&&(x.n==y.n)):=by rw[sL,nQ,eI,nQ,nQ];obtain⟨a,n⟩:=x;obtain⟨b,m⟩:=y;rw[fK.mk.injEq]
def qR(l:List fK)(x:fK):Bool:=l.contains x
theorem Hv(l:List fK)(x:fK):qR l x=l.any (fun y=>y==x):=by
 unfold qR;rw[List.contains_eq_any_beq]
 congr 1
 funext y;rw[sL,nQ,nQ];exact eq_comm
theorem aL9(l:List fK)(x:fK)(v:Value)(w:World)(N:uI w v l)(V:l.length<=1000000):Calls Tryz.prog 196 #[v,rY x] w fun e P=>∃r:Int,e=.returned (.int .i64 r)/\(decide (0<=r)=qR l x)/\Below w.heap.size w P:=by
 obtain⟨L,cap,rfl,_,G⟩:=N;obtain⟨d,c⟩:=x;have J:O (IP w L l):=G;have j:O (Below w.heap.size w (w.alloc (.cells #[.int .i64 d, .int .i64 c] 39))):=((Gr.refl w).alloc _).z;have u:O _:=bA w (.cells #[.int .i64 d, .int .i64 c] 39);clear G
 go_enter Tryz.func196,Tryz.ntmps196
 go_upto_region 1 with fail;generalize w.alloc (.cells #[.int .i64 d, .int .i64 c] 39)=n at *;(have c0:n.cell? ⟨w.heap.size,0,none⟩=some (.int .i64 d):=cH u.o);(have S:n.cell? ⟨w.heap.size,1,none⟩=some (.int .i64 c):=cH u.o);clear u;go_wp2_with fail;go_loopw [8] (fun iv wr=>∃k nq:Nat,k<=l.length/\iv=.int .i64 k/\O (l.any (fun y=>y==(⟨d,c⟩:fK))=(l.drop k).any (fun y=>y==(⟨d,c⟩:fK)))/\wr=n.drewN nq) (fun iv _=>l.length-(intOf iv).toNat);case atStart=>exact⟨0,0,bL _,rfl,rfl,rfl⟩
 case round=>
  obtain⟨k,nq,U,rfl,C,rfl⟩:=hrel;have K:O (Below w.heap.size w (n.drewN nq)):=j.o.trans ((fB n nq).mono j.o.size);by_cases m:k<l.length
  ·have E:O _:=WJ (fun y=>y==(⟨d,c⟩:fK)) ⟨0,0⟩ l k m C.o;obtain⟨b,W,rfl,H,I⟩:=FM J.o k m;have Q:=aB j.o H;have R:=aB j.o I;clear H I C;have i:O (l.any (fun y=>y==(⟨d,c⟩:fK))=((GS l k==(⟨d,c⟩:fK))||(l.drop (k+1)).any (fun y=>y==(⟨d,c⟩:fK)))):=E.o;clear E;generalize GS l k=z at *;obtain⟨f,p⟩:=z;rw[bF7]at i;by_cases q:f=d
   ·by_cases s:p=c
    ·subst q s;(have D:(f==f)=true:=by simp);(have F:(p==p)=true:=by simp);(have g:O (l.any (fun y=>y==(⟨f,p⟩:fK))=true):=by show _=_;rw[i.o];simp);go_upto_region 4 with fail;go_quiet(fail);go_wp2_with fail;go_ret;exact⟨k,rfl,by rw[Hv,g.o,aP oM],j.o.trans ((fB n _).mono j.o.size)⟩
    (have F:(p==c)=false:=by simpa using s);(have M:(c==p)=false:=by simpa using fun h=>s h.symm);subst q;(have D:(f==f)=true:=by simp);(have g:O (l.any (fun y=>y==(⟨f,c⟩:fK))=(l.drop (k+1)).any (fun y=>y==(⟨f,c⟩:fK))):=by show _=_;rw[i.o,F,Dq,rE]);clear i s;go_upto_region 4 with fail;go_quiet(fail);go_wp2_with fail;go_roundw;(case rel=>exact⟨k+1,_,m,gN,g.o,rfl⟩);case measure=>exact mI
   (have D:(f==d)=false:=by simpa using q);(have M:(d==f)=false:=by simpa using fun h=>q h.symm);(have g:O (l.any (fun y=>y==(⟨d,c⟩:fK))=(l.drop (k+1)).any (fun y=>y==(⟨d,c⟩:fK))):=by show _=_;rw[i.o,D,Bool.false_and,rE]);clear i q;go_upto_region 4 with fail;go_quiet(fail);go_wp2_with fail;go_roundw;(case rel=>exact⟨k+1,_,m,gN,g.o,rfl⟩);case measure=>exact mI
  have T:decide (k<l.length)=false:=aF m;have g:O (l.any (fun y=>y==(⟨d,c⟩:fK))=false):=Hq _ l k m C.o;go_wp2_with fail;go_ret;exact⟨-1,rfl,by rw[Hv,g.o];rfl,K.o⟩
theorem aCL(l:List fK)(x:fK)(v:Value)(w:World)(f:uI w v l)(C:l.length<=1000000):Calls Tryz.prog 167 #[v,rY x] w fun e d=>e=.returned (.bool (qR l x))/\Below w.heap.size w d:=by
 obtain⟨n,cap,rfl,_⟩:=id f;obtain⟨b,c⟩:=x;have k:O (∀z,Below w.heap.size w z->Calls Tryz.prog 196 #[.slice n l.length cap,rY ⟨b,c⟩] z fun e d=>∃r:Int,e=.returned (.int .i64 r)/\(decide (0<=r)=qR l ⟨b,c⟩)/\Below w.heap.size w d):=fun z g=>(aL9 l ⟨b,c⟩ _ z (iO f g) C).mono fun e d ⟨r,p,q,s⟩=>⟨r,p,q,g.trans (s.mono g.size)⟩;have m:O (Below w.heap.size w (w.alloc (.cells #[.int .i64 b, .int .i64 c] 39))):=((Gr.refl w).alloc _).z;have i:O _:=bA w (.cells #[.int .i64 b, .int .i64 c] 39);generalize qR l ⟨b,c⟩=E at *;clear f
 go_enter Tryz.func167,Tryz.ntmps167
 go_upto_region 1 with fail;generalize w.alloc (.cells #[.int .i64 b, .int .i64 c] 39)=j at *;(have c0:j.cell? ⟨w.heap.size,0,none⟩=some (.int .i64 b):=cH i.o);(have F:j.cell? ⟨w.heap.size,1,none⟩=some (.int .i64 c):=cH i.o);go_wp2_with(go_at_call 196;refine Calls.mono (k.o _ m.o) ?_;rintro e G ⟨r,rfl,D,u⟩);go_ret;exact⟨by rw[<-D];rfl,u⟩
theorem aW5(u:aX)(r i j:Value)(w:World)(f:uI w r u.ps)(I:u.ps.length<=6)(H:1<=u.id.n/\u.id.n<=200):Calls Tryz.prog 132 #[Ab u r i j] w fun e k=>e=.returned (.bool (FJ u))/\Below w.heap.size w k:=by
 obtain⟨⟨a,n⟩,b,N,P⟩:=u;have f:uI w r b:=f;have I:b.length<=6:=I;have H:1<=n/\n<=200:=H;obtain⟨d,cap,rfl,_⟩:=id f;have x:O (Below w.heap.size w (w.alloc (.cells #[.int .i64 a, .int .i64 n, .slice d b.length cap,i,j] 42))):=((Gr.refl w).alloc _).z;have g:O _:=bA w (.cells #[.int .i64 a, .int .i64 n, .slice d b.length cap,i,j] 42);have J:O (∀z,Below w.heap.size w z->Calls Tryz.prog 167 #[.slice d b.length cap,rY ⟨a,n-1⟩] z fun e k=>e=.returned (.bool (qR b ⟨a,n-1⟩))/\Below w.heap.size w k):=fun z q=>(aCL b ⟨a,n-1⟩ _ z (iO f q) oM).mono fun e k h=>⟨h.1,q.trans (h.2.mono q.size)⟩;have E:O (FJ ⟨⟨a,n⟩,b,N,P⟩=(decide (1<n)&& !qR b ⟨a,n-1⟩)):=rfl;(have U:IntKind.i64.wrap (n-1)=n-1:=by simp[IntKind.wrap,IntKind.bits,IntKind.signed];omega);generalize qR b ⟨a,n-1⟩=Q at *;clear f
 go_enter Tryz.func132,Tryz.ntmps132
 go_upto_region 1 with fail;generalize w.alloc (.cells #[.int .i64 a, .int .i64 n, .slice d b.length cap,i,j] 42)=c at *;(have c0:c.cell? ⟨w.heap.size,0,none⟩=some (.int .i64 a):=cH g.o);(have K:c.cell? ⟨w.heap.size,1,none⟩=some (.int .i64 n):=cH g.o);(have F:c.cell? ⟨w.heap.size,2,none⟩=some (.slice d b.length cap):=cH g.o);have l:O _:=bA c (.cells #[.int .i64 a, .int .i64 (n-1)] 39);have C:O (Below c.heap.size c (c.alloc (.cells #[.int .i64 a, .int .i64 (n-1)] 39))):=((Gr.refl c).alloc _).z;go_upto_region 2 with fail;generalize c.alloc (.cells #[.int .i64 a, .int .i64 (n-1)] 39)=s at *;(have R:s.cell? ⟨c.heap.size,0,none⟩=some (.int .i64 a):=cH l.o);(have S:s.cell? ⟨c.heap.size,1,none⟩=some (.int .i64 (n-1)):=cH l.o);have T:=aB C.o F;have D:O (Below w.heap.size w s):=x.o.trans (C.o.mono x.o.size);clear g l c0 K F;by_cases G:0<n-1
 ·have L:decide (0<n-1)=true:=aP G;have p:O (decide (1<n)=true):=aP oM;generalize n-1=m at *;go_wp2_with(go_at_call 167;refine Calls.mono (J.o _ D.o) ?_;rintro e V ⟨rfl,M⟩);go_ret;exact⟨by rw[E.o,p.o];rfl,M⟩
 have L:decide (0<n-1)=false:=aF G;have p:O (decide (1<n)=false):=aF oM;generalize n-1=m at *;go_wp2_with fail;go_ret;exact⟨by rw[E.o,p.o];rfl,D.o⟩
theorem Tx(u:aX)(vp vs vt:Value)(w:World)(R:uI w vp u.ps)(S:bS w vs u.says)(T:uI w vt u.ts)(Q:∀f,f∈u.says->gD f)(hl:u.ps.length<=9223372036854775807/\u.says.length<=9223372036854775807/\u.ts.length<=9223372036854775807):
 Calls Tryz.prog 80 #[Ab u vp vs vt] w fun e b=>e=.returned (.int .i64 (eV u))/\Below w.heap.size w b:=by
 obtain⟨⟨a,n⟩,d,i,g⟩:=u;dsimp only at R S T Q hl;obtain⟨ap,m,rfl,_⟩:=id R;obtain⟨l,p,rfl,_⟩:=id S;obtain⟨at_,q,rfl,_⟩:=id T
 have HK:O (eV ⟨⟨a,n⟩,d,i,g⟩=if fR ⟨a,n⟩=false then 3
  else if 6<d.length\/6<i.length\/6<g.length then 2
  else if d.all fR=false\/g.all fR=false then 3
  else if dI gO d=false\/dI gO g=false then 4
  else if FJ ⟨⟨a,n⟩,d,i,g⟩=true then 5
  else if i.all gS=false then 3
  else if dI eU i=false then 4 else 0):=rfl
 have E:Below w.heap.size w (w.alloc (.cells #[.int .i64 a, .int .i64 n, .slice ap d.length m, .slice l i.length p, .slice at_ g.length q] 42)):=((Gr.refl w).alloc _).z;have D:=bA w (.cells #[.int .i64 a, .int .i64 n, .slice ap d.length m, .slice l i.length p, .slice at_ g.length q] 42);have af:O (fR ⟨a,n⟩=true->1<=n/\n<=200):=fun h=>(fJ h).2.2
 go_enter Tryz.func80,Tryz.ntmps80
 go_upto_region 1 with fail;generalize w.alloc (.cells #[.int .i64 a, .int .i64 n, .slice ap d.length m, .slice l i.length p, .slice at_ g.length q] 42)=c at *;(have c0:c.cell? ⟨w.heap.size,0,none⟩=some (.int .i64 a):=cH D);(have c1:c.cell? ⟨w.heap.size,1,none⟩=some (.int .i64 n):=cH D);(have c2:c.cell? ⟨w.heap.size,2,none⟩=some (.slice ap d.length m):=cH D);(have c3:c.cell? ⟨w.heap.size,3,none⟩=some (.slice l i.length p):=cH D);(have c4:c.cell? ⟨w.heap.size,4,none⟩=some (.slice at_ g.length q):=cH D);(have s:∀{z b:World},Below c.heap.size c z->Below z.heap.size z b->Below c.heap.size c b/\b.cell? ⟨w.heap.size,0,none⟩=some (.int .i64 a)/\b.cell? ⟨w.heap.size,1,none⟩=some (.int .i64 n)/\b.cell? ⟨w.heap.size,2,none⟩=some (.slice ap d.length m)/\b.cell? ⟨w.heap.size,3,none⟩=some (.slice l i.length p)/\b.cell? ⟨w.heap.size,4,none⟩=some (.slice at_ g.length q):=fun j h=>by have C:=j.trans (h.mono j.size);exact⟨C,aB C c0,aB C c1,aB C c2,aB C c3,aB C c4⟩);have HP:uI c (.slice ap d.length m) d:=iO R E;have Y:bS c (.slice l i.length p) i:=bQ S E;have Z:uI c (.slice at_ g.length q) g:=iO T E;have k:O _:=E;clear R S T E D;have V:O (∀z,Below c.heap.size c z->Calls Tryz.prog 128 #[rY ⟨a,n⟩] z fun e b=>e=.returned (.bool (!fR ⟨a,n⟩))/\Below c.heap.size c b/\b.cell? ⟨w.heap.size,0,none⟩=some (.int .i64 a)/\b.cell? ⟨w.heap.size,1,none⟩=some (.int .i64 n)/\b.cell? ⟨w.heap.size,2,none⟩=some (.slice ap d.length m)/\b.cell? ⟨w.heap.size,3,none⟩=some (.slice l i.length p)/\b.cell? ⟨w.heap.size,4,none⟩=some (.slice at_ g.length q)):=fun z j=>((ZU ⟨a,n⟩ z).mono fun e b h=>(⟨h.1,h.2.z⟩:_/\Below z.heap.size z b)).mono fun e b h=>⟨h.1,s j h.2⟩;(have N:O (∀z,Below c.heap.size c z->d.length<=1000000->Calls Tryz.prog 129 #[.slice ap d.length m, .func (.func 128) #[] #[]] z fun e b=>e=.returned (.bool (!d.all fR))/\Below c.heap.size c b/\b.cell? ⟨w.heap.size,0,none⟩=some (.int .i64 a)/\b.cell? ⟨w.heap.size,1,none⟩=some (.int .i64 n)/\b.cell? ⟨w.heap.size,2,none⟩=some (.slice ap d.length m)/\b.cell? ⟨w.heap.size,3,none⟩=some (.slice l i.length p)/\b.cell? ⟨w.heap.size,4,none⟩=some (.slice at_ g.length q)):=fun z j r=>by rw[MT];exact(WN d _ z (iO HP j) r).mono fun e b h=>⟨h.1,s j h.2⟩);(have a0:O (∀z,Below c.heap.size c z->g.length<=1000000->Calls Tryz.prog 129 #[.slice at_ g.length q, .func (.func 128) #[] #[]] z fun e b=>e=.returned (.bool (!g.all fR))/\Below c.heap.size c b/\b.cell? ⟨w.heap.size,0,none⟩=some (.int .i64 a)/\b.cell? ⟨w.heap.size,1,none⟩=some (.int .i64 n)/\b.cell? ⟨w.heap.size,2,none⟩=some (.slice ap d.length m)/\b.cell? ⟨w.heap.size,3,none⟩=some (.slice l i.length p)/\b.cell? ⟨w.heap.size,4,none⟩=some (.slice at_ g.length q)):=fun z j r=>by rw[MT];exact(WN g _ z (iO Z j) r).mono fun e b h=>⟨h.1,s j h.2⟩);have P:O (∀z,Below c.heap.size c z->d.length<=1000000->Calls Tryz.prog 130 #[.slice ap d.length m, .func (.func 131) #[] #[]] z fun e b=>e=.returned (.bool (dI gO d))/\Below c.heap.size c b/\b.cell? ⟨w.heap.size,0,none⟩=some (.int .i64 a)/\b.cell? ⟨w.heap.size,1,none⟩=some (.int .i64 n)/\b.cell? ⟨w.heap.size,2,none⟩=some (.slice ap d.length m)/\b.cell? ⟨w.heap.size,3,none⟩=some (.slice l i.length p)/\b.cell? ⟨w.heap.size,4,none⟩=some (.slice at_ g.length q)):=fun z j r=>(Vq d _ z (iO HP j) r).mono fun e b h=>⟨h.1,s j h.2⟩;have a1:O (∀z,Below c.heap.size c z->g.length<=1000000->Calls Tryz.prog 130 #[.slice at_ g.length q, .func (.func 131) #[] #[]] z fun e b=>e=.returned (.bool (dI gO g))/\Below c.heap.size c b/\b.cell? ⟨w.heap.size,0,none⟩=some (.int .i64 a)/\b.cell? ⟨w.heap.size,1,none⟩=some (.int .i64 n)/\b.cell? ⟨w.heap.size,2,none⟩=some (.slice ap d.length m)/\b.cell? ⟨w.heap.size,3,none⟩=some (.slice l i.length p)/\b.cell? ⟨w.heap.size,4,none⟩=some (.slice at_ g.length q)):=fun z j r=>(Vq g _ z (iO Z j) r).mono fun e b h=>⟨h.1,s j h.2⟩;have W:O (∀z,Below c.heap.size c z->(d.length<=6/\1<=n/\n<=200)->Calls Tryz.prog 132 #[Ab ⟨⟨a,n⟩,d,i,g⟩ (.slice ap d.length m) (.slice l i.length p) (.slice at_ g.length q)] z fun e b=>e=.returned (.bool (FJ ⟨⟨a,n⟩,d,i,g⟩))/\Below c.heap.size c b/\b.cell? ⟨w.heap.size,0,none⟩=some (.int .i64 a)/\b.cell? ⟨w.heap.size,1,none⟩=some (.int .i64 n)/\b.cell? ⟨w.heap.size,2,none⟩=some (.slice ap d.length m)/\b.cell? ⟨w.heap.size,3,none⟩=some (.slice l i.length p)/\b.cell? ⟨w.heap.size,4,none⟩=some (.slice at_ g.length q)):=fun z j r=>(aW5 ⟨⟨a,n⟩,d,i,g⟩ _ _ _ z (iO HP j) r.1 r.2).mono fun e b h=>⟨h.1,s j h.2⟩;(have X:O (∀z,Below c.heap.size c z->i.length<=1000000->Calls Tryz.prog 133 #[.slice l i.length p, .func (.func 134) #[] #[]] z fun e b=>e=.returned (.bool (!i.all gS))/\Below c.heap.size c b/\b.cell? ⟨w.heap.size,0,none⟩=some (.int .i64 a)/\b.cell? ⟨w.heap.size,1,none⟩=some (.int .i64 n)/\b.cell? ⟨w.heap.size,2,none⟩=some (.slice ap d.length m)/\b.cell? ⟨w.heap.size,3,none⟩=some (.slice l i.length p)/\b.cell? ⟨w.heap.size,4,none⟩=some (.slice at_ g.length q)):=fun z j r=>by rw[MT];exact(Yk i _ z (bQ Y j) r Q).mono fun e b h=>⟨h.1,s j h.2⟩);have a8:O (∀z,Below c.heap.size c z->i.length<=1000000->Calls Tryz.prog 135 #[.slice l i.length p, .func (.func 69) #[] #[]] z fun e b=>e=.returned (.bool (dI eU i))/\Below c.heap.size c b/\b.cell? ⟨w.heap.size,0,none⟩=some (.int .i64 a)/\b.cell? ⟨w.heap.size,1,none⟩=some (.int .i64 n)/\b.cell? ⟨w.heap.size,2,none⟩=some (.slice ap d.length m)/\b.cell? ⟨w.heap.size,3,none⟩=some (.slice l i.length p)/\b.cell? ⟨w.heap.size,4,none⟩=some (.slice at_ g.length q)):=fun z j r=>(aU9 i _ z (bQ Y j) r Q).mono fun e b h=>⟨h.1,s j h.2⟩;have ae:Below c.heap.size c c:=aG _ _;clear HP Y Z Q s;generalize fR ⟨a,n⟩=b0 at *;generalize d.all fR=b1 at *;generalize g.all fR=b2 at *;generalize dI gO d=b3 at *;generalize dI gO g=b4 at *;generalize FJ ⟨⟨a,n⟩,d,i,g⟩=b5 at *;generalize i.all gS=b6 at *;generalize dI eU i=b7 at *;cases b0
 ·go_wp2_with(go_at_call 128;refine Calls.mono (V.o _ (by assumption)) ?_;rintro e z1 ⟨rfl,F,am,an,ao,aq,ar⟩);go_ret;exact⟨by rw[HK.o];rfl,k.o.trans (F.mono k.o.size)⟩
 rw[if_neg dE]at HK;have hn:=af.o rfl;go_upto_region 3 with(go_at_call 128;refine Calls.mono (V.o _ (by assumption)) ?_;rintro e z1 ⟨rfl,F,am,an,ao,aq,ar⟩);clear V c0 c1 c2 c3 c4 ae;by_cases ab:6<d.length
 ·have dn:decide (6<d.length)=true:=aP ab;have di:decide ((6:Int)<(d.length:Int))=true:=aP oM;rw[if_pos oM]at HK;go_wp2_with fail;go_ret;exact⟨by rw[HK.o];rfl,k.o.trans (F.mono k.o.size)⟩
 have aj:decide (6<d.length)=false:=aF ab;have ag:decide ((6:Int)<(d.length:Int))=false:=aF oM;by_cases ac:6<i.length
 ·have dn:decide (6<i.length)=true:=aP ac;have di:decide ((6:Int)<(i.length:Int))=true:=aP oM;rw[if_pos oM]at HK;go_wp2_with fail;go_ret;exact⟨by rw[HK.o];rfl,k.o.trans (F.mono k.o.size)⟩
 have ak:decide (6<i.length)=false:=aF ac;have ah:decide ((6:Int)<(i.length:Int))=false:=aF oM;by_cases ad:6<g.length
 ·have dn:decide (6<g.length)=true:=aP ad;have di:decide ((6:Int)<(g.length:Int))=true:=aP oM;rw[if_pos oM]at HK;go_wp2_with fail;go_ret;exact⟨by rw[HK.o];rfl,k.o.trans (F.mono k.o.size)⟩
 have al:decide (6<g.length)=false:=aF ad;have ai:decide ((6:Int)<(g.length:Int))=false:=aF oM;rw[if_neg oM]at HK;have U:d.length<=1000000:=oM;have lt:g.length<=1000000:=oM;go_upto_region 5 with fail;clear aj ag ak ah al ai;cases b1
 ·rw[if_pos (Or.inl rfl)]at HK;go_wp2_with(go_at_call 129;refine Calls.mono (N.o _ (by assumption) oM) ?_;rintro e M ⟨rfl,x,H,I,J,K,L⟩);go_ret;exact⟨by rw[HK.o];rfl,k.o.trans (x.mono k.o.size)⟩
 cases b2
 ·rw[if_pos (Or.inr rfl)]at HK;go_wp2_with(first|(go_at_call 129;with_reducible refine Calls.mono (N.o _ (by assumption) U) ?_;rintro e M ⟨rfl,x,H,I,J,K,L⟩)|(go_at_call 129;with_reducible refine Calls.mono (a0.o _ (by assumption) lt) ?_;rintro e z3 ⟨rfl,G,a3,a4,a5,a6,a7⟩));go_ret;exact⟨by rw[HK.o];rfl,k.o.trans (G.mono k.o.size)⟩
 rw[if_neg dE]at HK;go_upto_region 7 with(first|(go_at_call 129;with_reducible refine Calls.mono (N.o _ (by assumption) U) ?_;rintro e M ⟨rfl,x,H,I,J,K,L⟩)|(go_at_call 129;with_reducible refine Calls.mono (a0.o _ (by assumption) lt) ?_;rintro e z3 ⟨rfl,G,a3,a4,a5,a6,a7⟩));clear N a0;cases b3
 ·rw[if_pos (Or.inl rfl)]at HK;go_wp2_with(go_at_call 130;refine Calls.mono (P.o _ (by assumption) oM) ?_;rintro e M ⟨rfl,x,H,I,J,K,L⟩);go_ret;exact⟨by rw[HK.o];rfl,k.o.trans (x.mono k.o.size)⟩
 cases b4
 ·rw[if_pos (Or.inr rfl)]at HK;go_wp2_with(first|(go_at_call 130;with_reducible refine Calls.mono (P.o _ (by assumption) U) ?_;rintro e M ⟨rfl,x,H,I,J,K,L⟩)|(go_at_call 130;with_reducible refine Calls.mono (a1.o _ (by assumption) lt) ?_;rintro e z3 ⟨rfl,G,a3,a4,a5,a6,a7⟩));go_ret;exact⟨by rw[HK.o];rfl,k.o.trans (G.mono k.o.size)⟩
 rw[if_neg dE]at HK;go_upto_region 9 with(first|(go_at_call 130;with_reducible refine Calls.mono (P.o _ (by assumption) U) ?_;rintro e M ⟨rfl,x,H,I,J,K,L⟩)|(go_at_call 130;with_reducible refine Calls.mono (a1.o _ (by assumption) lt) ?_;rintro e z3 ⟨rfl,G,a3,a4,a5,a6,a7⟩));clear P a1;cases b5;rotate_left
 ·rw[if_pos rfl]at HK;go_wp2_with(go_at_call 132;refine Calls.mono (W.o _ (by assumption) ⟨oM,hn⟩) ?_;rintro e z5 ⟨rfl,a9,au,av,aw,ax,ay⟩);go_ret;exact⟨by rw[HK.o];rfl,k.o.trans (a9.mono k.o.size)⟩
 rw[if_neg dE]at HK;go_upto_region 11 with(go_at_call 132;refine Calls.mono (W.o _ (by assumption) ⟨oM,hn⟩) ?_;rintro e z5 ⟨rfl,a9,au,av,aw,ax,ay⟩);clear W;cases b6
 ·rw[if_pos rfl]at HK;go_wp2_with(go_at_call 133;refine Calls.mono (X.o _ (by assumption) oM) ?_;rintro e z6 ⟨rfl,aa,az,aC,aD,aJ,aL⟩);go_ret;exact⟨by rw[HK.o];rfl,k.o.trans (aa.mono k.o.size)⟩
 rw[if_neg dE]at HK;go_upto_region 13 with(go_at_call 133;refine Calls.mono (X.o _ (by assumption) oM) ?_;rintro e z6 ⟨rfl,aa,az,aC,aD,aJ,aL⟩);clear X;cases b7
 ·rw[if_pos rfl]at HK;go_wp2_with(go_at_call 135;refine Calls.mono (a8.o _ (by assumption) oM) ?_;rintro e z7 ⟨rfl,a2,aN,aO,aR,aS,aT⟩);go_ret;exact⟨by rw[HK.o];rfl,k.o.trans (a2.mono k.o.size)⟩
 rw[if_neg dE]at HK;go_wp2_with(go_at_call 135;refine Calls.mono (a8.o _ (by assumption) oM) ?_;rintro e z7 ⟨rfl,a2,aN,aO,aR,aS,aT⟩);go_ret;exact⟨by rw[HK.o];rfl,k.o.trans (a2.mono k.o.size)⟩

theorem bA5{l m:List fK}{k:Nat}(c:k<l.length)(d:k<m.length)(h:l.take k=m.take k)(e:GS l k=GS m k):l.take (k+1)=m.take (k+1):=by
 rw[nE c,nE d,h]
 congr 2
 (have a:GS l k=l[k]:=by simp[GS,List.getD_eq_getElem?_getD,c]);(have b:GS m k=m[k]:=by simp[GS,List.getD_eq_getElem?_getD,d]);rw[<-a,<-b,e]
theorem bES{l m:List fK}{k:Nat}(c:l.length=m.length)(b:¬k<l.length)(h:l.take k=m.take k):l=m:=by rw[dM oM,dM oM]at h;exact h
theorem Qz(l m:List fK)(v u:Value)(w:World)(P:uI w v l)(N:uI w u m)(W:l.length<=9223372036854775807):Calls Tryz.prog 99 #[v,u] w fun e Q=>e=.returned (.bool (decide (l=m)))/\Below w.heap.size w Q:=by
 obtain⟨J,cap,rfl,_,D⟩:=P;obtain⟨K,S,rfl,_,E⟩:=N;have H:O (IP w J l):=D;have I:O (IP w K m):=E;clear D E;by_cases g:l.length=m.length
 ·rw[<-g];have C:O (l.length=m.length):=g;(have X:((l.length:Int) != (l.length:Int))=false:=by simp);clear g
  go_enter Tryz.func99,Tryz.ntmps99
  go_wp2_with fail;go_loopw [5] (fun iv wr=>∃k nq:Nat,k<=l.length/\iv=.int .i64 k/\O (l.take k=m.take k)/\wr=w.drewN nq) (fun iv _=>l.length-(intOf iv).toNat);case atStart=>exact⟨0,0,bL _,rfl,rfl,rfl⟩
  case round=>
   obtain⟨k,nq,V,rfl,r,rfl⟩:=hrel;by_cases d:k<l.length
   ·obtain⟨b,Y,rfl,p0,p1⟩:=FM H.o k d;(have s:k<m.length:=by rw[<-C.o];exact d);obtain⟨R,Z,rfl,r0,r1⟩:=FM I.o k s;have i:O (GS l k=GS m k->l.take (k+1)=m.take (k+1)):=fun e=>bA5 d s r.o e;have f:O (¬GS l k=GS m k->¬l=m):=fun h e=>h (by rw[e]);clear s r;generalize GS l k=x at *;generalize GS m k=z at *;obtain⟨p,q⟩:=x;obtain⟨F,G⟩:=z;by_cases j:p=F
    ·subst j;(have L:(p==p)=true:=by simp);by_cases n:q=G
     ·subst n;(have M:(q==q)=true:=by simp);have c:O _:=i.o rfl;clear i f;go_upto_region 6 with fail;go_quiet(fail);go_wp2_with fail;go_roundw;(case rel=>exact⟨k+1,_,d,gN,c.o,rfl⟩);case measure=>exact mI
     (have M:(q==G)=false:=by simpa using n);have c:O (decide (l=m)=false):=aF (f.o (fun e=>n (by injection e)));clear i f n;go_upto_region 6 with fail;go_quiet(fail);go_wp2_with fail;go_ret;exact⟨by rw[c.o];rfl,fB w _⟩
    (have L:(p==F)=false:=by simpa using j);have c:O (decide (l=m)=false):=aF (f.o (fun e=>j (by injection e)));clear i f j;go_upto_region 6 with fail;go_quiet(fail);go_wp2_with fail;go_ret;exact⟨by rw[c.o];rfl,fB w _⟩
   have U:decide (k<l.length)=false:=aF d;have c:O (decide (l=m)=true):=aP (bES C.o d r.o);go_wp2_with fail;go_ret;exact⟨by rw[c.o];rfl,fB w _⟩
 (have T:((l.length:Int) != (m.length:Int))=true:=by simp;omega);have c:O (decide (l=m)=false):=aF (fun h=>g (by rw[h]));clear g
 go_enter Tryz.func99,Tryz.ntmps99
 go_wp2_with fail;go_ret;exact⟨by rw[c.o];rfl,aG _ _⟩
theorem Wx(u x:aX)(vp vs vt aO aR aS:Value)(w:World)(hP:uI w vp u.ps)(hS:bS w vs u.says)(hT:uI w vt u.ts)(a0:uI w aO x.ps)(a1:bS w aR x.says)(a3:uI w aS x.ts)(hF:∀f,f∈u.says->gD f)(a6:∀f,f∈x.says->gD f)(U:u.ps.length<=9223372036854775807/\u.says.length<=9223372036854775807/\u.ts.length<=9223372036854775807):
 Calls Tryz.prog 62 #[Ab u vp vs vt,Ab x aO aR aS] w fun e c=>∃t:Bool,e=.returned (.bool t)/\(t=true↔u=x)/\Below w.heap.size w c:=by
 obtain⟨⟨a,n⟩,i,p,k⟩:=u;obtain⟨⟨g,m⟩,j,q,l⟩:=x;dsimp only at hP hS hT a0 a1 a3 hF a6 U;obtain⟨ap,I,rfl,_⟩:=id hP;obtain⟨G,K,rfl,_⟩:=id hS;obtain⟨at_,M,rfl,_⟩:=id hT;obtain⟨E,J,rfl,_⟩:=id a0;obtain⟨F,L,rfl,_⟩:=id a1;obtain⟨H,N,rfl,_⟩:=id a3;obtain⟨Z,a7⟩:∃b:Bool,(b=true↔p=q):=by
  by_cases h:p=q
  ·exact⟨true,fun _=>h,fun _=>rfl⟩
  exact⟨false,fun e=>(by cases e),fun e=>absurd e h⟩
 (have R:O ((⟨⟨a,n⟩,i,p,k⟩:aX)=⟨⟨g,m⟩,j,q,l⟩↔((a=g/\n=m)/\decide (i=j)=true/\Z=true/\decide (k=l)=true)):=by show _↔_;simp only[aX.mk.injEq,fK.mk.injEq,decide_eq_true_eq,a7]);have P:Below w.heap.size w ((w.alloc (.cells #[.int .i64 a, .int .i64 n, .slice ap i.length I, .slice G p.length K, .slice at_ k.length M] 42)).alloc (.cells #[.int .i64 g, .int .i64 m, .slice E j.length J, .slice F q.length L, .slice H l.length N] 42)):=(((Gr.refl w).alloc _).alloc _).z;have C:=xE (w:=w) (o1:=(.cells #[.int .i64 a, .int .i64 n, .slice ap i.length I, .slice G p.length K, .slice at_ k.length M] 42)) (o2:=(.cells #[.int .i64 g, .int .i64 m, .slice E j.length J, .slice F q.length L, .slice H l.length N] 42)) (aG _ _)
 go_enter Tryz.func62,Tryz.ntmps62
 go_upto_region 1 with fail;generalize (w.alloc (.cells #[.int .i64 a, .int .i64 n, .slice ap i.length I, .slice G p.length K, .slice at_ k.length M] 42)).alloc (.cells #[.int .i64 g, .int .i64 m, .slice E j.length J, .slice F q.length L, .slice H l.length N] 42)=d at *;(have c0:d.cell? ⟨w.heap.size,0,none⟩=some (.int .i64 a):=cH C.1);(have c1:d.cell? ⟨w.heap.size,1,none⟩=some (.int .i64 n):=cH C.1);(have c2:d.cell? ⟨w.heap.size,2,none⟩=some (.slice ap i.length I):=cH C.1);(have c3:d.cell? ⟨w.heap.size,3,none⟩=some (.slice G p.length K):=cH C.1);(have c4:d.cell? ⟨w.heap.size,4,none⟩=some (.slice at_ k.length M):=cH C.1);(have d0:d.cell? ⟨w.heap.size+1,0,none⟩=some (.int .i64 g):=cH C.2);(have d1:d.cell? ⟨w.heap.size+1,1,none⟩=some (.int .i64 m):=cH C.2);(have d2:d.cell? ⟨w.heap.size+1,2,none⟩=some (.slice E j.length J):=cH C.2);(have d3:d.cell? ⟨w.heap.size+1,3,none⟩=some (.slice F q.length L):=cH C.2);(have d4:d.cell? ⟨w.heap.size+1,4,none⟩=some (.slice H l.length N):=cH C.2);(have Y:∀{z c:World},Below d.heap.size d z->Below z.heap.size z c->Below d.heap.size d c/\c.cell? ⟨w.heap.size,0,none⟩=some (.int .i64 a)/\c.cell? ⟨w.heap.size,1,none⟩=some (.int .i64 n)/\c.cell? ⟨w.heap.size,2,none⟩=some (.slice ap i.length I)/\c.cell? ⟨w.heap.size,3,none⟩=some (.slice G p.length K)/\c.cell? ⟨w.heap.size,4,none⟩=some (.slice at_ k.length M)/\c.cell? ⟨w.heap.size+1,0,none⟩=some (.int .i64 g)/\c.cell? ⟨w.heap.size+1,1,none⟩=some (.int .i64 m)/\c.cell? ⟨w.heap.size+1,2,none⟩=some (.slice E j.length J)/\c.cell? ⟨w.heap.size+1,3,none⟩=some (.slice F q.length L)/\c.cell? ⟨w.heap.size+1,4,none⟩=some (.slice H l.length N):=fun r h=>by have s:=r.trans (h.mono r.size);exact⟨s,aB s c0,aB s c1,aB s c2,aB s c3,aB s c4,aB s d0,aB s d1,aB s d2,aB s d3,aB s d4⟩);have HP:O (∀z,Below d.heap.size d z->Calls Tryz.prog 99 #[.slice ap i.length I, .slice E j.length J] z fun e c=>e=.returned (.bool (decide (i=j)))/\Below d.heap.size d c/\c.cell? ⟨w.heap.size,0,none⟩=some (.int .i64 a)/\c.cell? ⟨w.heap.size,1,none⟩=some (.int .i64 n)/\c.cell? ⟨w.heap.size,2,none⟩=some (.slice ap i.length I)/\c.cell? ⟨w.heap.size,3,none⟩=some (.slice G p.length K)/\c.cell? ⟨w.heap.size,4,none⟩=some (.slice at_ k.length M)/\c.cell? ⟨w.heap.size+1,0,none⟩=some (.int .i64 g)/\c.cell? ⟨w.heap.size+1,1,none⟩=some (.int .i64 m)/\c.cell? ⟨w.heap.size+1,2,none⟩=some (.slice E j.length J)/\c.cell? ⟨w.heap.size+1,3,none⟩=some (.slice F q.length L)/\c.cell? ⟨w.heap.size+1,4,none⟩=some (.slice H l.length N)):=fun z r=>(Qz i j _ _ z (iO (iO hP P) r) (iO (iO a0 P) r) U.1).mono fun e c h=>⟨h.1,Y r h.2⟩;have X:O (∀z,Below d.heap.size d z->Calls Tryz.prog 99 #[.slice at_ k.length M, .slice H l.length N] z fun e c=>e=.returned (.bool (decide (k=l)))/\Below d.heap.size d c/\c.cell? ⟨w.heap.size,0,none⟩=some (.int .i64 a)/\c.cell? ⟨w.heap.size,1,none⟩=some (.int .i64 n)/\c.cell? ⟨w.heap.size,2,none⟩=some (.slice ap i.length I)/\c.cell? ⟨w.heap.size,3,none⟩=some (.slice G p.length K)/\c.cell? ⟨w.heap.size,4,none⟩=some (.slice at_ k.length M)/\c.cell? ⟨w.heap.size+1,0,none⟩=some (.int .i64 g)/\c.cell? ⟨w.heap.size+1,1,none⟩=some (.int .i64 m)/\c.cell? ⟨w.heap.size+1,2,none⟩=some (.slice E j.length J)/\c.cell? ⟨w.heap.size+1,3,none⟩=some (.slice F q.length L)/\c.cell? ⟨w.heap.size+1,4,none⟩=some (.slice H l.length N)):=fun z r=>(Qz k l _ _ z (iO (iO hT P) r) (iO (iO a3 P) r) U.2.2).mono fun e c h=>⟨h.1,Y r h.2⟩;have V:O (∀z,Below d.heap.size d z->Calls Tryz.prog 15 #[.slice G p.length K, .slice F q.length L] z fun e c=>e=.returned (.bool Z)/\Below d.heap.size d c/\c.cell? ⟨w.heap.size,0,none⟩=some (.int .i64 a)/\c.cell? ⟨w.heap.size,1,none⟩=some (.int .i64 n)/\c.cell? ⟨w.heap.size,2,none⟩=some (.slice ap i.length I)/\c.cell? ⟨w.heap.size,3,none⟩=some (.slice G p.length K)/\c.cell? ⟨w.heap.size,4,none⟩=some (.slice at_ k.length M)/\c.cell? ⟨w.heap.size+1,0,none⟩=some (.int .i64 g)/\c.cell? ⟨w.heap.size+1,1,none⟩=some (.int .i64 m)/\c.cell? ⟨w.heap.size+1,2,none⟩=some (.slice E j.length J)/\c.cell? ⟨w.heap.size+1,3,none⟩=some (.slice F q.length L)/\c.cell? ⟨w.heap.size+1,4,none⟩=some (.slice H l.length N)):=fun z r=>(ZL p q _ _ z (bQ (bQ hS P) r) (bQ (bQ a1 P) r) U.2.1 hF a6).mono fun e c ⟨t,h1,h2,s⟩=>⟨by rw[h1,sL.mpr (h2.trans a7.symm)],Y r s⟩;have D:O _:=P;have aT:Below d.heap.size d d:=aG _ _;clear hP hS hT a0 a1 a3 hF a6 U P C Y a7;generalize decide (i=j)=bp at *;generalize decide (k=l)=bt at *;by_cases Q:a=g;rotate_left
 ·(have g1:(a==g)=false:=by simpa using Q);have HE:O (¬(⟨⟨a,n⟩,i,p,k⟩:aX)=⟨⟨g,m⟩,j,q,l⟩):=fun h=>Q (R.o.mp h).1.1;clear R Q;go_wp2_with fail;go_ret;exact⟨false,rfl,⟨fun h=>(by cases h),fun h=>absurd h HE.o⟩,D.o⟩
 by_cases S:n=m;rotate_left
 ·(have g2:(n==m)=false:=by simpa using S);have HE:O (¬(⟨⟨a,n⟩,i,p,k⟩:aX)=⟨⟨g,m⟩,j,q,l⟩):=fun h=>S (R.o.mp h).1.2;(have g1:(a==g)=true:=by simpa using Q);clear R S;go_wp2_with fail;go_ret;exact⟨false,rfl,⟨fun h=>(by cases h),fun h=>absurd h HE.o⟩,D.o⟩
 (have g1:(a==g)=true:=by simpa using Q);(have g2:(n==m)=true:=by simpa using S);have W:O ((⟨⟨a,n⟩,i,p,k⟩:aX)=⟨⟨g,m⟩,j,q,l⟩↔(bp=true/\Z=true/\bt=true)):=R.o.trans ⟨fun h=>h.2,fun h=>⟨⟨Q,S⟩,h⟩⟩;clear R Q S;cases bp
 ·go_wp2_with(first|(go_at_call 99;with_reducible refine Calls.mono (HP.o _ (by assumption)) ?_;rintro e z1 ⟨rfl,a4,a8,a9,aa,ab,ac,ad,ae,af,ag,ah⟩)|(go_at_call 15;with_reducible refine Calls.mono (V.o _ (by assumption)) ?_;rintro e z2 ⟨rfl,a5,ai,aj,ak,al,am,an,ao,aq,ar,au⟩)|(go_at_call 99;with_reducible refine Calls.mono (X.o _ (by assumption)) ?_;rintro e z3 ⟨rfl,T,av,aw,ax,ay,az,aC,aD,aJ,aL,aN⟩));go_ret;exact⟨false,rfl,⟨fun h=>(by cases h),fun h=>absurd (W.o.mp h).1 dE⟩,D.o.trans (a4.mono D.o.size)⟩
 cases Z
 ·go_wp2_with(first|(go_at_call 99;with_reducible refine Calls.mono (HP.o _ (by assumption)) ?_;rintro e z1 ⟨rfl,a4,a8,a9,aa,ab,ac,ad,ae,af,ag,ah⟩)|(go_at_call 15;with_reducible refine Calls.mono (V.o _ (by assumption)) ?_;rintro e z2 ⟨rfl,a5,ai,aj,ak,al,am,an,ao,aq,ar,au⟩)|(go_at_call 99;with_reducible refine Calls.mono (X.o _ (by assumption)) ?_;rintro e z3 ⟨rfl,T,av,aw,ax,ay,az,aC,aD,aJ,aL,aN⟩));go_ret;exact⟨false,rfl,⟨fun h=>(by cases h),fun h=>absurd (W.o.mp h).2.1 dE⟩,D.o.trans (a5.mono D.o.size)⟩
 cases bt
 ·go_wp2_with(first|(go_at_call 99;with_reducible refine Calls.mono (HP.o _ (by assumption)) ?_;rintro e z1 ⟨rfl,a4,a8,a9,aa,ab,ac,ad,ae,af,ag,ah⟩)|(go_at_call 15;with_reducible refine Calls.mono (V.o _ (by assumption)) ?_;rintro e z2 ⟨rfl,a5,ai,aj,ak,al,am,an,ao,aq,ar,au⟩)|(go_at_call 99;with_reducible refine Calls.mono (X.o _ (by assumption)) ?_;rintro e z3 ⟨rfl,T,av,aw,ax,ay,az,aC,aD,aJ,aL,aN⟩));go_ret;exact⟨false,rfl,⟨fun h=>(by cases h),fun h=>absurd (W.o.mp h).2.2 dE⟩,D.o.trans (T.mono D.o.size)⟩
 go_wp2_with(first|(go_at_call 99;with_reducible refine Calls.mono (HP.o _ (by assumption)) ?_;rintro e z1 ⟨rfl,a4,a8,a9,aa,ab,ac,ad,ae,af,ag,ah⟩)|(go_at_call 15;with_reducible refine Calls.mono (V.o _ (by assumption)) ?_;rintro e z2 ⟨rfl,a5,ai,aj,ak,al,am,an,ao,aq,ar,au⟩)|(go_at_call 99;with_reducible refine Calls.mono (X.o _ (by assumption)) ?_;rintro e z3 ⟨rfl,T,av,aw,ax,ay,az,aC,aD,aJ,aL,aN⟩));go_ret;exact⟨true,rfl,⟨fun _=>W.o.mpr sI,fun _=>rfl⟩,D.o.trans (T.mono D.o.size)⟩
theorem aDL:Tryz.prog.cellsOf 39=2:=kR
theorem aUU:Tryz.prog.cellsOf 40=1:=kR
theorem aUV:Tryz.prog.cellsOf 30=1:=kR
section
variable {H:Type} {enc:TypeId×Value->H} {w:World} {base:Nat} {spare:Nat->Bool} {held:Bool}
theorem aTR{f:Nat}{v0 v1:Value}{x:DataW H×List MemPlace}(h:DataW.trod enc Tryz.prog w base spare held f 39 [v0,v1]=some x):∃i:fK,v0=.int .i64 i.a/\v1=.int .i64 i.n:=by obtain⟨k,l,n,_,d,e⟩:=KR Tryz.underlying39 h;simp[PM]at d e;obtain⟨g,b,_,_⟩:=DataW.trod_int Tryz.underlying3 d;obtain⟨j,c,_,_⟩:=DataW.trod_int Tryz.underlying3 e;simp at b c;exact⟨⟨g,j⟩,b,c⟩
theorem Zz{C:Nat}{v:Value}{x:DataW H×List MemPlace}(h:DataW.trod enc Tryz.prog w base spare held C 40 [v]=some x):∃l,uI w v l/\l.length<=9223372036854775807:=by
 obtain⟨p,l,cap,g,F,L,J⟩:=EE Tryz.underlying40 aDL dE (⟨0,0⟩:fK) (fun b f i=>bGU w b f i) (fun n r y b f K d k=>by
  match r,K with
  |[N,P],_=>
   obtain⟨i,s,u⟩:=aTR k
   exact⟨i,by rw[<-s];exact d 0 dE,by rw[<-u];exact d 1 dE⟩) h
 refine⟨l,⟨p,cap,g,⟨F,fun e=>?_⟩,?_⟩,L⟩
 ·subst e;rcases Deep.open_slice Tryz.underlying40 h with⟨j,_⟩|⟨a,len,q,m,n,D,M,j,_⟩
  ·(have c:v=.slice none 0 0:=by simpa using j);rw[g]at c;injection c with _ _ k
  (have c:v=.slice (some a) len q:=by simpa using j);rw[g]at c;injection c with E;cases E
 rcases J with h|⟨b,f,G,d⟩
 ·exact .inl h
 exact .inr ⟨b,f,G,fun i I=>d i I⟩
theorem Jj{t:TypeId}{c d e f:Field}{m:Nat}{b:List Value}{x:DataW H×List MemPlace}(ht:Tryz.prog.underlying t=some (.struct #[c,d,e,f]))(h:DataW.trod enc Tryz.prog w base spare held m t b=some x):
 ∃i j k l n,b.length=Tryz.prog.cellsOf t/\DataW.trod enc Tryz.prog w base spare held n c.type ((b.drop c.offset).take (Tryz.prog.cellsOf c.type))=some i/\
  DataW.trod enc Tryz.prog w base spare held n d.type ((b.drop d.offset).take (Tryz.prog.cellsOf d.type))=some j/\
  DataW.trod enc Tryz.prog w base spare held n e.type ((b.drop e.offset).take (Tryz.prog.cellsOf e.type))=some k/\
  DataW.trod enc Tryz.prog w base spare held n f.type ((b.drop f.offset).take (Tryz.prog.cellsOf f.type))=some l:=by
 obtain⟨r,n,_,rfl,p,q,g⟩:=DataW.trod_struct ht h
 match r,q with
 |[i,j,k,l],_=>exact⟨i,j,k,l,n,p,by simpa using g 0 c rfl,by simpa using g 1 d rfl,by simpa using g 2 e rfl,by simpa using g 3 f rfl⟩
theorem bE0{p:Nat}{v0 v1 b c d:Value}{x:DataW H×List MemPlace}(h:DataW.trod enc Tryz.prog w base spare held p 42 [v0,v1,b,c,d]=some x):
 ∃u:aX,Value.agg #[v0,v1,b,c,d]=Ab u b c d/\uI w b u.ps/\bS w c u.says/\uI w d u.ts/\(∀f,f∈u.says->gD f)/\(u.ps.length<=9223372036854775807/\u.says.length<=9223372036854775807/\u.ts.length<=9223372036854775807):=by
 obtain⟨K,L,M,N,n,_,e,g,j,k⟩:=Jj Tryz.underlying42 h;simp[aDL,aUU,aUV]at e g j k;obtain⟨i,l,m⟩:=aTR e;obtain⟨G,D,r⟩:=Zz g;obtain⟨I,E,s,q⟩:=aMP j;obtain⟨J,F,C⟩:=Zz k;exact⟨⟨i,G,I,J⟩,by rw[l,m],D,E,F,q,r,s,C⟩
end
end Go.Proofs.YtfljoehbbncooaaGreat
namespace Go.Proofs.YtfljoehbbncooaaGreat
def eF(a b:aX):Int:=gO a.id b.id
def eG(l:List aX)(x:fK):Bool:=l.any fun u=>decide (u.id=x)
def qT(u:aX):List fK:=u.ps++u.ts
def fO(l:List aX)(u:aX):Bool:=(qT u).all (eG l)
theorem iH{l:List aX}{x:fK}:eG l x=true↔∃u,u∈l/\u.id=x:=by
 unfold eG;rw[jW];constructor
 ·rintro⟨u,h,e⟩;exact⟨u,h,fJ e⟩
 rintro⟨u,h,e⟩;exact⟨u,h,aP e⟩
theorem EN{l:List aX}{u:aX}:fO l u=true↔∀x,x∈qT u->eG l x=true:=by unfold fO;rw[fA]
inductive rM (l:List aX):fK->Prop
 |mk (u:aX) (hu:u∈l) (h:∀x,x∈qT u->rM l x):rM l u.id
theorem rM.mono{l m:List aX}(h:∀u,u∈l->u∈m){x:fK}(c:rM l x):rM m x:=by
 induction c with
 |mk u b _ d=>exact .mk u (h u b) d
theorem rM.has{l:List aX}{x:fK}(h:rM l x):eG l x=true:=by
 cases h with
 |mk u b _=>exact iH.mpr ⟨u,b,rfl⟩
def sM(l:List aX):Prop:=∀u v,u∈l->v∈l->u.id=v.id->u=v
theorem rM.under{l:List aX}(b:sM l){u:aX}(c:u∈l)(h:rM l u.id):∀x,x∈qT u->rM l x:=by
 generalize e:u.id=y at h
 cases h with
 |mk v d f=>
  have :=b u v c d e;subst this;exact f
def jB(f:List aX->aX->List aX):List aX->List aX->List aX×List aX
 |c,[]=>(c,[])
 |c,u::r=>if fO c u then jB f (f c u) r else((jB f c r).1,u::(jB f c r).2)
theorem xO(f:List aX->aX->List aX):∀(l c:List aX),(jB f c l).2.length<=l.length
 |[],_=>aH _
 |u::r,c=>by
  unfold jB;split
  ·exact PK (xO f r _)
  exact DC (xO f r c)
def gV(f:List aX->aX->List aX)(c l:List aX):List aX×List aX:=
 if(jB f c l).2.length=l.length then jB f c l
 else gV f (jB f c l).1 (jB f c l).2
termination_by l.length
decreasing_by
 have :=xO f l c;omega
theorem AA{f:List aX->aX->List aX}{c l:List aX}(h:(jB f c l).2.length=l.length):gV f c l=jB f c l:=by rw[gV,if_pos h]
theorem BP{f:List aX->aX->List aX}{c l:List aX}(h:¬(jB f c l).2.length=l.length):gV f c l=gV f (jB f c l).1 (jB f c l).2:=by rw[gV,if_neg h]
def Ec(f:List aX->aX->List aX):Prop:=∀c u,(f c u).Perm (u::c)
theorem JY{f:List aX->aX->List aX}(b:Ec f):∀(l c:List aX),((jB f c l).1++(jB f c l).2).Perm (c++l)
 |[],c=>by simp[jB]
 |u::r,c=>by
  unfold jB;split
  ·refine(JY b r _).trans ?_;refine((b c u).append_right r).trans ?_;exact uW.symm
  refine uW.trans ?_;refine((JY b r c).cons u).trans ?_;exact uW.symm
theorem Ek{f:List aX->aX->List aX}:∀(l c:List aX),(jB f c l).2.length=l.length->(jB f c l).1=c/\(jB f c l).2=l/\∀u,u∈l->fO c u=false
 |[],c,_=>⟨rfl,rfl,by simp⟩
 |u::r,c,h=>by
  unfold jB at h ⊢;split at h
  ·have :=xO f r (f c u);simp only[List.length_cons]at h;omega
  rename_i d;rw[if_neg d];simp only[List.length_cons,Nat.add_right_cancel_iff]at h;obtain⟨e,g,i⟩:=Ek r c h;refine⟨e,by rw[g],?_⟩;intro v b;rcases eA.mp b with rfl|b
  ·simpa using d
  exact i v b
theorem Aq{f:List aX->aX->List aX}(g:Ec f)(d:List aX):∀(l c:List aX),(∀u,u∈l->u∈d)->(∀u,u∈c->rM d u.id)->∀u,u∈(jB f c l).1->rM d u.id
 |[],c,_,e=>by simpa[jB]using e
 |v::r,c,hl,e=>by
  unfold jB;split
  ·rename_i i;refine Aq g d r _ (fun u b=>hl u (by simp[b])) (fun u b=>?_);rcases eA.mp ((g c v).mem_iff.mp b)with rfl|b
   ·refine .mk u (hl u sI) (fun x j=>?_);obtain⟨y,k,rfl⟩:=iH.mp (EN.mp i x j);exact e y k
   exact e u b
  exact Aq g d r c (fun u b=>hl u (by simp[b])) e
theorem Nq{f:List aX->aX->List aX}{c r:List aX}{u:aX}(h:fO c u=true):jB f c (u::r)=jB f (f c u) r:=by rw[jB,if_pos h]
theorem Ug{f:List aX->aX->List aX}{c r:List aX}{u:aX}(h:fO c u=false):jB f c (u::r)=((jB f c r).1,u::(jB f c r).2):=by rw[jB,if_neg (by simp[h])]
structure aS0 (all c l:List aX):Prop where
 perm:(c++l).Perm all
 come:∀u,u∈c->rM all u.id
 left:∀u,u∈l->fO c u=false
theorem LI{f:List aX->aX->List aX}(g:Ec f)(b:List aX):∀(n:Nat)(l c:List aX),l.length=n->(c++l).Perm b->(∀u,u∈c->rM b u.id)->aS0 b (gV f c l).1 (gV f c l).2:=by
 intro n
 induction n using Nat.strongRecOn with
 |ind n q=>
  intro l c r d e;have m:∀u,u∈l->u∈b:=fun u p=>d.mem_iff.mp (gE _ p);by_cases h:(jB f c l).2.length=l.length
  ·rw[AA h];obtain⟨i,j,k⟩:=Ek l c h;rw[i,j];exact⟨d,e,k⟩
  rw[BP h];have :=xO f l c;exact q _ oM _ _ rfl ((JY g l c).trans d) (Aq g b l c m e)
structure EM (all h w:List aX):Prop where
 has:∀u,u∈h↔u∈all/\rM all u.id
 waits:∀u,u∈w↔u∈all/\¬rM all u.id
theorem aS0.parts{d c l:List aX}(h:aS0 d c l)(k:sM d):EM d c l:=by
 have n:∀x,rM d x->eG c x=true:=by
  intro x f
  induction f with
  |mk u b _ w=>
   rcases cW.mp (h.perm.mem_iff.mpr b)with g|i
   ·exact iH.mpr ⟨u,g,rfl⟩
   have :=h.left u i;rw[EN.mpr w]at this;cases this
 (have p:∀u,u∈d->rM d u.id->u∈c:=fun u b f=>by obtain⟨v,m,e⟩:=iH.mp (n _ f);have :=k v u (h.perm.mem_iff.mp (eX _ m)) b e;exact this▸m);(have q:∀u,u∈l->¬rM d u.id:=fun u b f=>by have r:=h.perm.mem_iff.mp (gE _ b);have j:=h.left u b;rw[EN.mpr (fun x s=>n x (rM.under k r f x s))]at j;cases j);refine⟨fun u=>⟨fun b=>⟨h.perm.mem_iff.mp (eX _ b),h.come u b⟩,fun b=>p u b.1 b.2⟩,fun u=>⟨fun b=>⟨h.perm.mem_iff.mp (gE _ b),q u b⟩,fun b=>?_⟩⟩;rcases cW.mp (h.perm.mem_iff.mpr b.1)with g|i
 ·exact absurd (h.come u g) b.2
 exact i
theorem EM.congr{c all' h w:List aX}(e:EM c h w)(b:∀u,u∈c↔u∈all'):EM all' h w:=by
 have d:∀x,rM c x↔rM all' x:=fun x=>⟨rM.mono fun u=>(b u).mp,rM.mono fun u=>(b u).mpr⟩;refine⟨fun u=>?_,fun u=>?_⟩
 ·rw[e.has,b,d]
 rw[e.waits,b,d]
theorem EM.mem{b h w:List aX}(d:EM b h w)(u:aX):u∈h\/u∈w↔u∈b:=by
 rw[d.has,d.waits];constructor
 ·rintro(h|h)<;>exact h.1
 intro e;by_cases c:rM b u.id
 ·exact .inl ⟨e,c⟩
 exact .inr ⟨e,c⟩
theorem EM.carry{b h w:List aX}(d:EM b h w)(i:sM b):∀u,u∈h->fO h u=true:=fun u j=>by obtain⟨f,g⟩:=(d.has u).mp j;refine EN.mpr fun x l=>?_;have c:=rM.under i f g x l;obtain⟨v,k,e⟩:=iH.mp c.has;exact iH.mpr ⟨v,(d.has v).mpr ⟨k,e▸c⟩,e⟩
theorem EM.come{c h w:List aX}(e:EM c h w):∀x,rM c x->rM h x:=by
 intro x b
 induction b with
 |mk u d b f=>exact .mk u ((e.has u).mpr ⟨d, .mk u d b⟩) f
theorem EM.wait{c h w:List aX}(b:EM c h w):∀u,u∈w->fO h u=false:=fun u i=>by
 obtain⟨d,f⟩:=(b.waits u).mp i
 cases g:fO h u with
 |false=>rfl
 |true=>
  refine absurd (rM.mk u d fun x k=>?_) f;obtain⟨v,j,e⟩:=iH.mp (EN.mp g x k);exact e▸((b.has v).mp j).2
theorem Nk{a b:Int}:fX a b<0↔a<b:=by
 unfold fX;split
 ·simp[*]
 split<;>simp[*]
theorem DV{a b:Int}:fX a b=0↔a=b:=by
 unfold fX;split
 ·constructor
  ·intro h;cases h
  intro h;omega
 split
 ·constructor
  ·intro h;cases h
  intro h;omega
 constructor
 ·intro _;omega
 intro _;rfl
theorem Ef{x y:fK}:gO x y<0↔x.a<y.a\/(x.a=y.a/\x.n<y.n):=by
 unfold gO;by_cases h:x.a=y.a
 ·rw[if_pos (DV.mpr h),Nk];constructor
  ·intro b;exact .inr ⟨h,b⟩
  rintro(b|b)
  ·omega
  exact b.2
 rw[if_neg (fun e=>h (DV.mp e)),Nk];constructor
 ·intro b;exact .inl b
 rintro(b|b)
 ·exact b
 exact absurd b.1 h
theorem aFD{x y:fK}:gO x y=0↔x=y:=by
 obtain⟨a,n⟩:=x;obtain⟨b,m⟩:=y;unfold gO;by_cases h:a=b
 ·rw[if_pos (DV.mpr h),DV];simp[h]
 rw[if_neg (fun e=>h (DV.mp e)),DV];simp[h]
theorem CU{a b c:aX}(h:eF a b<0)(k:eF b c<0):eF a c<0:=by unfold eF at *;rw[Ef]at *;omega
theorem OK{a b:aX}(h:¬eF a b<0)(f:a.id≠b.id):eF b a<0:=by unfold eF at *;rw[Ef]at *;have :¬(a.id.a=b.id.a/\a.id.n=b.id.n):=fun e=>f (by cases c:a.id;cases d:b.id;simp[c,d]at e ⊢;exact e);omega
theorem LJ{a b:aX}(h:eF a b<0):a.id≠b.id:=fun e=>by unfold eF at h;rw[aFD.mpr e]at h;omega
theorem sP{u:aX}{l:List aX}:dI eF (u::l)=true↔(∀v,v∈l->eF u v<0)/\dI eF l=true:=by
 induction l generalizing u with
 |nil=>simp[dI]
 |cons a r f=>
  show(decide (eF u a<0)&&dI eF (a::r))=true↔_;rw[eI,BL,f];constructor
  ·rintro⟨b,c,d⟩;refine⟨fun v e=>?_,c,d⟩;rcases eA.mp e with rfl|e
   ·exact b
   exact CU b (c v e)
  rintro⟨b,c,d⟩;exact⟨b a sI,c,d⟩
theorem CT:∀{l:List aX},dI eF l=true->sM l
 |[],_=>by intro u v b;simp at b
 |a::r,h=>by
  obtain⟨f,j⟩:=sP.mp h;intro u v b k e;rcases eA.mp b with c|g<;>rcases eA.mp k with d|i
  ·rw[c,d]
  ·exact absurd e (LJ (c▸f v i))
  ·exact absurd e.symm (LJ (d▸f u g))
  exact CT j u v g i e
theorem MZ:∀{l m:List aX},dI eF l=true->dI eF m=true->(∀u,u∈l↔u∈m)->l=m
 |[],[],_,_,_=>rfl
 |[],b::s,_,_,h=>absurd ((h b).mpr sI) sI
 |a::r,[],_,_,h=>absurd ((h a).mp sI) sI
 |a::r,b::s,hl,hm,h=>by
  obtain⟨g,q⟩:=sP.mp hl;obtain⟨i,w⟩:=sP.mp hm;have f:∀x:aX,¬eF x x<0:=fun x p=>LJ p rfl;have k:a=b:=by
   rcases eA.mp ((h a).mp sI)with e|j
   ·exact e
   rcases eA.mp ((h b).mpr sI)with e|n
   ·exact e.symm
   exact absurd (CU (g b n) (i a j)) (f a)
  subst k;have :r=s:=MZ q w (fun u=>?_)
  ·rw[this]
  constructor
  ·intro c;rcases eA.mp ((h u).mp (by simp[c]))with rfl|d
   ·exact absurd (g _ c) (f _)
   exact d
  intro c;rcases eA.mp ((h u).mpr (by simp[c]))with rfl|d
  ·exact absurd (i _ c) (f _)
  exact d
theorem uF:∀{l:List aX},dI eF l=true->(l.map aX.id).Nodup
 |[],_=>by simp
 |a::r,h=>by obtain⟨b,c⟩:=sP.mp h;rw[jN,qY];refine⟨fun d=>?_,uF c⟩;obtain⟨v,f,e⟩:=cJ.mp d;exact LJ (b v f) e.symm
theorem kT:∀{l:List aX},(l.map aX.id).Nodup->sM l
 |[],_=>by intro u v b;simp at b
 |a::r,h=>by
  rw[jN,qY]at h;intro u v b i e;rcases eA.mp b with c|f<;>rcases eA.mp i with d|g
  ·rw[c,d]
  ·exact absurd (cJ.mpr ⟨v,g,c▸e.symm⟩) h.1
  ·exact absurd (cJ.mpr ⟨u,f,d▸e⟩) h.1
  exact kT h.2 u v f g e
def mV(c:List aX)(u:aX):List aX:=c++[u]
theorem Em:Ec mV:=fun c u=>by unfold mV;exact List.perm_append_comm
def TR(u:aX):Bool:=decide (eV u≠0)
def bJ(l:List aX):Int:=match l.find? TR with |some u=>eV u|none=>0
def iA(h w:List aX):Int:=
 if(dI eF h&&dI eF w&& !(w.any fun u=>eG h u.id))=false then 4
 else if(h.any fun u=> !fO h u)=true then 5
 else if((gV mV [] h).2.length != 0||w.any (fO h))=true then 4 else 0
def dN(h w:List aX):Int:=
 if 200<h.length+w.length then 2
 else if bJ (h++w)≠0 then bJ (h++w)
 else iA h w
theorem MV{l:List aX}:bJ l=0↔∀u,u∈l->eV u=0:=by
 unfold bJ
 cases h:l.find? TR with
 |none=>
  simp only[true_iff];intro u f;have :=List.find?_eq_none.mp h u f;simpa[TR]using this
 |some u=>
  have c:=List.find?_some h;have d:=List.mem_of_find?_eq_some h;(have b:eV u≠0:=by simpa[TR]using c);exact⟨fun e=>absurd e b,fun e=>absurd (e u d) b⟩
structure IJ (h w:List aX):Prop where
 few:h.length+w.length<=200
 each:∀u,u∈h++w->eV u=0
 rh:dI eF h=true
 rw_:dI eF w=true
 apart:∀u,u∈w->eG h u.id=false
 parts:EM (h++w) h w
theorem QN{h w:List aX}(h1:dI eF h=true)(f:dI eF w=true)(g:∀u,u∈w->eG h u.id=false):sM (h++w):=by
 intro u v c d e;(have no:∀a b,a∈h->b∈w->a.id≠b.id:=fun a b i j e=>by have :=g b j;rw[iH.mpr ⟨a,i,e⟩]at this;cases this);rcases cW.mp c with c|c<;>rcases cW.mp d with d|d
 ·exact CT h1 u v c d e
 ·exact absurd e (no u v c d)
 ·exact absurd e.symm (no v u d c)
 exact CT f u v c d e
theorem Ej{h w:List aX}(h1:dI eF h=true)(c:dI eF w=true)(d:∀u,u∈w->eG h u.id=false):((h++w).map aX.id).Nodup:=by rw[dC,qH];refine⟨uF h1,uF c,fun a f b g e=>?_⟩;obtain⟨x,i,rfl⟩:=cJ.mp f;obtain⟨y,j,rfl⟩:=cJ.mp g;have :=d y j;rw[iH.mpr ⟨x,i,e⟩]at this;cases this
theorem QO{h:List aX}(f:sM h):(gV mV [] h).2=[]↔∀u,u∈h->rM h u.id:=by
 have c:=LI Em h h.length h [] rfl sI sI;have d:=c.parts f;constructor
 ·intro e u i;have b:=(d.mem u).mpr i;rw[e]at b;rcases b with b|b
  ·exact c.come u b
  simp at b
 intro g
 cases e:(gV mV [] h).2 with
 |nil=>rfl
 |cons a r=>
  have :=(d.waits a).mp (by rw[e];simp);exact absurd (g a this.1) this.2
theorem TV{h w:List aX}(k:h.length+w.length<=200)(j:∀u,u∈h++w->eV u=0):iA h w=0↔IJ h w:=by
 unfold iA;constructor
 ·intro ht;split at ht
  ·cases ht
  rename_i c;split at ht
  ·cases ht
  rename_i g;split at ht
  ·cases ht
  rename_i d;simp only[Bool.not_eq_false,Bool.and_eq_true,Bool.not_eq_true',List.any_eq_false,Bool.not_eq_true]at c;have f:=QN c.1.1 c.1.2 c.2;simp only[Bool.not_eq_true,Bool.or_eq_false_iff,bne_eq_false_iff_eq]at d;have e:=(QO (CT c.1.1)).mp (dQ d.1);(have i:∀u,u∈w->fO h u=false:=fun u b=>by have :=tT.mp d.2 u b;simpa using this);refine⟨k,j,c.1.1,c.1.2,c.2,aS0.parts ⟨.refl _,fun u b=>(e u b).mono (fun v l=>eX _ l),i⟩ f⟩
 intro o;have f:=QN o.rh o.rw_ o.apart;(have c:(dI eF h&&dI eF w&& !(w.any fun u=>eG h u.id))=true:=by rw[o.rh,o.rw_];simp only[Bool.and_self,Bool.true_and,Bool.not_eq_true',List.any_eq_false];intro u b;rw[o.apart u b];simp);(rw[if_neg (by rw[c];simp)];have g:(h.any fun u=> !fO h u)=false:=by rw[tT];intro u b;rw[o.parts.carry f u b];simp);rw[if_neg (by rw[g];simp)];have d:(gV mV [] h).2=[]:=(QO (CT o.rh)).mpr (fun u b=>o.parts.come _ ((o.parts.has u).mp b).2);(have e:w.any (fO h)=false:=by rw[tT];intro u b;rw[o.parts.wait u b];simp);rw[d,e];rfl
theorem lK{h w:List aX}:dN h w=0↔IJ h w:=by
 unfold dN;constructor
 ·intro b;split at b
  ·cases b
  split at b
  ·rename_i c;exact absurd b c
  rename_i d c;exact(TV oM (MV.mp (by simpa using c))).mp b
 intro o;rw[if_neg (by have :=o.few;omega),if_neg (by rw[MV.mpr o.each];simp)];exact(TV o.few o.each).mpr o
def gY(l:List aX)(u:aX):List aX:=if eG l u.id then l else l++[u]
structure rP (all h w:List aX):Prop where
 parts:EM all h w
 rh:dI eF h=true
 rw_:dI eF w=true
theorem rP.one{c h w d w':List aX}(a:rP c h w)(b:rP c d w'):h=d/\w=w':=
 ⟨MZ a.rh b.rh fun u=>by rw[a.parts.has,b.parts.has],MZ a.rw_ b.rw_ fun u=>by rw[a.parts.waits,b.parts.waits]⟩
theorem rP.congr{b all' h w:List aX}(a:rP b h w)(c:∀u,u∈b↔u∈all'):rP all' h w:=⟨a.parts.congr c,a.rh,a.rw_⟩
theorem IJ.is{h w:List aX}(o:IJ h w):rP (h++w) h w:=⟨o.parts,o.rh,o.rw_⟩
theorem IJ.nd{h w:List aX}(o:IJ h w):((h++w).map aX.id).Nodup:=Ej o.rh o.rw_ o.apart
theorem rP.ok{b h w:List aX}(a:rP b h w)(d:sM b)(f:∀u,u∈b->eV u=0)(g:h.length+w.length<=200):IJ h w:=by
 refine⟨g,fun u c=>f u ((a.parts.mem u).mp (cW.mp c)),a.rh,a.rw_,fun u c=>?_,a.parts.congr fun u=>by rw[<-a.parts.mem u,cW]⟩
 cases j:eG h u.id with
 |false=>rfl
 |true=>
  obtain⟨v,i,e⟩:=iH.mp j;obtain⟨m,n⟩:=(a.parts.has v).mp i;obtain⟨k,l⟩:=(a.parts.waits u).mp c;have :=d v u m k e;subst this;exact absurd n l
theorem zZ{l:List aX}{u:aX}(h:(l.map aX.id).Nodup):((gY l u).map aX.id).Nodup:=by
 unfold gY;split
 ·exact h
 rename_i f;rw[dC,qH];refine⟨h,by simp,fun a d b c e=>?_⟩;obtain⟨x,g,rfl⟩:=cJ.mp d;simp only[List.map_cons,List.map_nil,List.mem_singleton]at c;exact f (iH.mpr ⟨x,g,e.trans c⟩)
theorem xN{l:List aX}{u v:aX}:v∈gY l u↔v∈l\/(eG l u.id=false/\v=u):=by unfold gY;cases h:eG l u.id<;>simp
theorem Eg{l h w:List aX}(d:(l.map aX.id).Nodup)(h1:∀u,u∈h↔u∈(gV mV [] l).1)(c:∀u,u∈w↔u∈(gV mV [] l).2)(e:dI eF h=true)(f:dI eF w=true):rP l h w:=by have b:=(LI Em l l.length l [] rfl sI sI).parts (kT d);exact⟨⟨fun u=>(h1 u).trans (b.has u),fun u=>(c u).trans (b.waits u)⟩,e,f⟩
end Go.Proofs.YtfljoehbbncooaaGreat
