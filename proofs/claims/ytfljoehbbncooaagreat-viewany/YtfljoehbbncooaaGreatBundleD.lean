/- Own texts, one behind the other (part 4). -/
import Derived.Test.YtfljoehbbncooaaGreatBundleC
import Derived.Test.YtfljoehbbncooaaGreatRows
import Derived.Defers
import Derived.Recover
import Derived.RegionTactic
import Derived.ChangeAlike
import Derived.Deep.Slices
set_option maxRecDepth 100000
set_option maxHeartbeats 8000000
namespace Go.Proofs.YtfljoehbbncooaaGreat
open Go.RowKit
theorem aRI(s:List UInt8):(kM [⟨0,s,[],0,[]⟩]==0)=qQ s:=by cases h:qQ s<;>simp[kM,kX,pO,zG,tF,rO,GQ,DZ,h]
theorem aR8(s:List UInt8)(w:World):Calls Tryz.prog 113 #[.string ⟨s.toArray⟩] w fun e j=>e=.returned (.bool (qQ s))/\Below w.heap.size w j:=by
 rw[<-aRI]
 go_enter Tryz.func113,Tryz.ntmps113
 go_wp2_with fail;(have c:Ky (w.alloc (.cells #[.int .i64 0, .string ⟨s.toArray⟩, .slice none 0 0, .int .i64 0, .slice none 0 0] 197)) (.slice (some ⟨w.heap.size,0,none⟩) 1 1) [⟨0,s,[],0,[]⟩]:=by have f:=bA w (.cells #[.int .i64 0, .string ⟨s.toArray⟩, .slice none 0 0, .int .i64 0, .slice none 0 0] 197);refine⟨some ⟨w.heap.size,0,none⟩,1,rfl, .inr ⟨w.heap.size,0,rfl,fun i g=>?_⟩⟩;(obtain rfl:i=0:=by simpa using g);refine⟨?_,?_,⟨_,?_,⟨none,0,rfl, .inl rfl⟩⟩,?_,_,?_,⟨none,0,rfl, .inl rfl⟩⟩<;>(rw[cM f];rfl));refine Calls.mono (aT2 _ _ _ c) ?_;rintro e k ⟨rfl,d⟩;have b:Below w.heap.size w (w.alloc (.cells #[.int .i64 0, .string ⟨s.toArray⟩, .slice none 0 0, .int .i64 0, .slice none 0 0] 197)):=(aG _ _).alloc (aH _) _;go_wp2_with fail;go_ret;exact⟨rfl,b.trans (d.mono b.size)⟩
structure RB (w:World) (o1 o2:Obj) (wr:World):Prop where
 d:Below w.heap.size w wr
 b1:wr.heap[w.heap.size]?=some o1
 b2:wr.heap[w.heap.size+1]?=some o2
theorem RB.z{w wr c:World}{o1 o2:Obj}(h:RB w o1 o2 wr)(b:Below wr.heap.size wr c):RB w o1 o2 c:=
 ⟨h.d.trans (b.mono h.d.size),(b.block _ (cV h.b1)).trans h.b1,(b.block _ (cV h.b2)).trans h.b2⟩
theorem RB.start(w:World)(o1 o2:Obj):RB w o1 o2 ((w.alloc o1).alloc o2):=⟨EB w _ _,(xE (aG _ _)).1,(xE (aG _ _)).2⟩
theorem RB.drew{w wr:World}{o1 o2:Obj}(h:RB w o1 o2 wr):RB w o1 o2 wr.drew:=⟨h.d.drew,h.b1,h.b2⟩
theorem yF{α:Type}{f:α->Int}:∀{l:List α},aW f l=0->∀x,x∈l->f x=0:=by
 intro l
 induction l with
 |nil=>exact fun _ x b=>absurd b sI
 |cons a r d=>
  intro h x b;rw[aW]at h;split at h
  ·rename_i c;rcases eA.mp b with rfl|b
   ·exact c
   exact d h x b
  rename_i c;exact absurd h c
theorem Iz{l:List cX}{i:Nat}(h:i<l.length):dR l i∈l:=by unfold dR;rw[aI,aM h];exact fG h
theorem bB8{a b:Int}(h:iV a b=0):a=0/\b=0:=by
 unfold iV at h;split at h
 ·exact⟨by assumption,h⟩
 rename_i c;exact absurd h c
theorem aMG{e:List Int}{d:Int}{x:cX}(h:gX e d x=0)(h0:0<=d)(g:UC x):Tc d.toNat x:=by
 obtain⟨b,f⟩:=bB8 h;refine⟨fun c=>?_,fun t ht=>?_,g⟩
 ·rw[eW,if_neg (by rw[c];decide),if_neg (by rw[c];decide),if_pos c]at b;split at b
  ·split at b
   ·exact absurd b dE
   rename_i j;exact Classical.byContradiction fun k=>j (.inr k)
  exact absurd b dE
 have :=yF f t ht;unfold mZ dT at this;split at this
 ·rename_i i;simp at i;omega
 exact absurd this dE
theorem aCH(m:List Int)(va vn vr:Value)(r:cA)(vt vb:Value)(w:World)(hA:eT w va m)(hT:iX w vt r.v)(hL:uA w vb r.body)(hF:KH r):
 Calls Tryz.prog 115 #[gU va vn vr,rZ r vt vb] w fun e w'=>e=Ig (eQ m r)/\Below w.heap.size w w':=by
 obtain⟨ao,cap,rfl,hA⟩:=hA;obtain⟨M,n,q,f,l⟩:=r;have HT:O (iX w vt n):=hT;have HL:O (uA w vb f):=hL;have HA:O (eT w (.slice ao m.length cap) m):=⟨ao,cap,rfl,hA⟩;have a5:O (n.length<=9223372036854775807):=hF.1;have a4:O (∀i,i<f.length->UC (dR f i)):=hF.2.2;obtain⟨at_,J,rfl,_,_⟩:=hT;obtain⟨N,cb,rfl,a0⟩:=hL;have a0:QY w N f:=a0;simp only at HT HL;clear hF;have c:=RB.start w (.cells #[.slice ao m.length cap,vn,vr] 26) (.cells #[.int .i64 M, .slice at_ n.length J, .int .i64 q, .slice N f.length cb, .int .i64 l] 97)
 have p:O (eQ m ⟨M,n,q,f,l⟩=if nX m M then
  iV (if(n.length:Int)≠cI m M.toNat then 1 else 0) (
  iV (if dT l 0 8 then 0 else 3) (
  iV (fL l n) (
  iV (if dT q 0 4 then 0 else 7) (
  iV (if q≠0/\(n.length=0\/f.length=0)then 1 else 0) (
  iV (if 4<f.length then 2 else 0) (
  iV (aW (gX m l) f) (if xS ⟨M,n,q,f,l⟩then 0 else 4)))))))
 else 5):=rfl
 cases g1:nX m M
 ·(have HV:O (eQ m ⟨M,n,q,f,l⟩=5):=by show _=_;rw[p.o,g1];rfl);clear p a0 HT HL HA a5 a4
  go_enter Tryz.func115,Tryz.ntmps115
  go_wp2_with fail;refine(GT m ao cap vn vr M _).mono ?_;rintro e w2 ⟨s,F⟩;rw[g1]at s;subst s;have c:=c.z F;go_wp2_with fail;refine(iY 5 _).mono ?_;rintro e u ⟨rfl,C⟩;go_wp2_with fail;exact⟨rfl,rV,c.d.trans (C.mono c.d.size)⟩
 obtain⟨k,rfl,hk⟩:=Cw g1;obtain⟨b,G,rfl,hc⟩:=sY hA k hk;have HC:O (∀y,Below w.heap.size w y->y.cell? ⟨b,G+k,none⟩=some (.int .i64 (cI m k))):=fun y hy=>aB hy hc;clear hc hA;rw[g1,if_pos rfl,lC]at p
 go_enter Tryz.func115,Tryz.ntmps115
 go_wp2_with fail;refine(GT m _ cap vn vr k _).mono ?_;rintro e w2 ⟨s,F⟩;rw[g1]at s;subst s;have c:=c.z F;have hq:=HC.o _ c.d;clear F HC;go_wp2_with fail;refine(kN 5 _).mono ?_;rintro e u ⟨rfl,rfl⟩;(have I:u.cell? ⟨w.heap.size,0,none⟩=some (.slice (some ⟨b,G,none⟩) m.length cap):=cH c.b1);(have P:u.cell? ⟨w.heap.size+1,0,none⟩=some (.int .i64 k):=cH c.b2);(have Q:u.cell? ⟨w.heap.size+1,1,none⟩=some (.slice at_ n.length J):=cH c.b2);(have R:u.cell? ⟨w.heap.size+1,2,none⟩=some (.int .i64 q):=cH c.b2);(have T:u.cell? ⟨w.heap.size+1,3,none⟩=some (.slice N f.length cb):=cH c.b2);(have U:u.cell? ⟨w.heap.size+1,4,none⟩=some (.int .i64 l):=cH c.b2);go_upto_region 2 with fail;cases g2:((n.length:Int) != cI m k)
 ·(have h2:(n.length:Int)=cI m k:=by simpa using g2);rw[if_neg (by simp[h2]),gC]at p;go_region_held3 (fun y=>y.cell? ⟨w.heap.size,0,none⟩=some (.slice (some ⟨b,G,none⟩) m.length cap)/\y.cell? ⟨w.heap.size+1,0,none⟩=some (.int .i64 k)/\y.cell? ⟨w.heap.size+1,1,none⟩=some (.slice at_ n.length J)/\y.cell? ⟨b,G+k,none⟩=some (.int .i64 (cI m k))) (go_keep) ((go_at_call 112;refine Calls.mono (kN 1 _) ?_;rintro e y ⟨rfl,rfl⟩));have c:=c.drew;clear I P Q R T U h2 hq;generalize u.drew=wd at *;(have I:wd.cell? ⟨w.heap.size,0,none⟩=some (.slice (some ⟨b,G,none⟩) m.length cap):=cH c.b1);(have P:wd.cell? ⟨w.heap.size+1,0,none⟩=some (.int .i64 k):=cH c.b2);(have Q:wd.cell? ⟨w.heap.size+1,1,none⟩=some (.slice at_ n.length J):=cH c.b2);(have R:wd.cell? ⟨w.heap.size+1,2,none⟩=some (.int .i64 q):=cH c.b2);(have T:wd.cell? ⟨w.heap.size+1,3,none⟩=some (.slice N f.length cb):=cH c.b2);(have U:wd.cell? ⟨w.heap.size+1,4,none⟩=some (.int .i64 l):=cH c.b2);by_cases h3:l<0
  ·(have HV:O (eQ m ⟨k,n,q,f,l⟩=3):=by show _=_;rw[p.o,if_neg (by simp[dT];omega)];rfl);have g3:decide (l<0)=true:=aP h3;clear p;go_wp2_with fail;refine(iY 3 _).mono ?_;rintro e u ⟨rfl,C⟩;go_wp2_with fail;exact⟨rfl,rV,c.d.trans (C.mono c.d.size)⟩
  have g3:decide (l<0)=false:=aF h3;by_cases ac:8<l
  ·(have HV:O (eQ m ⟨k,n,q,f,l⟩=3):=by show _=_;rw[p.o,if_neg (by simp[dT];omega)];rfl);have aj:decide (8<l)=true:=aP ac;clear p;go_wp2_with fail;refine(iY 3 _).mono ?_;rintro e u ⟨rfl,C⟩;go_wp2_with fail;exact⟨rfl,rV,c.d.trans (C.mono c.d.size)⟩
  have aj:decide (8<l)=false:=aF ac;rw[if_pos (show dT l 0 8=true by simp[dT];omega),gC]at p;go_wp2_with fail;refine(kN 3 _).mono ?_;rintro e u ⟨rfl,rfl⟩;go_wp2_with fail;refine Calls.mono (WM n l _ _ a5.o (fV HT.o c.d)) ?_;rintro e Y ⟨s,X⟩;by_cases h4:fL l n=0;rotate_left
  ·(have HV:O (eQ m ⟨k,n,q,f,l⟩=fL l n):=by show _=_;rw[p.o,qP _ h4]);rw[DM h4]at s;subst s;clear p;go_wp2_with fail;exact⟨rfl,by rw[HV.o,DM h4],c.d.trans (X.mono c.d.size)⟩
  rw[h4,LE]at s;subst s;rw[h4,gC]at p;have c:=c.z X;clear I P Q R T U X h4 a5;(have I:Y.cell? ⟨w.heap.size,0,none⟩=some (.slice (some ⟨b,G,none⟩) m.length cap):=cH c.b1);(have P:Y.cell? ⟨w.heap.size+1,0,none⟩=some (.int .i64 k):=cH c.b2);(have Q:Y.cell? ⟨w.heap.size+1,1,none⟩=some (.slice at_ n.length J):=cH c.b2);(have R:Y.cell? ⟨w.heap.size+1,2,none⟩=some (.int .i64 q):=cH c.b2);(have T:Y.cell? ⟨w.heap.size+1,3,none⟩=some (.slice N f.length cb):=cH c.b2);(have U:Y.cell? ⟨w.heap.size+1,4,none⟩=some (.int .i64 l):=cH c.b2);by_cases h5:q<0
  ·(have HV:O (eQ m ⟨k,n,q,f,l⟩=7):=by show _=_;rw[p.o,if_neg (by simp[dT];omega)];rfl);have g5:decide (q<0)=true:=aP h5;clear p;go_wp2_with fail;refine(iY 7 _).mono ?_;rintro e u ⟨rfl,C⟩;go_wp2_with fail;exact⟨rfl,rV,c.d.trans (C.mono c.d.size)⟩
  have g5:decide (q<0)=false:=aF h5;by_cases ad:4<q
  ·(have HV:O (eQ m ⟨k,n,q,f,l⟩=7):=by show _=_;rw[p.o,if_neg (by simp[dT];omega)];rfl);have ak:decide (4<q)=true:=aP ad;clear p;go_wp2_with fail;refine(iY 7 _).mono ?_;rintro e u ⟨rfl,C⟩;go_wp2_with fail;exact⟨rfl,rV,c.d.trans (C.mono c.d.size)⟩
  have ak:decide (4<q)=false:=aF ad;rw[if_pos (show dT q 0 4=true by simp[dT];omega),gC]at p;go_wp2_with fail;refine(kN 7 _).mono ?_;rintro e u ⟨rfl,rfl⟩;go_upto_region 6 with fail;by_cases H:q≠0/\(n.length=0\/f.length=0)
  ·(have HV:O (eQ m ⟨k,n,q,f,l⟩=1):=by show _=_;rw[p.o,if_pos H];rfl);clear p;(have g6:(q != 0)=true:=by simpa using H.1);by_cases h7:n.length=0
   ·(have g7:((n.length:Int)==0)=true:=by simp[h7]);clear H h7;go_wp2_with fail;refine(iY 1 _).mono ?_;rintro e u ⟨rfl,C⟩;go_wp2_with fail;exact⟨rfl,rV,c.d.trans (C.mono c.d.size)⟩
   (have g7:((n.length:Int)==0)=false:=by simp;exact fun e=>h7 (by rw[e];rfl));have W:f.length=0:=H.2.resolve_left h7;(have g8:((f.length:Int)==0)=true:=by simp[W]);clear H h7 W;go_wp2_with fail;refine(iY 1 _).mono ?_;rintro e u ⟨rfl,C⟩;go_wp2_with fail;exact⟨rfl,rV,c.d.trans (C.mono c.d.size)⟩
  rw[if_neg H,gC]at p;go_cut [] (fun wx=>wx=u)
  case first=>
   cases g6:(q != 0)
   ·clear H;go_wp2_with fail;refine(kN 1 _).mono ?_;rintro e w5 ⟨rfl,rfl⟩;go_wp2_with fail;go_meet;rfl
   have E:¬(n.length=0\/f.length=0):=fun h=>H ⟨by simpa using g6,h⟩;(have g7:((n.length:Int)==0)=false:=by simp;exact fun e=>E (.inl (by rw[e];rfl)));(have g8:((f.length:Int)==0)=false:=by simp;exact fun e=>E (.inr (by rw[e];rfl)));clear H E;go_wp2_with fail;refine(kN 1 _).mono ?_;rintro e w5 ⟨rfl,rfl⟩;go_wp2_with fail;go_meet;rfl
  case rest=>
   subst hcut;clear H;by_cases W:4<f.length
   ·(have HV:O (eQ m ⟨k,n,q,f,l⟩=2):=by show _=_;rw[p.o,if_pos W];rfl);have g8:decide (4<f.length)=true:=aP W;have al:decide ((4:Int)<(f.length:Int))=true:=aP oM;clear p;go_wp2_with fail;refine(iY 2 _).mono ?_;rintro e u ⟨rfl,C⟩;go_wp2_with fail;exact⟨rfl,rV,c.d.trans (C.mono c.d.size)⟩
   have g8:decide (4<f.length)=false:=aF W;have al:decide ((4:Int)<(f.length:Int))=false:=aF oM;rw[if_neg W,gC]at p;go_wp2_with fail;refine(kN 2 _).mono ?_;rintro e u ⟨rfl,rfl⟩;go_wp2_with fail;clear I P Q R T U;go_loopw [70] (fun i wr=>∃j:Nat,j<=f.length/\i=.int .i64 j/\RB w (.cells #[.slice (some ⟨b,G,none⟩) m.length cap,vn,vr] 26) (.cells #[.int .i64 k, .slice at_ n.length J, .int .i64 q, .slice N f.length cb, .int .i64 l] 97) wr/\aW (gX m l) f=aW (gX m l) (f.drop j)) (fun i _=>f.length-(intOf i).toNat);case atStart=>exact⟨0,bL _,rfl,c,rfl⟩
   case round=>
    clear c;obtain⟨j,hj,rfl,c,ag⟩:=hrel;have a2:O _:=ag;clear ag;(have I:wr.cell? ⟨w.heap.size,0,none⟩=some (.slice (some ⟨b,G,none⟩) m.length cap):=cH c.b1);(have P:wr.cell? ⟨w.heap.size+1,0,none⟩=some (.int .i64 k):=cH c.b2);(have Q:wr.cell? ⟨w.heap.size+1,1,none⟩=some (.slice at_ n.length J):=cH c.b2);(have R:wr.cell? ⟨w.heap.size+1,2,none⟩=some (.int .i64 q):=cH c.b2);(have T:wr.cell? ⟨w.heap.size+1,3,none⟩=some (.slice N f.length cb):=cH c.b2);(have U:wr.cell? ⟨w.heap.size+1,4,none⟩=some (.int .i64 l):=cH c.b2);(have c2:wr.cell? ⟨w.heap.size,1,none⟩=some vn:=cH c.b1);(have c3:wr.cell? ⟨w.heap.size,2,none⟩=some vr:=cH c.b1);by_cases a7:j<f.length
    ·obtain⟨b3,au,rfl,p0,p1,p2,v,p3,ae⟩:=FO a0 j a7;have aa:O (iX w v (dR f j).v):=ae;obtain⟨av,cv,rfl,_,_⟩:=ae;have q0:=aB c.d p0;have q1:=aB c.d p1;have q2:=aB c.d p2;have q3:=aB c.d p3;have Z:O (aW (gX m l) f=iV (gX m l (dR f j)) (aW (gX m l) (f.drop (j+1)))):=a2.o.trans (yD _ _ _ j a7);have a9:O (UC (dR f j)):=a4.o j a7;have C:Below wr.heap.size wr (wr.alloc (.cells #[.int .i64 (dR f j).kind, .int .i64 (dR f j).op, .int .i64 (dR f j).g, .slice av (dR f j).v.length cv] 109)):=(aG _ _).alloc (aH _) _;have a8:=bA wr (.cells #[.int .i64 (dR f j).kind, .int .i64 (dR f j).op, .int .i64 (dR f j).g, .slice av (dR f j).v.length cv] 109);have L:=c.z C;clear p0 p1 p2 p3 C a2 a0 HL;generalize hx:dR f j=x at *;clear hx I c2 c3;(have I:(wr.alloc (.cells #[.int .i64 x.kind, .int .i64 x.op, .int .i64 x.g, .slice av x.v.length cv] 109)).cell? ⟨w.heap.size,0,none⟩=some (.slice (some ⟨b,G,none⟩) m.length cap):=cH L.b1);(have c2:(wr.alloc (.cells #[.int .i64 x.kind, .int .i64 x.op, .int .i64 x.g, .slice av x.v.length cv] 109)).cell? ⟨w.heap.size,1,none⟩=some vn:=cH L.b1);(have c3:(wr.alloc (.cells #[.int .i64 x.kind, .int .i64 x.op, .int .i64 x.g, .slice av x.v.length cv] 109)).cell? ⟨w.heap.size,2,none⟩=some vr:=cH L.b1);go_wp2_with fail;refine Calls.mono (aHK m _ vn vr x _ _ (bC HA.o L.d) ⟨_,_,rfl⟩) ?_;rintro e w2 ⟨s,F⟩;by_cases E:eW m x=0;rotate_left
     ·(have HV:O (eQ m ⟨k,n,q,f,l⟩=eW m x):=by show _=_;rw[p.o,Z.o,gX,qP _ E,qP _ E,qP _ E]);rw[DM E]at s;subst s;clear p Z;go_wp2_with fail;exact⟨rfl,by rw[HV.o,DM E],L.d.trans (F.mono L.d.size)⟩
     rw[E,LE]at s;subst s;have a1:=L.z F;have ah:=(F.block _ (cV a8)).trans a8;(have l3:w2.cell? ⟨wr.heap.size,3,none⟩=some (.slice av x.v.length cv):=cH ah);(have ai:w2.cell? ⟨w.heap.size+1,4,none⟩=some (.int .i64 l):=cH a1.b2);clear a8 ah F L q0 q1 q2 q3 I P Q R T U c2 c3;go_wp2_with fail;refine Calls.mono (WM x.v l _ _ a9.o (fV aa.o a1.d)) ?_;rintro e Y ⟨s,X⟩;by_cases V:fL l x.v=0;rotate_left
     ·(have HV:O (eQ m ⟨k,n,q,f,l⟩=fL l x.v):=by show _=_;rw[p.o,Z.o,gX,E,gC,qP _ V,qP _ V]);rw[DM V]at s;subst s;clear p Z;go_wp2_with fail;exact⟨rfl,by rw[HV.o,DM V],a1.d.trans (X.mono a1.d.size)⟩
     rw[V,LE]at s;subst s;have am:=a1.z X;(have HV:O (aW (gX m l) f=aW (gX m l) (f.drop (j+1))):=by show _=_;rw[Z.o,gX,E,gC,V,gC]);clear Z aa a9 X E V l3 ai a1;go_wp2_with fail;go_roundw;(case rel=>exact⟨j+1,oM,gN,am,HV.o⟩);case measure=>exact mI
    (have hz:aW (gX m l) f=0:=by rw[a2.o,bG oM];rfl);have a6:Gy ⟨k,n,q,f,l⟩:=⟨by show 0<=l;omega,by show l<=8;omega,by show f.length<=4;omega,fun i hi=>aMG (yF hz _ (Iz hi)) (by show 0<=l;omega) (a4.o i hi)⟩;rw[hz,gC]at p;clear a2 hz a0;go_wp2_with fail;refine Calls.mono (aRC ⟨k,n,q,f,l⟩ _ _ _ (wB HL.o c.d) a6) ?_;rintro e w2 ⟨s,F⟩;have c:=c.z F;cases a3:xS ⟨k,n,q,f,l⟩
    ·rw[a3]at s p;subst s;(have HV:O (eQ m ⟨k,n,q,f,l⟩=4):=by show _=_;rw[p.o];rfl);clear p a6 a3;go_wp2_with fail;refine(iY 4 _).mono ?_;rintro e u ⟨rfl,C⟩;go_wp2_with fail;exact⟨rfl,rV,c.d.trans (C.mono c.d.size)⟩
    rw[a3]at s p;subst s;(have HV:O (eQ m ⟨k,n,q,f,l⟩=0):=by show _=_;rw[p.o];rfl);clear p a6 a3;go_wp2_with fail;refine(kN 4 _).mono ?_;rintro e u ⟨rfl,rfl⟩;go_wp2_with fail;exact⟨rfl, .tuple #[],by simp[results,Tryz.results115],rV,c.d⟩
 (have h2:¬(n.length:Int)=cI m k:=by simpa using g2);(have HV:O (eQ m ⟨k,n,q,f,l⟩=1):=by show _=_;rw[p.o,if_pos h2];rfl);have af:=c.d;clear p h2;refine JX (S:=(fun y=>y.cell? ⟨w.heap.size,0,none⟩=some (.slice (some ⟨b,G,none⟩) m.length cap)/\y.cell? ⟨w.heap.size+1,0,none⟩=some (.int .i64 k)/\y.cell? ⟨w.heap.size+1,1,none⟩=some (.slice at_ n.length J)/\y.cell? ⟨b,G+k,none⟩=some (.int .i64 (cI m k)))) kR (by go_keep) (fun aq=>?_);refine iM (i:=0) (v:=?v0x0) rfl kR kR kR (fun _ _ _ h=>h) (Or.inl ⟨by rfl,?hy0x0⟩) (by assumption) ?_;(case hy0x0=>intro w D;(try dsimp only at D);go_simp;try with_reducible rfl);(try simp only[Act.put,List.setIfInBounds_toArray]);refine iM (i:=1) (v:=?v1x1) rfl kR kR kR (fun _ _ _ h=>h) (Or.inl ⟨by rfl,?hy1x1⟩) (by assumption) ?_;(case hy1x1=>intro w D;(try dsimp only at D);go_simp;try with_reducible rfl);(try simp only[Act.put]);refine iM (i:=2) (v:=?v2x2) rfl kR kR kR (fun _ _ _ h=>h) (Or.inl ⟨by rfl,?hy2x2⟩) (by assumption) ?_;(case hy2x2=>intro w D;(try dsimp only at D);go_simp;try with_reducible rfl);(try simp only[Act.put]);refine iM (i:=3) (v:=?v3x3) rfl kR kR kR (fun _ _ _ h=>h) (Or.inl ⟨by rfl,?hy3x3⟩) (by assumption) ?_;(case hy3x3=>intro w D;(try dsimp only at D);go_simp;try with_reducible rfl);(try simp only[Act.put]);refine iM (i:=4) (v:=?v4x4) rfl kR kR kR (fun _ _ _ h=>h) (Or.inl ⟨by rfl,?hy4x4⟩) (by assumption) ?_;(case hy4x4=>intro w D;(try dsimp only at D);go_simp;try with_reducible rfl);(try simp only[Act.put]);refine iM (i:=5) (v:=?v5x5) rfl kR kR kR (fun _ _ _ h=>h) (Or.inl ⟨by rfl,?hy5x5⟩) (by assumption) ?_;(case hy5x5=>intro w D;(try dsimp only at D);go_simp;try with_reducible rfl);(try simp only[Act.put]);refine iM (i:=6) (v:=?v6x6) rfl kR kR kR (fun _ _ _ h=>h) (Or.inl ⟨by rfl,?hy6x6⟩) (by assumption) ?_;(case hy6x6=>intro w D;(try dsimp only at D);go_simp;try with_reducible rfl);(try simp only[Act.put]);refine iM (i:=7) (v:=?v7x7) rfl kR kR kR (fun _ _ _ h=>h) (Or.inl ⟨by rfl,?hy7x7⟩) (by assumption) ?_;(case hy7x7=>intro w D;(try dsimp only at D);go_simp;try with_reducible rfl);(try simp only[Act.put]);refine iM (i:=8) (v:=?v8x8) rfl kR kR kR (fun _ _ _ h=>h) (Or.inl ⟨by rfl,?hy8x8⟩) (by assumption) ?_;(case hy8x8=>intro w D;(try dsimp only at D);go_simp;try with_reducible rfl);(try simp only[Act.put]);refine iM (i:=9) (v:=?v9x9) rfl kR kR kR (fun _ _ _ h=>h) (Or.inl ⟨by rfl,?hy9x9⟩) (by assumption) ?_;(case hy9x9=>intro w D;(try dsimp only at D);go_simp;try with_reducible rfl);(try simp only[Act.put]);refine EJ (rs:=[10]) kR sI ?_;refine AllReadyH.cons rfl (fun K hK=>?_) AllReadyH.nil;go_simp;go_at_call 112;refine Calls.mono (iY 1 _) ?_;rintro e y2 ⟨rfl,an⟩;exact⟨rfl,rV,af.drew.trans (an.mono af.size)⟩
structure CB (w:World) (o:Obj) (M:Nat) (ns:List (List UInt8)) (wr:World):Prop where
 d:Below w.heap.size w wr
 box:wr.heap[w.heap.size]?=some o
 num:Oh wr M ns
 lt:w.heap.size<M
theorem CB.z{w wr c:World}{o:Obj}{M:Nat}{ns:List (List UInt8)}(h:CB w o M ns wr)(b:Below wr.heap.size wr c):CB w o M ns c:=
 ⟨h.d.trans (b.mono h.d.size),(b.block _ (cV h.box)).trans h.box,h.num.z b,h.lt⟩
theorem CB.of{w wr b:World}{o:Obj}{M:Nat}{ns g:List (List UInt8)}(h:CB w o M ns wr)(hg:wr.grownBy b (some M))(j:Oh b M g):CB w o M g b:=by
 have i:=h.lt;have f:=h.d.size
 exact⟨⟨hg.os.trans h.d.os,hg.tape.trans h.d.tape,hg.output.trans h.d.output,bP f hg.size,fun k c=>(hg.block k (dS c f) (fun e=>by injection e;omega)).trans (h.d.block k c)⟩,
  (hg.block _ (cV h.box) (fun e=>by injection e;omega)).trans h.box,j,i⟩
theorem CB.start(w:World)(o:Obj):CB w o (w.heap.size+1) [] ((w.alloc o).alloc (.map #[] 0)):=by have h:=xE (w:=w) (o1:=o) (o2:=.map #[] 0) (aG _ _);have b:=aRM (w.alloc o);rw[show(w.alloc o).heap.size=w.heap.size+1 by simp]at b;exact⟨EB w _ _,h.1,b,oM⟩
theorem aIM{w:World}{ao:Option Addr}{l:List (List UInt8)}(h:aG7 w ao l)(n:Nat)(d:n<l.length):∃b c,ao=some ⟨b,c,none⟩/\w.cell? ⟨b,c+n,none⟩=some (.string ⟨(rI l n).toArray⟩):=by
 rcases h with h|⟨b,c,e,f⟩
 ·rw[h]at d;exact absurd d sI
 exact⟨b,c,e,f n d⟩
theorem AH{w:World}{ao:Option Addr}{l:List cA}(h:UJ w ao l)(n:Nat)(d:n<l.length):∃b c,ao=some ⟨b,c,none⟩/\Fg w b (c+n*5) (dX l n):=by
 rcases h with h|⟨b,c,e,f⟩
 ·rw[h]at d;exact absurd d sI
 exact⟨b,c,e,f n d⟩
theorem aEW(b:List Int)(ns:List (List UInt8))(j:Nat)(h:j<ns.length):aW (lX b ns) ((List.range ns.length).drop j)=iV (lX b ns j) (aW (lX b ns) ((List.range ns.length).drop (j+1))):=by
 rw[yD _ 0 _ j (by simpa using h)]
 congr 2
 simp[h]
theorem aX4(ns:List (List UInt8))(j:Nat)(h:j<ns.length):ns.take j++[rI ns j]=ns.take (j+1):=by rw[nE h];simp[rI,List.getD_eq_getElem?_getD,h]
theorem bH3{x:List UInt8}{l:List (List UInt8)}(h:l.contains x=true):l.idxOf x<l.length:=List.idxOf_lt_length_iff.mpr (by simpa using h)
theorem Rf(p:bK)(va vn vr:Value)(w:World)(hP:nV w va vn vr p)(hF:lR p):
 Calls Tryz.prog 72 #[gU va vn vr] w fun e w'=>e=Ig (dB p)/\Below w.heap.size w w':=by
 obtain⟨c,ns,f⟩:=p;obtain⟨u,D,C⟩:=hP;have HA:O (eT w va c):=u;obtain⟨L,cap,rfl,u⟩:=u;obtain⟨P,U,rfl,D⟩:=D;obtain⟨N,cl,rfl,C⟩:=C;have u:vS w L c:=u;have D:aG7 w P ns:=D;have C:UJ w N f:=C;have aa:O (∀i,i<f.length->KH (dX f i)):=hF.rs;clear hF;have ak:=@run_makeMap Tryz.prog;have R:Below w.heap.size w (w.alloc (.cells #[.slice L c.length cap, .slice P ns.length U, .slice N f.length cl] 26)):=(aG _ _).alloc (aH _) _;have k:O (dB ⟨c,ns,f⟩=if 10<c.length\/12<f.length then 2 else if¬ns.length=c.length then 1 else iV (aW (lX c ns) (List.range ns.length)) (aW (eQ c) f)):=rfl;by_cases h1:10<c.length
 ·(have HV:O (dB ⟨c,ns,f⟩=2):=by show _=_;rw[k.o,if_pos (.inl h1)]);have g1:decide (10<c.length)=true:=aP h1;have ac:decide ((10:Int)<(c.length:Int))=true:=aP oM;clear k u D C
  go_enter Tryz.func72,Tryz.ntmps72
  go_wp2_with fail;refine(iY 2 _).mono ?_;rintro e r ⟨rfl,m⟩;go_wp2_with fail;exact⟨rfl,rV,R.trans (m.mono R.size)⟩
 have g1:decide (10<c.length)=false:=aF h1;have ac:decide ((10:Int)<(c.length:Int))=false:=aF oM;by_cases h2:12<f.length
 ·(have HV:O (dB ⟨c,ns,f⟩=2):=by show _=_;rw[k.o,if_pos (.inr h2)]);have g2:decide (12<f.length)=true:=aP h2;have ad:decide ((12:Int)<(f.length:Int))=true:=aP oM;clear k u D C
  go_enter Tryz.func72,Tryz.ntmps72
  go_wp2_with fail;refine(iY 2 _).mono ?_;rintro e r ⟨rfl,m⟩;go_wp2_with fail;exact⟨rfl,rV,R.trans (m.mono R.size)⟩
 have g2:decide (12<f.length)=false:=aF h2;have ad:decide ((12:Int)<(f.length:Int))=false:=aF oM;rw[if_neg (fun h=>h.elim h1 h2)]at k;by_cases h3:ns.length=c.length;rotate_left
 ·(have HV:O (dB ⟨c,ns,f⟩=1):=by show _=_;rw[k.o,if_pos h3]);(have g3:((ns.length:Int) != (c.length:Int))=true:=by simp;omega);(have ae:(ns.length != c.length)=true:=by simp;omega);clear k u D C
  go_enter Tryz.func72,Tryz.ntmps72
  go_wp2_with fail;refine(kN 2 _).mono ?_;rintro e r ⟨rfl,rfl⟩;go_wp2_with fail;refine(iY 1 _).mono ?_;rintro e r ⟨rfl,m⟩;go_wp2_with fail;exact⟨rfl,rV,R.trans (m.mono R.size)⟩
 rw[if_neg (fun h=>h h3)]at k;have H3:O (ns.length=c.length):=h3;(have g3:((ns.length:Int) != (c.length:Int))=false:=by simp;omega);(have ae:(ns.length != c.length)=false:=by simp;omega);have a7:=CB.start w (.cells #[.slice L c.length cap, .slice P ns.length U, .slice N f.length cl] 26);(have a9:O (ns.length<=10):=by show _<=_;omega);clear h3
 go_enter Tryz.func72,Tryz.ntmps72
 go_wp2_with fail;refine(kN 2 _).mono ?_;rintro e r ⟨rfl,rfl⟩;go_wp2_with fail;refine(kN 1 _).mono ?_;rintro e r ⟨rfl,rfl⟩;go_wp2_with fail;generalize w.heap.size+1=M at *;go_loopw [30] (fun i wr=>∃j:Nat,j<=ns.length/\i=.int .i64 j/\CB w (.cells #[.slice L c.length cap, .slice P ns.length U, .slice N f.length cl] 26) M (ns.take j) wr/\aW (lX c ns) (List.range ns.length)=aW (lX c ns) ((List.range ns.length).drop j)) (fun i _=>ns.length-(intOf i).toNat);case atStart=>exact⟨0,bL _,rfl,a7,rfl⟩
 case round=>
  clear a7;obtain⟨j,hj,rfl,l,V⟩:=hrel;have H:O _:=V;clear V;(have c0:wr.cell? ⟨w.heap.size,0,none⟩=some (.slice L c.length cap):=cH l.box);by_cases K:j<ns.length
  ·obtain⟨b,a8,rfl,W⟩:=aIM D j K;(have ai:j<c.length:=by rw[<-H3.o];exact K);obtain⟨b2,am,rfl,X⟩:=sY u j ai;have q0:=aB l.d W;have q1:=aB l.d X;have n:O (aW (lX c ns) (List.range ns.length)=iV (lX c ns j) (aW (lX c ns) ((List.range ns.length).drop (j+1)))):=H.o.trans (aEW c ns j K);have q:O (lX c ns j=iV (if dT (cI c j) 0 3 then 0 else 3) (iV (if qQ (rI ns j)then 0 else 1) (if(ns.take j).contains (rI ns j)then 6 else 0))):=rfl;have a3:O (ns.take j++[rI ns j]=ns.take (j+1)):=aX4 ns j K;clear W X u D C H;generalize cI c j=a at *;generalize rI ns j=s at *;by_cases h4:a<0
   ·(have HV:O (dB ⟨c,ns,f⟩=3):=by show _=_;rw[k.o,n.o,q.o,if_neg (by simp[dT];omega)];rfl);have g4:decide (a<0)=true:=aP h4;clear k n q;go_wp2_with fail;refine(iY 3 _).mono ?_;rintro e r ⟨rfl,m⟩;go_wp2_with fail;exact⟨rfl,rV,l.d.trans (m.mono l.d.size)⟩
   have g4:decide (a<0)=false:=aF h4;by_cases a6:3<a
   ·(have HV:O (dB ⟨c,ns,f⟩=3):=by show _=_;rw[k.o,n.o,q.o,if_neg (by simp[dT];omega)];rfl);have af:decide (3<a)=true:=aP a6;clear k n q;go_wp2_with fail;refine(iY 3 _).mono ?_;rintro e r ⟨rfl,m⟩;go_wp2_with fail;exact⟨rfl,rV,l.d.trans (m.mono l.d.size)⟩
   have af:decide (3<a)=false:=aF a6;rw[if_pos (show dT a 0 3=true by simp[dT];omega),gC]at q;go_wp2_with fail;refine(kN 3 _).mono ?_;rintro e r ⟨rfl,rfl⟩;go_wp2_with fail;refine Calls.mono (aR8 s _) ?_;rintro e w2 ⟨G,S⟩;have F:=l.z S;cases I:qQ s
   ·rw[I]at G;subst G;(have HV:O (dB ⟨c,ns,f⟩=1):=by show _=_;rw[k.o,n.o,q.o,I];rfl);clear k n q;go_wp2_with fail;refine(iY 1 _).mono ?_;rintro e r ⟨rfl,m⟩;go_wp2_with fail;exact⟨rfl,rV,F.d.trans (m.mono F.d.size)⟩
   rw[I]at G;subst G;have ag:s.length<=5000:=by
    (have :oP 1 s=true:=by unfold qQ at I;simp at I;exact I.1);have :=KK _ _ this;omega
   rw[I,if_pos rfl,gC]at q;clear l S q0 q1 c0 I;go_wp2_with fail;refine(kN 1 _).mono ?_;rintro e r ⟨rfl,rfl⟩;go_wp2_with fail;refine Calls.mono (bIA M (ns.take j) s _ F.num ag (by have :=a9.o;rw[dV];omega)) ?_;rintro e w3 ⟨rfl,T,a1⟩;(have a4:(ns.take j).length=j:=by rw[dV];omega);cases J:(ns.take j).contains s
   ·rw[J,if_neg sI,a3.o]at T;have a0:=F.of a1 T;(have a2:(ns.take j).idxOf s=j:=by rw[aL4 (by simpa using J),a4]);rw[a2];(have g6:((j:Int) != (j:Int))=false:=by simp);(have HV:O (aW (lX c ns) (List.range ns.length)=aW (lX c ns) ((List.range ns.length).drop (j+1))):=by show _=_;rw[n.o,q.o,J];rfl);clear n q T a1 F a2 J a4 a3;go_wp2_with fail;refine(kN 6 _).mono ?_;rintro e r ⟨rfl,rfl⟩;go_wp2_with fail;go_roundw;(case rel=>exact⟨j+1,oM,gN,a0,HV.o⟩);case measure=>exact mI
   rw[J,if_pos rfl]at T;have a0:=F.of a1 T;have a2:=bH3 J;rw[a4]at a2;(have g6:(((ns.take j).idxOf s:Int) != (j:Int))=true:=by simp;omega);(have HV:O (dB ⟨c,ns,f⟩=6):=by show _=_;rw[k.o,n.o,q.o,J];rfl);clear n q T a1 F J k a3;generalize (ns.take j).idxOf s=ix at *;(have aj:(ix != j)=true:=by simp;omega);go_wp2_with fail;refine(iY 6 _).mono ?_;rintro e r ⟨rfl,m⟩;go_wp2_with fail;exact⟨rfl,rV,a0.d.trans (m.mono a0.d.size)⟩
  (have hz:aW (lX c ns) (List.range ns.length)=0:=by rw[H.o,bG sO];rfl);rw[hz,gC]at k;generalize ah:j=j0 at *;clear ah;(have c2:wr.cell? ⟨w.heap.size,2,none⟩=some (.slice N f.length cl):=cH l.box);clear H hz u D;go_wp2_with fail;go_loopw [64] (fun i wr=>∃j:Nat,j<=f.length/\i=.int .i64 j/\CB w (.cells #[.slice L c.length cap, .slice P ns.length U, .slice N f.length cl] 26) M (ns.take j0) wr/\aW (eQ c) f=aW (eQ c) (f.drop j)) (fun i _=>f.length-(intOf i).toNat);case atStart=>exact⟨0,bL _,rfl,l,rfl⟩
  case round=>
   clear l c0 c2;obtain⟨j,hj,rfl,l,V⟩:=hrel;have H:O _:=V;clear V;by_cases K:j<f.length
   ·obtain⟨b,a8,rfl,W,⟨vt,X,hT⟩,p2,⟨vb,p3,hB⟩,p4⟩:=AH C j K;have HT:O (iX w vt (dX f j).v):=hT;have HB:O (uA w vb (dX f j).body):=hB;obtain⟨at_,ct,rfl,_,_⟩:=hT;obtain⟨Y,Z,rfl,_⟩:=hB;have q0:=aB l.d W;have q1:=aB l.d X;have q2:=aB l.d p2;have q3:=aB l.d p3;have q4:=aB l.d p4;have n:O (aW (eQ c) f=iV (eQ c (dX f j)) (aW (eQ c) (f.drop (j+1)))):=H.o.trans (yD _ _ _ j K);have a5:O (KH (dX f j)):=aa.o j K;have m:Below wr.heap.size wr (wr.alloc (.cells #[.int .i64 (dX f j).g, .slice at_ (dX f j).v.length ct, .int .i64 (dX f j).h, .slice Y (dX f j).body.length Z, .int .i64 (dX f j).vars] 97)):=(aG _ _).alloc (aH _) _;have E:=l.z m;clear W X p2 p3 p4 H C m;generalize hx:dX f j=x at *;clear hx;(have c0:(wr.alloc (.cells #[.int .i64 x.g, .slice at_ x.v.length ct, .int .i64 x.h, .slice Y x.body.length Z, .int .i64 x.vars] 97)).cell? ⟨w.heap.size,0,none⟩=some (.slice L c.length cap):=cH E.box);(have c1:(wr.alloc (.cells #[.int .i64 x.g, .slice at_ x.v.length ct, .int .i64 x.h, .slice Y x.body.length Z, .int .i64 x.vars] 97)).cell? ⟨w.heap.size,1,none⟩=some (.slice P ns.length U):=cH E.box);(have c2:(wr.alloc (.cells #[.int .i64 x.g, .slice at_ x.v.length ct, .int .i64 x.h, .slice Y x.body.length Z, .int .i64 x.vars] 97)).cell? ⟨w.heap.size,2,none⟩=some (.slice (some ⟨b,a8,none⟩) f.length cl):=cH E.box);go_wp2_with fail;refine Calls.mono (aCH c _ _ _ x _ _ _ (bC HA.o E.d) (fV HT.o E.d) (wB HB.o E.d) a5.o) ?_;rintro e w2 ⟨G,S⟩;by_cases Q:eQ c x=0;rotate_left
    ·(have HV:O (dB ⟨c,ns,f⟩=eQ c x):=by show _=_;rw[k.o,n.o,qP _ Q]);rw[DM Q]at G;subst G;clear k n;go_wp2_with fail;exact⟨rfl,by rw[HV.o,DM Q],E.d.trans (S.mono E.d.size)⟩
    rw[Q,LE]at G;subst G;have F:=E.z S;(have HV:O (aW (eQ c) f=aW (eQ c) (f.drop (j+1))):=by show _=_;rw[n.o,Q,gC]);clear n HT HB a5 S Q E q0 q1 q2 q3 q4 c0 c1 c2;go_wp2_with fail;go_roundw;(case rel=>exact⟨j+1,oM,gN,F,HV.o⟩);case measure=>exact mI
   (have HV:O (dB ⟨c,ns,f⟩=0):=by show _=_;rw[k.o,H.o,bG oM];rfl);clear k C;go_wp2_with fail;exact⟨rfl, .tuple #[],by simp[results,Tryz.results72],rV,l.d⟩
theorem aLB(c:Addr)(w:World):
 CallsD Tryz.prog 111 #[.pointer (some c)] .returning w fun e d f=>e=.returned (.tuple #[])/\d=.returning/\f=w:=by
 refine callsD_of_wpS Tryz.func111 rfl fun i g b=>?_;apply wpS_seq;apply wpS_region;simp[wpOpsS,go_sem,recoverD,b,Tryz.ntmps111,Exit.thenS];refine wpS_of_wp ?_;go_wp2;refine⟨rfl, .returning,?_, .tuple #[],?_,rfl,rfl,rfl⟩
 ·rw[<-b]
 simp[results,Tryz.results111]
theorem Lm(b:Nat)(g i:Value)(a c:Int)(f:List PanicEntry)(w:World)
 (j:w.cell? ⟨b,0,none⟩=some g) (k:w.cell? ⟨b,1,none⟩=some i) (q:w.frozen? ⟨b,0,none⟩=false) (r:w.frozen? ⟨b,1,none⟩=false):
 CallsD Tryz.prog 111 #[.pointer (some ⟨b,0,none⟩)] (.panicking ({v:=.iface 118 (.agg #[.int .i64 a, .int .i64 c]),recovered:=false}::f)) w fun e m d=>
  e=.returned (.tuple #[])/\m=.panicking ({v:=.iface 118 (.agg #[.int .i64 a, .int .i64 c]),recovered:=true}::f)/\
  d.cell? ⟨b,0,none⟩=some (.int .i64 a)/\d.cell? ⟨b,1,none⟩=some (.int .i64 c)/\w.grownBy d (some b)/\d.heap.size=w.heap.size:=by
 have s:∀w:World,(Instr.typeAssert (.iface 118 (.agg #[.int .i64 a, .int .i64 c])) 20 118 false).run Tryz.prog w=.ok (.agg #[.int .i64 a, .int .i64 c]) w:=fun _=>kR;refine callsD_of_wpS Tryz.func111 rfl fun p n l=>?_;apply wpS_seq;apply wpS_region;simp[wpOpsS,go_sem,recoverD,l,Tryz.ntmps111,Exit.thenS];refine wpS_of_wp ?_;go_wp2;refine⟨rfl,_,rfl, .tuple #[],?_,rfl,rfl,?_,?_,?_,?_⟩
 ·simp[results,Tryz.results111]
 ·simp[go_sem,j]
 ·simp[go_sem,k]
 ·exact wI (zH _ _) (zH _ _)
 simp
theorem bAQ:GE 71:=oQ Tryz.func71 kR rfl
def bKK(a c:Int):Ending:=if c=0 then Lx else aLV a c
def aT1(a c:Int)(row:Option Nat)(Z:World->Prop)(w:World)(e:Ending)(w':World):Prop:=
 e=.returned (.agg #[.int .i64 (if c=0 then 0 else a), .int .i64 c])/\w.grownBy w' row/\Z w'
theorem Zd{w u v:World}{row:Option Nat}(o:Obj)(b:(w.alloc o).grownBy u row)(c:u.grownBy v (some w.heap.size)):w.grownBy v row:=by(have j:(w.alloc o).heap.size=w.heap.size+1:=by simp);refine⟨c.os.trans b.os,c.tape.trans b.tape,c.output.trans b.output,bP (by rw[<-Nat.succ_le_succ_iff];have :=b.size;omega) c.size,fun k g i=>?_⟩;have d:=b.block k oM i;have f:=c.block k (by have :=b.size;omega) (fun e=>by injection e;omega);rw[f,d];exact((aG _ _).alloc (aH _) o).block k g
theorem Yf(G:Nat)(m:Array Value)(row:Option Nat)(a c:Int)(Z:World->Prop)(w:World)(I:GE G)(K:∀k,row=some k->k<w.heap.size)
 (r:∀u v:World,Z u->v.heap.size=u.heap.size->(∀k,¬k=w.heap.size->v.heap[k]?=u.heap[k]?)->Z v)
 (s:Calls Tryz.prog G m (w.alloc (.cells #[.int .i64 0, .int .i64 0] 118)) fun e E=>e=bKK a c/\(w.alloc (.cells #[.int .i64 0, .int .i64 0] 118)).grownBy E row/\Z E):
 Calls Tryz.prog 70 #[.func (.func G) #[] m] w (aT1 a c row Z w):=by
 have J:∀(n:Fn)(first cap:Array Value)(w:World),(Instr.makeFunc n first cap).run Tryz.prog w=.ok (.func n first cap) w:=fun _ _ _ _=>rfl;have x:=I;unfold GE at x;have i:=bA w (.cells #[.int .i64 0, .int .i64 0] 118)
 go_enter_defers Tryz.func70,Tryz.ntmps70
 go_wp2_with fail;refine Calls.mono s ?_;rintro e b ⟨rfl,l,D⟩;have d:=(l.block _ (cV i) (fun e=>Nat.lt_irrefl _ (K _ e.symm))).trans i;(have p:b.cell? ⟨w.heap.size,0,none⟩=some (.int .i64 0):=cH d);(have q:b.cell? ⟨w.heap.size,1,none⟩=some (.int .i64 0):=cH d);have F:b.frozen? ⟨w.heap.size,0,none⟩=false:=bM d 0;have H:b.frozen? ⟨w.heap.size,1,none⟩=false:=bM d 1;clear s i d x J;unfold bKK;by_cases j:c=0
 ·subst j;rw[if_pos rfl];go_wp2_with fail;refine leaves_cons (f:=111) (args:=#[.pointer (some ⟨w.heap.size,0,none⟩)]) sI (by simp[go_sem]) ?_;refine(aLB _ _).mono ?_;rintro e P Q ⟨rfl,rfl,rfl⟩;refine⟨.agg #[.int .i64 0, .int .i64 0],by simp[results,Tryz.results70,go_sem,p,q],rfl,?_,?_⟩
  ·exact Zd _ l (wI (zH _ _) (zH _ _))
  exact r _ _ D sI (fun k g=>by rw[iG _ _ _ _ g,iG _ _ _ _ g])
 rw[if_neg j];go_wp2_with fail;refine leaves_cons (f:=111) (args:=#[.pointer (some ⟨w.heap.size,0,none⟩)]) sI (by simp[go_sem]) ?_;refine(Lm w.heap.size _ _ a c [] b p q F H).mono ?_;rintro e P Q ⟨rfl,rfl,M,N,C,L⟩;refine⟨.agg #[.int .i64 a, .int .i64 c],by simp[results,Tryz.results70,go_sem,M,N],by rw[if_neg j],?_,?_⟩
 ·exact Zd _ l C
 refine r _ _ D L (fun k g=>?_);rcases lP k b.heap.size with h|h
 ·exact C.block k h (fun e=>by injection e with e;exact g e)
 rw[zC h,zC oM]
theorem WK{w w':World}(h:w.grownBy w' none):Below w.heap.size w w':=⟨h.os,h.tape,h.output,h.size,fun k b=>h.block k b (fun e=>by cases e)⟩
theorem bKM(a b:Value)(w:World):(Instr.field 118 (.agg #[a,b]) 1).run Tryz.prog w=.ok b w:=kR
theorem aQC(p:bK)(va vn vr:Value)(X:Nat)(w:World)(b:w.heap[X]?=some (.cells #[va,vn,vr] 26))(f:nV w va vn vr p)(d:lR p):
 Calls Tryz.prog 71 #[.pointer (some ⟨X,0,none⟩)] w fun e g=>e=Ig (dB p)/\Below w.heap.size w g:=by
 (have c0:w.cell? ⟨X,0,none⟩=some va:=cH b);(have i:w.cell? ⟨X,1,none⟩=some vn:=cH b);have j:w.cell? ⟨X,2,none⟩=some vr:=cH b
 go_enter Tryz.func71,Tryz.ntmps71
 go_wp2_with fail;refine Calls.mono (Rf p va vn vr _ f d) ?_;rintro e k ⟨rfl,c⟩;by_cases h:dB p=0
 ·rw[h,LE];go_wp2_with fail;exact⟨rfl, .tuple #[],by simp[results,Tryz.results71],by rw[h];rfl,c⟩
 rw[DM h];go_wp2_with fail;exact⟨rfl,(DM h).symm,c⟩
theorem VJ(p:bK)(va vn vr:Value)(w:World)(f:nV w va vn vr p)(r:lR p):
 Calls Tryz.prog 48 #[gU va vn vr] w fun e E=>e=.returned (.int .i64 (dB p))/\Below w.heap.size w E:=by
 obtain⟨b,i,rfl,_⟩:=id f.ar;obtain⟨c,j,rfl,_⟩:=id f.nm;obtain⟨d,k,rfl,_⟩:=id f.rl;have G:∀(n:Fn)(first cap:Array Value)(w:World),(Instr.makeFunc n first cap).run Tryz.prog w=.ok (.func n first cap) w:=fun _ _ _ _=>rfl;have g:∀(u:World)(o:Obj),Below u.heap.size u (u.alloc o):=fun u o=>(aG _ _).alloc (aH _) o;have q:=bA w (pB b i c j d k p);have s:=f.z (g w (pB b i c j d k p));have m:=g w (pB b i c j d k p)
 go_enter Tryz.func48,Tryz.ntmps48
 go_wp2_with fail;generalize w.alloc (pB b i c j d k p)=l at *;refine Calls.mono (Yf 71 _ none 0 (dB p) (fun _=>True) l bAQ (fun _ e=>by cases e) (fun _ _ _ _ _=>trivial) ?_) ?_
 ·refine Calls.mono (aQC p _ _ _ w.heap.size _ (((g l _).block _ (cV q)).trans q) (s.z (g l _)) r) ?_;rintro e F ⟨rfl,x⟩;exact⟨rfl,rX x _,trivial⟩
 rintro e F ⟨rfl,D,_⟩;have C:=m.trans ((WK D).mono m.size);go_wp2_with fail;simp only[bKM];go_wp2_with fail;go_ret;exact⟨rfl,C⟩
end Go.Proofs.YtfljoehbbncooaaGreat
namespace Go.Proofs.YtfljoehbbncooaaGreat
open Go.RowKit Go.Shelf
attribute [local go_sem] Oper.semAt_some
structure aDX (n:Nat) (r:cA):Prop where
 h0:0<=r.g
 h1:r.g<(n:Int)
 hb:VK n r.body
 hl:r.body.length<=4
def dZ(l:List cA):List gI:=l.flatMap FH
theorem SX(l:List cA)(r:cA):dZ (l++[r])=dZ l++FH r:=by unfold dZ;rw[tN];simp
theorem Sd(r:cA):(FH r).length<=r.body.length:=by unfold FH;rw[aY];exact nI _ _
theorem aG5{r:cA}:∀e,e∈FH r->e.2.2<=1:=fun e b=>by unfold FH at b;obtain⟨x,_,rfl⟩:=cJ.mp b;rcases NP r x with h|h<;>simp[h]
structure RSt (w:World) (LB n cap:Nat) (W:World) (cur:List Int) (fl:Bool):Prop where
 gr:w.grownBy W (some LB)
 row:W.heap[LB]?=some (.cells (BJ cur) 3)
 box:W.heap[w.heap.size]?=some (.cells #[.slice (some ⟨LB,0,none⟩) n cap] 22)
 flag:W.heap[w.heap.size+1]?=some (.cells #[.bool fl] 4)
theorem bAA{W:World}{b:Nat}{v:Value}{t:TypeId}(h:W.heap[b]?=some (.cells #[v] t)):W.cell? ⟨b,0,none⟩=some v:=cH h
structure aZQ (wr W2:World) (rb:Obj):Prop where
 d:Below wr.heap.size wr W2
 qb:W2.heap[wr.heap.size]?=some rb
 rb:W2.heap[wr.heap.size+1]?=some rb
 sz:W2.heap.size=wr.heap.size+2
theorem aXJ(wr c:World)(rb:Obj)(g:c=(wr.alloc rb).alloc rb):aZQ wr c rb:=by subst g;have d:=(aG wr.heap.size wr).alloc (aH _) rb;have i:=bA wr rb;(have f:(wr.alloc rb).heap.size=wr.heap.size+1:=by simp);generalize wr.alloc rb=b at *;have e:=(aG b.heap.size b).alloc (aH _) rb;have j:=bA b rb;refine⟨d.trans (e.mono d.size),(e.block _ oM).trans i,by rw[<-f];exact j,by simp[f]⟩
def oV{n:Nat}(h:Nat)(p:HP n):gI:=(h,p.1.1.toNat,p.1.2)
structure RIn (w wr W2:World) (LB n cap:Nat) (rb:Obj) (ds:List Deferred) (l:List Int) (E:List gI) (h:Nat) {np:Nat} (pre:List (HP np)) (W:World):Prop where
 st:RSt w LB n cap W (aU (E++pre.map (oV h)) l) (decide (aU (E++pre.map (oV h)) l≠l))
 qb:W.heap[wr.heap.size]?=some rb
 mks:JM (w.heap.size+2) W ds
 sz:W2.heap.size<=W.heap.size
theorem aU8{w wr e:World}{f n cap:Nat}{rb:Obj}{g:List Deferred}{l:List Int}{E:List gI}{h r:Nat}(b:RSt w f n cap wr (aU E l) (decide (aU E l≠l)))(p:JM (w.heap.size+2) wr g)(c:aZQ wr e rb):RIn w wr e f n cap rb g l E h ([]:List (HP r)) e:=by have m:=dS (aK.mp b.flag).1 (aH _);refine⟨?_,c.qb,p.keep fun D _ _ i=>(c.d.block D (aK.mp i).1).trans i,aH _⟩;rw[List.map_nil,iZ];refine⟨⟨c.d.os.trans b.gr.os,c.d.tape.trans b.gr.tape,c.d.output.trans b.gr.output,bP b.gr.size c.d.size,fun j k q=>(c.d.block j (dS k b.gr.size)).trans (b.gr.block j k q)⟩,(c.d.block _ (aK.mp b.row).1).trans b.row,(c.d.block _ (aK.mp b.box).1).trans b.box,(c.d.block _ m).trans b.flag⟩
theorem bDY{w wr d:World}{i n cap:Nat}{rb:Obj}{k:List Deferred}{l:List Int}{F:Nat}{c0:List Int}{p:Bool}(f:RSt w i n cap wr c0 p)(r:JM (w.heap.size+2) wr k)(s:aZQ wr d rb)(E:List gI)(h:Nat):
 OwnFrom d.heap.size (fun(m:List (HP F)) W=>RIn w wr d i n cap rb k l E h m W):=by
 intro m A B row b c C;have J:=s.sz;have H:=f.gr.size;have G:=(aK.mp f.flag).1;have I:=(aK.mp f.row).1;have keep:∀j,j<d.heap.size->B.heap[j]?=A.heap[j]?:=fun j g=>c.block j (dS g b.sz) (fun e=>by have :=(C j e.symm).1;omega);refine⟨⟨⟨c.os.trans b.st.gr.os,c.tape.trans b.st.gr.tape,c.output.trans b.st.gr.output,bP b.st.gr.size c.size,fun j g x=>(keep j oM).trans (b.st.gr.block j g x)⟩,(keep _ oM).trans b.st.row,(keep _ oM).trans b.st.box,(keep _ oM).trans b.st.flag⟩,(keep _ oM).trans b.qb,b.mks.keep fun D _ u q=>?_,bP b.sz c.size⟩;have :=(aK.mp (r.mem D u)).1;exact(keep D oM).trans q
theorem aEZ{b:Nat}(E:List gI)(h:Nat)(c:List (HP b))(x:HP b):E++(c++[x]).map (oV h)=(E++c.map (oV h))++[oV h x]:=by rw[dC,fM];rfl
section
variable {w wr W2 W:World} {LB n cap:Nat} {rb:Obj} {ds:List Deferred} {l:List Int} {E:List gI} {h np:Nat} {pre:List (HP np)}
theorem bGX(b:RIn w wr W2 LB n cap rb ds l E h pre W)(x:HP np)(hh:h<l.length)(c:¬(aU (E++pre.map (oV h)) l).getD h 0<(aU (E++pre.map (oV h)) l).getD x.1.1.toNat 0+x.1.2):RIn w wr W2 LB n cap rb ds l E h (pre++[x]) W:=by refine⟨?_,b.qb,b.mks,b.sz⟩;rw[aEZ,EP _ _ _ hh,uH];(have d:bE (aU (E++pre.map (oV h)) l) (oV h x)=aU (E++pre.map (oV h)) l:=by unfold bE;exact if_neg c);have e:decide ((aU (E++pre.map (oV h)) l).getD (oV h x).1 0<(aU (E++pre.map (oV h)) l).getD (oV h x).2.1 0+(oV h x).2.2)=false:=aF c;rw[d,e,Nh];exact b.st
theorem bDZ(b:RIn w wr W2 LB n cap rb ds l E h pre W)(x:HP np)(hh:h<l.length)(r:LB<w.heap.size)(u:w.heap.size+2<=wr.heap.size)(g:(aU (E++pre.map (oV h)) l).getD h 0<(aU (E++pre.map (oV h)) l).getD x.1.1.toNat 0+x.1.2):
 RIn w wr W2 LB n cap rb ds l E h (pre++[x]) ((W.setCell ⟨LB,h,none⟩ (.int .i64 ((aU (E++pre.map (oV h)) l).getD x.1.1.toNat 0+x.1.2))).setCell ⟨w.heap.size+1,0,none⟩ (.bool true)):=by
 (have other:∀j,¬j=LB->¬j=w.heap.size+1->((W.setCell ⟨LB,h,none⟩ (.int .i64 ((aU (E++pre.map (oV h)) l).getD x.1.1.toNat 0+x.1.2))).setCell ⟨w.heap.size+1,0,none⟩ (.bool true)).heap[j]?=W.heap[j]?:=fun j c d=>by rw[eC d,eC c]);have d:decide ((aU (E++pre.map (oV h)) l).getD (oV h x).1 0<(aU (E++pre.map (oV h)) l).getD (oV h x).2.1 0+(oV h x).2.2)=true:=aP g;(have c:bE (aU (E++pre.map (oV h)) l) (oV h x)=(aU (E++pre.map (oV h)) l).set h ((aU (E++pre.map (oV h)) l).getD x.1.1.toNat 0+x.1.2):=by unfold bE;exact if_pos g);refine⟨?_,(other _ oM oM).trans b.qb,b.mks.keep fun D q s i=>(other D oM oM).trans i,?_⟩
 ·rw[aEZ,EP _ _ _ hh,uH,c,d,EG];refine⟨⟨b.st.gr.os,b.st.gr.tape,b.st.gr.output,?_,fun j m f=>?_⟩,?_,(other _ oM oM).trans b.st.box,?_⟩
  ·have :=b.st.gr.size;simpa using this
  ·have p:¬j=LB:=fun e=>f (by rw[e]);exact(other j p oM).trans (b.st.gr.block j m f)
  ·rw[eC oM];exact Zk b.st.row _ _
  have k:(W.setCell ⟨LB,h,none⟩ (.int .i64 ((aU (E++pre.map (oV h)) l).getD x.1.1.toNat 0+x.1.2))).heap[w.heap.size+1]?=some (.cells #[.bool _] 4):=(eC oM).trans b.st.flag;rw[bD k];rfl
 have :=b.sz;simpa using this
end
theorem BI:∀(l:List cA),(∀r,r∈l->r.body.length<=4)->(dZ l).length<=4*l.length
 |[],_=>bL _
 |r::l,h=>by have c:=BI l (fun x b=>h x (bY _ b));have d:=h r dL;have e:=Sd r;unfold dZ at c ⊢;rw[Jv,aV,nJ];omega
theorem NU(l:List cA):∀e,e∈dZ l->e.2.2<=1:=fun e b=>by obtain⟨r,_,h⟩:=jX.mp b;exact aG5 e h
theorem aXI(L w:World)(f:List cA)(vr:Value)(l:List Int)(u cap:Nat)(K:Int)(hV:EV L vr f)(I:Below L.heap.size L w)(bf:L.heap.size<=u)(a5:w.heap[u]?=some (.cells (BJ l) 3))
 (hR:∀r,r∈f->aDX l.length r) (hn:f.length<=12) (aS:∀i:Nat,0<=l.getD i 0) (aT:∀i:Nat,l.getD i 0<=K) (hK:K<=1000000):
 Calls Tryz.prog 160 #[.slice (some ⟨u,0,none⟩) l.length cap,vr] w fun e w'=>e=.returned (.bool (decide (aU (dZ f) l≠l)))/\w'.heap[u]?=some (.cells (BJ (aU (dZ f) l)) 3)/\w.grownBy w' (some u):=by
 obtain⟨ar,cr,rfl,G⟩:=hV;have HA:O (UJ L ar f):=G;have a6:u<w.heap.size:=(aK.mp a5).1;refine(callsIn_wide (n:=3)).1 ?_;refine callsIn_of_wp_marks Tryz.func160 rfl trivial ?_ rfl;simp only[Tryz.ntmps160,List.size_toArray,List.length_cons,List.length_nil,Nat.reduceAdd,Nat.reduceSub,Array.replicate_succ,Array.replicate_zero,List.push_toArray,List.append_toArray,List.nil_append,List.cons_append];(have aO:RSt w u l.length cap ((w.alloc (.cells #[.slice (some ⟨u,0,none⟩) l.length cap] 22)).alloc (.cells #[.bool false] 4)) l false:=by have b1:=(aG w.heap.size w).alloc (aH _) (.cells #[.slice (some ⟨u,0,none⟩) l.length cap] 22);have p1:=bA w (.cells #[.slice (some ⟨u,0,none⟩) l.length cap] 22);(have s1:(w.alloc (.cells #[.slice (some ⟨u,0,none⟩) l.length cap] 22)).heap.size=w.heap.size+1:=by simp);generalize w.alloc (.cells #[.slice (some ⟨u,0,none⟩) l.length cap] 22)=x1 at *;have b2:=(aG x1.heap.size x1).alloc (aH _) (.cells #[.bool false] 4);have p2:=bA x1 (.cells #[.bool false] 4);have a0:=b1.trans (b2.mono b1.size);refine⟨⟨a0.os,a0.tape,a0.output,a0.size,fun j hj _=>a0.block j hj⟩,(a0.block _ a6).trans a5,(b2.block _ oM).trans p1,?_⟩;rw[s1]at p2;exact p2);have aN:O _:=aO;have aL:O _:=hR;have bd:O _:=a5;have aD:O ((∀i:Nat,0<=l.getD i 0)/\∀i:Nat,l.getD i 0<=K):=⟨aS,aT⟩;clear aO hR a5 G aS aT;gi_wp2;refine wpIn_loop (fun a wr=>∃(k:Nat)(T:List Deferred)(x7 x8 x9 ac b4 b5 b6 b7 b8 b9 ba ad ae af ag ah ai aj ak al am an ao aq au av aw ax ay az:Value),k<=f.length/\a={tmps:=#[.slice (some ⟨u,0,none⟩) l.length cap, .slice ar f.length cr, .pointer (some ⟨w.heap.size,0,none⟩),undef, .bool false, .pointer (some ⟨w.heap.size+1,0,none⟩),undef,x7,x8,x9,ac, .slice ar f.length cr, .int .i64 f.length, .int .i64 k,b4,b5,b6,b7,b8,b9,ba,ad,ae,af,ag,ah,ai,aj,ak,al,am,an,ao,aq,au,av,aw,ax,ay,az,undef],defers:=T}/\RSt w u l.length cap wr (aU (dZ (f.take k)) l) (decide (aU (dZ (f.take k)) l≠l))/\JM (w.heap.size+2) wr T) (fun a _=>f.length-(intOf (a.tmps.getD 13 undef)).toNat) ?h0 ?round;case h0=>exact⟨0,[],_,_,_,_,_,_,_,_,_,_,_,_,_,_,_,_,_,_,_,_,_,_,_,_,_,_,_,_,_,_,bL _,rfl,by simpa[dZ,aU]using aN.o,trivial⟩
 case round=>
  clear aN;rintro a wr ⟨k,T,x7,x8,x9,ac,b4,b5,b6,b7,b8,b9,ba,ad,ae,af,ag,ah,ai,aj,ak,al,am,an,ao,aq,au,av,aw,ax,ay,az,hk,rfl,X,hM⟩;have V:Below L.heap.size L wr:=⟨X.gr.os.trans I.os,X.gr.tape.trans I.tape,X.gr.output.trans I.output,bP I.size X.gr.size,fun j hj=>(X.gr.block j (dS hj I.size) (fun e=>by injection e with e;omega)).trans (I.block j hj)⟩;have F:O _:=X;have HM:O _:=hM;have a2:O _:=V;clear X hM;by_cases a1:k<f.length
  ·obtain⟨b,aa,rfl,p0,⟨vt,p1,hT⟩,p2,⟨vb,p3,a4⟩,p4⟩:=AH HA.o k a1;obtain⟨at_,Q,rfl,_⟩:=hT;obtain⟨M,N,rfl,a4⟩:=a4;have bc:O _:=a4;have R:O (aDX l.length (dX f k)):=aL.o _ (by unfold dX;rw[aI,aM a1];exact fG a1);have be:O (f.take (k+1)=f.take k++[dX f k]):=by
    show _=_;rw[gQ]
    congr 1
    unfold dX;rw[aI,aM a1];rfl
   have q0:=aB V p0;have q1:=aB V p1;have q2:=aB V p2;have q3:=aB V p3;have q4:=aB V p4;clear p0 p1 p2 p3 p4 a4 V;generalize dX f k=r at *;gi_wp2;refine⟨trivial,?_⟩;refine(bAZ Fence.wide _ trivial rfl r _ _ _ _ _).mono ?_;rintro e w' ⟨rfl,rfl⟩;gi_wp2;clear q0 q1 q2 q3 q4;obtain⟨S,a7⟩:∃S,S=((wr.alloc (.cells #[.int .i64 r.g, .slice at_ r.v.length Q, .int .i64 r.h, .slice M r.body.length N, .int .i64 r.vars] 97)).alloc (.cells #[.int .i64 r.g, .slice at_ r.v.length Q, .int .i64 r.h, .slice M r.body.length N, .int .i64 r.vars] 97)):=⟨_,rfl⟩;have P:=aXJ wr S (.cells #[.int .i64 r.g, .slice at_ r.v.length Q, .int .i64 r.h, .slice M r.body.length N, .int .i64 r.vars] 97) a7;rw[<-a7];clear a7;have P:O _:=P;have bg:=R.o.h0;have bh:=R.o.h1;obtain⟨s,a9⟩:∃s:Nat,O (r.g=s):=⟨r.g.toNat,show _=_ by omega⟩;clear bg bh
   refine wpIn_rangeFunc_ownG (n:=3) rfl oM (gf:=212) (lb:=#[.pointer (some ⟨wr.heap.size+1,0,none⟩)]) ?hg trivial (oQ Tryz.func212 kR rfl)
    (aLY Fence.wide 2 trivial rfl oM (wr.heap.size+1) L l.length r _ M N bc.o (bP R.o.hl dE) R.o.hb S (a2.o.trans (P.o.d.mono a2.o.size)) P.o.rb) (fun h k=>HK.trans h k)
    (fun W j o o' hl h U h2=>HK.put (bP a2.o.size P.o.d.size) W j o o' hl h U h2) (aG _ _) (fun _=>rfl)
    (fun E W=>RIn w wr S u l.length cap (.cells #[.int .i64 r.g, .slice at_ r.v.length Q, .int .i64 r.h, .slice M r.body.length N, .int .i64 r.vars] 97) T l (dZ (f.take k)) s E W) (fun _ _ _=>False) (bDY F.o HM.o P.o _ _) (fun _ _ _ _ _ h _ _=>h) (aU8 F.o HM.o P.o)
    (fun x=>{tmps:=#[.slice (some ⟨u,0,none⟩) l.length cap, .slice (some ⟨b,aa,none⟩) f.length cr, .pointer (some ⟨w.heap.size,0,none⟩),undef, .bool false, .pointer (some ⟨w.heap.size+1,0,none⟩),undef, .pointer (some ⟨wr.heap.size,0,none⟩), .int .i64 x.1.1, .int .i64 x.1.2,ac, .slice (some ⟨b,aa,none⟩) f.length cr, .int .i64 f.length, .int .i64 k, .bool true, .pointer (some ⟨b,aa+k*5,none⟩), .agg #[.int .i64 r.g, .slice at_ r.v.length Q, .int .i64 r.h, .slice M r.body.length N, .int .i64 r.vars], .agg #[.int .i64 r.g, .slice at_ r.v.length Q, .int .i64 r.h, .slice M r.body.length N, .int .i64 r.vars], .func (.func 212) #[] #[.pointer (some ⟨wr.heap.size+1,0,none⟩)], .int .i64 x.1.1, .int .i64 x.1.2,ad,ae,af,ag,ah,ai,aj,ak,al,am,an,ao,aq,au,av,aw,ax,ay,az,undef],defers:=[]}) ?assign ?body ?done ?stop
   (case hg=>rfl);(case assign=>intro l x W K hK;gi_wp2;exact hK);case stop=>rintro D c E W _ _ h _;exact h.elim
   case done=>
    rintro D ys W hD rfl H hK;have bz:=P.o.sz;have HE:O (aU (dZ (f.take (k+1))) l=aU (dZ (f.take k)++(pW l.length r r.body).map (oV s)) l):=by
     show _=_;(have bo:r.g.toNat=s:=by have :=a9.o;omega);rw[<-bo];rw[be.o,SX]
     congr 2
     exact(VU R.o.hb).symm
    gi_wp2;refine⟨⟨k+1,_,_,_,_,_,_,_,_,_,_,_,_,_,_,_,_,_,_,_,_,_,_,_,_,_,_,_,_,_,_,_,a1,rfl,?_,?_⟩,?_⟩
    ·rw[HE.o];exact H.st
    ·refine⟨⟨D,?_,rfl,hK,fun d' bj e=>?_⟩,H.mks⟩
     ·have :=(aK.mp F.o.flag).1;omega
     subst e;have :=(aK.mp (HM.o.mem D bj)).1;omega
    simp[intOf];omega
   case body=>
    rintro l0 E ⟨⟨pq,m⟩,h0,U,hm⟩ W H bu;dsimp only at h0 U hm;obtain⟨q,hq⟩:∃q:Nat,pq=q:=⟨pq.toNat,oM⟩;subst hq;(have b3:s<l.length:=by have :=R.o.h1;have :=a9.o;omega);have bv:q<l.length:=oM;have HI:O _:=H;have bq:=(aK.mp F.o.flag).1;have bl:=a2.o.size;(have c0:W.cell? ⟨w.heap.size,0,none⟩=some (.slice (some ⟨u,0,none⟩) l.length cap):=cH H.st.box);(have c1:W.cell? ⟨wr.heap.size,0,none⟩=some (.int .i64 s):=by rw[cM H.qb,<-a9.o];rfl);have bi:(aU (dZ (f.take k)++E.map (oV s)) l).length=l.length:=vF _ _;have c2:=JF H.st.row (i:=q) oM;have c3:=JF H.st.row (i:=s) oM;have f3:=bM H.st.row s;have aC:O _:=fun(v:Value)=>(eC (w:=W) (b:=u) (c:=w.heap.size+1) (i:=s) (v:=v) oM).trans H.st.flag;have b0:∀i:Nat,0<=(aU (dZ (f.take k)++E.map (oV s)) l).getD i 0:=fun i=>JS (aD.o.1 i) ((rR _ l).2 i);have bk:(dZ (f.take k)).length<=4*f.length:=bP (BI _ (fun r hr=>(aL.o r (mC hr)).hl)) (by rw[dV];omega);have aR:∀i:Nat,(aU (dZ (f.take k)++E.map (oV s)) l).getD i 0<=K+(4*12+4):=fun i=>by
     have h9:=EQ (dZ (f.take k)++E.map (oV s)) (l:=l) (K:=K) aD.o.2 (fun e he=>by
      rcases cW.mp he with h|h
      ·exact NU _ e h
      obtain⟨y,_,rfl⟩:=cJ.mp h;show y.1.2<=1
      rcases y.2.2.2 with h|h<;>omega) i
     rw[aV,aY]at h9;have :=R.o.hl;omega
    have bn:=b0 q;have bm:=aR q;(have Z:O (∀A C:Int,A=(aU (dZ (f.take k)++E.map (oV s)) l).getD q 0->C=(aU (dZ (f.take k)++E.map (oV s)) l).getD s 0->C<A+m->RIn w wr S u l.length cap (.cells #[.int .i64 r.g, .slice at_ r.v.length Q, .int .i64 r.h, .slice M r.body.length N, .int .i64 r.vars] 97) T l (dZ (f.take k)) s (E++[⟨((q:Int),m),h0,U,hm⟩]) ((W.setCell ⟨u,s,none⟩ (.int .i64 (A+m))).setCell ⟨w.heap.size+1,0,none⟩ (.bool true))):=fun A C G I J=>by subst G I;exact bDZ HI.o ⟨((q:Int),m),h0,U,hm⟩ b3 a6 oM J);(have Y:O (∀A C:Int,A=(aU (dZ (f.take k)++E.map (oV s)) l).getD q 0->C=(aU (dZ (f.take k)++E.map (oV s)) l).getD s 0->¬C<A+m->RIn w wr S u l.length cap (.cells #[.int .i64 r.g, .slice at_ r.v.length Q, .int .i64 r.h, .slice M r.body.length N, .int .i64 r.vars] 97) T l (dZ (f.take k)) s (E++[⟨((q:Int),m),h0,U,hm⟩]) W):=fun A C G I J=>by subst G I;exact bGX HI.o ⟨((q:Int),m),h0,U,hm⟩ b3 J);obtain⟨A,G⟩:∃A:Int,A=(aU (dZ (f.take k)++E.map (oV s)) l).getD q 0:=⟨_,rfl⟩;obtain⟨C,a3⟩:∃C:Int,C=(aU (dZ (f.take k)++E.map (oV s)) l).getD s 0:=⟨_,rfl⟩;replace Z:O _:=Z.o A C G a3;replace Y:O _:=Y.o A C G a3;rw[<-G]at c2 bn bm;rw[<-a3]at c3;have bs:0<=m:=oM;have bt:m<=1:=oM;have aJ:O (L.heap.size<=u/\u<w.heap.size/\w.heap.size+2<=wr.heap.size):=⟨bf,a6,oM⟩;have bp:L.heap.size<=w.heap.size:=oM;clear H b0 aR bk bi G a3 bq bl;by_cases J:C<A+m
    ·have br:decide (C<A+m)=true:=aP J;replace Z:O _:=Z.o J;have c6:=bAA (aC.o (.int .i64 (A+m)));have f6:=bM (aC.o (.int .i64 (A+m))) 0;clear Y J;gi_wp2;refine⟨((KeepsOthers.setCell _ _ _).trans (KeepsOthers.setCell _ _ _)).from _,⟨((aG _ W).setCell (p:=⟨u,s,none⟩) aJ.o.1 _).setCell (p:=⟨w.heap.size+1,0,none⟩) (PK bp) _,fun o _ hR=>?_⟩,Z.o⟩;have h9:=aJ.o;rw[eC oM,eC oM];exact hR
    have br:decide (C<A+m)=false:=aF J;replace Y:O _:=Y.o J;clear Z J;gi_wp2;exact⟨KeepsFrom.refl _ _,HK.refl _ _ _,Y.o⟩
  obtain rfl:k=f.length:=oM;(have c5:wr.cell? ⟨w.heap.size+1,0,none⟩=some (.bool (decide (aU (dZ (f.take f.length)) l≠l))):=cH F.o.flag);rw[nK]at *;obtain⟨fb,a8⟩:∃fb,fb=decide (aU (dZ f) l≠l):=⟨_,rfl⟩;rw[<-a8]at c5;have bb:O _:=a8;clear a8;gi_wp2;have bw:=(aK.mp bd.o).1;refine Qk (B:=w.heap.size+2) (v:=.bool fb) (fun w=>results_tmp (t:=4) rfl _ _ w) T wr HM.o (fun w' hb=>⟨by rw[bb.o],?_,?_⟩)
  ·exact(hb.block u oM).trans F.o.row
  exact⟨hb.os.trans F.o.gr.os,hb.tape.trans F.o.gr.tape,hb.output.trans F.o.gr.output,bP F.o.gr.size hb.size,fun j hj hn=>(hb.block j oM).trans (F.o.gr.block j hj hn)⟩
end Go.Proofs.YtfljoehbbncooaaGreat
namespace Go.Proofs.YtfljoehbbncooaaGreat
open Go.RowKit
theorem gG{a b:Int}(h:iV a b=0):a=0/\b=0:=by
 unfold iV at h;split at h
 ·exact⟨by assumption,h⟩
 exact absurd h (by assumption)
theorem JA{p:bK}(h:dB p=0):p.x.length<=10/\p.y.length<=12/\∀r,r∈p.y->aDX p.x.length r:=by
 unfold dB at h;split at h
 ·omega
 rename_i q;split at h
 ·omega
 refine⟨oM,oM,fun r m=>?_⟩;have b:=yF (gG h).2 r m;unfold eQ at b;split at b
 ·rename_i e;obtain⟨_,b⟩:=gG b;obtain⟨_,b⟩:=gG b;obtain⟨_,b⟩:=gG b;obtain⟨_,b⟩:=gG b;obtain⟨_,b⟩:=gG b;obtain⟨f,b⟩:=gG b;obtain⟨i,_⟩:=gG b;(have l:0<=r.g/\r.g<=(p.x.length:Int)-1:=by unfold nX dT at e;simpa using e);refine⟨l.1,oM,fun x n k=>?_,?_⟩
  ·have c:=yF i x n;obtain⟨c,_⟩:=gG c;unfold eW at c;rw[if_pos (fJ k)]at c;split at c
   ·omega
   split at c
   ·rename_i d;unfold nX dT at d;(have s:0<=x.g/\x.g<=(p.x.length:Int)-1:=by simpa using d);omega
   omega
  by_cases j:4<r.body.length
  ·rw[if_pos j]at f;omega
  omega
 omega
def pM(p:bK):Int:=if dB p=0 then(if yN p then 0 else 4)else dB p
def AE(p:bK):List Int:=if dB p=0/\yN p=true then kA p else []
theorem aB6{p:bK}(h:¬dB p=0):pM p=dB p/\AE p=[]:=by unfold pM AE;rw[if_neg h,if_neg (fun k=>h k.1)];exact⟨rfl,rfl⟩
theorem MB{p:bK}(h:dB p=0)(b:yN p=true):pM p=0/\AE p=kA p:=by unfold pM AE;rw[if_pos h,if_pos b,if_pos ⟨h,b⟩];exact⟨rfl,rfl⟩
theorem aB7{p:bK}(h:dB p=0)(b:yN p=false):pM p=4/\AE p=[]:=by unfold pM AE;rw[if_pos h,if_neg (by simp[b]),if_neg (by simp[b])];exact⟨rfl,rfl⟩
theorem Xf{p:bK}{k:Nat}(e:k<=p.x.length)(h:aU (eD p) (eJ (eD p) k (dU p.x.length))=eJ (eD p) k (dU p.x.length)):kA p=eJ (eD p) k (dU p.x.length)/\yN p=true:=by(have b:kA p=eJ (eD p) k (dU p.x.length):=by unfold kA;obtain⟨d,c⟩:∃d,p.x.length=k+d:=⟨p.x.length-k,oM⟩;rw[c,NA,<-c,TW h]);refine⟨b,aP ?_⟩;rw[b,h]
theorem OZ(E:List gI)(b:∀e,e∈E->e.2.2<=1)(n:Nat):∀(k i:Nat),(eJ E k (dU n)).getD i 0<=(k*E.length:Nat)
 |0,i=>by rw[show eJ E 0 (dU n)=dU n from rfl,IB];omega
 |k+1,i=>by rw[uG];have :=EQ E (OZ E b n k) b i;rw[OH];omega
theorem VL(E:List gI)(n k i:Nat):0<=(eJ E k (dU n)).getD i 0:=by have :=(DQ E k (dU n)).2 i;rw[IB]at this;exact this
theorem aEP(n:Nat):madeCells #[Value.int .i64 0] n=BJ (dU n):=by
 unfold BJ dU;apply Array.ext
 ·simp[size_madeCells]
 intro i b c;simp[madeCells,Nat.mod_one]
theorem Qh{w:World}{b:Nat}{l:List Int}(cap:Nat)(h:w.heap[b]?=some (.cells (BJ l) 3)):eT w (.slice (some ⟨b,0,none⟩) l.length cap) l:=by refine⟨_,_,rfl, .inr ⟨b,0,rfl,fun i c=>?_⟩⟩;rw[eP];exact JF h c
theorem LD{w wr f:World}{c:Nat}(b:Below w.heap.size w wr)(hg:wr.grownBy f (some c))(h:w.heap.size<=c):Below w.heap.size w f:=
 ⟨hg.os.trans b.os,hg.tape.trans b.tape,hg.output.trans b.output,bP b.size hg.size,fun j d=>(hg.block j (dS d b.size) (fun e=>by injection e with e;omega)).trans (b.block j d)⟩
theorem _root_.Go.World.grownBy.trans_row{a b c:World}{d:Nat}(h:a.grownBy b (some d))(k:b.grownBy c (some d)):a.grownBy c (some d):=
 ⟨k.os.trans h.os,k.tape.trans h.tape,k.output.trans h.output,bP h.size k.size,fun j e f=>(k.block j (dS e h.size) f).trans (h.block j e f)⟩
theorem aO2(p:bK)(va vn vr:Value)(w:World)(C:nV w va vn vr p)(hF:lR p):
 Calls Tryz.prog 124 #[gU va vn vr] w fun e w'=>∃v,e=.returned (.tuple #[v, .int .i64 (pM p)])/\eT w' v (AE p)/\Below w.heap.size w w':=by
 obtain⟨m,q,rfl,_⟩:=id C.ar;obtain⟨I,L,rfl,_⟩:=id C.nm;obtain⟨n,s,rfl,_⟩:=id C.rl;have J:Below w.heap.size w (w.alloc (pB m q I L n s p)):=(aG _ _).alloc (aH _) _;have T:=bA w (pB m q I L n s p);have HP:O _:=C;have HF:O _:=hF;clear C hF
 go_enter Tryz.func124,Tryz.ntmps124
 go_wp2_with fail;generalize w.alloc (pB m q I L n s p)=w1 at *;refine(VJ p _ _ _ w1 (HP.o.z J) HF.o).mono ?_;rintro e d ⟨rfl,V⟩;have D:=(V.block _ (aK.mp T).1).trans T;have K:=J.trans (V.mono J.size);clear T J V;by_cases f:dB p=0
 ·obtain⟨hn,X,hR⟩:=JA f;have Y:O (dB p=0):=f;have HR:O _:=hR;rw[f];clear f hR;(have c0:d.cell? ⟨w.heap.size,0,none⟩=some (.slice m p.x.length q):=cH D);have af:=run_make_row' (P:=Tryz.prog) 22 3 (.int .i64 0) 8 Tryz.underlying22 kR rfl .i64 .i64 p.x.length oM oM;have R:=(aG d.heap.size d).alloc (aH _) (.cells (madeCells #[Value.int .i64 0] p.x.length) 3);have G:=bA d (.cells (madeCells #[Value.int .i64 0] p.x.length) 3);have U:=(R.block _ (aK.mp D).1).trans D;have a6:=K.trans (R.mono K.size);(have c3:(d.alloc (.cells (madeCells #[Value.int .i64 0] p.x.length) 3)).cell? ⟨w.heap.size,0,none⟩=some (.slice m p.x.length q):=cH U);have ai:w.heap.size<d.heap.size:=(aK.mp D).1;clear R;go_wp2_with fail;rw[aEP]at *;generalize d.alloc (.cells (BJ (dU p.x.length)) 3)=w3 at *;generalize d.heap.size=Q at *;clear af c0 D K c3;have a4:O _:=U;have l:O _:=a6;clear U a6;go_loopw [19] (fun i wr=>∃k:Nat,k<=p.x.length+1/\i=.int .i64 k/\wr.heap[Q]?=some (.cells (BJ (eJ (eD p) k (dU p.x.length))) 3)/\(∀j,j<k->aU (eD p) (eJ (eD p) j (dU p.x.length))≠eJ (eD p) j (dU p.x.length))/\w3.grownBy wr (some Q)) (fun i _=>p.x.length+1-(intOf i).toNat);case atStart=>exact⟨0,bL _,rfl,G,fun j F=>absurd F (yR _),⟨rfl,rfl,rfl,aH _,fun _ _ _=>rfl⟩⟩
  case round=>
   clear G;obtain⟨k,hk,rfl,G,a9,c⟩:=hrel;have a5:wr.heap[w.heap.size]?=some (pB m q I L n s p):=(c.block _ (aK.mp a4.o).1 (fun e=>by injection e with e;omega)).trans a4.o;(have c2:wr.cell? ⟨w.heap.size,2,none⟩=some (.slice n p.y.length s):=cH a5);have a7:Below w.heap.size w wr:=⟨c.os.trans l.o.os,c.tape.trans l.o.tape,c.output.trans l.o.output,bP l.o.size c.size,fun j F=>(c.block j (dS F l.o.size) (fun e=>by injection e with e;omega)).trans (l.o.block j F)⟩;have M:O _:=a7;have a3:O _:=a9;have ac:O _:=G;have HG:O _:=c;clear a5 a7 a9 G c;by_cases ah:k<p.x.length+1
   ·have ad:=BI p.y (fun r X=>(HR.o r X).hl);(have W:(eJ (eD p) k (dU p.x.length)).length=p.x.length:=by rw[rC];simp[dU]);have u:=aXI w wr p.y (.slice n p.y.length s) (eJ (eD p) k (dU p.x.length)) Q p.x.length 528 HP.o.rl M.o oM ac.o (by rw[W];exact HR.o) X (VL _ _ _) (fun i=>by
     have S:=OZ (eD p) (NU p.y) p.x.length k i;have h8:(k*(eD p).length:Nat)<=11*48:=Dw oM (by show(dZ p.y).length<=48;omega)
     omega) dE
    rw[W]at u;have u:O _:=u;clear ad W;go_wp2_with fail;refine Calls.mono u.o ?_;rintro e w5 ⟨rfl,aa,a8⟩;have N:O _:=aa;have Z:O _:=a8;clear u aa a8;by_cases g:aU (dZ p.y) (eJ (eD p) k (dU p.x.length))=eJ (eD p) k (dU p.x.length)
    ·have E:decide (aU (dZ p.y) (eJ (eD p) k (dU p.x.length))≠eJ (eD p) k (dU p.x.length))=false:=aF (fun h=>h g);have H:=Xf (p:=p) (k:=k) oM g;have b:=MB Y.o H.2;have H:O _:=H;have b:O _:=b;rw[E];rw[g]at N;clear g E;go_wp2_with fail;refine dP (lQ rfl _ _ _) rfl ⟨_,by rw[b.o.1];rfl,?_,?_⟩
     ·rw[b.o.2,H.o.1];have S:=Qh p.x.length N.o;rw[rC,show(dU p.x.length).length=p.x.length by simp[dU]]at S;exact S
     exact LD M.o Z.o oM
    have E:decide (aU (dZ p.y) (eJ (eD p) k (dU p.x.length))≠eJ (eD p) k (dU p.x.length))=true:=aP g;have ab:O _:=g;rw[E];clear g E;go_wp2_with fail;go_roundw
    case rel=>
     refine⟨k+1,oM,gN,by rw[uG];exact N.o,fun j F=>?_,HG.o.trans_row Z.o⟩;by_cases ae:j=k
     ·rw[ae];exact ab.o
     exact a3.o j oM
    case measure=>exact mI
   obtain rfl:k=p.x.length+1:=oM;have b:=aB7 (p:=p) Y.o (aF (a3.o p.x.length oM));have b:O _:=b;clear c2;go_wp2_with fail;refine dP (lQ rfl _ _ _) rfl ⟨_,by rw[b.o.1];rfl,by rw[b.o.2];exact⟨none,0,rfl, .inl rfl⟩,M.o⟩
 (have ag:(dB p==0)=false:=by simp[f]);have b:=aB6 f;have b:O _:=b;clear f;go_wp2_with fail;refine dP (lQ rfl _ _ _) rfl ?_;exact⟨_,by rw[b.o.1];rfl,by rw[b.o.2];exact⟨none,0,rfl, .inl rfl⟩,K⟩
abbrev Lv:=cX×Value
def yO(p:Lv):List Value:=[.int .i64 p.1.kind, .int .i64 p.1.op, .int .i64 p.1.g,p.2]
def pJ(q:List Lv):List Value:=(q.map yO).flatten
theorem IF{α:Type}(f:α->List Value)(c:Nat)(d:∀a,(f a).length=c):∀(l:List α)(i:Nat)(a:α)(t:Nat),l[i]?=some a->t<c->(l.map f).flatten[i*c+t]?=(f a)[t]?
 |[],i,a,t,h,_=>by simp at h
 |b::l,0,a,t,h,ht=>by(have j:b=a:=by simpa using h);subst j;rw[jN,qG,BR,eP,lB (by rw[d];exact ht)]
 |b::l,i+1,a,t,h,ht=>by(have g:l[i]?=some a:=by simpa using h);rw[jN,qG,kS (by rw[d,OH];omega),d];(have e:(i+1)*c+t-c=i*c+t:=by rw[OH];omega);rw[e];exact IF f c d l i a t g ht
theorem Ij{α:Type}(f:α->List Value)(c:Nat)(d:∀a,(f a).length=c):∀(l:List α),(l.map f).flatten.length=l.length*c
 |[]=>by simp
 |b::l=>by rw[jN,qG,aV,d,Ij f c d l,nJ,OH];omega
theorem aWI{α:Type}(f:α->List Value)(c:Nat)(b:0<c)(e:∀a,(f a).length=c)(l:List α)(j:Nat)(u:Value)(h:(l.map f).flatten[j]?=some u):∃a,l[j/c]?=some a/\(f a)[j% c]?=some u:=by(have g:j<l.length*c:=by rw[<-Ij f c e l];exact(gH.mp h).1);have d:j/c<l.length:=(Nat.div_lt_iff_lt_mul b).mpr g;refine⟨l[j/c],aM d,?_⟩;rw[<-IF f c e l (j/c) l[j/c] (j% c) (aM d) (Nat.mod_lt _ b),Nat.mul_comm,Nat.div_add_mod];exact h
theorem pY{W d:World}{B e c n:Nat}{v:Value}{xs:List Value}(h:W.ownsRow B e c v n xs)(m:∀(k:Nat)(a:Array Value),W.heap[k]?=some (.cells a e)->d.heap[k]?=some (.cells a e)):d.ownsRow B e c v n xs:=by
 obtain⟨i,b⟩:=h;refine⟨i,?_⟩;rcases b with b|⟨g,cap,f,p,j,l,r⟩
 ·exact .inl b
 exact .inr ⟨g,cap,f,p,j,m g f l,r⟩
theorem xL{W:World}{B e c n:Nat}{v:Value}{xs:List Value}(h:W.ownsRow B e c v n xs):∃b cap,v=.slice b n cap/\n<=cap/\(n=0\/∃g,b=some ⟨g,0,none⟩/\∀j,j<n*c->W.cell? ⟨g,j,none⟩=xs[j]?):=by
 rcases lJ h with⟨rfl,rfl⟩|⟨g,cap,rfl⟩
 ·exact⟨none,0,rfl,aH _, .inl rfl⟩
 refine⟨_,cap,rfl,?_, .inr ⟨g,rfl,fun j f=>h.cellAt j f⟩⟩;rcases h.2 with⟨d,_⟩|⟨m,k,l,i,_,_,q,_⟩
 ·cases d
 injection i with _ _ p;omega
theorem QC:∀(D:List Nat)(x y:Array Value),x.size=y.size->(∀t,t∉D->x.getD t undef=y.getD t undef)->x=D.foldl (fun b t=>b.setIfInBounds t (x.getD t undef)) y
 |[],x,y,e,h=>by show x=y;refine Array.ext e fun i c d=>?_;have :=h i sI;rw[uU,uU,jO c,jO d]at this;exact this
 |t::D,x,y,e,h=>by
  show x=D.foldl (fun b t=>b.setIfInBounds t (x.getD t undef)) (y.setIfInBounds t (x.getD t undef));refine QC D x _ (by simp[e]) fun s j=>?_;by_cases f:s=t
  ·subst f;by_cases g:s<y.size
   ·simp[Array.getD_eq_getD_getElem?,g]
   (have c:x[s]?=none:=by rw[Array.getElem?_eq_none_iff];omega);(have d:∀v,(y.setIfInBounds s v)[s]?=none:=fun v=>by rw[Array.getElem?_eq_none_iff];simp;omega);rw[uU,uU,c,d]
  rw[h s (by simp[f,j])];simp[Array.getD_eq_getD_getElem?,Ne.symm f]
theorem oR(D:List Nat)(x y:Array Value)(c:x.size=y.size)(h:∀t,t∉D->x.getD t undef=y.getD t undef):∃f:Nat->Value,(∀t,f t=x.getD t undef)/\x=D.foldl (fun b t=>b.setIfInBounds t (f t)) y:=⟨fun t=>x.getD t undef,fun _=>rfl,QC D x y c h⟩
section
variable {P:Program} {ops:Array Oper} {Q:Exit->Act->World->Prop} {T:Nat->Value->World->Prop} {a:Act} {w:World} {o:Oper}
theorem aXA{j t:Nat}{b c:Bool}{e:Oper}(hg:o.guard=some (j,b))(k:ops[j]?=some e)(i:e.dst=some t)(d:a.tmps.getD t undef=.bool c)(g:c≠b)(f:∀t,o.dst=some t->T t undef w):IU P ops Q T o a w:=by
 have ht:a.tmps[t]?=some (.bool c):=by
  rw[uU]at d
  cases h:a.tmps[t]? with
  |none=>rw[h]at d;simp[undef]at d
  |some v=>rw[h]at d;simpa using d
 (have l:Region.wanted o (yielded ops a.tmps)=false:=by unfold Region.wanted;rw[hg];dsimp only;unfold yielded;rw[k,nL,i,nL,ht];simp[g]);unfold IU;rw[l,if_neg sI];exact f
theorem opS{j t:Nat}{b c:Bool}{d:Oper}(k:a.tmps.getD t undef=.bool c)(hg:o.guard=some (j,b):=by rfl)(i:ops[j]?=some d:=by rfl)(g:d.dst=some t:=by rfl)(f:c≠b:=by decide)(e:∀t,o.dst=some t->T t undef w:=by intro t ht;cases ht;exact rfl):IU P ops Q T o a w:=aXA hg i g k f e
end
def bBD(b:Array Oper)(c:Oper):Bool:=(List.range (b.size-1)).all fun i=>c.after.toList.any fun e=>Region.binds .any e&&(e.on==i||((b[e.on]?).map fun o=>o.after.toList.any fun f=>f.on==i&&Region.binds .any f).getD false)
structure bFU (ops:Array Oper) (T:Nat->Value->World->Prop) (a0:Act) (w0:World) (a:Act) (w:World):Prop where
 z:Below w0.heap.size w0 w
 defers:a.defers=a0.defers
 size:a.tmps.size=a0.tmps.size
 still:∀t,t∉ops.toList.filterMap (·.dst)->a.tmps.getD t undef=a0.tmps.getD t undef
 all:∀(i:Nat)(o:Oper)(t:Nat),i+1<ops.size->ops[i]?=some o->o.dst=some t->T t (a.tmps.getD t undef) w
theorem aE5{P:Program}{b:Array Oper}{Q:Exit->Act->World->Prop}{i:Nat}{o:Oper}{K:Act->World->Prop}{a:Act}{w w':World}(d:b[i]?=some o)(e:Region.wanted o (yielded b a.tmps)=true)(c:o.dst=none)(hr:(execOp a.eval o).run P w=.ok .skip w')(h:K a w'):wpOp P b Q i K a w:=by unfold wpOp;rw[d];dsimp only;rw[if_pos e];left;unfold Oper.wp;rw[hr,Oper.upon_skip,c];exact h
section
variable {P:Program} {ops:Array Oper} {Q:Exit->Act->World->Prop}
theorem XL(T:Nat->Value->World->Prop){id:Nat}{k:Act}{w0:World}(s:Oper)(q:ops[ops.size-1]?=some s)(F:bBD ops s=true)(G:P.follows .mixedOrders=true)
 (n:II ops k.tmps.size=true)
 (H:∀t v w l,Below w.heap.size w l->T t v w->T t v l)
 (hop:OI (fun o=>∀a w,QX ops T k w0 o a w->IU P ops Q T o a w) (ops.toList.take (ops.size-1)))
 (hlast:∀a w,bFU ops T k w0 a w->wpOp P ops Q (ops.size-1) (fun u l=>Q .normal u l) a w):
 (Code.region id ops true).wp P Q k w0:=by
 have J:ops.size-1<ops.size:=(aK.mp q).1;have I:xD ops (ops.size-1)=true:=by
  unfold xD;rw[eI];refine⟨fA.mpr fun j E=>?_,fA.mpr fun i g=>?_⟩
  ·have m:=fA.mp F j E;obtain⟨e,D,c⟩:=jW.mp m;rw[eI,yQ]at c;unfold CQ;rw[q,nU,qA];refine jW.mpr ⟨e,D,?_⟩;rw[eI,yQ];refine⟨c.1,c.2.imp (fun h=>h) fun b=>?_⟩;unfold CQ
   cases r:ops[e.on]? with
   |none=>rw[r]at b;cases b
   |some K=>
    rw[r,nU,qA]at b;obtain⟨f,n,d⟩:=jW.mp b;rw[eI]at d;refine jW.mpr ⟨f,n,?_⟩;rw[d.1,d.2];rfl
  have g:=lL.mp g;rw[aF oM];rfl
 refine DO T (ops.size-1) (Nat.sub_le _ _) (fun _=>I) G n H (fun i o g p a w h _=>OI.mem _ hop o (Jg g p) a w h) (fun a w m c b d x _=>?_);rw[show ops.size-(ops.size-1)=1 by omega];exact hlast a w ⟨m,c,b,d,fun i o t g p C=>x i o t oM p C⟩
end

end Go.Proofs.YtfljoehbbncooaaGreat
namespace Go.Proofs.YtfljoehbbncooaaGreat
open Go.RowKit Go.Shelf
attribute [local go_sem] Oper.semAt_some
end Go.Proofs.YtfljoehbbncooaaGreat
namespace Go.Proofs.YtfljoehbbncooaaGreat
open Go.RowKit


structure aDM (ops:Array Oper) (T:Nat->Value->World->Prop) (a0:Act) (w0:World) (L:Nat) (a:Act) (w:World):Prop where
 z:Below w0.heap.size w0 w
 defers:a.defers=a0.defers
 size:a.tmps.size=a0.tmps.size
 still:∀t,t∉ops.toList.filterMap (·.dst)->a.tmps.getD t undef=a0.tmps.getD t undef
 all:∀(i:Nat)(o:Oper)(t:Nat),i<L->ops[i]?=some o->o.dst=some t->T t (a.tmps.getD t undef) w
section
variable {P:Program} {ops:Array Oper} {Q:Exit->Act->World->Prop}
theorem qF(T:Nat->Value->World->Prop)(L:Nat){id:Nat}{b:Act}{w0:World}(j:L<ops.size)(q:xD ops L=true)(m:P.follows .mixedOrders=true)
 (k:II ops b.tmps.size=true)
 (n:∀t v w c,Below w.heap.size w c->T t v w->T t v c)
 (hop:OI (fun o=>∀a w,QX ops T b w0 o a w->IU P ops Q T o a w) (ops.toList.take L))
 (htail:∀a w,aDM ops T b w0 L a w->wpOps P ops Q (List.range' L (ops.size-L)) a w):
 (Code.region id ops true).wp P Q b w0:=
 DO T L (wK j) (fun _=>q) m k n (fun _ o l p a w h _=>OI.mem _ hop o (Jg l p) a w h) (fun a w d e f g i _=>htail a w ⟨d,e,f,g,i⟩)
end
abbrev Rv:=cA×Value×Value
section
variable {P:Program} {ops:Array Oper} {Q:Exit->Act->World->Prop} {i:Nat} {o:Oper} {K:Act->World->Prop} {a:Act} {w w':World}
theorem xF{v:Value}(b:ops[i]?=some o)(c:Region.wanted o (yielded ops a.tmps)=true)(hr:(execOp a.eval o).run P w=.ok (.value v) w')(h:K (a.put o.dst v) w'):wpOp P ops Q i K a w:=by unfold wpOp;rw[b];dsimp only;rw[if_pos c];left;unfold Oper.wp;rw[hr,Oper.upon_value];exact h
theorem LG(c:ops[i]?=some o)(d:Region.wanted o (yielded ops a.tmps)=true)(b:o.dst=none)(hr:(execOp a.eval o).run P w=.ok .skip w')(h:K a w'):wpOp P ops Q i K a w:=by unfold wpOp;rw[c];dsimp only;rw[if_pos d];left;unfold Oper.wp;rw[hr,Oper.upon_skip,b];exact h
theorem KT(b:ops[i]?=some o)(c:Region.wanted o (yielded ops a.tmps)=true)(h:o.wp P a w K Q):wpOp P ops Q i K a w:=by unfold wpOp;rw[b];dsimp only;rw[if_pos c];exact .inl h
end
theorem JG{W:World}{c:Nat}{b:Array Value}{t:TypeId}(h:W.heap[c]?=some (.cells b t)):∀j u,b.toList[j]?=some u->W.cell? ((⟨c,0,none⟩:Addr).add j)=some u:=by intro j u d;rw[Addr.add_lit,eP,cM h,<-fZ];exact d
theorem tY{W:World}{B:Nat}{v:Value}{l:List Int}(h:W.ownsRow B 3 1 v l.length (l.map (Value.int .i64))):eT W v l:=by
 obtain⟨c,cap,rfl,_,b⟩:=xL h;refine⟨c,cap,rfl,?_⟩;rcases b with d|⟨g,rfl,b⟩
 ·exact .inl (oJ.mp d)
 refine .inr ⟨g,0,rfl,fun i e=>?_⟩;rw[eP,b i oM];simp[cI,e]
theorem FN{W:World}{B c n k:Nat}{e t:TypeId}{v:Value}{xs:List Value}{a:Array Value}(h:W.ownsRow B e c v n xs)(d:v.ownBlock=some k)(b:W.heap[k]?=some (.cells a t)):t=e:=by
 rcases h.2 with⟨f,_⟩|⟨g,cap,m,l,_,j,_⟩
 ·rw[f]at d;cases d
 rw[l]at d;(have i:g=k:=by simpa[Value.ownBlock]using d);subst i;rw[j]at b;injection b with b;injection b with _ b _;exact b.symm
theorem aMC(c a b:Int)(w:World):Calls Tryz.prog 267 #[.int .i64 c, .int .i64 a, .int .i64 b] w fun e k=>e=.returned (.bool (vX c a b))/\k=w:=by
 by_cases d:c=1
 ·subst d
  go_enter Tryz.func267,Tryz.ntmps267
  go_wp2;go_ret;exact⟨by unfold vX;simp,rfl⟩
 (have i:(c==1)=false:=by simpa using d);by_cases f:c=2
 ·subst f;clear d i
  go_enter Tryz.func267,Tryz.ntmps267
  go_wp2;go_ret;exact⟨by unfold vX;simp,rfl⟩
 (have j:(c==2)=false:=by simpa using f);by_cases g:c=3
 ·subst g;clear d i f j
  go_enter Tryz.func267,Tryz.ntmps267
  go_wp2;go_ret;exact⟨by unfold vX;rw[if_neg dE,if_neg dE,if_pos rfl];simp;rfl,rfl⟩
 (have l:(c==3)=false:=by simpa using g);(have HV:O (vX c a b=decide (a≠b)):=by show _=_;unfold vX;rw[if_neg d,if_neg f,if_neg g]);clear d f g
 go_enter Tryz.func267,Tryz.ntmps267
 go_wp2;go_ret;exact⟨by rw[HV.o];simp[bne];rfl,rfl⟩
theorem aEQ{a b:Int}(d: -1000000<=a/\a<=1000000)(e: -1000000<=b/\b<=1000000): -1000000000000<=a*b/\a*b<=1000000000000:=by(have c:(a*b).natAbs<=1000000*1000000:=by rw[Int.natAbs_mul];exact Dw oM oM);omega
theorem aH4(c a b:Int)(w:World)(m: -1000000<=a/\a<=1000000)(n: -1000000<=b/\b<=1000000):Calls Tryz.prog 269 #[.int .i64 c, .int .i64 a, .int .i64 b] w fun e p=>e=.returned (.int .i64 (pV c a b))/\p=w:=by
 obtain⟨g,i⟩:=m;obtain⟨j,k⟩:=n;by_cases d:c=5
 ·subst d
  go_enter Tryz.func269,Tryz.ntmps269
  go_wp2;go_ret;exact⟨by unfold pV;simp,rfl⟩
 (have l:(c==5)=false:=by simpa using d);by_cases f:c=6
 ·subst f;clear d l
  go_enter Tryz.func269,Tryz.ntmps269
  go_wp2;go_ret;exact⟨by unfold pV;simp,rfl⟩
 (have q:(c==6)=false:=by simpa using f);(have HV:O (pV c a b=a*b):=by show _=_;unfold pV;rw[if_neg d,if_neg f]);obtain⟨r,s⟩:=aEQ ⟨g,i⟩ ⟨j,k⟩;clear d f
 go_enter Tryz.func269,Tryz.ntmps269
 go_wp2;go_ret;exact⟨by rw[HV.o];simp,rfl⟩
theorem Lz(n:Int)(w:World):Calls Tryz.prog 219 #[.int .i64 n] w fun e d=>e=.returned (.bool (dJ n))/\d=w:=by
 unfold dJ dT;by_cases c: -1000000<=n
 ·have b:decide (-1000000<=n)=true:=aP c
  go_enter Tryz.func219,Tryz.ntmps219
  go_wp2;go_ret;exact⟨by rw[b];rfl,rfl⟩
 have b:decide (-1000000<=n)=false:=aF c;clear c
 go_enter Tryz.func219,Tryz.ntmps219
 go_wp2;go_ret;exact⟨by rw[b];rfl,rfl⟩
abbrev aO0(w:World)(B:Nat)(v:Value)(l:List Int):Prop:=w.ownsRow B 3 1 v l.length (l.map (Value.int .i64))
theorem aO0.ints{w:World}{B:Nat}{v:Value}{l:List Int}(h:aO0 w B v l):eT w v l:=tY h
def bHO(c:Nat)(d e:Value)(t:eE)(n:Int)(f:Nat)(b:Value):Prop:=
 match f with
 |18=>b=(.pointer (some ⟨c,1,none⟩):Value)
 |19=>b=(d:Value)
 |20=>b=(jG t:Value)
 |21=>b=(e:Value)
 |22=>b=(.int .i64 n:Value)
 |_=>True
def aHQ(e:Nat)(f g:Value)(t:eE)(n:Int)(c:Nat)(d:Value)(i:World):Prop:=if c=23 then∃b,d=.slice (some ⟨b,0,none⟩) 1 1/\i.heap[b]?=some (.cells #[.int .i64 n] 3)else bHO e f g t n c d
theorem aLR(c:Nat)(d e:Value)(t:eE)(n:Int)(b:Nat)(j:Value)(W f:World)(l:Below W.heap.size W f)(h:aHQ c d e t n b j W):aHQ c d e t n b j f:=by
 unfold aHQ at h ⊢;by_cases ht:b=23
 ·rw[if_pos ht]at h ⊢;obtain⟨g,k,i⟩:=h;exact⟨g,k,(l.block g (aK.mp i).1).trans i⟩
 rw[if_neg ht]at h ⊢;exact h
theorem QQ(q:Int)(ts:List eE)(x:List Int)(vt vx:Value)(w:World)(V:iX w vt ts)(hX:eT w vx x)(hl:ts.length<=1000000)(r:kV x.length ts):
 Calls Tryz.prog 194 #[.int .i64 q,vt,vx] w fun e w'=>∃v,e=.returned (.agg #[.int .i64 q,v])/\aO0 w' w.heap.size v (dO ts x)/\Below w.heap.size w w':=by
 obtain⟨i0,hi,aN,aO,aR⟩:=jY MN;obtain⟨at_,ct,rfl,_,V⟩:=V;obtain⟨F,G,rfl,_⟩:=id hX;have HT:O _:=V;have HX:O _:=hX;have am:O _:=r;obtain⟨L,M,N⟩:=PE w (.cells #[.int .i64 0, .slice none 0 0] 72) (.cells #[.int .i64 q, .slice none 0 0] 72);have H0:O _:=L;have H1:O _:=M;have D:O _:=N;clear V hX r L M N
 go_enter Tryz.func194,Tryz.ntmps194
 go_wp2_with fail;generalize (w.alloc (.cells #[.int .i64 0, .slice none 0 0] 72)).alloc (.cells #[.int .i64 q, .slice none 0 0] 72)=w1 at *;go_loopw [14] (fun i wr=>∃k:Nat,k<=ts.length/\i=.int .i64 k/\∃vs:Value,wr.heap[w.heap.size]?=some (.cells #[.int .i64 0, .slice none 0 0] 72)/\wr.heap[w.heap.size+1]?=some (.cells #[.int .i64 q,vs] 72)/\wr.ownsRow (w.heap.size+2) 3 1 vs k ((dO (ts.take k) x).map (Value.int .i64))/\Below w.heap.size w wr) (fun i _=>ts.length-(intOf i).toNat);case atStart=>exact⟨0,bL _,rfl,_,H0.o,H1.o,eS _ _ _ _,D.o⟩
 case round=>
  clear H0 H1 D;obtain⟨k,X,rfl,vs,L,M,ho,N⟩:=hrel;obtain⟨l,m,rfl⟩:=bR ho;have E:O _:=L;have J:O _:=M;have Q:O _:=ho;have D:O _:=N;clear L M ho N;by_cases H:k<ts.length
  ·obtain⟨b,b4,rfl,P⟩:=uC HT.o k H;have P:=P k H;have q0:=aB D.o P.1;have q1:=aB D.o P.2;have a2:O (dO (ts.take (k+1)) x=dO (ts.take k) x++[fH x (cQ ts k)]):=by
    show _=_;unfold dO;rw[gQ,dC]
    congr 1
    unfold cQ;rw[aI,aM H];rfl
   have an:O (vA x.length (cQ ts k)):=am.o _ (pD H);clear P;generalize cQ ts k=t at *;go_upto_region 5 with fail;have K:=(aG wr.heap.size wr).alloc (aH _) (.cells #[.int .i64 t.var, .int .i64 t.n] 107);have a5:=bA wr (.cells #[.int .i64 t.var, .int .i64 t.n] 107);(have t0:(wr.alloc (.cells #[.int .i64 t.var, .int .i64 t.n] 107)).cell? ⟨wr.heap.size,0,none⟩=some (.int .i64 t.var):=cH a5);(have t1:(wr.alloc (.cells #[.int .i64 t.var, .int .i64 t.n] 107)).cell? ⟨wr.heap.size,1,none⟩=some (.int .i64 t.n):=cH a5);have a8:O _:=(K.block _ (cV E.o)).trans E.o;have a1:O _:=(K.block _ (cV J.o)).trans J.o;have al:O _:=bO Q.o K;have a0:O _:=D.o.trans (K.mono D.o.size);have ao:O _:=bC HX.o a0.o;clear q0 q1 K a5 E J Q D;generalize wr.alloc (.cells #[.int .i64 t.var, .int .i64 t.n] 107)=wq at *;generalize wr.heap.size=TB at *;(have ar:wq.cell? ⟨w.heap.size+1,1,none⟩=some (.slice l k m):=cH a1.o);refine qF (aHQ (w.heap.size+1) (.slice l k m) (.slice F x.length G) t (fH x t)) 6 dE kR kR kR (aLR (w.heap.size+1) (.slice l k m) (.slice F x.length G) t (fH x t)) ?hop ?htail
   case hop=>
    refine oC (fun a y h=>by have e7:a.eval (.tmp 7)=(.pointer (some ⟨w.heap.size+1,0,none⟩):Value):=h.old 7;exact iQ (.pointer (some ⟨w.heap.size+1,1,none⟩))) ?_;refine oC (fun a y h=>by have aS:a.eval (.tmp 18)=(.pointer (some ⟨w.heap.size+1,1,none⟩):Value):=h.of 18;have cF:=aB h.z ar;exact iQ (.slice l k m)) ?_;refine oC (fun a y h=>by have e9:a.eval (.tmp 9)=(.pointer (some ⟨TB,0,none⟩):Value):=h.old 9;have c0:=aB h.z t0;have c1:=aB h.z t1;exact iQ (jG t)) ?_;refine oC (fun a y h=>by have e2:a.eval (.tmp 2)=(.slice F x.length G:Value):=h.old 2;exact iQ (.slice F x.length G)) ?_;refine oC (fun a y h=>?_) ?_
    ·have aT:a.eval (.tmp 20)=(jG t:Value):=h.of 20;have b0:a.eval (.tmp 21)=(.slice F x.length G:Value):=h.of 21;refine fI (f:=216) (args:=#[jG t, .slice F x.length G]) (bI rfl) ?_ ?_
     ·have ec:=kZ a;have ef:=AO a;generalize a.eval=ev at *;clear h;go_simp
     refine Calls.mono (Vj t x _ y (bC ao.o h.z) an.o) ?_;rintro _ y2 ⟨rfl,aJ⟩;exact⟨_,rfl,fun t ht=>by cases ht;exact rfl,aJ⟩
    refine oC (fun a y h=>by have b1:a.eval (.tmp 22)=(.int .i64 (fH x t):Value):=h.of 22;refine dG (v:=.slice (some ⟨y.heap.size,0,none⟩) 1 1) (w':=y.alloc (.cells #[.int .i64 (fH x t)] 3)) (bI rfl) ?_ (fun t ht=>by cases ht;exact⟨_,rfl,bA y _⟩) ((aG _ _).alloc (aH _) _);have ec:=kZ a;generalize a.eval=ev at *;clear h;go_simp) ?_;exact OI.nil
   case htail=>
    rintro⟨j,s⟩ y r;have a9:Act.eval ⟨j,s⟩ (.tmp 19)=(.slice l k m):=r.all 1 _ 19 dE rfl rfl;obtain⟨R,aa,ab⟩:∃R,Act.eval ⟨j,s⟩ (.tmp 23)=.slice (some ⟨R,0,none⟩) 1 1/\y.heap[R]?=some (.cells #[.int .i64 (fH x t)] 3):=r.all 5 _ 23 dE rfl rfl;have e7:Act.eval ⟨j,s⟩ (.tmp 7)=.pointer (some ⟨w.heap.size+1,0,none⟩):=r.still 7 dE;have a7:=bO al.o r.z;have T:=(r.z.block _ (aK.mp a1.o).1).trans a1.o;have a6:Below w.heap.size w y:=a0.o.trans (r.z.mono a0.o.size);have ai:w.heap.size+2<=y.heap.size:=(aK.mp T).1;show wpOps Tryz.prog _ _ [6,7,8] _ _;rw[lH];refine KT rfl (bI rfl) (FZ y (.tmp 19) (.tmp 23) 22 rfl (w.heap.size+2) 3 i0 _ 1 8 Tryz.underlying22 hi aN aO aR rfl dE (.slice l k m) k ((dO (ts.take k) x).map (Value.int .i64)) a9 a7 ⟨R,0,none⟩ 1 1 (#[.int .i64 (fH x t)]:Array Value).toList aa rfl (JG ab) ?h1 ?h63 ?hby ai ?_);(case h1=>intro u hu;simp only[List.mem_cons,List.not_mem_nil,or_false]at hu;subst hu;rfl);(case h63=>unfold maxLen;omega);(case hby=>omega);intro v9 C Y W _;obtain⟨c,d,rfl⟩:=bR Y;have Z:∀I,((.slice l k m):Value).ownBlock=some I->w.heap.size+2<=I:=fun I X=>(a7.lt I X).1;have S:C.heap[w.heap.size+1]?=some (.cells #[.int .i64 q, .slice l k m] 72):=(W.block (w.heap.size+1) (aK.mp T).1 (fun e=>by have :=Z (w.heap.size+1) e.symm;omega)).trans T;have ac:Below w.heap.size w C:=a6.grown W a6.size (fun I X=>by have :=Z I X;omega);rw[lH];refine xF (v:=.pointer (some ⟨w.heap.size+1,1,none⟩)) (w':=C) rfl (bI rfl) ?_ ?_
    ·have b2:Act.eval (Act.put ⟨j,s⟩ (some 24) (.slice c (k+1) d)) (.tmp 7)=.pointer (some ⟨w.heap.size+1,0,none⟩):=(jM (a:=⟨j,s⟩) (t:=24) (u:=7) dE).trans e7;show Sem.run Tryz.prog (execOp (Act.eval (Act.put ⟨j,s⟩ (some 24) (.slice c (k+1) d))) _) C=_;generalize Act.eval (Act.put ⟨j,s⟩ (some 24) (.slice c (k+1) d))=ev at *;clear r;go_simp
    have ag:j.size=28:=r.size;have az:Act.eval (Act.put (Act.put ⟨j,s⟩ (some 24) (.slice c (k+1) d)) (some 25) (.pointer (some ⟨w.heap.size+1,1,none⟩))) (.tmp 25)=.pointer (some ⟨w.heap.size+1,1,none⟩):=jV (by rw[zX];show 25<j.size;omega);have ay:Act.eval (Act.put (Act.put ⟨j,s⟩ (some 24) (.slice c (k+1) d)) (some 25) (.pointer (some ⟨w.heap.size+1,1,none⟩))) (.tmp 24)=(.slice c (k+1) d):=(jM dE).trans (jV (by show 24<j.size;omega));(have aw:C.cell? ⟨w.heap.size+1,1,none⟩=some (.slice l k m):=cH S);have aC:=bM S 1;rw[lH];refine LG rfl (bI rfl) rfl (w':=C.setCell ⟨w.heap.size+1,1,none⟩ (.slice c (k+1) d)) ?_ ?_
    ·show Sem.run Tryz.prog (execOp (Act.eval (Act.put (Act.put ⟨j,s⟩ (some 24) (.slice c (k+1) d)) (some 25) (.pointer (some ⟨w.heap.size+1,1,none⟩)))) _) C=_;generalize Act.eval (Act.put (Act.put ⟨j,s⟩ (some 24) (.slice c (k+1) d)) (some 25) (.pointer (some ⟨w.heap.size+1,1,none⟩)))=ev at *;clear r;go_simp
    (have aD:(C.setCell ⟨w.heap.size+1,1,none⟩ (.slice c (k+1) d)).heap[w.heap.size+1]?=some (.cells #[.int .i64 q,(.slice c (k+1) d)] 72):=by rw[bD S];rfl);(have ae:(C.setCell ⟨w.heap.size+1,1,none⟩ (.slice c (k+1) d)).ownsRow (w.heap.size+2) 3 1 (.slice c (k+1) d) (k+1) ((dO (ts.take k) x).map (Value.int .i64)++(#[.int .i64 (fH x t)]:Array Value).toList):=by refine oF Y (fun g hg=>eC (fun e=>?_));have :=(Y.lt g hg).1;omega);(have aL:Below w.heap.size w (C.setCell ⟨w.heap.size+1,1,none⟩ (.slice c (k+1) d)):=ac.setCell (p:=⟨w.heap.size+1,1,none⟩) (by show w.heap.size<=w.heap.size+1;omega) _;have aq:(C.setCell ⟨w.heap.size+1,1,none⟩ (.slice c (k+1) d)).heap[w.heap.size]?=some (.cells #[.int .i64 0, .slice none 0 0] 72):=(eC oM).trans ((W.block (w.heap.size) oM (fun e=>by have :=Z _ e.symm;omega)).trans ((r.z.block _ (cV a8.o)).trans a8.o));have ah:∀t,t∉[18,19,20,21,22,23,24,25]->((j.setIfInBounds 24 (.slice c (k+1) d)).setIfInBounds 25 (.pointer (some ⟨w.heap.size+1,1,none⟩))).getD t undef=_:=fun t ht=>by have hA:t≠24:=fun e=>ht (by rw[e];decide);have hB:t≠25:=fun e=>ht (by rw[e];decide);exact((jM (a:=Act.put ⟨j,s⟩ (some 24) (.slice c (k+1) d)) hB).trans (jM (a:=⟨j,s⟩) hA)).trans (r.still t ht));obtain rfl:s=[]:=r.defers;clear r a9 aa ab e7 a7 T a6 ai Y W Z S ac az ay aw aC;generalize C.setCell ⟨w.heap.size+1,1,none⟩ (.slice c (k+1) d)=y9 at *;(have af:((j.setIfInBounds 24 (.slice c (k+1) d)).setIfInBounds 25 (.pointer (some ⟨w.heap.size+1,1,none⟩))).size=28:=by simp[ag]);show Exit.inBlock 1 (Exit.then _ _) Exit.normal ⟨(j.setIfInBounds 24 (.slice c (k+1) d)).setIfInBounds 25 (.pointer (some ⟨w.heap.size+1,1,none⟩)),[]⟩ y9;generalize (j.setIfInBounds 24 (.slice c (k+1) d)).setIfInBounds 25 (.pointer (some ⟨w.heap.size+1,1,none⟩))=tm at *;obtain⟨fQ,hQ,a3⟩:=oR [18,19,20,21,22,23,24,25] tm _ (af.trans rF) ah;clear af ah ag;simp only[List.foldl_cons,List.foldl_nil]at a3;clear hQ;simp only[List.setIfInBounds_toArray,List.set_cons_zero,List.set_cons_succ]at a3;subst a3;(have ak:O (y9.ownsRow (w.heap.size+2) 3 1 (.slice c (k+1) d) (k+1) ((dO (ts.take (k+1)) x).map (Value.int .i64))):=by rw[a2.o,dC];exact ae);clear ae;go_wp2_with fail;go_roundw;(case rel=>exact⟨k+1,H,gN,_,aq,aD,ak.o,aL⟩);case measure=>exact mI
  have b3:decide (k<ts.length)=false:=aF H;(have a2:O (dO (ts.take k) x=dO ts x):=by show _=_;rw[dM oM]);(have ad:(dO (ts.take k) x).length=k:=by unfold dO;rw[aY,dV];omega);(have g0:wr.cell? ⟨w.heap.size+1,0,none⟩=some (.int .i64 q):=cH J.o);(have g1:wr.cell? ⟨w.heap.size+1,1,none⟩=some (.slice l k m):=cH J.o);(have z0:wr.cell? ⟨w.heap.size,0,none⟩=some (.int .i64 0):=cH E.o);(have z1:wr.cell? ⟨w.heap.size,1,none⟩=some (.slice none 0 0):=cH E.o);have y0:=bM E.o 0;have y1:=bM E.o 1;(have U:(wr.setCell ⟨w.heap.size,0,none⟩ (.int .i64 q)).heap[w.heap.size]?=some (.cells #[.int .i64 q, .slice none 0 0] 72):=by rw[bD E.o];rfl);(have z2:(wr.setCell ⟨w.heap.size,0,none⟩ (.int .i64 q)).cell? ⟨w.heap.size,1,none⟩=some (.slice none 0 0):=cH U);have y2:=bM U 1;(have a4:((wr.setCell ⟨w.heap.size,0,none⟩ (.int .i64 q)).setCell ⟨w.heap.size,1,none⟩ (.slice l k m)).heap[w.heap.size]?=some (.cells #[.int .i64 q, .slice l k m] 72):=by rw[bD U];rfl);(have d0:((wr.setCell ⟨w.heap.size,0,none⟩ (.int .i64 q)).setCell ⟨w.heap.size,1,none⟩ (.slice l k m)).cell? ⟨w.heap.size,0,none⟩=some (.int .i64 q):=cH a4);(have d1:((wr.setCell ⟨w.heap.size,0,none⟩ (.int .i64 q)).setCell ⟨w.heap.size,1,none⟩ (.slice l k m)).cell? ⟨w.heap.size,1,none⟩=some (.slice l k m):=cH a4);(have HR:O (aO0 ((wr.setCell ⟨w.heap.size,0,none⟩ (.int .i64 q)).setCell ⟨w.heap.size,1,none⟩ (.slice l k m)) w.heap.size (.slice l k m) (dO ts x)):=by rw[<-a2.o];show World.ownsRow _ _ _ _ _ (dO (ts.take k) x).length _;rw[ad];refine gP ?_ (Sy _ 2);refine oF Q.o (fun g hg=>?_);have :=(World.ownsRow.lt Q.o g hg).1;rw[eC oM,eC oM]);have aj:O (Below w.heap.size w ((wr.setCell ⟨w.heap.size,0,none⟩ (.int .i64 q)).setCell ⟨w.heap.size,1,none⟩ (.slice l k m))):=(D.o.setCell (aH _) _).setCell (aH _) _;clear U a4 ad;go_wp2_with fail;refine dP (v:=.agg #[.int .i64 q, .slice l k m]) (by simp[results,Tryz.results194,go_sem,d0,d1]) rfl ⟨_,rfl,HR.o,aj.o⟩
theorem aRX(X:Nat)(y:cB)(t:eE)(w:World)(f:mP w X y)(i:lI 8 y)(ht:vA 8 t):
 Calls Tryz.prog 278 #[jG t, .pointer (some ⟨X,0,none⟩)] w fun e p=>e=.returned (.bool (!cY y.q t))/\Below w.heap.size w p:=by
 have b:=(aG w.heap.size w).alloc (aH _) (.cells #[.int .i64 t.var, .int .i64 t.n] 107);have k:O (mP (w.alloc (.cells #[.int .i64 t.var, .int .i64 t.n] 107)) X y):=f.z b;have d:O _:=b;have c:=bA w (.cells #[.int .i64 t.var, .int .i64 t.n] 107);(have l:(w.alloc (.cells #[.int .i64 t.var, .int .i64 t.n] 107)).cell? ⟨w.heap.size,0,none⟩=some (.int .i64 t.var):=cH c);(have m:(w.alloc (.cells #[.int .i64 t.var, .int .i64 t.n] 107)).cell? ⟨w.heap.size,1,none⟩=some (.int .i64 t.n):=cH c);clear f b c
 go_enter Tryz.func278,Tryz.ntmps278
 go_upto_region 1 with fail;generalize w.alloc (.cells #[.int .i64 t.var, .int .i64 t.n] 107)=r at *;go_wp2_with(refine pK (bI rfl) _ rfl _ rfl y k.o i ?_);refine Calls.mono (PZ y t r i ht) ?_;rintro _ s ⟨rfl,g⟩;have j:O _:=d.o.trans (g.mono d.o.size);clear l m g;go_wp2_with fail;go_ret;exact⟨rfl,j.o⟩
theorem aNN(l:List eE)(k:Nat)(b:k<l.length):l.drop k=cQ l k::l.drop (k+1):=by rw[dA b];simp[cQ,List.getD_eq_getElem?_getD,b]
theorem aRA(l:List eE)(v:Value)(X:Nat)(y:cB)(w:World)(G:iX w v l)(Q:l.length<=1000000)(s:mP w X y)(I:lI 8 y)(p:kV 8 l):
 Calls Tryz.prog 283 #[v, .func (.func 278) #[] #[.pointer (some ⟨X,0,none⟩)]] w fun e L=>∃r:Int,e=.returned (.int .i64 r)/\decide (0<=r)=(!l.all (cY y.q))/\Below w.heap.size w L:=by
 obtain⟨M,cap,rfl,_,n⟩:=G;have C:O _:=n;have F:O (mP w X y):=s;have D:O _:=p;have N:∀args w,(callFunc 278 args).run Tryz.prog w=.ok (.enter 278 args) w:=oQ Tryz.func278 kR rfl;clear n s p
 go_enter Tryz.func283,Tryz.ntmps283
 go_wp2_with fail;go_loopw [8] (fun i wr=>∃k:Nat,k<=l.length/\i=.int .i64 k/\O (l.all (cY y.q)=(l.drop k).all (cY y.q))/\O (Below w.heap.size w wr)) (fun i _=>l.length-(intOf i).toNat);case atStart=>exact⟨0,bL _,rfl,rfl,aG _ _⟩
 case round=>
  obtain⟨k,P,rfl,j,c⟩:=hrel;by_cases g:k<l.length
  ·obtain⟨b,R,rfl,d⟩:=uC C.o k g;have d:=d k g;have J:=aB c.o d.1;have K:=aB c.o d.2;(have f:O (l.all (cY y.q)=(cY y.q (cQ l k)&&(l.drop (k+1)).all (cY y.q))):=by show _=_;rw[j.o,aNN l k g,FX]);have E:O _:=D.o _ (pD g);clear d j;generalize cQ l k=t at *;go_wp2_with fail;refine Calls.mono (aRX X y t wr (F.o.z c.o) I E.o) ?_;rintro e S ⟨H,u⟩;subst H;have m:O _:=c.o.trans (u.mono c.o.size);clear u J K;cases x:cY y.q t
   ·(have HV:O (l.all (cY y.q)=false):=by show _=_;rw[f.o,x];rfl);clear f;go_wp2_with fail;go_ret;exact⟨k,rfl,by rw[HV.o];simp,m.o⟩
   (have HV:O (l.all (cY y.q)=(l.drop (k+1)).all (cY y.q)):=by show _=_;rw[f.o,x];rfl);clear f;go_wp2_with fail;go_roundw;(case rel=>exact⟨k+1,oM,gN,HV.o,m.o⟩);case measure=>exact mI
  (have HV:O (l.all (cY y.q)=true):=by show _=_;rw[j.o,bG oM];rfl);go_wp2_with fail;go_ret;exact⟨-1,rfl,rV,c.o⟩
theorem aCO(l:List eE)(v:Value)(X:Nat)(y:cB)(w:World)(c:iX w v l)(i:l.length<=1000000)(d:mP w X y)(k:lI 8 y)(b:kV 8 l):
 Calls Tryz.prog 277 #[v, .func (.func 278) #[] #[.pointer (some ⟨X,0,none⟩)]] w fun e m=>e=.returned (.bool (!l.all (cY y.q)))/\Below w.heap.size w m:=by
 have f:O _:=aRA l v X y w c i d k b;obtain⟨n,cap,rfl,_,_⟩:=c;clear d b
 go_enter Tryz.func277,Tryz.ntmps277
 go_wp2_with fail;refine Calls.mono f.o ?_;rintro e p ⟨r,rfl,j,g⟩;go_wp2_with fail;go_ret;exact⟨by rw[<-j];rfl,g⟩
def aMV(y:cB)(X b off d:Nat)(e c:eE):Nat->Value
 |11=>fY y
 |12=>.pointer (some ⟨X,3,none⟩)
 |13=>.slice (some ⟨b,off,none⟩) 3 d
 |14=>.pointer (some ⟨b,off,none⟩)
 |15=>jG e
 |16=>.bool true
 |17=>.bool true
 |18=>fY y
 |19=>.pointer (some ⟨X,3,none⟩)
 |20=>.slice (some ⟨b,off,none⟩) 3 d
 |21=>.pointer (some ⟨b,off+2,none⟩)
 |22=>jG c
 |23=>.bool (cY y.q c)
 |24=>.bool (cY y.q c)
 |4=>.bool (cY y.q c)
 |_=>.bool false
def aMU(y:cB)(X b off c:Nat)(d:eE):Nat->Value
 |11=>fY y
 |12=>.pointer (some ⟨X,3,none⟩)
 |13=>.slice (some ⟨b,off,none⟩) 3 c
 |14=>.pointer (some ⟨b,off,none⟩)
 |15=>jG d
 |16=>.bool false
 |17=>.bool false
 |18=>undef
 |19=>undef
 |20=>undef
 |21=>undef
 |22=>undef
 |23=>undef
 |24=>.bool false
 |4=>.bool false
 |_=>.bool false
theorem aXK(l:cX)(vt:Value)(y:cB)(w:World)(V:iX w vt l.v)(E:lI 8 y)(hI:kV 8 l.v)(r:l.kind=4->l.v.length=3)(hl:l.v.length<=1000000):
 Calls Tryz.prog 262 #[sH l vt,fY y] w fun e w'=>e=.returned (.bool (iT y l))/\Below w.heap.size w w':=by
 have al:∀(fn:Fn)(first cap:Array Value)(w:World),(Instr.makeFunc fn first cap).run Tryz.prog w=.ok (.func fn first cap) w:=fun _ _ _ _=>rfl;have HT:O _:=V;obtain⟨at_,i,rfl,_⟩:=id V;obtain⟨g,k,m,d⟩:=l;dsimp only at *;obtain⟨h0,h1,Z⟩:=PE w (.cells #[.int .i64 g, .int .i64 k, .int .i64 m, .slice at_ d.length i] 109) (.cells (eY y) 277);have I:O _:=h0;have U:O (mP ((w.alloc (.cells #[.int .i64 g, .int .i64 k, .int .i64 m, .slice at_ d.length i] 109)).alloc (.cells (eY y) 277)) (w.heap.size+1) y):=h1;have x:O _:=Z;have S:O _:=hI;have X:O _:=fV V Z;clear h0 h1 Z V hI;by_cases u:g=1
 ·(have HV:O (iT y ⟨g,k,m,d⟩=true):=by show _=_;unfold iT;rw[if_pos u]);(have g1:(g==1)=true:=by simpa using u);clear r u;have Y:((w.alloc (.cells #[.int .i64 g, .int .i64 k, .int .i64 m, .slice at_ d.length i] 109)).alloc (.cells (eY y) 277)).cell? ⟨w.heap.size,0,none⟩=some (.int .i64 g):=cH I.o
  go_enter Tryz.func262,Tryz.ntmps262
  go_wp2_with fail;go_ret;exact⟨rV,x.o⟩
 (have g1:(g==1)=false:=by simpa using u);by_cases D:g=4
 ·(have g4:(g==4)=true:=by simpa using D);have h3:=r D;(have W:iT y ⟨g,k,m,d⟩=(cY y.q (cQ d 0)&&cY y.q (cQ d 1)):=by unfold iT;rw[if_neg u,if_pos D]);obtain⟨b,j,rfl,hc⟩:=uC (by obtain⟨_,_,e,_,hA⟩:=X.o;injection e with e _ _;subst e;exact hA) 0 oM;have ae:=hc 0 oM;have af:=hc 1 oM;have a2:O (vA 8 (cQ d 0)):=S.o _ (pD oM);have a4:O (vA 8 (cQ d 1)):=S.o _ (pD oM);obtain⟨p0,p1⟩:=ae;obtain⟨p2,p3⟩:=af;clear hc r u D;(have Y:((w.alloc (.cells #[.int .i64 g, .int .i64 k, .int .i64 m, .slice (some ⟨b,j,none⟩) d.length i] 109)).alloc (.cells (eY y) 277)).cell? ⟨w.heap.size,0,none⟩=some (.int .i64 g):=cH I.o);(have K:((w.alloc (.cells #[.int .i64 g, .int .i64 k, .int .i64 m, .slice (some ⟨b,j,none⟩) d.length i] 109)).alloc (.cells (eY y) 277)).cell? ⟨w.heap.size,3,none⟩=some (.slice (some ⟨b,j,none⟩) d.length i):=cH I.o);generalize cQ d 0=n at *;generalize cQ d 1=p at *;clear HT X I S;rw[BR,BQ]at p0 p1;rw[Nat.one_mul]at p2 p3;generalize d.length=nl at *;subst h3
  go_enter Tryz.func262,Tryz.ntmps262
  go_upto_region 5 with fail;generalize (w.alloc (.cells #[.int .i64 g, .int .i64 k, .int .i64 m, .slice (some ⟨b,j,none⟩) 3 i] 109)).alloc (.cells (eY y) 277)=w1 at *;cases J:cY y.q n
  ·have HK:O _:=J;(have HV:O (iT y ⟨g,k,m,d⟩=false):=by show _=_;rw[W,J];rfl);clear J W;refine kB (fun F H _=>H=aMU y w.heap.size b j i n F) kR kR (fun _ _ _ _ _ h=>h) ?hop ?hend
   case hop=>
    refine oC (fun a c h=>by have M:a.eval (.tmp 3)=(.pointer (some ⟨w.heap.size+1,0,none⟩):Value):=h.old 3;refine ZW (v:=fY y) ?_;exact vK rfl M (U.o.z h.z) E) ?_;refine oC (fun a c h=>by have e2:a.eval (.tmp 2)=(.pointer (some ⟨w.heap.size,0,none⟩):Value):=h.old 2;exact iQ (.pointer (some ⟨w.heap.size,3,none⟩))) ?_;refine oC (fun a c h=>by have a6:a.eval (.tmp 12)=(.pointer (some ⟨w.heap.size,3,none⟩):Value):=h.of 12;have c3:=aB h.z K;exact iQ (.slice (some ⟨b,j,none⟩) 3 i)) ?_;refine oC (fun a c h=>by have a7:a.eval (.tmp 13)=(.slice (some ⟨b,j,none⟩) 3 i:Value):=h.of 13;exact iQ (.pointer (some ⟨b,j,none⟩))) ?_;refine oC (fun a c h=>by have a8:a.eval (.tmp 14)=(.pointer (some ⟨b,j,none⟩):Value):=h.of 14;have c0:=aB h.z p0;have c1:=aB h.z p1;exact iQ (jG n)) ?_;refine oC (fun a c h=>?_) ?_
    ·have a5:a.eval (.tmp 11)=(fY y:Value):=h.of 11;have a9:a.eval (.tmp 15)=(jG n:Value):=h.of 15;refine fI (f:=276) (args:=#[fY y,jG n]) (bI rfl) ?_ ?_
     ·have ec:=kZ a;have ef:=AO a;generalize a.eval=ev at *;clear h;go_simp
     refine Calls.mono (PZ y n c E a2.o) ?_;rintro _ y2 ⟨rfl,s⟩;exact⟨_,rfl,fun t ht=>by cases ht;exact congrArg Value.bool HK.o,s⟩
    refine oC (fun a c h=>by have aa:a.eval (.tmp 16)=(.bool false:Value):=h.of 16;exact iQ (.bool false)) ?_;refine oC (fun a c h=>by exact opS (h.of 17)) ?_;refine oC (fun a c h=>by exact opS (h.of 17)) ?_;refine oC (fun a c h=>by exact opS (h.of 17)) ?_;refine oC (fun a c h=>by exact opS (h.of 17)) ?_;refine oC (fun a c h=>by exact opS (h.of 17)) ?_;refine oC (fun a c h=>by exact opS (h.of 17)) ?_;refine oC (fun a c h=>by have ab:a.eval (.tmp 17)=(.bool false:Value):=h.of 17;have ac:a.eval (.tmp 23)=(undef:Value):=h.of 23;exact iQ (.bool false)) ?_;refine oC (fun a c h=>by have ad:a.eval (.tmp 24)=(.bool false:Value):=h.of 24;exact iQ (.bool false)) ?_;exact OI.nil
   case hend=>rintro⟨G,L⟩ wE a0 a1 Q R P;have r:G.getD 4 undef=.bool false:=tW (T:=fun F H _=>H=aMU y w.heap.size b j i n F) (w:=wE) (a:=⟨G,L⟩) (t:=4) P kR;obtain rfl:L=[]:=a1;obtain⟨fQ,N,C⟩:=oR [11,12,13,14,15,16,17,18,19,20,21,22,23,24,4] G _ Q R;clear Q R P;simp only[List.foldl_cons,List.foldl_nil,(N 4).trans r]at C;clear r N;simp only[List.setIfInBounds_toArray,List.set_cons_zero,List.set_cons_succ]at C;subst C;go_wp2_with fail;go_ret;exact⟨rV,x.o.trans (a0.mono x.o.size)⟩
  have HK:O _:=J;(have HV:O (iT y ⟨g,k,m,d⟩=cY y.q p):=by show _=_;rw[W,J];rfl);clear J W;refine kB (fun F H _=>H=aMV y w.heap.size b j i n p F) kR kR (fun _ _ _ _ _ h=>h) ?hop ?hend
  case hop=>
   refine oC (fun a c h=>by have M:a.eval (.tmp 3)=(.pointer (some ⟨w.heap.size+1,0,none⟩):Value):=h.old 3;refine ZW (v:=fY y) ?_;exact vK rfl M (U.o.z h.z) E) ?_;refine oC (fun a c h=>by have e2:a.eval (.tmp 2)=(.pointer (some ⟨w.heap.size,0,none⟩):Value):=h.old 2;exact iQ (.pointer (some ⟨w.heap.size,3,none⟩))) ?_;refine oC (fun a c h=>by have a6:a.eval (.tmp 12)=(.pointer (some ⟨w.heap.size,3,none⟩):Value):=h.of 12;have c3:=aB h.z K;exact iQ (.slice (some ⟨b,j,none⟩) 3 i)) ?_;refine oC (fun a c h=>by have a7:a.eval (.tmp 13)=(.slice (some ⟨b,j,none⟩) 3 i:Value):=h.of 13;exact iQ (.pointer (some ⟨b,j,none⟩))) ?_;refine oC (fun a c h=>by have a8:a.eval (.tmp 14)=(.pointer (some ⟨b,j,none⟩):Value):=h.of 14;have c0:=aB h.z p0;have c1:=aB h.z p1;exact iQ (jG n)) ?_;refine oC (fun a c h=>?_) ?_
   ·have a5:a.eval (.tmp 11)=(fY y:Value):=h.of 11;have a9:a.eval (.tmp 15)=(jG n:Value):=h.of 15;refine fI (f:=276) (args:=#[fY y,jG n]) (bI rfl) ?_ ?_
    ·have ec:=kZ a;have ef:=AO a;generalize a.eval=ev at *;clear h;go_simp
    refine Calls.mono (PZ y n c E a2.o) ?_;rintro _ y2 ⟨rfl,s⟩;exact⟨_,rfl,fun t ht=>by cases ht;exact congrArg Value.bool HK.o,s⟩
   refine oC (fun a c h=>by have aa:a.eval (.tmp 16)=(.bool true:Value):=h.of 16;exact iQ (.bool true)) ?_;refine oC (fun a c h=>by have M:a.eval (.tmp 3)=(.pointer (some ⟨w.heap.size+1,0,none⟩):Value):=h.old 3;refine dG (v:=fY y) (w':=c) (wG (h.of 17)) ?_ tR (aG _ _);exact vK rfl M (U.o.z h.z) E) ?_;refine oC (fun a c h=>by have e2:a.eval (.tmp 2)=(.pointer (some ⟨w.heap.size,0,none⟩):Value):=h.old 2;refine dG (v:=.pointer (some ⟨w.heap.size,3,none⟩)) (w':=c) (wG (h.of 17)) ?_ tR (aG _ _);have ec:=kZ a;generalize a.eval=ev at *;clear h;go_simp) ?_;refine oC (fun a c h=>by have ah:a.eval (.tmp 19)=(.pointer (some ⟨w.heap.size,3,none⟩):Value):=h.of 19;have c3:=aB h.z K;refine dG (v:=.slice (some ⟨b,j,none⟩) 3 i) (w':=c) (wG (h.of 17)) ?_ tR (aG _ _);have ec:=kZ a;generalize a.eval=ev at *;clear h;go_simp) ?_;refine oC (fun a c h=>by have ai:a.eval (.tmp 20)=(.slice (some ⟨b,j,none⟩) 3 i:Value):=h.of 20;refine dG (v:=.pointer (some ⟨b,j+2,none⟩)) (w':=c) (wG (h.of 17)) ?_ tR (aG _ _);have ec:=kZ a;generalize a.eval=ev at *;clear h;go_simp) ?_;refine oC (fun a c h=>by have aj:a.eval (.tmp 21)=(.pointer (some ⟨b,j+2,none⟩):Value):=h.of 21;have c0:=aB h.z p2;have c1:=aB h.z p3;refine dG (v:=jG p) (w':=c) (wG (h.of 17)) ?_ tR (aG _ _);have ec:=kZ a;generalize a.eval=ev at *;clear h;go_simp) ?_;refine oC (fun a c h=>?_) ?_
   ·have ag:a.eval (.tmp 18)=(fY y:Value):=h.of 18;have ak:a.eval (.tmp 22)=(jG p:Value):=h.of 22;refine fI (f:=276) (args:=#[fY y,jG p]) (wG (h.of 17)) ?_ ?_
    ·have ec:=kZ a;have ef:=AO a;generalize a.eval=ev at *;clear h;go_simp
    refine Calls.mono (PZ y p c E a4.o) ?_;rintro _ y2 ⟨rfl,s⟩;exact⟨_,rfl,fun t ht=>by cases ht;exact rfl,s⟩
   refine oC (fun a c h=>by have ab:a.eval (.tmp 17)=(.bool true:Value):=h.of 17;have ac:a.eval (.tmp 23)=(.bool (cY y.q p):Value):=h.of 23;exact iQ (.bool (cY y.q p))) ?_;refine oC (fun a c h=>by have ad:a.eval (.tmp 24)=(.bool (cY y.q p):Value):=h.of 24;exact iQ (.bool (cY y.q p))) ?_;exact OI.nil
  case hend=>rintro⟨G,L⟩ wE a0 a1 Q R P;have r:G.getD 4 undef=.bool (cY y.q p):=tW (T:=fun F H _=>H=aMV y w.heap.size b j i n p F) (w:=wE) (a:=⟨G,L⟩) (t:=4) P kR;obtain rfl:L=[]:=a1;obtain⟨fQ,N,C⟩:=oR [11,12,13,14,15,16,17,18,19,20,21,22,23,24,4] G _ Q R;clear Q R P;simp only[List.foldl_cons,List.foldl_nil,(N 4).trans r]at C;clear r N;simp only[List.setIfInBounds_toArray,List.set_cons_zero,List.set_cons_succ]at C;subst C;go_wp2_with fail;go_ret;exact⟨rV,x.o.trans (a0.mono x.o.size)⟩
 (have g4:(g==4)=false:=by simpa using D);(have HV:O (iT y ⟨g,k,m,d⟩=d.all (cY y.q)):=by show _=_;unfold iT;rw[if_neg u,if_neg D]);(have Y:((w.alloc (.cells #[.int .i64 g, .int .i64 k, .int .i64 m, .slice at_ d.length i] 109)).alloc (.cells (eY y) 277)).cell? ⟨w.heap.size,0,none⟩=some (.int .i64 g):=cH I.o);(have K:((w.alloc (.cells #[.int .i64 g, .int .i64 k, .int .i64 m, .slice at_ d.length i] 109)).alloc (.cells (eY y) 277)).cell? ⟨w.heap.size,3,none⟩=some (.slice at_ d.length i):=cH I.o);clear u D r
 go_enter Tryz.func262,Tryz.ntmps262
 go_upto_region 6 with fail;generalize (w.alloc (.cells #[.int .i64 g, .int .i64 k, .int .i64 m, .slice at_ d.length i] 109)).alloc (.cells (eY y) 277)=w1 at *;go_wp2_with fail;refine Calls.mono (aCO d _ (w.heap.size+1) y w1 X.o hl U.o E S.o) ?_;rintro _ w2 ⟨rfl,s⟩;have a3:O _:=x.o.trans (s.mono x.o.size);clear s Y K;go_wp2_with fail;go_ret;exact⟨by rw[HV.o];simp,a3.o⟩
theorem mP.setKn{w:World}{b:Nat}{y:cB}(h:mP w b y)(d:lI 8 y)(i:Nat):mP (w.setCell ⟨b,8+i,none⟩ (.bool true)) b ⟨y.j,y.q.set i true⟩:=by
 unfold mP at h ⊢;rw[bD h]
 congr 2
 unfold eY;(have c:(y.j.map (Value.int .i64)).length=8:=by rw[aY,d.n]);rw[Ah,List.set_append_right _ _ oM,c,yG,yB]
theorem mP.setNum{w:World}{b:Nat}{y:cB}(h:mP w b y)(c:lI 8 y){i:Nat}(e:i<8)(n:Int):mP (w.setCell ⟨b,i,none⟩ (.int .i64 n)) b ⟨y.j.set i n,y.q⟩:=by
 unfold mP at h ⊢;rw[bD h]
 congr 2
 unfold eY;(have d:(y.j.map (Value.int .i64)).length=8:=by rw[aY,c.n]);rw[Ah,List.set_append_left _ _ oM,yB]
def uR(y:cB)(ts:List eE)(ns:List Int):cB:=(iB y ts ns).getD yM
theorem aGX{y:cB}{t:eE}{n:Int}(b:cY y.q t=true)(h:fH y.j t=n):mL y t n=some y:=by unfold mL;rw[if_pos b,if_pos h]
theorem aKJ{y:cB}{t:eE}{n:Int}(b:cY y.q t=true)(h:¬fH y.j t=n):mL y t n=none:=by unfold mL;rw[if_pos b,if_neg h]
theorem aGW{y:cB}{t:eE}{n:Int}(b:cY y.q t=false):mL y t n=some ⟨y.j.set t.var.toNat n,y.q.set t.var.toNat true⟩:=by unfold mL;rw[if_neg (by rw[b];decide)]
theorem ZK(y:cB)(ts:List eE)(ns:List Int)(k:Nat)(h:k<ts.length):iB y (ts.drop k) (ns.drop k)=match mL y (cQ ts k) (cI ns k)with |none=>none|some f=>iB f (ts.drop (k+1)) (ns.drop (k+1)):=by rw[dA h];(have b:cQ ts k=ts[k]:=by unfold cQ;rw[aI,aM h];rfl);(have c:(ns.drop k).headD 0=cI ns k:=by unfold cI;rw[List.headD_eq_head?_getD,List.head?_drop,aI]);(have d:(ns.drop k).tail=ns.drop (k+1):=by rw[List.tail_drop]);show(match mL y ts[k] ((ns.drop k).headD 0)with |none=>none|some e=>iB e (ts.drop (k+1)) (ns.drop k).tail)=_;rw[b,c,d]
theorem aGY(y:cB)(ts:List eE)(ns:List Int):iB y (ts.drop ts.length) ns=some y:=by rw[List.drop_length];rfl
structure WIn (w wr:World) (y:cB):Prop where
 box:mP wr w.heap.size y
 res:mP wr (w.heap.size+1) yM
 d:Below w.heap.size w wr
 wf:lI 8 y
theorem WIn.z{w wr c:World}{y:cB}(h:WIn w wr y)(b:Below wr.heap.size wr c):WIn w c y:=
 ⟨h.box.z b,h.res.z b,h.d.trans (b.mono h.d.size),h.wf⟩
theorem WIn.set{w wr:World}{y:cB}(h:WIn w wr y){i:Nat}(e:i<8)(n:Int):WIn w ((wr.setCell ⟨w.heap.size,8+i,none⟩ (.bool true)).setCell ⟨w.heap.size,i,none⟩ (.int .i64 n)) ⟨y.j.set i n,y.q.set i true⟩:=by
 have b:=h.box.setKn h.wf i;have c:=mP.setNum b ⟨h.wf.n,by simpa using h.wf.k⟩ e n;refine⟨c,?_,?_,⟨by simpa using h.wf.n,by simpa using h.wf.k⟩⟩
 ·unfold mP;rw[eC oM,eC oM];exact h.res
 exact(h.d.setCell (aH _) _).setCell (aH _) _
def aI0(z:cB)(t:eE)(b on d c k:Nat)(n:Int):Nat->Value
 |33=>fY z
 |34=>.agg #[.int .i64 t.var, .int .i64 t.n]
 |35=>.int .i64 (fH z.j t)
 |36=>.slice (some ⟨b,on,none⟩) d c
 |37=>.int .i64 k
 |38=>.pointer (some ⟨b,on+k,none⟩)
 |39=>.int .i64 n
 |40=>.bool (fH z.j t != n)
 |_=>.bool false
theorem aOK(y:cB)(ts:List eE)(ns:List Int)(vt vn:Value)(w:World)(hy:lI 8 y)(hT:iX w vt ts)(hN:eT w vn ns)(hl:ts.length=ns.length)(h3:ts.length<=1000)(hI:kV 8 ts):
 Calls Tryz.prog 270 #[fY y,vt,vn] w fun e w'=>e=.returned (.tuple #[fY (uR y ts ns), .bool (iB y ts ns).isSome])/\Below w.heap.size w w':=by
 obtain⟨at_,ct,rfl,_,hT⟩:=hT;obtain⟨an,x,rfl,hN⟩:=hN;obtain⟨h0,h1,hb⟩:=PE w (.cells (eY y) 277) (.cells #[.int .i64 0, .int .i64 0, .int .i64 0, .int .i64 0, .int .i64 0, .int .i64 0, .int .i64 0, .int .i64 0, .bool false, .bool false, .bool false, .bool false, .bool false, .bool false, .bool false, .bool false] 277);have HI:O (WIn w ((w.alloc (.cells (eY y) 277)).alloc (.cells #[.int .i64 0, .int .i64 0, .int .i64 0, .int .i64 0, .int .i64 0, .int .i64 0, .int .i64 0, .int .i64 0, .bool false, .bool false, .bool false, .bool false, .bool false, .bool false, .bool false, .bool false] 277)) y):=⟨h0,h1,hb,hy⟩;have HT:O _:=hT;have HN:O _:=hN;have HL:O _:=hl;have ag:O _:=hI;clear h0 h1 hb hT hN hl hy hI
 go_enter Tryz.func270,Tryz.ntmps270
 go_wp2_with fail;generalize (w.alloc (.cells (eY y) 277)).alloc (.cells #[.int .i64 0, .int .i64 0, .int .i64 0, .int .i64 0, .int .i64 0, .int .i64 0, .int .i64 0, .int .i64 0, .bool false, .bool false, .bool false, .bool false, .bool false, .bool false, .bool false, .bool false] 277)=w1 at *;go_loopw [12] (fun a7 wr=>∃(k:Nat)(y':cB),k<=ts.length/\a7=.int .i64 k/\O (WIn w wr y')/\O (iB y ts ns=iB y' (ts.drop k) (ns.drop k))) (fun a7 _=>ts.length-(intOf a7).toNat);case atStart=>exact⟨0,y,bL _,rfl,HI.o,rfl⟩
 case round=>
  clear HI;obtain⟨k,c,hk,rfl,u,HE⟩:=hrel;by_cases D:k<ts.length
  ·obtain⟨b,ax,rfl,Y⟩:=uC HT.o k D;have Y:=Y k D;obtain⟨l,on,rfl,z0⟩:=sY HN.o k (by rw[<-HL.o];exact D);have q0:=aB u.o.d Y.1;have q1:=aB u.o.d Y.2;(have aw:k<ns.length:=by rw[<-HL.o];exact D);have HD:O _:=ZK c ts ns k D;have a2:O (vA 8 (cQ ts k)):=ag.o _ (pD D);have Z0:O _:=z0;clear Y z0;generalize cQ ts k=t at *;generalize cI ns k=n at *;go_upto_region 4 with fail;have bT:=(aG wr.heap.size wr).alloc (aH _) (.cells #[.int .i64 t.var, .int .i64 t.n] 107);have R:O _:=u.o.z bT;have Q:O _:=bA wr (.cells #[.int .i64 t.var, .int .i64 t.n] 107);clear q0 q1 bT u;generalize wr.alloc (.cells #[.int .i64 t.var, .int .i64 t.n] 107)=wq at *;generalize wr.heap.size=r at *;(have t0:wq.cell? ⟨r,0,none⟩=some (.int .i64 t.var):=cH Q.o);(have t1:wq.cell? ⟨r,1,none⟩=some (.int .i64 t.n):=cH Q.o);go_wp2_with(refine pK (bI rfl) _ rfl _ rfl c R.o.box R.o.wf ?_);clear t0 t1;refine Calls.mono (PZ c t wq R.o.wf a2.o) ?_;rintro _ L ⟨rfl,G⟩;have m:O _:=R.o.z G;have M:O _:=(G.block _ (cV Q.o)).trans Q.o;clear G R Q;cases Z:cY c.q t
   ·have HK:O _:=Z;obtain⟨h0,_⟩:=zF (w:=c) (t:=t) (by rw[Z];decide);obtain⟨v,hv⟩:∃v:Nat,t.var=v:=⟨t.var.toNat,oM⟩;(have a3:v<8:=by rcases a2.o with C|C<;>omega);obtain⟨ay,p⟩:=t;dsimp only at hv;subst hv;(have ae:¬r=w.heap.size:=fun e9=>by have C:=M.o;rw[e9,m.o.box]at C;injection C with C;injection C with au aq;exact absurd aq dE);((have t0:L.cell? ⟨r,0,none⟩=some (.int .i64 v):=cH M.o);have b0:=m.o.box.kn m.o.wf a3;have f0:=bM m.o.box (8+v);clear Z h0;go_upto_region 6 with fail;have ab:Below w.heap.size w (L.setCell ⟨w.heap.size,8+v,none⟩ (.bool true)):=m.o.d.setCell (aH _) _;have a5:=(eC (w:=L) (i:=8+v) (v:=.bool true) ae).trans M.o;have a4:=m.o.box.setKn m.o.wf v;have z4:=aB ab Z0.o;(have ar:(L.setCell ⟨w.heap.size,8+v,none⟩ (.bool true)).cell? ⟨r,0,none⟩=some (.int .i64 v):=cH a5);have b1:=a4.num ⟨m.o.wf.n,by simpa using m.o.wf.k⟩ a3;have f1:=bM a4 v;have a8:O _:=a5;have g:O _:=m.o.set a3 n;clear a5 a4 ab t0 b0 f0;go_region;have ac:=(eC (w:=L.setCell ⟨w.heap.size,8+v,none⟩ (.bool true)) (i:=v) (v:=.int .i64 n) ae).trans a8.o;have a9:O _:=ac;clear ac z4 ar b1 f1 a8 M m;generalize (L.setCell ⟨w.heap.size,8+v,none⟩ (.bool true)).setCell ⟨w.heap.size,v,none⟩ (.int .i64 n)=w3 at *;have aa:O _:=g.o.z ((aG _ _).drew);have s:O (w3.drew.heap[r]?=some (.cells #[.int .i64 v, .int .i64 p] 107)):=a9.o;clear g a9;have g:O _:=aa.o;clear aa;generalize w3.drew=w4 at *;have af:O (fH (c.j.set v n) ⟨v,p⟩=n):=by show _=_;unfold fH;rw[if_neg (show¬(v:Int)<0 by omega)];have C:=g.o.wf.n;simp only[List.length_set]at C;exact wW _ _ _ _ (by show v<c.j.length;rw[C];exact a3));(have E:O (iB y ts ns=iB ⟨c.j.set v n,c.q.set v true⟩ (ts.drop (k+1)) (ns.drop (k+1))):=by show _=_;rw[HE.o,HD.o,aGW HK.o];rfl);go_upto_region 7 with fail;refine kB (fun I K _=>K=aI0 ((⟨c.j.set v n,c.q.set v true⟩:cB)) ⟨v,p⟩ l on ns.length x k n I) kR kR (fun _ _ _ _ _ h=>h) ?hopA ?hendA
    case hopA=>
     refine oC (fun a y h=>by have e3:a.eval (.tmp 3)=(.pointer (some ⟨w.heap.size,0,none⟩):Value):=h.old 3;refine ZW (v:=fY (⟨c.j.set v n,c.q.set v true⟩:cB)) ?_;exact vK rfl e3 (g.o.z h.z).box g.o.wf) ?_;refine oC (fun a y h=>by have e9:a.eval (.tmp 9)=(.pointer (some ⟨r,0,none⟩):Value):=h.old 9;(have c0:y.cell? ⟨r,0,none⟩=some (.int .i64 v):=by rw[cM ((h.z.block _ (cV s.o)).trans s.o)];rfl);(have c1:y.cell? ⟨r,1,none⟩=some (.int .i64 p):=by rw[cM ((h.z.block _ (cV s.o)).trans s.o)];rfl);exact iQ (.agg #[.int .i64 v, .int .i64 p])) ?_;refine oC (fun a y h=>?_) ?_
     ·have ah:a.eval (.tmp 33)=(fY (⟨c.j.set v n,c.q.set v true⟩:cB):Value):=h.of 33;have ai:a.eval (.tmp 34)=(.agg #[.int .i64 v, .int .i64 p]:Value):=h.of 34;refine fI (f:=268) (args:=#[fY (⟨c.j.set v n,c.q.set v true⟩:cB), .agg #[.int .i64 v, .int .i64 p]]) (bI rfl) ?_ ?_
      ·have ec:=kZ a;have ef:=AO a;generalize a.eval=ev at *;clear h;go_simp
      refine Calls.mono (BK ((⟨c.j.set v n,c.q.set v true⟩:cB)) ⟨v,p⟩ y g.o.wf a2.o) ?_;rintro _ y2 ⟨rfl,G⟩;exact⟨_,rfl,fun t ht=>by cases ht;exact rfl,G⟩
     refine oC (fun a y h=>by have e2:a.eval (.tmp 2)=(.slice (some ⟨l,on,none⟩) ns.length x:Value):=h.old 2;exact iQ (.slice (some ⟨l,on,none⟩) ns.length x)) ?_;refine oC (fun a y h=>by have e8:a.eval (.tmp 8)=(.int .i64 k:Value):=h.old 8;exact iQ (.int .i64 k)) ?_;refine oC (fun a y h=>by have ak:a.eval (.tmp 36)=(.slice (some ⟨l,on,none⟩) ns.length x:Value):=h.of 36;have al:a.eval (.tmp 37)=(.int .i64 k:Value):=h.of 37;exact iQ (.pointer (some ⟨l,on+k,none⟩))) ?_;refine oC (fun a y h=>by have am:a.eval (.tmp 38)=(.pointer (some ⟨l,on+k,none⟩):Value):=h.of 38;have c2:=aB (g.o.z h.z).d Z0.o;exact iQ (.int .i64 n)) ?_;refine oC (fun a y h=>by have aj:a.eval (.tmp 35)=(.int .i64 (fH ((⟨c.j.set v n,c.q.set v true⟩:cB)).j ⟨v,p⟩):Value):=h.of 35;have ao:a.eval (.tmp 39)=(.int .i64 n:Value):=h.of 39;exact iQ (.bool (fH ((⟨c.j.set v n,c.q.set v true⟩:cB)).j ⟨v,p⟩ != n))) ?_;exact OI.nil
    case hendA=>rintro⟨J,S⟩ wE X a6 a0 a1 W;have U:J.getD 40 undef=.bool (fH ((⟨c.j.set v n,c.q.set v true⟩:cB)).j ⟨v,p⟩ != n):=tW (T:=fun I K _=>K=aI0 ((⟨c.j.set v n,c.q.set v true⟩:cB)) ⟨v,p⟩ l on ns.length x k n I) (w:=wE) (a:=⟨J,S⟩) (t:=40) W kR;obtain rfl:S=[]:=a6;obtain⟨fQ,V,F⟩:=oR [33,34,35,36,37,38,39,40] J _ a0 a1;clear a0 a1 W;simp only[List.foldl_cons,List.foldl_nil,(V 40).trans U]at F;clear U V;simp only[List.setIfInBounds_toArray,List.set_cons_zero,List.set_cons_succ]at F;subst F;have N:O _:=g.o.z X;clear X g s;(have H:(fH (c.j.set v n) ⟨v,p⟩ != n)=false:=by rw[af.o];simp);rw[H];go_wp2_with fail;go_roundw;(case rel=>exact⟨k+1,_,D,gN,N.o,E.o⟩);case measure=>exact mI
   have HK:O _:=Z;clear Z;have g:O _:=m.o;have s:O _:=M.o;clear m M;generalize L=w4 at *;go_upto_region 7 with fail;refine kB (fun I K _=>K=aI0 (c) t l on ns.length x k n I) kR kR (fun _ _ _ _ _ h=>h) ?hopB ?hendB
   case hopB=>
    refine oC (fun a y h=>by have e3:a.eval (.tmp 3)=(.pointer (some ⟨w.heap.size,0,none⟩):Value):=h.old 3;refine ZW (v:=fY c) ?_;exact vK rfl e3 (g.o.z h.z).box g.o.wf) ?_;refine oC (fun a y h=>by have e9:a.eval (.tmp 9)=(.pointer (some ⟨r,0,none⟩):Value):=h.old 9;(have c0:y.cell? ⟨r,0,none⟩=some (.int .i64 t.var):=by rw[cM ((h.z.block _ (cV s.o)).trans s.o)];rfl);(have c1:y.cell? ⟨r,1,none⟩=some (.int .i64 t.n):=by rw[cM ((h.z.block _ (cV s.o)).trans s.o)];rfl);exact iQ (.agg #[.int .i64 t.var, .int .i64 t.n])) ?_;refine oC (fun a y h=>?_) ?_
    ·have ah:a.eval (.tmp 33)=(fY c:Value):=h.of 33;have ai:a.eval (.tmp 34)=(.agg #[.int .i64 t.var, .int .i64 t.n]:Value):=h.of 34;refine fI (f:=268) (args:=#[fY c, .agg #[.int .i64 t.var, .int .i64 t.n]]) (bI rfl) ?_ ?_
     ·have ec:=kZ a;have ef:=AO a;generalize a.eval=ev at *;clear h;go_simp
     refine Calls.mono (BK (c) t y g.o.wf a2.o) ?_;rintro _ y2 ⟨rfl,G⟩;exact⟨_,rfl,fun t ht=>by cases ht;exact rfl,G⟩
    refine oC (fun a y h=>by have e2:a.eval (.tmp 2)=(.slice (some ⟨l,on,none⟩) ns.length x:Value):=h.old 2;exact iQ (.slice (some ⟨l,on,none⟩) ns.length x)) ?_;refine oC (fun a y h=>by have e8:a.eval (.tmp 8)=(.int .i64 k:Value):=h.old 8;exact iQ (.int .i64 k)) ?_;refine oC (fun a y h=>by have ak:a.eval (.tmp 36)=(.slice (some ⟨l,on,none⟩) ns.length x:Value):=h.of 36;have al:a.eval (.tmp 37)=(.int .i64 k:Value):=h.of 37;exact iQ (.pointer (some ⟨l,on+k,none⟩))) ?_;refine oC (fun a y h=>by have am:a.eval (.tmp 38)=(.pointer (some ⟨l,on+k,none⟩):Value):=h.of 38;have c2:=aB (g.o.z h.z).d Z0.o;exact iQ (.int .i64 n)) ?_;refine oC (fun a y h=>by have aj:a.eval (.tmp 35)=(.int .i64 (fH (c).j t):Value):=h.of 35;have ao:a.eval (.tmp 39)=(.int .i64 n:Value):=h.of 39;exact iQ (.bool (fH (c).j t != n))) ?_;exact OI.nil
   case hendB=>
    rintro⟨J,S⟩ wE X a6 a0 a1 W;have U:J.getD 40 undef=.bool (fH (c).j t != n):=tW (T:=fun I K _=>K=aI0 (c) t l on ns.length x k n I) (w:=wE) (a:=⟨J,S⟩) (t:=40) W kR;obtain rfl:S=[]:=a6;obtain⟨fQ,V,F⟩:=oR [33,34,35,36,37,38,39,40] J _ a0 a1;clear a0 a1 W;simp only[List.foldl_cons,List.foldl_nil,(V 40).trans U]at F;clear U V;simp only[List.setIfInBounds_toArray,List.set_cons_zero,List.set_cons_succ]at F;subst F;have N:O _:=g.o.z X;clear X g s;by_cases P:fH c.j t=n
    ·(have E:O (iB y ts ns=iB c (ts.drop (k+1)) (ns.drop (k+1))):=by show _=_;rw[HE.o,HD.o,aGX HK.o P]);(have H:(fH c.j t != n)=false:=by rw[P];simp);rw[H];clear P H;go_wp2_with fail;go_roundw;(case rel=>exact⟨k+1,_,D,gN,N.o,E.o⟩);case measure=>exact mI
    (have E:O (iB y ts ns=none):=by show _=_;rw[HE.o,HD.o,aKJ HK.o P]);(have H:(fH c.j t != n)=true:=by simpa using P);rw[H];clear P H;go_wp2_with(refine JR rfl _ _ rfl _ rfl yM yM rfl N.o.res ⟨rfl,rfl⟩ ⟨rfl,rfl⟩ ?_);refine dP (Qv rfl rfl (Tv N.o.res) ⟨rfl,rfl⟩) rfl ⟨?_,Af N.o.d (tC _)⟩;unfold uR;rw[E.o];rfl
  have av:decide (k<ts.length)=false:=aF D;have ad:k=ts.length:=oM;(have E:O (iB y ts ns=some c):=by show _=_;rw[HE.o,ad];exact aGY _ _ _);clear ad
  go_wp2_with(first
   |(refine pK (bI rfl) _ rfl _ rfl c u.o.box u.o.wf ?_)
   |(refine JR rfl _ _ rfl _ rfl yM c rfl u.o.res ⟨rfl,rfl⟩ u.o.wf ?_))
  refine dP (Qv rfl rfl (Tv u.o.res) u.o.wf) rfl ⟨?_,Af u.o.d (tC _)⟩;unfold uR;rw[E.o];rfl
section
variable {σ:Type}
def iR(step:σ->cB->σ×Bool):σ->List cB->σ×Bool
 |s,[]=>(s,true)
 |s,x::L=>if(step s x).2=true then iR step (step s x).1 L else((step s x).1,false)
def JU(step:σ->cB->σ×Bool)(b:σ->cB->Prop):σ->List cB->Prop
 |_,[]=>True
 |s,x::L=>b s x/\((step s x).2=true->JU step b (step s x).1 L)
theorem uQ(step:σ->cB->σ×Bool)(s:σ)(x:cB)(L:List cB):iR step s (x::L)=if(step s x).2=true then iR step (step s x).1 L else((step s x).1,false):=rfl
theorem ZH(step:σ->cB->σ×Bool):∀(L M:List cB)(s:σ),iR step s (L++M)=if(iR step s L).2=true then iR step (iR step s L).1 M else((iR step s L).1,false)
 |[],M,s=>by rw[uN];show _=if true=true then iR step s M else _;rw[if_pos rfl]
 |x::L,M,s=>by
  rw[Sx,uQ,uQ];by_cases h:(step s x).2=true
  ·rw[if_pos h,if_pos h,ZH step L M]
  rw[if_neg h,if_neg h];rfl
theorem Pd(step:σ->cB->σ×Bool)(f:cB->List cB):∀(L:List cB)(s:σ),iR step s (L.flatMap f)=iR (fun s x=>iR step s (f x)) s L
 |[],s=>rfl
 |x::L,s=>by rw[Jv,ZH];show _=if(iR step s (f x)).2=true then iR (fun s x=>iR step s (f x)) (iR step s (f x)).1 L else((iR step s (f x)).1,false);rw[Pd step f L]
theorem RG(step:σ->cB->σ×Bool)(d:σ->cB->Prop):∀(L M:List cB)(s:σ),JU step d s (L++M)->JU step d s L/\((iR step s L).2=true->JU step d (iR step s L).1 M)
 |[],M,s,h=>⟨trivial,fun _=>h⟩
 |x::L,M,s,h=>by
  obtain⟨f,e⟩:=h;refine⟨⟨f,fun c=>(RG step d L M _ (e c)).1⟩,fun b=>?_⟩;rw[uQ]at b ⊢;by_cases c:(step s x).2=true
  ·rw[if_pos c]at b ⊢;exact(RG step d L M _ (e c)).2 b
  rw[if_neg c]at b;cases b
theorem Wg(step:σ->cB->σ×Bool)(b:σ->cB->Prop)(f:cB->List cB):∀(L:List cB)(s:σ),JU step b s (L.flatMap f)->JU (fun s x=>iR step s (f x)) (fun s x=>JU step b s (f x)) s L
 |[],s,_=>trivial
 |x::L,s,h=>by rw[Jv]at h;obtain⟨c,d⟩:=RG step b _ _ _ h;exact⟨c,fun e=>Wg step b f L _ (d e)⟩
end
structure Kp (n0 NB:Nat) (w w':World):Prop where
 os:w'.os=w.os
 tape:w'.tape=w.tape
 output:w'.output=w.output
 size:w.heap.size<=w'.heap.size
 low:∀k,k<n0->w'.heap[k]?=w.heap[k]?
 keep:∀k c t,w.heap[k]?=some (.cells c t)->k≠NB->t≠22->w'.heap[k]?=some (.cells c t)
theorem Kp.trans{e NB:Nat}{a b c:World}(h:Kp e NB a b)(k:Kp e NB b c):Kp e NB a c:=
 ⟨k.os.trans h.os,k.tape.trans h.tape,k.output.trans h.output,bP h.size k.size,fun j d=>(k.low j d).trans (h.low j d),fun j o t d f g=>k.keep j o t (h.keep j o t d f g) f g⟩
theorem Kp.of_below{c NB:Nat}{w w':World}(h:Below w.heap.size w w')(d:c<=w.heap.size):Kp c NB w w':=
 ⟨h.os,h.tape,h.output,h.size,fun k b=>h.block k (dS b d),fun k _ _ b _ _=>(h.block k (cV b)).trans b⟩
theorem Kp.z{c NB:Nat}{w0 w w':World}(h:Kp c NB w w')(b:Below c w0 w):Below c w0 w':=
 ⟨h.os.trans b.os,h.tape.trans b.tape,h.output.trans b.output,bP b.size h.size,fun k d=>(h.low k d).trans (b.block k d)⟩
theorem Kp.way{e NB:Nat}{w w':World}(h:Kp e NB w w'){b:Nat}{y:cB}(d:b≠NB)(c:mP w b y):mP w' b y:=h.keep b _ _ c d dE
structure Hg (n0 NB h:Nat) (cb:Array Value) {σ:Type} (step:σ->cB->σ×Bool) (live:σ->cB->Prop) (I:σ->World->Prop):Prop where
 call:∀s w x,I s w->live s x->lI 8 x->Calls Tryz.prog h (#[fY x]++cb) w fun e w'=>e=.returned (.bool (step s x).2)/\I (step s x).1 w'/\Kp n0 NB w w'
 grow:∀s w w',I s w->Below w.heap.size w w'->I s w'
 room:∀s w,I s w->n0<=w.heap.size/\NB<w.heap.size
def vG(l:cX)(y:cB)(f:aQ):Option cB:=if f.g=l.g then iB y l.v f.args else none
theorem aVH{facts:List aQ}{l:cX}{y:cB}(h:l.kind=1):mO facts l y=facts.filterMap (vG l y):=by unfold mO;rw[if_pos h];rfl
theorem aJ8(l:cX)(y:cB)(facts:List aQ)(k:Nat)(h:k<facts.length):(facts.drop k).filterMap (vG l y)=(vG l y (bF facts k)).toList++(facts.drop (k+1)).filterMap (vG l y):=by rw[SG facts k h,qZ];cases vG l y (bF facts k)<;>rfl
theorem aL1{σ:Type}{step:σ->cB->σ×Bool}{a1:σ->cB->Prop}{I:σ->World->Prop}{NB hh:Nat}{cb:Array Value}(facts:List aQ)(l:cX)(y:cB)(vf vt:Value)(w0 w:World)(s:σ)
 (al:Below w0.heap.size w0 w) (hF:bS w0 vf facts) (aS:facts.length<=1000000) (hT:iX w0 vt l.v) (aw:kV 8 l.v) (hA:∀f,f∈facts->f.g=l.g->l.v.length=f.args.length) (aO:l.v.length<=1000) (hy:lI 8 y)
 (Z:Hg w0.heap.size NB hh cb step a1 I) (he:∀args w,(callFunc hh args).run Tryz.prog w=.ok (.enter hh args) w) (hI:I s w) (ar:JU step a1 s (facts.filterMap (vG l y))):
 Calls Tryz.prog 265 #[vf,sH l vt,fY y, .func (.func hh) #[] cb] w fun e w'=>e=.returned (.bool (iR step s (facts.filterMap (vG l y))).2)/\I (iR step s (facts.filterMap (vG l y))).1 w'/\Kp w0.heap.size NB w w':=by
 obtain⟨ao,cap,rfl,_,am⟩:=hF;have HT:O _:=hT;obtain⟨at_,M,rfl,_⟩:=id hT;obtain⟨j,m,d,c⟩:=l;dsimp only at *;obtain⟨h0,h1,hb⟩:=PE w (.cells #[.int .i64 j, .int .i64 m, .int .i64 d, .slice at_ c.length M] 109) (.cells (eY y) 277);have C:O _:=h0;have Q:O (mP ((w.alloc (.cells #[.int .i64 j, .int .i64 m, .int .i64 d, .slice at_ c.length M] 109)).alloc (.cells (eY y) 277)) (w.heap.size+1) y):=h1;have a7:=Z.room s w hI;have x:O _:=Z.grow _ _ _ hI hb;have HK:O (Kp w0.heap.size NB w ((w.alloc (.cells #[.int .i64 j, .int .i64 m, .int .i64 d, .slice at_ c.length M] 109)).alloc (.cells (eY y) 277))):=Kp.of_below hb a7.1;have a8:O _:=al;have ay:O _:=am;have HA:O _:=hA;have aL:O _:=aw;have D:O _:=ar;have E:O _:=Z;have aT:=a7.2;clear h0 h1 hb hT hI a7 al am hA aw ar Z
 go_enter Tryz.func265,Tryz.ntmps265
 go_wp2_with fail;generalize (w.alloc (.cells #[.int .i64 j, .int .i64 m, .int .i64 d, .slice at_ c.length M] 109)).alloc (.cells (eY y) 277)=w1 at *;go_loopw [15] (fun i wr=>∃(k:Nat)(n:σ),k<=facts.length/\i=.int .i64 k/\O (I n wr)/\O (Kp w0.heap.size NB w wr)/\O (wr.heap[w.heap.size]?=some (.cells #[.int .i64 j, .int .i64 m, .int .i64 d, .slice at_ c.length M] 109))/\O (mP wr (w.heap.size+1) y)/\O (iR step s (facts.filterMap (vG ⟨j,m,d,c⟩ y))=iR step n ((facts.drop k).filterMap (vG ⟨j,m,d,c⟩ y)))/\O (JU step a1 n ((facts.drop k).filterMap (vG ⟨j,m,d,c⟩ y)))) (fun i _=>facts.length-(intOf i).toNat);case atStart=>exact⟨0,s,bL _,rfl,x.o,HK.o,C.o,Q.o,rfl,D.o⟩
 case round=>
  clear x HK C Q D;obtain⟨k,n,hk,rfl,x,HK,C,Q,P,D⟩:=hrel;by_cases F:k<facts.length
  ·have a3:O (Below w0.heap.size w0 wr):=HK.o.z a8.o;obtain⟨b,b1,rfl,p0,fv,p1,aq⟩:=nM ay.o k F;have q0:=aB a3.o p0;have q1:=aB a3.o p1;have az:O (eT w0 fv (bF facts k).args):=aq;obtain⟨af,cf,rfl,_⟩:=aq;have H:O _:=aJ8 ⟨j,m,d,c⟩ y facts k F;have ax:O ((bF facts k).g=d->c.length=(bF facts k).args.length):=HA.o _ (lU facts k F);clear p0 p1;generalize bF facts k=f at *;(have d2:wr.cell? ⟨w.heap.size,2,none⟩=some (.int .i64 d):=cH C.o);go_upto_region 4 with fail;have R:=(aG wr.heap.size wr).alloc (aH _) (.cells #[.int .i64 f.g, .slice af f.args.length cf] 72);have av:=bA wr (.cells #[.int .i64 f.g, .slice af f.args.length cf] 72);have a6:O _:=av;have V:O _:=E.o.grow _ _ _ x.o R;have W:O _:=HK.o.trans (Kp.of_below R (E.o.room _ _ x.o).1);have J:O _:=(R.block _ (cV C.o)).trans C.o;have X:O _:=Q.o.z R;clear q0 q1 d2 R av x HK C Q a3;generalize wr.alloc (.cells #[.int .i64 f.g, .slice af f.args.length cf] 72)=N at *;generalize wr.heap.size=TB at *;(have f0:N.cell? ⟨TB,0,none⟩=some (.int .i64 f.g):=cH a6.o);(have f1:N.cell? ⟨TB,1,none⟩=some (.slice af f.args.length cf):=cH a6.o);(have d2:N.cell? ⟨w.heap.size,2,none⟩=some (.int .i64 d):=cH J.o);(have d3:N.cell? ⟨w.heap.size,3,none⟩=some (.slice at_ c.length M):=cH J.o);by_cases q:f.g=d
   ·(have g1:(f.g==d)=true:=by simpa using q);(have g2:(f.g != d)=false:=by simpa using q);(have K:O (vG ⟨j,m,d,c⟩ y f=iB y c f.args):=by show _=_;unfold vG;rw[if_pos q]);have aD:O _:=ax.o q;have a2:O (Below w0.heap.size w0 N):=W.o.z a8.o;clear q;go_wp2_with(refine pK (bI rfl) _ rfl _ rfl y X.o hy ?_);refine Calls.mono (aOK y c f.args _ _ N hy (fV HT.o a2.o) (bC az.o a2.o) aD.o aO aL.o) ?_;rintro _ p ⟨rfl,T⟩;have a4:O _:=E.o.grow _ _ _ V.o T;have ab:O _:=W.o.trans (Kp.of_below T (E.o.room _ _ V.o).1);have a5:O _:=(T.block _ (cV J.o)).trans J.o;have ai:O (mP p (w.heap.size+1) y):=mP.z X.o T;have au:=(E.o.room _ _ a4.o);clear T f0 f1 d2 d3 g1 g2 V W J X a6 a2;have Y:O (lI 8 (uR y c f.args)):=by
     show lI 8 _;unfold uR
     cases G:iB y c f.args with
     |none=>exact⟨rfl,rfl⟩
     |some z=>exact wH hy G
    have S:=(aG p.heap.size p).alloc (aH _) (.cells (eY (uR y c f.args)) 277);have a9:O _:=E.o.grow _ _ _ a4.o S;have ac:O _:=ab.o.trans (Kp.of_below S au.1);have ae:O _:=(S.block _ (cV a5.o)).trans a5.o;have aj:O _:=mP.z ai.o S;have ak:O (mP (p.alloc (.cells (eY (uR y c f.args)) 277)) p.heap.size (uR y c f.args)):=bA p _;clear S au;go_upto_region 6 with(refine JR rfl _ _ rfl p.heap.size rfl yM (uR y c f.args) rfl (bA p _) ⟨rfl,rfl⟩ Y.o ?_;rw[World.setRow_alloc_new]);generalize p.alloc (.cells (eY (uR y c f.args)) 277)=w3 at *;generalize p.heap.size=ZB at *;clear a4 ab a5 ai
    cases G:iB y c f.args with
    |none=>
     have L:O (vG ⟨j,m,d,c⟩ y f=none):=K.o.trans G;have hs:(none:Option cB).isSome=false:=rfl;clear G;go_wp2_with fail;go_roundw;(case rel=>exact⟨k+1,n,F,gN,a9.o,ac.o,ae.o,aj.o,by show _=_;rw[P.o,H.o,L.o];rfl,by have r:=D.o;rw[H.o,L.o]at r;exact r⟩);case measure=>exact mI
    |some z=>
     have L:O (vG ⟨j,m,d,c⟩ y f=some z):=K.o.trans G;(have hz:uR y c f.args=z:=by unfold uR;rw[G];rfl);rw[hz]at ak Y;(have ag:O (JU step a1 n (z::(facts.drop (k+1)).filterMap (vG ⟨j,m,d,c⟩ y))):=by have r:=D.o;rw[H.o,L.o]at r;exact r);(have ah:O (iR step s (facts.filterMap (vG ⟨j,m,d,c⟩ y))=iR step n (z::(facts.drop (k+1)).filterMap (vG ⟨j,m,d,c⟩ y))):=by show _=_;rw[P.o,H.o,L.o];rfl);clear G hz D P K L;go_wp2_with(refine pK (by first|exact bI rfl|exact JK rfl rfl rfl rfl) _ rfl _ rfl z ak.o Y.o ?_);refine Calls.mono (E.o.call n w3 z a9.o ag.o.1 Y.o) ?_;rintro e w4 ⟨aR,an,a0⟩;subst aR;have aa:O _:=an;have ad:O _:=ac.o.trans a0;have aC:O _:=a0.keep _ _ _ ae.o oM dE;have aN:O _:=a0.way oM aj.o;clear an a0;cases U:(step n z).2
     ·(have u:O (iR step s (facts.filterMap (vG ⟨j,m,d,c⟩ y))=((step n z).1,false)):=by show _=_;rw[ah.o,uQ,U];rfl);clear U;go_wp2_with fail;go_ret;exact⟨by rw[u.o];rfl,by rw[u.o];exact aa.o,ad.o⟩
     (have u:O (iR step s (facts.filterMap (vG ⟨j,m,d,c⟩ y))=iR step (step n z).1 ((facts.drop (k+1)).filterMap (vG ⟨j,m,d,c⟩ y))):=by show _=_;rw[ah.o,uQ,if_pos U]);have aJ:O _:=ag.o.2 U;clear U;go_wp2_with fail;go_roundw;(case rel=>exact⟨k+1,_,F,gN,aa.o,ad.o,aC.o,aN.o,u.o,aJ.o⟩);case measure=>exact mI
   (have g1:(f.g==d)=false:=by simpa using q);(have g2:(f.g != d)=true:=by simpa using q);(have K:O (vG ⟨j,m,d,c⟩ y f=none):=by show _=_;unfold vG;rw[if_neg q]);clear q;go_wp2_with fail;go_roundw;(case rel=>exact⟨k+1,n,F,gN,V.o,W.o,J.o,X.o,by show _=_;rw[P.o,H.o,K.o];rfl,by have r:=D.o;rw[H.o,K.o]at r;exact r⟩);case measure=>exact mI
  (have u:O (iR step s (facts.filterMap (vG ⟨j,m,d,c⟩ y))=(n,true)):=by show _=_;rw[P.o,bG oM];rfl);have b0:decide (k<facts.length)=false:=aF F;go_wp2_with fail;go_ret;exact⟨by rw[u.o];rfl,by rw[u.o];exact x.o,HK.o⟩
end Go.Proofs.YtfljoehbbncooaaGreat
