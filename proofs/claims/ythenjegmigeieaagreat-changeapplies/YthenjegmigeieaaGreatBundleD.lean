/- Own texts, one behind the other (part 4). -/
import Derived.Test.YthenjegmigeieaaGreatBundleC
import Derived.Test.YthenjegmigeieaaGreatRows
import Derived.Deep.OwnRows
import Derived.RangeFuncNested
import Derived.RangeFuncBound
import Derived.RangeFuncCalls
import Derived.RangeFuncLeaves
import Derived.Shelf.Abstract
import Derived.Shelf.RegionOpen
import Derived.WalkKit
import Derived.OwnWalkIn
import Derived.TacticsInMore
import Derived.LoopNIn
import Derived.LoopIn
import Derived.Deep.QuietTactic
import Derived.BigQuiet
import Derived.Deep.MidRow
import Derived.Deep.WholeRow
import Derived.Maps.OwnSet
import Derived.Defers
import Derived.Recover
import Derived.RegionTactic
import Derived.ChangeAlike
import Derived.Deep.Slices
import Derived.Orders
set_option maxRecDepth 100000
set_option maxHeartbeats 8000000
namespace Go.Proofs.YthenjegmigeieaaGreat
open Go.RowKit
structure Bd (w:World) (X:Nat) (R:Nat) (bs:List Bool):Prop where
 box:w.heap[X]?=some (.cells #[.slice (some ⟨R,0,none⟩) bs.length bs.length] 57 (0,0))
 row:w.heap[R]?=some (.cells (bs.map Value.bool).toArray 4 (0,0))
theorem Bd.c0{w:World}{X R:Nat}{bs:List Bool}(h:Bd w X R bs):w.cell? ⟨X,0,none⟩=some (.slice (some ⟨R,0,none⟩) bs.length bs.length):=by rw[aC h.box];rfl
theorem Bd.at{w:World}{X R:Nat}{bs:List Bool}(h:Bd w X R bs)(i:Nat)(hi:i<bs.length):w.cell? ⟨R,i,none⟩=some (.bool (bs.getD i false)):=by rw[aC h.row];simp[List.getD_eq_getElem?_getD,hi]
theorem Bd.below{w w':World}{X R:Nat}{bs:List Bool}(h:Bd w X R bs)(hb:Below w.heap.size w w'):Bd w' X R bs:=
 ⟨(hb.block _ (aY h.box)).trans h.box,(hb.block _ (aY h.row)).trans h.row⟩
theorem uF(X R:Nat)(bs:List Bool)(t:Sc.Term)(w:World)(hB:Bd w X R bs)(ht:t.var<bs.length):
 Calls Tryz.prog 223 #[ptermVal t, .pointer (some ⟨X,0,none⟩)] w fun e w'=>e=.returned (.bool (Sc.known bs t))∧Below w.heap.size w w':=by
 have hc0:=hB.c0;have hX:=aY hB.box;have hR:=aY hB.row;have hb0:∀o,Below w.heap.size w (w.alloc o):=fun o=>(aH _ _).alloc (aF _) o;unfold Sc.known;by_cases h:t.var<0
 ·have g:decide (t.var<0)=true:=decide_eq_true h
  go_enter Tryz.func223,Tryz.ntmps223
  go_wp2;go_ret;exact⟨by rw[g];rfl,hb0 _⟩
 have g:decide (t.var<0)=false:=decide_eq_false h;obtain⟨k,hk⟩:∃k:Nat,t.var=k:=⟨t.var.toNat,oM⟩;have hkl:k<bs.length:=oM;have hcR:=hB.at k hkl;obtain⟨var,nn⟩:=t;simp only at hk ht h g;subst hk;clear h ht hB
 go_enter Tryz.func223,Tryz.ntmps223
 go_wp2_with fail;go_ret;exact⟨by rw[g];simp[hkl],hb0 _⟩
theorem enters223:Enters 223:=eQ Tryz.func223 kR rfl
def LitGood(n:Nat)(x:Sc.Lit):Prop:=(x.kind=4→x.terms.length=3)∧(∀t,t∈x.terms→t.var<n)∧x.terms.length≤9223372036854775807
theorem aAY{n:Nat}{x:Sc.Lit}(h:LitGood n x)(i:Nat)(hi:i<x.terms.length):(Sc.termD x.terms i).var<n:=by refine h.2.1 _ ?_;unfold Sc.termD;rw[aE,aG hi];exact cR hi
theorem fG{w:World}{ao:Option Addr}{l:List Sc.Term}(h:PTermsAt w ao l)(n:Nat)(hn:n<l.length):∃b off,ao=some ⟨b,off,none⟩∧∀i,i<l.length→PTermIn w b (off+i*2) (Sc.termD l i):=by
 rcases h with h|⟨b,off,ha,hc⟩
 ·rw[h]at hn;exact absurd hn sI
 exact⟨b,off,ha,hc⟩
theorem aBQ(X R:Nat)(bs:List Bool)(x:Sc.Lit)(v:Value)(w:World)(hB:Bd w X R bs)(hT:PTermsV w v x.terms)(hG:LitGood bs.length x):
 Calls Tryz.prog 224 #[plitVal x v, .func (.func 223) #[] #[.pointer (some ⟨X,0,none⟩)]] w fun e w'=>∃u,e=.returned u∧(∀y,PTermsV y v x.terms→PTermsV y u (Sc.binds bs x))∧Below w.heap.size w w':=by
 have he:=enters223;unfold Enters at he;have hb0:∀o,Below w.heap.size w (w.alloc o):=fun o=>(aH _ _).alloc (aF _) o;obtain⟨kind,op,pred,ts⟩:=x;obtain⟨ao,cap,rfl,hcap,hA⟩:=hT;have hA:PTermsAt w ao ts:=hA;have HT:Hid (PTermsAt w ao ts):=hA;have hcap:ts.length≤cap:=hcap;cases g1:(kind==1)
 ·(have h1:¬kind=1:=by simpa using g1);cases g4:(kind==4)
  ·(have h4:¬kind=4:=by simpa using g4);(have HV:Hid (Sc.binds bs ⟨kind,op,pred,ts⟩=[]):=by show _=_;simp[Sc.binds,h1,h4]);clear h1 h4 hA
   go_enter Tryz.func224,Tryz.ntmps224
   go_wp2_with fail;go_ret;exact⟨_,rfl,by rw[HV.out];exact fun _ _=>⟨none,0,rfl,aF _, .inl rfl⟩,hb0 _⟩
  (have h4:kind=4:=by simpa using g4);have hl:ts.length=3:=hG.1 h4;obtain⟨b,off,rfl,hc⟩:=fG hA 0 oM;obtain⟨a0,a1⟩:=hc 0 oM;obtain⟨a2,a3⟩:=hc 1 oM;have hv0:(Sc.termD ts 0).var<bs.length:=aAY hG 0 (show 0<ts.length by omega);have hv1:(Sc.termD ts 1).var<bs.length:=aAY hG 1 (show 1<ts.length by omega);simp only[jT,Nat.one_mul,iV]at a0 a1 a2 a3;have hbw:b<w.heap.size:=dX w _ a0;have HK0:Hid (∀y,Below w.heap.size w y→Calls Tryz.prog 223 #[ptermVal (Sc.termD ts 0), .pointer (some ⟨X,0,none⟩)] y fun e w'=>e=.returned (.bool (Sc.known bs (Sc.termD ts 0)))∧Below y.heap.size y w'):=fun y hy=>uF X R bs _ y (hB.below hy) hv0;have HK1:Hid (∀y,Below w.heap.size w y→Calls Tryz.prog 223 #[ptermVal (Sc.termD ts 1), .pointer (some ⟨X,0,none⟩)] y fun e w'=>e=.returned (.bool (Sc.known bs (Sc.termD ts 1)))∧Below y.heap.size y w'):=fun y hy=>uF X R bs _ y (hB.below hy) hv1;(have HB:Hid (Sc.binds bs ⟨kind,op,pred,ts⟩=if Sc.known bs (Sc.termD ts 0)=true∧Sc.known bs (Sc.termD ts 1)=true then ts.drop 2 else []):=by show _=_;simp[Sc.binds,h4]);have HC:Hid (∀i,i<ts.length→PTermIn w b (off+i*2) (Sc.termD ts i)):=hc;subst h4;have hl':Hid (ts.length=3):=hl;have hcap3:3≤cap:=oM;have hX0:=heap_alloc_new w (.cells #[.int .i64 4, .int .i64 op, .int .i64 pred, .slice (some ⟨b,off,none⟩) 3 cap] 49);have hbx:=hb0 (.cells #[.int .i64 4, .int .i64 op, .int .i64 pred, .slice (some ⟨b,off,none⟩) 3 cap] 49);rw[show ts.length=3 from hl];clear hc hA HT hB hG hcap hl h1;generalize hT0:Sc.termD ts 0=t0 at *;generalize hT1:Sc.termD ts 1=t1 at *;clear hT0 hT1
  go_enter Tryz.func224,Tryz.ntmps224
  go_wp2_with fail;refine Calls.mono (HK0.out _ hbx) ?_;rintro e w1 ⟨rfl,hb1⟩;have hX1:=(hb1.block _ (aY hX0)).trans hX0;have hw1:=hbx.trans (hb1.mono hbx.size);have b0:=aD hw1 a0;have b1:=aD hw1 a1;have b2:=aD hw1 a2;have b3:=aD hw1 a3;(have d0:w1.cell? ⟨w.heap.size,3,none⟩=some (.slice (some ⟨b,off,none⟩) 3 cap):=by rw[aC hX1];rfl);clear hb1 hX0 hbx HK0;cases hk0:Sc.known bs t0
  ·(have HV:Hid (Sc.binds bs ⟨4,op,pred,ts⟩=[]):=by show _=_;rw[HB.out,hk0];simp);go_wp2_with fail;go_ret;exact⟨_,rfl,by rw[HV.out];exact fun _ _=>⟨none,0,rfl,aF _, .inl rfl⟩,hw1⟩
  go_wp2_with fail;refine Calls.mono (HK1.out _ hw1) ?_;rintro e w2 ⟨rfl,hb2⟩;have hX2:=(hb2.block _ (aY hX1)).trans hX1;have hw2:=hw1.trans (hb2.mono hw1.size);(have d2:w2.cell? ⟨w.heap.size,3,none⟩=some (.slice (some ⟨b,off,none⟩) 3 cap):=by rw[aC hX2];rfl);clear hb2 hX1 d0 b0 b1 b2 b3;cases hk1:Sc.known bs t1
  ·(have HV:Hid (Sc.binds bs ⟨4,op,pred,ts⟩=[]):=by show _=_;rw[HB.out,hk0,hk1];simp);go_wp2_with fail;go_ret;exact⟨_,rfl,by rw[HV.out];exact fun _ _=>⟨none,0,rfl,aF _, .inl rfl⟩,hw2⟩
  (have HV:Hid (Sc.binds bs ⟨4,op,pred,ts⟩=ts.drop 2):=by show _=_;rw[HB.out,hk0,hk1];simp);go_wp2_with fail;go_ret;refine⟨_,rfl,?_,hw2⟩;rw[HV.out];show∀y,PTermsV y (.slice (some ⟨b,off,none⟩) 3 cap) ts→PTermsV y (.slice (some ⟨b,off+4,none⟩) 1 (cap-2)) (ts.drop 2);intro y hy;(have hl1:(ts.drop 2).length=1:=by rw[fT,hl'.out]);refine⟨some ⟨b,off+4,none⟩,cap-2,by rw[hl1],oM, .inr ⟨b,off+4,rfl,fun i hi=>?_⟩⟩;obtain rfl:i=0:=oM;obtain⟨ao',cap',hv,_,hy⟩:=hy;injection hv with e1 e2 e3;subst e1;obtain⟨b',off',hb',hy⟩:=fG hy 2 (by rw[hl'.out];omega);(obtain⟨rfl,rfl⟩:b=b'∧off=off':=by simpa using hb');have h2:=hy 2 (by rw[hl'.out];omega);(have hd:Sc.termD (ts.drop 2) 0=Sc.termD ts 2:=by simp[Sc.termD,List.getD_eq_getElem?_getD]);rw[hd];exact h2
 (have h1:kind=1:=by simpa using g1);(have HV:Hid (Sc.binds bs ⟨kind,op,pred,ts⟩=ts):=by show _=_;simp[Sc.binds,h1]);clear h1 hA
 go_enter Tryz.func224,Tryz.ntmps224
 go_wp2_with fail;go_ret;exact⟨_,rfl,by rw[HV.out];exact fun _ h=>h,hb0 _⟩
theorem aBv(R:Nat)(bs:List Bool)(n cap:Nat)(w:World)(hn:bs.length=n)(hmax:n≤9223372036854775807)(hB:∀i,i<n→w.cell? ⟨R,i,none⟩=some (.bool (bs.getD i false))):
 Calls Tryz.prog 232 #[.slice (some ⟨R,0,none⟩) n cap, .bool false] w fun e w'=>∃r:Int,e=.returned (.int .i64 r)∧decide (0≤r)= !(bs.all id)∧∃k,w'=w.drewN k:=by
 have HN:Hid (bs.length=n):=hn;clear hn
 go_enter Tryz.func232,Tryz.ntmps232
 go_wp2_with fail;go_loopw [8] (fun i wr=>∃k:Nat,k≤n∧i=.int .i64 k∧bs.all id=(bs.drop k).all id∧∃q,wr=w.drewN q) (fun i _=>n-(intOf i).toNat);case atStart=>exact⟨0,aR _,rfl,rfl,0,rfl⟩
 case round=>
  obtain⟨k,hk,rfl,hall,q,rfl⟩:=hrel;have HA:Hid (bs.all id=(bs.drop k).all id):=hall;clear hall;by_cases hlt:k<n
  ·have hc:=hB k hlt;have HD:Hid (bs.all id=(bs.getD k false&&(bs.drop (k+1)).all id)):=HA.out.trans (all_drop _ _ _ k (by rw[HN.out];exact hlt));clear hB HA;generalize bs.getD k false=x at *;cases x
   ·have HV:Hid (bs.all id=false):=HD.out;go_wp2_with fail;go_ret;exact⟨k,rfl,by rw[HV.out];simp,_,rfl⟩
   (have HV:Hid (bs.all id=(bs.drop (k+1)).all id):=by show _=_;rw[HD.out];rfl);clear HD;go_wp2_with fail;go_roundw;(case rel=>exact⟨k+1,oM,gN,HV.out,_,rfl⟩);case measure=>exact mI
  (have HV:Hid (bs.all id=true):=by show _=_;rw[HA.out,aL (by rw[HN.out];omega)];rfl);clear hB;go_wp2_with fail;go_ret;exact⟨-1,rfl,rV,_,rfl⟩
theorem wN(R:Nat)(bs:List Bool)(n cap:Nat)(w:World)(hn:bs.length=n)(hmax:n≤9223372036854775807)(hB:∀i,i<n→w.cell? ⟨R,i,none⟩=some (.bool (bs.getD i false))):
 Calls Tryz.prog 225 #[.slice (some ⟨R,0,none⟩) n cap, .bool false] w fun e w'=>e=.returned (.bool (!(bs.all id)))∧∃k,w'=w.drewN k:=by
 go_enter Tryz.func225,Tryz.ntmps225
 go_wp2_with fail;refine(aBv R bs n cap w hn hmax hB).mono ?_;rintro e w1 ⟨r,rfl,hr,k,rfl⟩;go_wp2_with fail;go_ret;exact⟨rfl,_,rfl⟩
def RuleGood(r:Sc.Rule):Prop:=0≤r.vars∧r.vars≤8∧r.body.length≤4∧∀i,i<r.body.length→LitGood r.vars.toNat (Sc.litD r.body i)
structure SInv (w:World) (rb:Obj) (X R:Nat) (bs:List Bool) (wr:World):Prop where
 bel:Below w.heap.size w wr
 box:wr.heap[w.heap.size]?=some rb
 bd:Bd wr X R bs
 r0:w.heap.size<R
 r1:R<X
theorem SInv.below{w wr w2:World}{rb:Obj}{X R:Nat}{bs:List Bool}(h:SInv w rb X R bs wr)(hb:Below wr.heap.size wr w2):SInv w rb X R bs w2:=
 ⟨h.bel.trans (hb.mono h.bel.size),(hb.block _ (aY h.box)).trans h.box,h.bd.below hb,h.r0,h.r1⟩
theorem SInv.set{w wr:World}{rb:Obj}{X R:Nat}{bs:List Bool}(h:SInv w rb X R bs wr)(k:Nat):SInv w rb X R (bs.set k true) (wr.setCell ⟨R,k,none⟩ (.bool true)):=by
 have h0:=h.r0;have h1:=h.r1;refine⟨h.bel.setCell (p:=⟨R,k,none⟩) (Nat.le_of_lt h0) _,?_,⟨?_,?_⟩,h0,h1⟩
 ·rw[dO _ _ _ _ (show¬w.heap.size=R by omega)];exact h.box
 ·rw[dO _ _ _ _ (show¬X=R by omega),eE];exact h.bd.box
 rw[bL h.bd.row];simp[List.map_set]
theorem qO(n:Nat):madeCells #[Value.bool false] n=((List.replicate n false).map Value.bool).toArray:=by
 apply Array.ext
 ·simp[size_madeCells]
 intro i h1 h2;simp[madeCells,Nat.mod_one]
theorem pE(body:List Sc.Lit)(n k:Nat)(h:k<n)(b:List Bool):Sc.rounds body (n-k) b=Sc.rounds body (n-(k+1)) (Sc.round body b):=by obtain⟨m,hm⟩:∃m,n-k=m+1:=⟨n-k-1,oM⟩;rw[hm,show n-(k+1)=m by omega];rfl
theorem kU{α β:Type}(f:β→α→β)(d:α)(l:List α)(k:Nat)(h:k<l.length)(b:β):(l.drop k).foldl f b=(l.drop (k+1)).foldl f (f b (l.getD k d)):=by rw[bG h,cL,aE,aG h];rfl
theorem aBO{bs:List Bool}{x:Sc.Lit}{t:Sc.Term}(h:t∈Sc.binds bs x):t∈x.terms:=by
 unfold Sc.binds at h;split at h
 ·exact h
 split at h
 ·exact gC h
 simp at h
theorem aBP(bs:List Bool)(x:Sc.Lit):(Sc.binds bs x).length≤x.terms.length:=by
 unfold Sc.binds;split
 ·exact aF _
 split
 ·simp
 simp
theorem termD_mem{l:List Sc.Term}{i:Nat}(h:i<l.length):Sc.termD l i∈l:=by unfold Sc.termD;rw[aE,aG h];exact cR h
theorem jK{w:World}{ao:Option Addr}{l:List Sc.Lit}(h:PLitsAt w ao l)(n:Nat)(hn:n<l.length):∃b off,ao=some ⟨b,off,none⟩∧PLitIn w b (off+n*4) (Sc.litD l n):=by
 rcases h with h|⟨b,off,ha,hc⟩
 ·rw[h]at hn;exact absurd hn sI
 exact⟨b,off,ha,hc n hn⟩
theorem aAx(r:Sc.Rule)(vt vb:Value)(w:World)(hL:PLitsV w vb r.body)(hG:RuleGood r):
 Calls Tryz.prog 209 #[pruleVal r vt vb] w fun e w'=>e=.returned (.bool (Sc.safe r))∧Below w.heap.size w w':=by
 obtain⟨pred,ts,fold,body,vars⟩:=r;obtain⟨h0,h8,h4,hG⟩:=hG;obtain⟨nv,hnv⟩:∃nv:Nat,vars=nv:=⟨vars.toNat,by simp only at h0;omega⟩;subst hnv;simp only[dI]at *;obtain⟨ab,cb,rfl,hL⟩:=hL;have hmk:=run_make_row' (P:=Tryz.prog) 57 4 (.bool false) 1 Tryz.underlying57 kR rfl .i64 .i64 nv oM oM;have hmf:∀(fn:Fn)(first cap:Array Value)(w:World),(Instr.makeFunc fn first cap).run Tryz.prog w=.ok (.func fn first cap) w:=fun _ _ _ _=>rfl;(have hst:SInv w (.cells #[.int .i64 pred,vt, .int .i64 fold, .slice ab body.length cb, .int .i64 nv] 40) (w.heap.size+1+1) (w.heap.size+1) (List.replicate nv false) (((w.alloc (.cells #[.int .i64 pred,vt, .int .i64 fold, .slice ab body.length cb, .int .i64 nv] 40)).alloc (.cells (madeCells #[Value.bool false] nv) 4)).alloc (.cells #[.slice (some ⟨w.heap.size+1,0,none⟩) nv nv] 57)):=by have e1:=heap_alloc_new w (.cells #[.int .i64 pred,vt, .int .i64 fold, .slice ab body.length cb, .int .i64 nv] 40);have e2:=heap_alloc_new (w.alloc (.cells #[.int .i64 pred,vt, .int .i64 fold, .slice ab body.length cb, .int .i64 nv] 40)) (.cells (madeCells #[Value.bool false] nv) 4);have e3:=heap_alloc_new ((w.alloc (.cells #[.int .i64 pred,vt, .int .i64 fold, .slice ab body.length cb, .int .i64 nv] 40)).alloc (.cells (madeCells #[Value.bool false] nv) 4)) (.cells #[.slice (some ⟨w.heap.size+1,0,none⟩) nv nv] 57);(have s1:(w.alloc (.cells #[.int .i64 pred,vt, .int .i64 fold, .slice ab body.length cb, .int .i64 nv] 40)).heap.size=w.heap.size+1:=by simp);(have s2:((w.alloc (.cells #[.int .i64 pred,vt, .int .i64 fold, .slice ab body.length cb, .int .i64 nv] 40)).alloc (.cells (madeCells #[Value.bool false] nv) 4)).heap.size=w.heap.size+1+1:=by simp);rw[s1]at e2;rw[s2]at e3;have B:∀(u:World)(o:Obj),Below u.heap.size u (u.alloc o):=fun u o=>(aH _ _).alloc (aF _) o;have b2:=B (w.alloc (.cells #[.int .i64 pred,vt, .int .i64 fold, .slice ab body.length cb, .int .i64 nv] 40)) (.cells (madeCells #[Value.bool false] nv) 4);have b3:=B ((w.alloc (.cells #[.int .i64 pred,vt, .int .i64 fold, .slice ab body.length cb, .int .i64 nv] 40)).alloc (.cells (madeCells #[Value.bool false] nv) 4)) (.cells #[.slice (some ⟨w.heap.size+1,0,none⟩) nv nv] 57);have b1:=B w (.cells #[.int .i64 pred,vt, .int .i64 fold, .slice ab body.length cb, .int .i64 nv] 40);have b12:=b1.trans (b2.mono b1.size);refine⟨b12.trans (b3.mono b12.size),(b3.block _ (by rw[s2];omega)).trans ((b2.block _ (by rw[s1];omega)).trans e1),⟨by simpa using e3,?_⟩,oM,oM⟩;rw[←qO];exact(b3.block _ (by rw[s2];omega)).trans e2);have HS:Hid (Sc.safe ⟨pred,ts,fold,body,nv⟩=(Sc.rounds body body.length (List.replicate nv false)).all id):=rfl;have hlen0:(List.replicate nv false).length=nv:=by simp
 go_enter Tryz.func209,Tryz.ntmps209
 go_wp2_with fail;generalize ((w.alloc (.cells #[.int .i64 pred,vt, .int .i64 fold, .slice ab body.length cb, .int .i64 nv] 40)).alloc (.cells (madeCells #[Value.bool false] nv) 4)).alloc (.cells #[.slice (some ⟨w.heap.size+1,0,none⟩) nv nv] 57)=w0 at *;generalize w.heap.size+1+1=X at *;generalize hR:w.heap.size+1=R at *;clear hR;generalize List.replicate nv false=bz at *;generalize hrb:Obj.cells #[.int .i64 pred,vt, .int .i64 fold, .slice ab body.length cb, .int .i64 nv] 40=rb at *;have HRB:Hid _:=hrb;clear hrb;go_loopw [16] (fun i wr=>∃(k:Nat)(bs:List Bool),k≤body.length∧i=.int .i64 k∧SInv w rb X R bs wr∧bs.length=nv∧Sc.rounds body (body.length-k) bs=Sc.rounds body body.length bz) (fun i _=>body.length-(intOf i).toNat);case atStart=>exact⟨0,bz,aR _,rfl,hst,hlen0,rfl⟩
 case round=>
  obtain⟨k,bs0,hk,rfl,hI,hn0,hrd⟩:=hrel;have HR:Hid _:=hrd;clear hrd hst hlen0;(have cb3:wr.cell? ⟨w.heap.size,3,none⟩=some (.slice ab body.length cb):=by rw[aC (hI.box.trans (congrArg some HRB.out.symm))];rfl);by_cases hlt:k<body.length
  ·go_wp2_with fail;go_loopw [21] (fun i wq=>∃(j:Nat)(bs:List Bool),j≤body.length∧i=.int .i64 j∧SInv w rb X R bs wq∧bs.length=nv∧(body.drop j).foldl Sc.bindLit bs=Sc.round body bs0) (fun i _=>body.length-(intOf i).toNat);case atStart=>exact⟨0,bs0,aR _,rfl,hI,hn0,rfl⟩
   case round=>
    clear hI cb3 hn0;obtain⟨j,bs1,hj,rfl,hI,hn1,hfd⟩:=hrel;have HFD:Hid _:=hfd;clear hfd;by_cases hjl:j<body.length
    ·obtain⟨b,off,rfl,p0,p1,p2,v,p3,hT⟩:=jK hL j hjl;have HT:Hid (PTermsV w v (Sc.litD body j).terms):=hT;obtain⟨at_,ct,rfl,_,_⟩:=hT;have q0:=aD hI.bel p0;have q1:=aD hI.bel p1;have q2:=aD hI.bel p2;have q3:=aD hI.bel p3;have hg:=hG j hjl;rw[←hn1]at hg;have HF2:Hid ((body.drop (j+1)).foldl Sc.bindLit (Sc.bindLit bs1 (Sc.litD body j))=Sc.round body bs0):=(kU Sc.bindLit ⟨0,0,0,[]⟩ body j hjl bs1).symm.trans HFD.out;have hb1:Below wr.heap.size wr (wr.alloc (.cells #[.int .i64 (Sc.litD body j).kind, .int .i64 (Sc.litD body j).op, .int .i64 (Sc.litD body j).pred, .slice at_ (Sc.litD body j).terms.length ct] 49)):=(aH _ _).alloc (aF _) _;have hI1:=hI.below hb1;clear p0 p1 p2 p3 hb1 hI HFD;generalize hx:Sc.litD body j=x at *;clear hx;go_wp2_with fail;refine Calls.mono (aBQ X R bs1 x (.slice at_ x.terms.length ct) _ hI1.bd (bM HT.out hI1.bel) hg) ?_;rintro e w2 ⟨u,rfl,hu,hb2⟩;have hI2:=hI1.below hb2;have hU:=hu w HT.out;(have hv:∀i,i<(Sc.binds bs1 x).length→(Sc.termD (Sc.binds bs1 x) i).var<nv:=fun i hi=>by have :=hg.2.1 _ (aBO (termD_mem hi));rw[hn1]at this;exact this);have hql:(Sc.binds bs1 x).length≤9223372036854775807:=aX (aBP bs1 x) hg.2.2;have HV2:Hid ((body.drop (j+1)).foldl Sc.bindLit (Sc.bindAll bs1 (Sc.binds bs1 x))=Sc.round body bs0):=HF2.out;clear hu hI1 hb2 q0 q1 q2 q3 HT HF2;generalize Sc.binds bs1 x=q at *;obtain⟨ao,cp,rfl,_,hU⟩:=hU;go_wp2_with fail;go_loopw [29] (fun i wz=>∃(m:Nat)(bs:List Bool),m≤q.length∧i=.int .i64 m∧SInv w rb X R bs wz∧bs.length=nv∧Sc.bindAll bs (q.drop m)=Sc.bindAll bs1 q) (fun i _=>q.length-(intOf i).toNat);case atStart=>exact⟨0,bs1,aR _,rfl,hI2,hn1,rfl⟩
     case round=>
      clear hI2;obtain⟨m,bs2,hm,rfl,hI,hn2,hbd⟩:=hrel;have HBD:Hid _:=hbd;clear hbd;by_cases hml:m<q.length
      ·obtain⟨b3,off3,rfl,hc⟩:=fG hU m hml;obtain⟨r0,r1⟩:=hc m hml;have s0:=aD hI.bel r0;have s1:=aD hI.bel r1;have hvm:=hv m hml;have HB2:Hid (Sc.bindAll (Sc.bind1 bs2 (Sc.termD q m)) (q.drop (m+1))=Sc.bindAll bs1 q):=(kU Sc.bind1 ⟨0,0⟩ q m hml bs2).symm.trans HBD.out;clear HBD r0 r1 hc hU hv;generalize hT0:Sc.termD q m=t0 at *;clear hT0;obtain⟨var,nn⟩:=t0;have hb1:Below wr.heap.size wr (wr.alloc (.cells #[.int .i64 var, .int .i64 nn] 147)):=(aH _ _).alloc (aF _) _;have hI3:=hI.below hb1;have hRlt:=aY hI.bd.row;have hXlt:=aY hI.bd.box;by_cases h5:0≤var
       ·have g5:decide (0≤var)=true:=decide_eq_true h5;obtain⟨kv,rfl⟩:∃kv:Nat,var=kv:=⟨var.toNat,oM⟩;(have hkl:kv<nv:=by simp only at hvm;omega);have hc0:=hI3.bd.c0;rw[hn2]at hc0;have hcR:=hI3.bd.at kv oM;have hfR:=bQ hI3.bd.row kv;have hI4:=(hI.set kv).below ((aH _ _).alloc (aF _) (.cells #[.int .i64 kv, .int .i64 nn] 147));(have HV:Hid (Sc.bindAll (bs2.set kv true) (q.drop (m+1))=Sc.bindAll bs1 q):=by show _=_;rw[←HB2.out];simp[Sc.bind1]);(have hn4:(bs2.set kv true).length=nv:=by rw[eE];exact hn2);clear HB2;go_wp2_with fail;go_roundw;(case rel=>exact⟨m+1,_,oM,gN,hI4,hn4,HV.out⟩);case measure=>exact mI
       have g5:decide (0≤var)=false:=decide_eq_false h5;(have HV:Hid (Sc.bindAll bs2 (q.drop (m+1))=Sc.bindAll bs1 q):=by show _=_;rw[←HB2.out];simp[Sc.bind1,h5]);clear HB2;go_wp2_with fail;go_roundw;(case rel=>exact⟨m+1,_,oM,gN,hI3,hn2,HV.out⟩);case measure=>exact mI
      (have hend:Sc.bindAll bs2 (q.drop m)=bs2:=by rw[aL oM];rfl);(have HV:Hid ((body.drop (j+1)).foldl Sc.bindLit bs2=Sc.round body bs0):=by show _=_;rw[←HV2.out,←HBD.out,hend]);clear hU hv hend;go_wp2_with fail;go_roundw;(case rel=>exact⟨j+1,_,oM,gN,hI,hn2,HV.out⟩);case measure=>exact mI
    (have hend:(body.drop j).foldl Sc.bindLit bs1=bs1:=by rw[aL oM];rfl);(have HV:Hid (Sc.rounds body (body.length-(k+1)) bs1=Sc.rounds body body.length bz):=by show _=_;rw[←HR.out,pE body _ k hlt,←HFD.out,hend]);clear hend;go_wp2_with fail;go_roundw;(case rel=>exact⟨k+1,_,oM,gN,hI,hn1,HV.out⟩);case measure=>exact mI
  have hk2:k=body.length:=oM;(have HV:Hid (bs0=Sc.rounds body body.length bz):=by show _=_;have :=HR.out;rw[hk2,iU]at this;exact this);have hc0:=hI.bd.c0;rw[hn0]at hc0;clear hk2;go_wp2_with fail;refine Calls.mono (wN R bs0 nv nv _ hn0 oM (fun i hi=>hI.bd.at i oM)) ?_;rintro e w2 ⟨rfl,q,rfl⟩;have hbel:=hI.bel;go_wp2_with fail;go_ret;exact⟨by rw[HS.out,←HV.out];simp,gI hbel _⟩
end Go.Proofs.YthenjegmigeieaaGreat
namespace Go.Proofs.YthenjegmigeieaaGreat
open Go.RowKit Go.Shelf
attribute [local go_sem] Oper.semAt_some
abbrev HP(n:Nat):={p:Int×Int//0≤p.1∧p.1<(n:Int)∧(p.2=0∨p.2=1)}
namespace St
theorem strict01(r:Sc.Rule)(x:Sc.Lit):strict r x=0∨strict r x=1:=by
 unfold strict;split
 ·exact .inr rfl
 exact .inl rfl
def pair1(n:Nat)(r:Sc.Rule)(x:Sc.Lit):Option (HP n):=if h:hang x=true∧0≤x.pred∧x.pred<(n:Int)then some ⟨(x.pred,strict r x),h.2.1,h.2.2,strict01 r x⟩else none
def pairs(n:Nat)(r:Sc.Rule)(l:List Sc.Lit):List (HP n):=l.filterMap (pair1 n r)
theorem pairs_snoc(n:Nat)(r:Sc.Rule)(l:List Sc.Lit)(x:Sc.Lit):pairs n r (l++[x])=pairs n r l++(pair1 n r x).toList:=by unfold pairs;rw[List.filterMap_append,fW,List.filterMap_nil];cases pair1 n r x<;>rfl
theorem pairs_length(n:Nat)(r:Sc.Rule)(l:List Sc.Lit):(pairs n r l).length≤l.length:=List.length_filterMap_le _ _
def Bound(n:Nat)(l:List Sc.Lit):Prop:=∀x,x∈l→hang x=true→0≤x.pred∧x.pred<(n:Int)
theorem pair1_some{n:Nat}{r:Sc.Rule}{x:Sc.Lit}(h:hang x=true)(h0:0≤x.pred)(h1:x.pred<(n:Int)):pair1 n r x=some ⟨(x.pred,strict r x),h0,h1,strict01 r x⟩:=by unfold pair1;rw[dif_pos ⟨h,h0,h1⟩]
theorem pair1_none{n:Nat}{r:Sc.Rule}{x:Sc.Lit}(h:¬hang x=true):pair1 n r x=none:=by unfold pair1;rw[dif_neg (fun k=>h k.1)]
theorem pairs_edges{n:Nat}{r:Sc.Rule}:∀{l:List Sc.Lit},Bound n l→(pairs n r l).map (fun p=>((r.pred.toNat,p.1.1.toNat,p.1.2):Fx.Edge))=(l.filter hang).map fun x=>(r.pred.toNat,x.pred.toNat,strict r x)
 |[],_=>rfl
 |x::l,h=>by
  have ih:=pairs_edges (r:=r) (l:=l) (fun y hy=>h y (aP _ hy));unfold pairs at ih ⊢;by_cases hx:hang x=true
  ·have hb:=h x bA hx;rw[fW,pair1_some hx hb.1 hb.2,gA,if_pos hx,eT,eT,ih]
  rw[fW,pair1_none hx,gA,if_neg hx,ih]
end St
def HK(n0 RB:Nat)(W W':World):Prop:=Below n0 W W'∧∀o:Obj,o.isCells=true→W.heap[RB]?=some o→W'.heap[RB]?=some o
theorem HK.refl(n0 RB:Nat)(W:World):HK n0 RB W W:=⟨aH _ _,fun _ _ h=>h⟩
theorem HK.trans{n0 RB:Nat}{A B C:World}(h:HK n0 RB A B)(k:HK n0 RB B C):HK n0 RB A C:=⟨h.1.trans k.1,fun o ho hA=>k.2 o ho (h.2 o ho hA)⟩
theorem HK.put{n0 RB:Nat}{w:World}(hn:n0≤w.heap.size)(W:World)(l:Nat)(o o':Obj)(hl:w.heap.size≤l)(h:W.heap[l]?=some o)(h1:o.isCells=false)(h2:o.isWalk=false):HK n0 RB W (W.putObj l o'):=by
 refine⟨belowK_b hn W l o o' hl h h1 h2,fun q hq hR=>?_⟩;by_cases hlr:RB=l
 ·subst hlr;rw[h]at hR;cases hR;rw[h1]at hq;cases hq
 rw[World.putObj_heap_other hlr];exact hR
theorem HK.alloc{n0 RB:Nat}{W:World}(hn:n0≤W.heap.size)(o:Obj):HK n0 RB W (W.alloc o):=
 ⟨(aH _ _).alloc hn o,fun _ _ hR=>((aH W.heap.size W).alloc (aF _) o).block RB (aJ.mp hR).1 |>.trans hR⟩
abbrev hangEnc{n:Nat}(p:HP n):Array Value:=#[.int .i64 p.1.1, .int .i64 p.1.2]
theorem aBB(F:Fence)(n:Nat)(h78:F.fn 204)(hro:F.round=none)(hn:1≤n)(l RB:Nat)(wp:World)(np:Nat)(r:Sc.Rule)(vt:Value)(ab:Option Addr)(cb:Nat)(hL:PLitsAt wp ab r.body)(hlen:r.body.length≤9223372036854775807)(hG:St.Bound np r.body)(J Jx:List (HP np)→World→Prop)(W:World)
 (hJa:∀s A B,J s A→A.grownBy B none→J s B) (hWp:Below wp.heap.size wp W)
 (hY:∀pre x W1,J pre W1→pre.length<r.body.length→YieldAt F (n-1) Tryz.prog l (hangEnc x) W1 fun e W'=>
  (e=.returned (.bool true)∧J (pre++[x]) W'∧HK wp.heap.size RB W1 W')∨(e=.returned (.bool false)∧Jx (pre++[x]) W'))
 (hR:W.heap[RB]?=some (.cells #[.int .i64 r.pred,vt, .int .i64 r.fold, .slice ab r.body.length cb, .int .i64 r.vars] 40)) (h0:J [] W):
 CallsIn F n Tryz.prog 204 #[.func (.yield l) #[] #[], .pointer (some ⟨RB,0,none⟩)] W fun e W'=>(∃v,e=.returned v)∧
  ((∃ys,ys=St.pairs np r r.body∧J ys W')∨(∃pre,(∃k,pre=St.pairs np r (r.body.take k))∧Jx pre W')):=by
 refine callsIn_of_wp Tryz.func204 rfl h78 ?_ hro;simp only[Tryz.ntmps204,List.size_toArray,dK,List.length_nil,Nat.reduceAdd,Nat.reduceSub,Array.replicate_succ,Array.replicate_zero,List.push_toArray,List.append_toArray,eW,gS];(have c3:W.cell? ⟨RB,3,none⟩=some (.slice ab r.body.length cb):=by rw[aC hR];rfl);have HL:Hid (PLitsAt wp ab r.body):=hL;have HY:Hid _:=hY;have HGG:Hid _:=hG;have HJA:Hid _:=hJa;have HR:Hid _:=hR;clear hL hY hJa hR hG;gi_wp2;gi_loopw [9] (fun i wr=>∃k:Nat,k≤r.body.length∧i=.int .i64 k∧J (St.pairs np r (r.body.take k)) wr∧HK wp.heap.size RB W wr) (fun i _=>r.body.length-(intOf i).toNat);case atStart=>exact⟨0,aR _,rfl,h0,HK.refl _ _ _⟩
 case round=>
  clear c3 h0;obtain⟨k,hk,rfl,hJs,hK⟩:=hrel;have hBp:Below wp.heap.size wp wr:=hWp.trans hK.1;have HBP:Hid _:=hBp;have hRr:=hK.2 _ rfl HR.out;have HKK:Hid _:=hK;have HJS:Hid _:=hJs;(have c2:wr.cell? ⟨RB,2,none⟩=some (.int .i64 r.fold):=by rw[aC hRr];rfl);clear hK hJs;by_cases hlt:k<r.body.length
  ·obtain⟨b,off,rfl,p0,p1,p2,v,p3,hT⟩:=jK HL.out k hlt;obtain⟨at_,ct,rfl,_,_⟩:=hT;have q0:=aD hBp p0;have q1:=aD hBp p1;have q2:=aD hBp p2;have q3:=aD hBp p3;have hnw:wp.heap.size≤wr.heap.size:=hBp.size;have HTK:Hid (r.body.take (k+1)=r.body.take k++[Sc.litD r.body k]):=by
    show _=_;rw[cY]
    congr 1
    unfold Sc.litD;rw[aE,aG hlt];rfl
   (have HPL:Hid ((St.pairs np r (r.body.take k)).length<r.body.length):=by show _<_;have :=St.pairs_length np r (r.body.take k);rw[bC]at this;omega);have HBX:Hid (St.hang (Sc.litD r.body k)=true→0≤(Sc.litD r.body k).pred∧(Sc.litD r.body k).pred<(np:Int)):=HGG.out _ (by unfold Sc.litD;rw[aE,aG hlt];exact cR hlt);clear p0 p1 p2 p3 hBp;generalize Sc.litD r.body k=x at *;have e2:(wr.alloc (.cells #[.int .i64 x.kind, .int .i64 x.op, .int .i64 x.pred, .slice at_ x.terms.length ct] 49)).cell? ⟨RB,2,none⟩=some (.int .i64 r.fold):=aD ((aH _ _).alloc (aF _) _) c2;have HG:Hid (J (St.pairs np r (r.body.take k)) (wr.alloc (.cells #[.int .i64 x.kind, .int .i64 x.op, .int .i64 x.pred, .slice at_ x.terms.length ct] 49))):=HJA.out _ _ _ HJS.out (World.grownBy_alloc _ _ none);have HA:Hid (HK wp.heap.size RB wr (wr.alloc (.cells #[.int .i64 x.kind, .int .i64 x.op, .int .i64 x.pred, .slice at_ x.terms.length ct] 49))):=HK.alloc hnw _;obtain⟨kd,op,pd,ts⟩:=x;dsimp only at *;by_cases h1:kd=1
   ·subst h1;(have hh:St.hang ⟨1,op,pd,ts⟩=true:=by simp[St.hang]);by_cases hfo:r.fold=0
    ·(have hfb:(r.fold==0)=true:=by simp[hfo]);have hpd:=HBX.out hh;(have HS:Hid (St.pairs np r (r.body.take (k+1))=St.pairs np r (r.body.take k)++[⟨(pd,0),hpd.1,hpd.2, .inl rfl⟩]):=by show _=_;rw[HTK.out,St.pairs_snoc,St.pair1_some hh hpd.1 hpd.2];simp[St.strict,hfo]);clear hh hfo;obtain⟨fn,tmps,assign,body,hy,hR⟩:=HY.out _ ⟨(pd,0),hpd.1,hpd.2, .inl rfl⟩ _ HG.out HPL.out;dsimp only[hangEnc]at hy;gi_wp2;refine hR.mono ?_;rintro e W3 (⟨rfl,hJ3,hk3⟩|⟨rfl,hJx3⟩)
     ·gi_wp2;go_roundw;(case rel=>exact⟨k+1,hlt,by simp,by rw[HS.out];exact hJ3,HK.trans HKK.out (HK.trans HA.out hk3)⟩);case measure=>exact mI
     gi_wp2;refine bodyPost_ret (results_none rfl _ _ _) rfl ?_;exact⟨⟨_,rfl⟩, .inr ⟨_,⟨k+1,HS.out.symm⟩,hJx3⟩⟩
    (have hfb:(r.fold==0)=false:=by simp[hfo]);have hpd:=HBX.out hh;(have HS:Hid (St.pairs np r (r.body.take (k+1))=St.pairs np r (r.body.take k)++[⟨(pd,1),hpd.1,hpd.2, .inr rfl⟩]):=by show _=_;rw[HTK.out,St.pairs_snoc,St.pair1_some hh hpd.1 hpd.2];simp[St.strict,hfo]);clear hh hfo;obtain⟨fn,tmps,assign,body,hy,hR⟩:=HY.out _ ⟨(pd,1),hpd.1,hpd.2, .inr rfl⟩ _ HG.out HPL.out;dsimp only[hangEnc]at hy;gi_wp2;refine hR.mono ?_;rintro e W3 (⟨rfl,hJ3,hk3⟩|⟨rfl,hJx3⟩)
    ·gi_wp2;go_roundw;(case rel=>exact⟨k+1,hlt,by simp,by rw[HS.out];exact hJ3,HK.trans HKK.out (HK.trans HA.out hk3)⟩);case measure=>exact mI
    gi_wp2;refine bodyPost_ret (results_none rfl _ _ _) rfl ?_;exact⟨⟨_,rfl⟩, .inr ⟨_,⟨k+1,HS.out.symm⟩,hJx3⟩⟩
   (have h1b:(kd==1)=false:=by simp[h1]);by_cases h2:kd=2
   ·subst h2;(have hh:St.hang ⟨2,op,pd,ts⟩=true:=by simp[St.hang]);clear h1 h1b;have hpd:=HBX.out hh;(have HS:Hid (St.pairs np r (r.body.take (k+1))=St.pairs np r (r.body.take k)++[⟨(pd,1),hpd.1,hpd.2, .inr rfl⟩]):=by show _=_;rw[HTK.out,St.pairs_snoc,St.pair1_some hh hpd.1 hpd.2];simp[St.strict]);clear hh;obtain⟨fn,tmps,assign,body,hy,hR⟩:=HY.out _ ⟨(pd,1),hpd.1,hpd.2, .inr rfl⟩ _ HG.out HPL.out;dsimp only[hangEnc]at hy;gi_wp2;refine hR.mono ?_;rintro e W3 (⟨rfl,hJ3,hk3⟩|⟨rfl,hJx3⟩)
    ·gi_wp2;go_roundw;(case rel=>exact⟨k+1,hlt,by simp,by rw[HS.out];exact hJ3,HK.trans HKK.out (HK.trans HA.out hk3)⟩);case measure=>exact mI
    gi_wp2;refine bodyPost_ret (results_none rfl _ _ _) rfl ?_;exact⟨⟨_,rfl⟩, .inr ⟨_,⟨k+1,HS.out.symm⟩,hJx3⟩⟩
   (have h2b:(kd==2)=false:=by simp[h2]);(have HS:Hid (St.pairs np r (r.body.take (k+1))=St.pairs np r (r.body.take k)):=by show _=_;rw[HTK.out,St.pairs_snoc,St.pair1_none (by simp[St.hang,h1,h2])];simp);(have hn1:(kd != 1)=true:=by simp[h1]);(have hn2:(kd != 2)=true:=by simp[h2]);clear h1 h2 h1b h2b;gi_wp2;go_roundw;(case rel=>exact⟨k+1,hlt,by simp,by rw[HS.out];exact HG.out,HK.trans HKK.out HA.out⟩);case measure=>exact mI
  obtain rfl:k=r.body.length:=oM;clear c2 hRr;gi_wp2;go_end0;have h9:=HJS.out;rw[gR]at h9;exact⟨⟨_,rfl⟩, .inl ⟨_,rfl,h9⟩⟩
theorem aCs(F:Fence)(n:Nat)(h61:F.fn 168)(hro:F.round=none)(r:Sc.Rule)(at_ ab:Option Addr)(ct cb:Nat)(w:World):
 CallsIn F n Tryz.prog 168 #[pruleVal r (.slice at_ r.terms.length ct) (.slice ab r.body.length cb)] w fun e w'=>e=.returned (.func (.func 204) #[] #[.pointer (some ⟨w.heap.size,0,none⟩)])∧
  w'=w.alloc (.cells #[.int .i64 r.pred, .slice at_ r.terms.length ct, .int .i64 r.fold, .slice ab r.body.length cb, .int .i64 r.vars] 40):=by
 have hmf:∀(fn:Fn)(first cap:Array Value)(w:World),(Instr.makeFunc fn first cap).run Tryz.prog w=.ok (.func fn first cap) w:=fun _ _ _ _=>rfl;refine callsIn_of_wp Tryz.func168 rfl h61 ?_ hro;simp only[Tryz.ntmps168,List.size_toArray,dK,List.length_nil,Nat.reduceAdd,Nat.reduceSub,Array.replicate_succ,Array.replicate_zero,List.push_toArray,List.append_toArray,eW,gS];gi_wp2;go_ret;exact⟨rfl,rfl⟩
theorem yX(F:Fence)(n:Nat)(h78:F.fn 204)(hro:F.round=none)(hn:1≤n)(RB:Nat)(wp:World)(np:Nat)(r:Sc.Rule)(vt:Value)(ab:Option Addr)(cb:Nat)(hL:PLitsAt wp ab r.body)(hlen:r.body.length≤9223372036854775807)(hG:St.Bound np r.body)(w:World)
 (hWp:Below wp.heap.size wp w) (hR:w.heap[RB]?=some (.cells #[.int .i64 r.pred,vt, .int .i64 r.fold, .slice ab r.body.length cb, .int .i64 r.vars] 40)):
 SeqStopsK F n Tryz.prog 204 #[.pointer (some ⟨RB,0,none⟩)] (fun x:HP np=>hangEnc x) (HK wp.heap.size RB) (fun ys=>ys=St.pairs np r r.body) (fun pre=>∃k,pre=St.pairs np r (r.body.take k)) r.body.length w:=fun l J Jx W hW hJ _ hY h0=>
 aBB F n h78 hro hn l RB wp np r vt ab cb hL hlen hG J Jx W (fun s A B hs hg=>hJ s A B none hs hg (fun _ e=>by cases e)) (hWp.trans (hW.mono hWp.size)) hY ((hW.block RB (aJ.mp hR).1).trans hR) h0
end Go.Proofs.YthenjegmigeieaaGreat
namespace Go.Proofs.YthenjegmigeieaaGreat
open Go.RowKit Go.Shelf
def intRow(l:List Int):Array Value:=(l.map (Value.int .i64)).toArray
theorem kC{w:World}{b:Nat}{l:List Int}(h:w.heap[b]?=some (.cells (intRow l) 3)){i:Nat}(hi:i<l.length):w.cell? ⟨b,i,none⟩=some (.int .i64 (l.getD i 0)):=by rw[aC h];unfold intRow;simp[hi]
theorem qT{w:World}{b:Nat}{l:List Int}(h:w.heap[b]?=some (.cells (intRow l) 3))(i:Nat)(v:Int):(w.setCell ⟨b,i,none⟩ (.int .i64 v)).heap[b]?=some (.cells (intRow (l.set i v)) 3):=by rw[bL h];unfold intRow;simp[List.map_set]
theorem bH{w:World}{b c i:Nat}{v:Value}(h:¬c=b):(w.setCell ⟨b,i,none⟩ v).heap[c]?=w.heap[c]?:=dO _ _ _ _ h
def MarksL(B:Nat)(w:World):List Deferred→Prop
 |[]=>True
 |d::ds=>(∃D,B≤D∧d={target:=.collected D,args:=#[]}∧w.heap[D]?=some (.deferred (some []))∧∀d',d'∈ds→d'≠d)∧MarksL B w ds
theorem MarksL.keep{B:Nat}{w w':World}:∀{ds:List Deferred},MarksL B w ds→(∀D,B≤D→{target:=.collected D,args:=#[]}∈ds→w.heap[D]?=some (.deferred (some []))→w'.heap[D]?=some (.deferred (some [])))→MarksL B w' ds
 |[],_,_=>trivial
 |_::_,⟨⟨D,hB,hd,hD,hn⟩,h⟩,hk=>⟨⟨D,hB,hd,hk D hB (hd▸bA) hD,hn⟩,h.keep fun D' hB' hm hD'=>hk D' hB' (aP _ hm) hD'⟩
theorem MarksL.mem{B:Nat}{w:World}:∀{ds:List Deferred},MarksL B w ds→∀D,{target:=.collected D,args:=#[]}∈ds→w.heap[D]?=some (.deferred (some []))
 |d::ds,⟨⟨D0,hB,hd,hD,hn⟩,h⟩,D,hm=>by
  rcases bD.mp hm with hm|hm
  ·rw[hd]at hm;injection hm with h1 _;injection h1 with h1;rw[h1];exact hD
  exact h.mem D hm
theorem pI{F:Fence}{n:Nat}{P:Program}{fn:Func}{tmps:Array Value}{R:Ending→World→Prop}{v:Value}{B:Nat}(hres:∀w,(results fn tmps).run P w=.ok v w):
 ∀(ds:List Deferred)(w:World),MarksL B w ds→(∀w',Below B w w'→R (.returned v) w')→LeavesInM F n P fn tmps R ds .returning w
 |[],w,_,hR=>⟨v,hres w,hR w (aH _ _)⟩
 |d::ds,w,⟨⟨D,hB,hd,hD,hn⟩,h⟩,hR=>by subst hd;refine⟨by simp, .inl ⟨D,_,rfl,run_takeDeferred hD,?_⟩⟩;have hlt:=(aJ.mp hD).1;have hb:Below B w (w.putObj D (.deferred none)):=(aH B w).grown (grownBy_putObj' w D (.deferred none)) oM (fun k e=>by cases e;exact hB);refine pI hres ds _ (h.keep fun D' hB' hm hD'=>?_) (fun w' hb'=>hR w' (hb.trans hb'));rw[World.putObj_heap_other (fun e=>hn _ hm (by rw[e]))];exact hD'
theorem Fx.step_bound{l:List Int}{e:Fx.Edge}{K:Int}(h:∀i:Nat,l.getD i 0≤K)(he:e.2.2≤1)(i:Nat):(Fx.step l e).getD i 0≤K+1:=by
 unfold Fx.step;split
 ·rw[Fx.getD_set];split
  ·have :=h e.2.1;omega
  have :=h i;omega
 have :=h i;omega
theorem Fx.round_bound:∀(E:List Fx.Edge){l:List Int}{K:Int},(∀i:Nat,l.getD i 0≤K)→(∀e,e∈E→e.2.2≤1)→∀i:Nat,(Fx.round E l).getD i 0≤K+E.length
 |[],l,K,h,_,i=>by have :=h i;simpa[Fx.round]using this
 |e::E,l,K,h,he,i=>by have h1:=Fx.round_bound E (l:=Fx.step l e) (K:=K+1) (Fx.step_bound h (he e bA)) (fun e' h'=>he e' (aP _ h')) i;show(Fx.round E (Fx.step l e)).getD i 0≤_;rw[dK];omega
theorem Fx.round_snoc(E:List Fx.Edge)(e:Fx.Edge)(l:List Int):Fx.round (E++[e]) l=Fx.step (Fx.round E l) e:=by unfold Fx.round;rw[kF];rfl
theorem Fx.rose_snoc(E:List Fx.Edge)(e:Fx.Edge)(l:List Int)(hi:e.1<l.length):
 decide (Fx.round (E++[e]) l≠l)=(decide (Fx.round E l≠l)||decide ((Fx.round E l).getD e.1 0<(Fx.round E l).getD e.2.1 0+e.2.2)):=by
 rw[Fx.round_snoc];by_cases hr:(Fx.round E l).getD e.1 0<(Fx.round E l).getD e.2.1 0+e.2.2
 ·have h1:=Fx.round_le E l;have h2:=Fx.step_le (Fx.round E l) e;(have hne:Fx.step (Fx.round E l) e≠l:=fun hc=>by rw[hc]at h2;have h3:=Fx.Le.anti h1 h2;(have h4:(Fx.step (Fx.round E l) e).getD e.1 0=(Fx.round E l).getD e.2.1 0+e.2.2:=by unfold Fx.step;rw[if_pos hr,Fx.getD_set,if_pos ⟨rfl,by rw[Fx.round_length];exact hi⟩]);rw[hc]at h4;have h5:l.getD e.1 0=(Fx.round E l).getD e.1 0:=congrArg (fun x:List Int=>x.getD e.1 0) h3;omega);rw[decide_eq_true hne,decide_eq_true hr,gH]
 (have h1:Fx.step (Fx.round E l) e=Fx.round E l:=by unfold Fx.step;rw[if_neg hr]);rw[h1,decide_eq_false hr,Bool.or_false]
end Go.Proofs.YthenjegmigeieaaGreat
namespace Go.Proofs.YthenjegmigeieaaGreat
open Go.RowKit
theorem bY(w:World)(n:Nat):Below w.heap.size w (w.drewN n):=⟨rfl,rfl,rfl,aF _,fun _ _=>rfl⟩
def wayArr(y:Ru.Way):Array Value:=(y.nums.map (Value.int .i64)++y.known.map Value.bool).toArray
abbrev wayVal(y:Ru.Way):Value:=.agg (wayArr y)
def WayAt(w:World)(b:Nat)(y:Ru.Way):Prop:=w.heap[b]?=some (.cells (wayArr y) 138)
theorem WayAt.num{w:World}{b:Nat}{y:Ru.Way}(h:WayAt w b y)(hy:Ru.Wf 8 y){i:Nat}(hi:i<8):w.cell? ⟨b,i,none⟩=some (.int .i64 (y.nums.getD i 0)):=by rw[aC h];unfold wayArr;(have h1:i<(y.nums.map (Value.int .i64)).length:=by rw[aO,hy.n];exact hi);rw[List.getElem?_toArray,eH h1,bK,aE,aG (by rw[hy.n];exact hi)];rfl
theorem WayAt.kn{w:World}{b:Nat}{y:Ru.Way}(h:WayAt w b y)(hy:Ru.Wf 8 y){i:Nat}(hi:i<8):w.cell? ⟨b,8+i,none⟩=some (.bool (y.known.getD i false)):=by rw[aC h];unfold wayArr;(have h1:(y.nums.map (Value.int .i64)).length=8:=by rw[aO,hy.n]);rw[List.getElem?_toArray,eB oM,h1,jC,bK,aE,aG (by rw[hy.k];exact hi)];rfl
theorem sF(t:Sc.Term)(x:List Int)(v:Value)(w:World)(hV:IntsV w v x)(ht:t.var<0∨t.var.toNat<x.length):
 Calls Tryz.prog 105 #[ptermVal t,v] w fun e w'=>e=.returned (.int .i64 (Ru.num x t))∧Below w.heap.size w w':=by
 obtain⟨ao,c,rfl,hA⟩:=hV;have hb:Below w.heap.size w (w.alloc (.cells #[.int .i64 t.var, .int .i64 t.n] 147)):=(aH _ _).alloc (aF _) _;by_cases h:t.var<0
 ·have g:decide (t.var<0)=true:=decide_eq_true h;(have HV:Hid (Ru.num x t=t.n):=by show _=_;unfold Ru.num;rw[if_pos h]);clear ht h hA
  go_enter Tryz.func105,Tryz.ntmps105
  go_wp2;go_ret;exact⟨rV,hb⟩
 have g:decide (t.var<0)=false:=decide_eq_false h;(have hl:t.var.toNat<x.length:=by rcases ht with h1|h1;exact absurd h1 h;exact h1);obtain⟨k,hk⟩:∃k:Nat,t.var=k:=⟨t.var.toNat,oM⟩;(have HV:Hid (Ru.num x t=Sc.intD x k):=by show _=_;unfold Ru.num;rw[if_neg h,hk];rfl);have hkl:k<x.length:=oM;obtain⟨b,off,rfl,q0⟩:=fS hA k hkl;have q1:=aD hb q0;obtain⟨var,nn⟩:=t;simp only at hk h g ht hl;subst hk;clear ht h hl hA q0;generalize Sc.intD x k=vv at *
 go_enter Tryz.func105,Tryz.ntmps105
 go_wp2;go_ret;exact⟨rV,hb⟩
theorem lN(y:Ru.Way)(t:Sc.Term)(w:World)(hy:Ru.Wf 8 y)(ht:Ru.TermIn 8 t):
 Calls Tryz.prog 210 #[wayVal y,ptermVal t] w fun e w'=>e=.returned (.bool (Sc.known y.known t))∧Below w.heap.size w w':=by
 have hb:Below w.heap.size w ((w.alloc (.cells (wayArr y) 138)).alloc (.cells #[.int .i64 t.var, .int .i64 t.n] 147)):=((aH _ _).alloc (aF _) _).alloc sI _;(have hW:WayAt ((w.alloc (.cells (wayArr y) 138)).alloc (.cells #[.int .i64 t.var, .int .i64 t.n] 147)) w.heap.size y:=by have :=((aH (w.alloc (.cells (wayArr y) 138)).heap.size (w.alloc (.cells (wayArr y) 138))).alloc (aF _) (.cells #[.int .i64 t.var, .int .i64 t.n] 147)).block w.heap.size sI;exact this.trans (heap_alloc_new w _));unfold Sc.known;by_cases h:t.var<0
 ·have g:decide (t.var<0)=true:=decide_eq_true h;clear ht h hW
  go_enter Tryz.func210,Tryz.ntmps210
  go_wp2;go_ret;exact⟨by rw[g];rfl,hb⟩
 have g:decide (t.var<0)=false:=decide_eq_false h;(have hl:t.var.toNat<8:=by rcases ht with h1|h1;exact absurd h1 h;exact h1);obtain⟨k,hk⟩:∃k:Nat,t.var=k:=⟨t.var.toNat,oM⟩;have hkl:k<8:=oM;have q:=hW.kn hy hkl;obtain⟨var,nn⟩:=t;simp only at hk h g ht hl;subst hk;clear ht h hl hW
 go_enter Tryz.func210,Tryz.ntmps210
 go_wp2;go_ret;exact⟨rfl,hb⟩
theorem WayAt.ints{w:World}{b:Nat}{y:Ru.Way}(h:WayAt w b y)(hy:Ru.Wf 8 y):IntsV w (.slice (some ⟨b,0,none⟩) 8 8) y.nums:=by refine⟨some ⟨b,0,none⟩,8,by rw[hy.n], .inr ⟨b,0,rfl,fun i hi=>?_⟩⟩;rw[cV];exact h.num hy (by rw[←hy.n];exact hi)
theorem WayAt.below{w w':World}{b:Nat}{y:Ru.Way}(h:WayAt w b y)(hb:Below w.heap.size w w'):WayAt w' b y:=(hb.block _ (aY h)).trans h
theorem lI(w:World)(o q:Obj):((w.alloc o).alloc q).heap[w.heap.size]?=some o∧((w.alloc o).alloc q).heap[w.heap.size+1]?=some q∧Below w.heap.size w ((w.alloc o).alloc q):=by
 refine⟨?_,?_,((aH _ _).alloc (aF _) _).alloc sI _⟩
 ·have :=((aH (w.alloc o).heap.size (w.alloc o)).alloc (aF _) q).block w.heap.size sI;exact this.trans (heap_alloc_new w _)
 have :=heap_alloc_new (w.alloc o) q;simpa using this
theorem gZ(y:Ru.Way)(t:Sc.Term)(w:World)(hy:Ru.Wf 8 y)(ht:Ru.TermIn 8 t):
 Calls Tryz.prog 187 #[wayVal y,ptermVal t] w fun e w'=>e=.returned (.int .i64 (Ru.num y.nums t))∧Below w.heap.size w w':=by
 obtain⟨h0,h1,hb⟩:=lI w (.cells (wayArr y) 138) (.cells #[.int .i64 t.var, .int .i64 t.n] 147);have HW:Hid (WayAt ((w.alloc (.cells (wayArr y) 138)).alloc (.cells #[.int .i64 t.var, .int .i64 t.n] 147)) w.heap.size y):=h0;have HB:Hid _:=hb;(have c0:((w.alloc (.cells (wayArr y) 138)).alloc (.cells #[.int .i64 t.var, .int .i64 t.n] 147)).cell? ⟨w.heap.size+1,0,none⟩=some (.int .i64 t.var):=by rw[aC h1];rfl);(have c1:((w.alloc (.cells (wayArr y) 138)).alloc (.cells #[.int .i64 t.var, .int .i64 t.n] 147)).cell? ⟨w.heap.size+1,1,none⟩=some (.int .i64 t.n):=by rw[aC h1];rfl);(have HT:Hid (t.var<0∨t.var.toNat<y.nums.length):=by show _∨_;rw[hy.n];exact ht);clear h0 h1 hb ht
 go_enter Tryz.func187,Tryz.ntmps187
 go_upto_region 1 with fail;generalize (w.alloc (.cells (wayArr y) 138)).alloc (.cells #[.int .i64 t.var, .int .i64 t.n] 147)=w1 at *;(go_region_with (go_at_call 105;refine Calls.mono (sF t y.nums _ _ (WayAt.ints (WayAt.below HW.out (bY w1 _)) hy) HT.out) ?_;rintro _ w2 ⟨rfl,hb2⟩));go_wp2_with fail;go_ret;exact⟨rfl,HB.out.drew.trans (hb2.mono HB.out.size)⟩
theorem gX{y:Ru.Way}(hy:Ru.Wf 8 y):(wayArr y).size=16:=by unfold wayArr;rw[List.size_toArray,aN,aO,aO,hy.n,hy.k]
theorem qE(y:Ru.Way):(wayArr y).all (·.oneCell')=true:=by
 unfold wayArr;refine all_oneCell_toArray fun v hv=>?_;rcases bX.mp hv with h|h
 ·obtain⟨n,_,rfl⟩:=bO.mp h;rfl
 obtain⟨n,_,rfl⟩:=bO.mp h;rfl
theorem qD:(Tryz.prog.info? 138).map (·.size)=some 16:=kR
theorem aA4{w:World}{b:Nat}{y:Ru.Way}(h:WayAt w b y):w.rangeAt b 0 (wayArr y).toList:=fun j v hv=>by rw[cV,aC h];simpa using hv
theorem pJ{w:World}{b:Nat}{y:Ru.Way}(h:WayAt w b y)(hy:Ru.Wf 8 y):(loadVar 138 ⟨b,0,none⟩).run Tryz.prog w=.ok (wayVal y) w:=by have :=run_loadVar_mid (P:=Tryz.prog) w b 0 138 (wayArr y).toList _ (aA4 h) Tryz.underlying138 rfl (by rw[nW,gX hy];exact qD);simpa using this
theorem fO{a:Act}{o:Oper}{x:Operand}{w:World}{b:Nat}{y:Ru.Way}(ho:o.op=.load 138 x)(hx:a.eval x=.pointer (some ⟨b,0,none⟩))(h:WayAt w b y)(hy:Ru.Wf 8 y):(execOp a.eval o).run Tryz.prog w=.ok (.value (wayVal y)) w:=by unfold execOp;simp only[ho,hx,Instr.loadAt,Instr.sureAddr,Sem.run_bind,Sem.run_pure,Result.andThen_ok,pJ h hy]
theorem eK{ops:Array Oper}{rest:List Oper}{o:Oper}{a:Act}{w:World}{Q:Exit→Act→World→Prop}(hw:Region.wanted o (yielded ops a.tmps)=true)(x:Operand)(ho:o.op=.load 138 x)
 (b:Nat) (hx:a.eval x=.pointer (some ⟨b,0,none⟩)) (y:Ru.Way) (hW:WayAt w b y) (hy:Ru.Wf 8 y) (h:wpList Tryz.prog ops Q rest (a.put o.dst (wayVal y)) w):wpList Tryz.prog ops Q (o::rest) a w:=by
 refine wpList_step fun K hK=>?_;rw[if_pos hw];unfold Oper.wp;rw[fO ho hx hW hy,Oper.upon_value];exact hK _ _ h
theorem kG{ops:Array Oper}{rest:List Oper}{o:Oper}{a:Act}{w:World}{Q:Exit→Act→World→Prop}(hgd:o.guard=none)(x u:Operand)(ho:o.op=.store 138 x u)
 (b:Nat) (hx:a.eval x=.pointer (some ⟨b,0,none⟩)) (y z:Ru.Way) (hu:a.eval u=wayVal z) (hW:WayAt w b y) (hy:Ru.Wf 8 y) (hz:Ru.Wf 8 z) (h:wpList Tryz.prog ops Q rest (a.put o.dst undef) (w.setRow b (wayArr z))):wpList Tryz.prog ops Q (o::rest) a w:=by
 refine wpList_plain hgd fun K hK=>?_;have hr:=run_storeVar_row (P:=Tryz.prog) w b 138 138 (wayArr y) (wayArr z) hW (by rw[gX hz];exact qD) (by rw[gX hy,gX hz]) (qE z);unfold Oper.wp execOp;simp only[ho,hx,hu,Instr.storeAt,Instr.sureAddr,Sem.run_bind,Sem.run_pure,Result.andThen_ok,hr];exact hK _ _ h
theorem pF{fn:Func}{t u:Tmp}(h:fn.results=#[.cell t 138, .tmp u]){tmps:Array Value}{w:World}{b:Nat}{y:Ru.Way}(ht:tmps.getD t undef=.pointer (some ⟨b,0,none⟩))(hW:WayAt w b y)(hy:Ru.Wf 8 y):
 (results fn tmps).run Tryz.prog w=.ok (.tuple #[wayVal y,tmps.getD u undef]) w:=by
 have h1:=pJ hW hy;(have ht':tmps[t]?.getD undef=.pointer (some ⟨b,0,none⟩):=by simpa using ht);simp[results,h,ht',asAddr,h1]
theorem qA{w:World}{b:Nat}{y z:Ru.Way}(h:WayAt w b y):WayAt (w.setRow b (wayArr z)) b z:=setRow_heap w b _ _ 138 _ h
theorem lH{w:World}{b k:Nat}{z:Ru.Way}(h:¬k=b):(w.setRow b (wayArr z)).heap[k]?=w.heap[k]?:=setRow_other w b k _ h
theorem nA{n:Nat}{w wr:World}{b:Nat}{z:Ru.Way}(h:Below n w wr)(hb:n≤b):Below n w (wr.setRow b (wayArr z)):=
 h.trans ⟨rfl,rfl,rfl,by simp,fun k hk=>setRow_other wr b k _ oM⟩
def Rl.boolD(l:List Bool)(i:Nat):Bool:=l.getD i false
def BoolsAt(w:World)(ao:Option Addr)(l:List Bool):Prop:=
 l=[]∨∃b off,ao=some ⟨b,off,none⟩∧∀i,i<l.length→w.cell? ⟨b,off+i,none⟩=some (.bool (Rl.boolD l i))
def BoolsV(w:World)(v:Value)(l:List Bool):Prop:=∃ao cap,v=.slice ao l.length cap∧(l.length≤cap∧(ao=none→cap=0))∧BoolsAt w ao l
theorem tN{w w':World}{ao:Option Addr}{l:List Bool}(h:BoolsAt w ao l)(hb:Below w.heap.size w w'):BoolsAt w' ao l:=by
 rcases h with h|⟨b,off,rfl,h⟩
 ·exact .inl h
 exact .inr ⟨b,off,rfl,fun i hi=>aD hb (h i hi)⟩
theorem sW{w w':World}{ao:Option Addr}{l:List Int}(h:IntsAt w ao l)(hb:Below w.heap.size w w'):IntsAt w' ao l:=by obtain⟨_,_,he,h⟩:=aK (⟨ao,0,rfl,h⟩:IntsV w (.slice ao l.length 0) l) hb;injection he with he;rw[he];exact h
theorem tV(w:World)(a b c:Obj):(((w.alloc a).alloc b).alloc c).heap[w.heap.size]?=some a∧(((w.alloc a).alloc b).alloc c).heap[w.heap.size+1]?=some b∧(((w.alloc a).alloc b).alloc c).heap[w.heap.size+2]?=some c:=by
 show(((w.heap.push a).push b).push c)[w.heap.size]?=some a∧(((w.heap.push a).push b).push c)[w.heap.size+1]?=some b∧(((w.heap.push a).push b).push c)[w.heap.size+2]?=some c;refine⟨?_,?_,?_⟩
 ·rw[jH,if_neg sO,jH,if_neg sI,jH,if_pos rfl]
 ·rw[jH,if_neg sI,jH,if_pos sI]
 rw[jH,if_pos sI]
theorem uO:(Tryz.prog.info? 49).map (fun i=>(i.zero,i.size,i.bytes))=some (some (.agg #[.int .i64 0, .int .i64 0, .int .i64 0, .slice none 0 0]),4,48):=kR
end Go.Proofs.YthenjegmigeieaaGreat
namespace Go.Proofs.YthenjegmigeieaaGreat
open Go.RowKit
open Go.Maps
structure NumD (ns:List (List UInt8)) (D:DataW Unit):Prop where
 size:Maps.size D=ns.length
 has:∀s:List UInt8,Maps.has D (.string s)=ns.contains s
 at_:∀s:List UInt8,s∈ns→D.atKey (.string s) (.lit (.int .i64 0))=.lit (.int .i64 (ns.idxOf s))
def NumAt(w:World)(B:Nat)(ns:List (List UInt8)):Prop:=∃D:DataW Unit,w.ownsMap Tryz.prog 9 (plainElem Tryz.prog 3) B ns.length D∧NumD ns D
theorem aC0{x:List UInt8}:∀{l m:List (List UInt8)},x∈l→(l++m).idxOf x=l.idxOf x:=by
 intro l
 induction l with
 |nil=>exact fun h=>absurd h sI
 |cons a r ih=>
  intro m h;rw[gS,List.idxOf_cons,List.idxOf_cons];by_cases ha:a=x
  ·simp[ha]
  have hx:x∈r:=by
   rcases bD.mp h with h|h
   ·exact absurd h.symm ha
   exact h
  rw[ih hx]
theorem aCZ{x:List UInt8}:∀{l:List (List UInt8)},¬x∈l→(l++[x]).idxOf x=l.length:=by
 intro l
 induction l with
 |nil=>intro _;simp
 |cons a r ih=>
  intro h;have ha:¬a=x:=fun e=>h (by simp[e]);rw[gS,List.idxOf_cons,ih (fun e=>h (aP _ e)),beq_false_of_ne ha];rfl
theorem yS{x:List UInt8}:∀{l:List (List UInt8)},¬x∈l→l.idxOf x=l.length:=by
 intro l
 induction l with
 |nil=>intro _;simp
 |cons a r ih=>
  intro h;have ha:¬a=x:=fun e=>h (by simp[e]);rw[List.idxOf_cons,ih (fun e=>h (aP _ e)),beq_false_of_ne ha];rfl
theorem numLaw:Keyed Tryz.prog 9:=string_keyed Tryz.underlying9
theorem numZero(w:World):(zeroValue 3).run Tryz.prog w=.ok (.int .i64 0) w:=kR
theorem NumD.nil:NumD [] (.map []):=⟨rfl,fun _=>rfl,fun _ h=>absurd h sI⟩
theorem NumD.push{ns:List (List UInt8)}{D:DataW Unit}(h:NumD ns D)(hT:Tidy D)(s:List UInt8)(hs:ns.contains s=false):NumD (ns++[s]) (D.put (.string s) (.lit (.int .i64 ns.length))):=by
 (have hk:WideAt.IsKeyLit (.string s):=by simp[WideAt.IsKeyLit]);(have hnm:¬s∈ns:=by simpa using hs);refine⟨?_,fun x=>?_,fun x hx=>?_⟩
 ·rw[size_put hT,h.has,hs,h.size];simp
 ·by_cases hx:x=s
  ·subst hx;rw[has_put_same hT.isMap hk];simp
  rw[has_put_other (by simpa using hx),h.has];simp[hx]
 by_cases hxs:x=s
 ·subst hxs;rw[atKey_put_same hT.isMap hk,aCZ hnm]
 have hxm:x∈ns:=by
  rcases bX.mp hx with h|h
  ·exact h
  exact absurd (by simpa using h) hxs
 rw[atKey_put_other (by simpa using hxs),h.at_ x hxm,aC0 hxm]
theorem NumAt.below{w w':World}{B:Nat}{ns:List (List UInt8)}(h:NumAt w B ns)(hb:Below w.heap.size w w'):NumAt w' B ns:=by obtain⟨D,⟨es,clock,h1,h2,h3,h4⟩,hN⟩:=h;exact⟨D,⟨es,clock,(hb.block _ (aY h1)).trans h1,h2,h3,h4⟩,hN⟩
theorem aAq(w:World):NumAt (w.alloc (.map #[] 0)) w.heap.size []:=⟨_,World.ownsMap_made _ _ _ _,NumD.nil⟩
theorem aDa(B:Nat)(ns:List (List UInt8))(s:List UInt8)(w:World)(h:NumAt w B ns)(hs:s.length≤5000)(hl:ns.length≤1000000):
 Calls Tryz.prog 174 #[.map (some B), .string ⟨s.toArray⟩] w fun e w'=>e=.returned (.int .i64 (ns.idxOf s))∧NumAt w' B (if ns.contains s then ns else ns++[s])∧w.grownBy w' (some B):=by
 obtain⟨D,hown,hN⟩:=h;(have hkey:keyOf Tryz.prog 9 (.string ⟨s.toArray⟩)=some (.string s):=by have :keyOf Tryz.prog 9 (.string ⟨s.toArray⟩)=some (.string (⟨s.toArray⟩:ByteArray).data.toList):=Go.WideMaps.keyOf_string_mk Tryz.underlying9 (by unfold maxLen;simp[ByteArray.size];omega);simpa using this);have hT:=hown.tidy numLaw;have hh:=hN.has s;cases hc:ns.contains s
 ·rw[hc]at hh;have hsz:=hN.size;have HP:Hid (NumD (ns++[s]) (D.put (.string s) (.lit (.int .i64 ns.length)))):=hN.push hT s hc;have hidx:ns.idxOf s=ns.length:=yS (by simpa using hc);clear hN hT;have hwl:(Lit.int IntKind.i64 (ns.length:Int)).wf=true:=WalkArith.wf_i64 oM
  go_enter Tryz.func174,Tryz.ntmps174
  go_wp2_with(first
   |(at_lookup;refine wpList_lookup_own_ok_int _ rfl _ _ 208 rfl 9 3 .i64 numLaw Tryz.underlying208 Tryz.underlying3 (numZero _) B ns.length D rfl hown _ _ rfl hkey ?_;intro c hat hwc)
   |(at_len;refine wpList_len_own _ rfl _ 208 rfl 9 3 Tryz.underlying208 _ B ns.length D rfl hown ?_)
   |(at_mapUpdate;refine wpList_mapUpdate_own _ rfl _ _ _ 208 rfl 9 3 numLaw Tryz.underlying208 _ B ns.length _ rfl hown (by unfold maxLen;omega) _ _ _ rfl rfl hkey _ [] (plainElem_int Tryz.underlying3 hwl) ?_;intro w1 hown1 hgrow1))
  go_ret;exact⟨rfl,⟨_,by rw[aN];exact hown1,HP.out⟩,hgrow1⟩
 rw[hc]at hh;have hat:=hN.at_ s (by simpa using hc);have HN:Hid (NumD ns D):=hN;clear hN hT
 go_enter Tryz.func174,Tryz.ntmps174
 go_wp2_with(at_lookup;refine wpList_lookup_own_ok_int _ rfl _ _ 208 rfl 9 3 .i64 numLaw Tryz.underlying208 Tryz.underlying3 (numZero _) B ns.length D rfl hown _ _ rfl hkey ?_;intro c hac hwc);go_ret;(have hcc:c=(ns.idxOf s:Int):=by rw[hat]at hac;simpa using hac.symm);subst hcc;exact⟨rfl,⟨D,hown,HN.out⟩,iH (aH _ _) _⟩
end Go.Proofs.YthenjegmigeieaaGreat
namespace Go.Proofs.YthenjegmigeieaaGreat
open Go.RowKit
theorem aAs(s:List UInt8):(Tr.check [⟨0,s,[],0,[]⟩]==0)=Tr.isName s:=by cases h:Tr.isName s<;>simp[Tr.check,Tr.many,Tr.ruleMany,Tr.litsMany,Tr.ruleOk,Tr.termsOk,Tr.foldOk,Tr.litsOk,h]
theorem aAb(s:List UInt8)(w:World):Calls Tryz.prog 173 #[.string ⟨s.toArray⟩] w fun e w'=>e=.returned (.bool (Tr.isName s))∧Below w.heap.size w w':=by
 rw[←aAs]
 go_enter Tryz.func173,Tryz.ntmps173
 go_wp2_with fail;(have hV:RulesV (w.alloc (.cells #[.int .i64 0, .string ⟨s.toArray⟩, .slice none 0 0, .int .i64 0, .slice none 0 0] 240)) (.slice (some ⟨w.heap.size,0,none⟩) 1 1) [⟨0,s,[],0,[]⟩]:=by have hh:=heap_alloc_new w (.cells #[.int .i64 0, .string ⟨s.toArray⟩, .slice none 0 0, .int .i64 0, .slice none 0 0] 240);refine⟨some ⟨w.heap.size,0,none⟩,1,rfl, .inr ⟨w.heap.size,0,rfl,fun i hi=>?_⟩⟩;(obtain rfl:i=0:=by simpa using hi);refine⟨?_,?_,⟨_,?_,⟨none,0,rfl, .inl rfl⟩⟩,?_,_,?_,⟨none,0,rfl, .inl rfl⟩⟩<;>(rw[aC hh];rfl));refine Calls.mono (aB6 _ _ _ hV) ?_;rintro e w1 ⟨rfl,hb1⟩;have hb0:Below w.heap.size w (w.alloc (.cells #[.int .i64 0, .string ⟨s.toArray⟩, .slice none 0 0, .int .i64 0, .slice none 0 0] 240)):=(aH _ _).alloc (aF _) _;go_wp2_with fail;go_ret;exact⟨rfl,hb0.trans (hb1.mono hb0.size)⟩
structure RB (w:World) (o1 o2:Obj) (wr:World):Prop where
 bel:Below w.heap.size w wr
 b1:wr.heap[w.heap.size]?=some o1
 b2:wr.heap[w.heap.size+1]?=some o2
theorem RB.below{w wr w2:World}{o1 o2:Obj}(h:RB w o1 o2 wr)(hb:Below wr.heap.size wr w2):RB w o1 o2 w2:=
 ⟨h.bel.trans (hb.mono h.bel.size),(hb.block _ (aY h.b1)).trans h.b1,(hb.block _ (aY h.b2)).trans h.b2⟩
theorem RB.start(w:World)(o1 o2:Obj):RB w o1 o2 ((w.alloc o1).alloc o2):=⟨jB w _ _,(gY (aH _ _)).1,(gY (aH _ _)).2⟩
theorem RB.drew{w wr:World}{o1 o2:Obj}(h:RB w o1 o2 wr):RB w o1 o2 wr.drew:=⟨h.bel.drew,h.b1,h.b2⟩
theorem iT{α:Type}{f:α→Int}:∀{l:List α},Sc.first f l=0→∀x,x∈l→f x=0:=by
 intro l
 induction l with
 |nil=>exact fun _ x hx=>absurd hx sI
 |cons a r ih=>
  intro h x hx;rw[Sc.first]at h;split at h
  ·rename_i h0;rcases bD.mp hx with rfl|hx
   ·exact h0
   exact ih h x hx
  rename_i h0;exact absurd h h0
theorem nZ{l:List Sc.Lit}{i:Nat}(h:i<l.length):Sc.litD l i∈l:=by unfold Sc.litD;rw[aE,aG h];exact cR h
theorem aB8{a b:Int}(h:Sc.thn a b=0):a=0∧b=0:=by
 unfold Sc.thn at h;split at h
 ·exact⟨by assumption,h⟩
 rename_i h0;exact absurd h h0
theorem yL{ar:List Int}{vars:Int}{x:Sc.Lit}(h:Sc.litAll ar vars x=0)(h0:0≤vars)(hF:LitFit x):LitGood vars.toNat x:=by
 obtain⟨h1,h2⟩:=aB8 h;refine⟨fun h4=>?_,fun t ht=>?_,hF⟩
 ·rw[Sc.litErr,if_neg (by rw[h4];decide),if_neg (by rw[h4];decide),if_pos h4]at h1;split at h1
  ·split at h1
   ·exact absurd h1 dE
   rename_i hn;exact Classical.byContradiction fun hne=>hn (.inr hne)
  exact absurd h1 dE
 have :=iT h2 t ht;unfold Sc.termErr Tr.between at this;split at this
 ·rename_i hb;simp at hb;omega
 exact absurd this dE
theorem tJ(ar:List Int)(va vn vr:Value)(r:Sc.Rule)(vt vb:Value)(w:World)(hA:IntsV w va ar)(hT:PTermsV w vt r.terms)(hL:PLitsV w vb r.body)(hF:RuleFit r):
 Calls Tryz.prog 175 #[progVal va vn vr,pruleVal r vt vb] w fun e w'=>e=finE (Sc.ruleErr ar r)∧Below w.heap.size w w':=by
 obtain⟨ao,cap,rfl,hA⟩:=hA;obtain⟨pred,ts,fold,body,vars⟩:=r;have HT:Hid (PTermsV w vt ts):=hT;have HL:Hid (PLitsV w vb body):=hL;have HA:Hid (IntsV w (.slice ao ar.length cap) ar):=⟨ao,cap,rfl,hA⟩;have HFT:Hid (ts.length≤9223372036854775807):=hF.1;have HFB:Hid (∀i,i<body.length→LitFit (Sc.litD body i)):=hF.2.2;obtain⟨at_,ct,rfl,_,_⟩:=hT;obtain⟨ab,cb,rfl,hLA⟩:=hL;have hLA:PLitsAt w ab body:=hLA;simp only at HT HL;clear hF;have hR:=RB.start w (.cells #[.slice ao ar.length cap,vn,vr] 26) (.cells #[.int .i64 pred, .slice at_ ts.length ct, .int .i64 fold, .slice ab body.length cb, .int .i64 vars] 40)
 have HE0:Hid (Sc.ruleErr ar ⟨pred,ts,fold,body,vars⟩=if Sc.isPred ar pred then
  Sc.thn (if(ts.length:Int)≠Sc.intD ar pred.toNat then 1 else 0) (
  Sc.thn (if Tr.between vars 0 8 then 0 else 3) (
  Sc.thn (Sc.termsErr vars ts) (
  Sc.thn (if Tr.between fold 0 4 then 0 else 7) (
  Sc.thn (if fold≠0∧(ts.length=0∨body.length=0)then 1 else 0) (
  Sc.thn (if 4<body.length then 2 else 0) (
  Sc.thn (Sc.first (Sc.litAll ar vars) body) (if Sc.safe ⟨pred,ts,fold,body,vars⟩then 0 else 4)))))))
 else 5):=rfl
 cases g1:Sc.isPred ar pred
 ·(have HV:Hid (Sc.ruleErr ar ⟨pred,ts,fold,body,vars⟩=5):=by show _=_;rw[HE0.out,g1];rfl);clear HE0 hLA HT HL HA HFT HFB
  go_enter Tryz.func175,Tryz.ntmps175
  go_wp2_with fail;refine(jP ar ao cap vn vr pred _).mono ?_;rintro e w2 ⟨he,hb2⟩;rw[g1]at he;subst he;have hR:=hR.below hb2;go_wp2_with fail;refine(cX 5 _).mono ?_;rintro e w1 ⟨rfl,hb1⟩;go_wp2_with fail;exact⟨rfl,rV,hR.bel.trans (hb1.mono hR.bel.size)⟩
 obtain⟨k,rfl,hk⟩:=nI g1;obtain⟨b,off,rfl,hc⟩:=fS hA k hk;have HC:Hid (∀y,Below w.heap.size w y→y.cell? ⟨b,off+k,none⟩=some (.int .i64 (Sc.intD ar k))):=fun y hy=>aD hy hc;clear hc hA;rw[g1,if_pos rfl,dI]at HE0
 go_enter Tryz.func175,Tryz.ntmps175
 go_wp2_with fail;refine(jP ar _ cap vn vr k _).mono ?_;rintro e w2 ⟨he,hb2⟩;rw[g1]at he;subst he;have hR:=hR.below hb2;have hq:=HC.out _ hR.bel;clear hb2 HC;go_wp2_with fail;refine(dJ 5 _).mono ?_;rintro e w1 ⟨rfl,rfl⟩;(have c1:w1.cell? ⟨w.heap.size,0,none⟩=some (.slice (some ⟨b,off,none⟩) ar.length cap):=by rw[aC hR.b1];rfl);(have d0:w1.cell? ⟨w.heap.size+1,0,none⟩=some (.int .i64 k):=by rw[aC hR.b2];rfl);(have d1:w1.cell? ⟨w.heap.size+1,1,none⟩=some (.slice at_ ts.length ct):=by rw[aC hR.b2];rfl);(have d2:w1.cell? ⟨w.heap.size+1,2,none⟩=some (.int .i64 fold):=by rw[aC hR.b2];rfl);(have d3:w1.cell? ⟨w.heap.size+1,3,none⟩=some (.slice ab body.length cb):=by rw[aC hR.b2];rfl);(have d4:w1.cell? ⟨w.heap.size+1,4,none⟩=some (.int .i64 vars):=by rw[aC hR.b2];rfl);go_upto_region 2 with fail;cases g2:((ts.length:Int) != Sc.intD ar k)
 ·(have h2:(ts.length:Int)=Sc.intD ar k:=by simpa using g2);rw[if_neg (by simp[h2]),Sc.thn_zero]at HE0;go_region_held3 (fun y=>y.cell? ⟨w.heap.size,0,none⟩=some (.slice (some ⟨b,off,none⟩) ar.length cap)∧y.cell? ⟨w.heap.size+1,0,none⟩=some (.int .i64 k)∧y.cell? ⟨w.heap.size+1,1,none⟩=some (.slice at_ ts.length ct)∧y.cell? ⟨b,off+k,none⟩=some (.int .i64 (Sc.intD ar k))) (go_keep) ((go_at_call 129;refine Calls.mono (dJ 1 _) ?_;rintro e y ⟨rfl,rfl⟩));have hR:=hR.drew;clear c1 d0 d1 d2 d3 d4 h2 hq;generalize w1.drew=wd at *;(have c1:wd.cell? ⟨w.heap.size,0,none⟩=some (.slice (some ⟨b,off,none⟩) ar.length cap):=by rw[aC hR.b1];rfl);(have d0:wd.cell? ⟨w.heap.size+1,0,none⟩=some (.int .i64 k):=by rw[aC hR.b2];rfl);(have d1:wd.cell? ⟨w.heap.size+1,1,none⟩=some (.slice at_ ts.length ct):=by rw[aC hR.b2];rfl);(have d2:wd.cell? ⟨w.heap.size+1,2,none⟩=some (.int .i64 fold):=by rw[aC hR.b2];rfl);(have d3:wd.cell? ⟨w.heap.size+1,3,none⟩=some (.slice ab body.length cb):=by rw[aC hR.b2];rfl);(have d4:wd.cell? ⟨w.heap.size+1,4,none⟩=some (.int .i64 vars):=by rw[aC hR.b2];rfl);by_cases h3:vars<0
  ·(have HV:Hid (Sc.ruleErr ar ⟨k,ts,fold,body,vars⟩=3):=by show _=_;rw[HE0.out,if_neg (by simp[Tr.between];omega)];rfl);have g3:decide (vars<0)=true:=decide_eq_true h3;clear HE0;go_wp2_with fail;refine(cX 3 _).mono ?_;rintro e w1 ⟨rfl,hb1⟩;go_wp2_with fail;exact⟨rfl,rV,hR.bel.trans (hb1.mono hR.bel.size)⟩
  have g3:decide (vars<0)=false:=decide_eq_false h3;by_cases h3b:8<vars
  ·(have HV:Hid (Sc.ruleErr ar ⟨k,ts,fold,body,vars⟩=3):=by show _=_;rw[HE0.out,if_neg (by simp[Tr.between];omega)];rfl);have g3b:decide (8<vars)=true:=decide_eq_true h3b;clear HE0;go_wp2_with fail;refine(cX 3 _).mono ?_;rintro e w1 ⟨rfl,hb1⟩;go_wp2_with fail;exact⟨rfl,rV,hR.bel.trans (hb1.mono hR.bel.size)⟩
  have g3b:decide (8<vars)=false:=decide_eq_false h3b;rw[if_pos (show Tr.between vars 0 8=true by simp[Tr.between];omega),Sc.thn_zero]at HE0;go_wp2_with fail;refine(dJ 3 _).mono ?_;rintro e w1 ⟨rfl,rfl⟩;go_wp2_with fail;refine Calls.mono (mO ts vars _ _ HFT.out (bM HT.out hR.bel)) ?_;rintro e w3 ⟨he,hb3⟩;by_cases h4:Sc.termsErr vars ts=0;rotate_left
  ·(have HV:Hid (Sc.ruleErr ar ⟨k,ts,fold,body,vars⟩=Sc.termsErr vars ts):=by show _=_;rw[HE0.out,Sc.thn_ne _ h4]);rw[iQ h4]at he;subst he;clear HE0;go_wp2_with fail;exact⟨rfl,by rw[HV.out,iQ h4],hR.bel.trans (hb3.mono hR.bel.size)⟩
  rw[h4,kO]at he;subst he;rw[h4,Sc.thn_zero]at HE0;have hR:=hR.below hb3;clear c1 d0 d1 d2 d3 d4 hb3 h4 HFT;(have c1:w3.cell? ⟨w.heap.size,0,none⟩=some (.slice (some ⟨b,off,none⟩) ar.length cap):=by rw[aC hR.b1];rfl);(have d0:w3.cell? ⟨w.heap.size+1,0,none⟩=some (.int .i64 k):=by rw[aC hR.b2];rfl);(have d1:w3.cell? ⟨w.heap.size+1,1,none⟩=some (.slice at_ ts.length ct):=by rw[aC hR.b2];rfl);(have d2:w3.cell? ⟨w.heap.size+1,2,none⟩=some (.int .i64 fold):=by rw[aC hR.b2];rfl);(have d3:w3.cell? ⟨w.heap.size+1,3,none⟩=some (.slice ab body.length cb):=by rw[aC hR.b2];rfl);(have d4:w3.cell? ⟨w.heap.size+1,4,none⟩=some (.int .i64 vars):=by rw[aC hR.b2];rfl);by_cases h5:fold<0
  ·(have HV:Hid (Sc.ruleErr ar ⟨k,ts,fold,body,vars⟩=7):=by show _=_;rw[HE0.out,if_neg (by simp[Tr.between];omega)];rfl);have g5:decide (fold<0)=true:=decide_eq_true h5;clear HE0;go_wp2_with fail;refine(cX 7 _).mono ?_;rintro e w1 ⟨rfl,hb1⟩;go_wp2_with fail;exact⟨rfl,rV,hR.bel.trans (hb1.mono hR.bel.size)⟩
  have g5:decide (fold<0)=false:=decide_eq_false h5;by_cases h5b:4<fold
  ·(have HV:Hid (Sc.ruleErr ar ⟨k,ts,fold,body,vars⟩=7):=by show _=_;rw[HE0.out,if_neg (by simp[Tr.between];omega)];rfl);have g5b:decide (4<fold)=true:=decide_eq_true h5b;clear HE0;go_wp2_with fail;refine(cX 7 _).mono ?_;rintro e w1 ⟨rfl,hb1⟩;go_wp2_with fail;exact⟨rfl,rV,hR.bel.trans (hb1.mono hR.bel.size)⟩
  have g5b:decide (4<fold)=false:=decide_eq_false h5b;rw[if_pos (show Tr.between fold 0 4=true by simp[Tr.between];omega),Sc.thn_zero]at HE0;go_wp2_with fail;refine(dJ 7 _).mono ?_;rintro e w1 ⟨rfl,rfl⟩;go_upto_region 6 with fail;by_cases h6:fold≠0∧(ts.length=0∨body.length=0)
  ·(have HV:Hid (Sc.ruleErr ar ⟨k,ts,fold,body,vars⟩=1):=by show _=_;rw[HE0.out,if_pos h6];rfl);clear HE0;(have g6:(fold != 0)=true:=by simpa using h6.1);by_cases h7:ts.length=0
   ·(have g7:((ts.length:Int)==0)=true:=by simp[h7]);clear h6 h7;go_wp2_with fail;refine(cX 1 _).mono ?_;rintro e w1 ⟨rfl,hb1⟩;go_wp2_with fail;exact⟨rfl,rV,hR.bel.trans (hb1.mono hR.bel.size)⟩
   (have g7:((ts.length:Int)==0)=false:=by simp;exact fun e=>h7 (by rw[e];rfl));have h8:body.length=0:=h6.2.resolve_left h7;(have g8:((body.length:Int)==0)=true:=by simp[h8]);clear h6 h7 h8;go_wp2_with fail;refine(cX 1 _).mono ?_;rintro e w1 ⟨rfl,hb1⟩;go_wp2_with fail;exact⟨rfl,rV,hR.bel.trans (hb1.mono hR.bel.size)⟩
  rw[if_neg h6,Sc.thn_zero]at HE0;go_cut [] (fun wx=>wx=w1)
  case first=>
   cases g6:(fold != 0)
   ·clear h6;go_wp2_with fail;refine(dJ 1 _).mono ?_;rintro e w5 ⟨rfl,rfl⟩;go_wp2_with fail;go_meet;rfl
   have h9:¬(ts.length=0∨body.length=0):=fun h=>h6 ⟨by simpa using g6,h⟩;(have g7:((ts.length:Int)==0)=false:=by simp;exact fun e=>h9 (.inl (by rw[e];rfl)));(have g8:((body.length:Int)==0)=false:=by simp;exact fun e=>h9 (.inr (by rw[e];rfl)));clear h6 h9;go_wp2_with fail;refine(dJ 1 _).mono ?_;rintro e w5 ⟨rfl,rfl⟩;go_wp2_with fail;go_meet;rfl
  case rest=>
   subst hcut;clear h6;by_cases h8:4<body.length
   ·(have HV:Hid (Sc.ruleErr ar ⟨k,ts,fold,body,vars⟩=2):=by show _=_;rw[HE0.out,if_pos h8];rfl);have g8:decide (4<body.length)=true:=decide_eq_true h8;have g8':decide ((4:Int)<(body.length:Int))=true:=decide_eq_true oM;clear HE0;go_wp2_with fail;refine(cX 2 _).mono ?_;rintro e w1 ⟨rfl,hb1⟩;go_wp2_with fail;exact⟨rfl,rV,hR.bel.trans (hb1.mono hR.bel.size)⟩
   have g8:decide (4<body.length)=false:=decide_eq_false h8;have g8':decide ((4:Int)<(body.length:Int))=false:=decide_eq_false oM;rw[if_neg h8,Sc.thn_zero]at HE0;go_wp2_with fail;refine(dJ 2 _).mono ?_;rintro e w1 ⟨rfl,rfl⟩;go_wp2_with fail;clear c1 d0 d1 d2 d3 d4;go_loopw [70] (fun i wr=>∃j:Nat,j≤body.length∧i=.int .i64 j∧RB w (.cells #[.slice (some ⟨b,off,none⟩) ar.length cap,vn,vr] 26) (.cells #[.int .i64 k, .slice at_ ts.length ct, .int .i64 fold, .slice ab body.length cb, .int .i64 vars] 40) wr∧Sc.first (Sc.litAll ar vars) body=Sc.first (Sc.litAll ar vars) (body.drop j)) (fun i _=>body.length-(intOf i).toNat);case atStart=>exact⟨0,aR _,rfl,hR,rfl⟩
   case round=>
    clear hR;obtain⟨j,hj,rfl,hR,hfj⟩:=hrel;have HFJ:Hid _:=hfj;clear hfj;(have c1:wr.cell? ⟨w.heap.size,0,none⟩=some (.slice (some ⟨b,off,none⟩) ar.length cap):=by rw[aC hR.b1];rfl);(have d0:wr.cell? ⟨w.heap.size+1,0,none⟩=some (.int .i64 k):=by rw[aC hR.b2];rfl);(have d1:wr.cell? ⟨w.heap.size+1,1,none⟩=some (.slice at_ ts.length ct):=by rw[aC hR.b2];rfl);(have d2:wr.cell? ⟨w.heap.size+1,2,none⟩=some (.int .i64 fold):=by rw[aC hR.b2];rfl);(have d3:wr.cell? ⟨w.heap.size+1,3,none⟩=some (.slice ab body.length cb):=by rw[aC hR.b2];rfl);(have d4:wr.cell? ⟨w.heap.size+1,4,none⟩=some (.int .i64 vars):=by rw[aC hR.b2];rfl);(have c2:wr.cell? ⟨w.heap.size,1,none⟩=some vn:=by rw[aC hR.b1];rfl);(have c3:wr.cell? ⟨w.heap.size,2,none⟩=some vr:=by rw[aC hR.b1];rfl);by_cases hjl:j<body.length
    ·obtain⟨b3,off3,rfl,p0,p1,p2,v,p3,hTv⟩:=jK hLA j hjl;have HTV:Hid (PTermsV w v (Sc.litD body j).terms):=hTv;obtain⟨av,cv,rfl,_,_⟩:=hTv;have q0:=aD hR.bel p0;have q1:=aD hR.bel p1;have q2:=aD hR.bel p2;have q3:=aD hR.bel p3;have HFD:Hid (Sc.first (Sc.litAll ar vars) body=Sc.thn (Sc.litAll ar vars (Sc.litD body j)) (Sc.first (Sc.litAll ar vars) (body.drop (j+1)))):=HFJ.out.trans (Sc.first_drop _ _ _ j hjl);have HFI:Hid (LitFit (Sc.litD body j)):=HFB.out j hjl;have hb1:Below wr.heap.size wr (wr.alloc (.cells #[.int .i64 (Sc.litD body j).kind, .int .i64 (Sc.litD body j).op, .int .i64 (Sc.litD body j).pred, .slice av (Sc.litD body j).terms.length cv] 49)):=(aH _ _).alloc (aF _) _;have hlb:=heap_alloc_new wr (.cells #[.int .i64 (Sc.litD body j).kind, .int .i64 (Sc.litD body j).op, .int .i64 (Sc.litD body j).pred, .slice av (Sc.litD body j).terms.length cv] 49);have hR1:=hR.below hb1;clear p0 p1 p2 p3 hb1 HFJ hLA HL;generalize hx:Sc.litD body j=x at *;clear hx c1 c2 c3;(have c1:(wr.alloc (.cells #[.int .i64 x.kind, .int .i64 x.op, .int .i64 x.pred, .slice av x.terms.length cv] 49)).cell? ⟨w.heap.size,0,none⟩=some (.slice (some ⟨b,off,none⟩) ar.length cap):=by rw[aC hR1.b1];rfl);(have c2:(wr.alloc (.cells #[.int .i64 x.kind, .int .i64 x.op, .int .i64 x.pred, .slice av x.terms.length cv] 49)).cell? ⟨w.heap.size,1,none⟩=some vn:=by rw[aC hR1.b1];rfl);(have c3:(wr.alloc (.cells #[.int .i64 x.kind, .int .i64 x.op, .int .i64 x.pred, .slice av x.terms.length cv] 49)).cell? ⟨w.heap.size,2,none⟩=some vr:=by rw[aC hR1.b1];rfl);go_wp2_with fail;refine Calls.mono (wP ar _ vn vr x _ _ (aK HA.out hR1.bel) ⟨_,_,rfl⟩) ?_;rintro e w2 ⟨he,hb2⟩;by_cases h9:Sc.litErr ar x=0;rotate_left
     ·(have HV:Hid (Sc.ruleErr ar ⟨k,ts,fold,body,vars⟩=Sc.litErr ar x):=by show _=_;rw[HE0.out,HFD.out,Sc.litAll,Sc.thn_ne _ h9,Sc.thn_ne _ h9,Sc.thn_ne _ h9]);rw[iQ h9]at he;subst he;clear HE0 HFD;go_wp2_with fail;exact⟨rfl,by rw[HV.out,iQ h9],hR1.bel.trans (hb2.mono hR1.bel.size)⟩
     rw[h9,kO]at he;subst he;have hR2:=hR1.below hb2;have hlb2:=(hb2.block _ (aY hlb)).trans hlb;(have l3:w2.cell? ⟨wr.heap.size,3,none⟩=some (.slice av x.terms.length cv):=by rw[aC hlb2];rfl);(have d4':w2.cell? ⟨w.heap.size+1,4,none⟩=some (.int .i64 vars):=by rw[aC hR2.b2];rfl);clear hlb hlb2 hb2 hR1 q0 q1 q2 q3 c1 d0 d1 d2 d3 d4 c2 c3;go_wp2_with fail;refine Calls.mono (mO x.terms vars _ _ HFI.out (bM HTV.out hR2.bel)) ?_;rintro e w3 ⟨he,hb3⟩;by_cases h10:Sc.termsErr vars x.terms=0;rotate_left
     ·(have HV:Hid (Sc.ruleErr ar ⟨k,ts,fold,body,vars⟩=Sc.termsErr vars x.terms):=by show _=_;rw[HE0.out,HFD.out,Sc.litAll,h9,Sc.thn_zero,Sc.thn_ne _ h10,Sc.thn_ne _ h10]);rw[iQ h10]at he;subst he;clear HE0 HFD;go_wp2_with fail;exact⟨rfl,by rw[HV.out,iQ h10],hR2.bel.trans (hb3.mono hR2.bel.size)⟩
     rw[h10,kO]at he;subst he;have hR3:=hR2.below hb3;(have HV:Hid (Sc.first (Sc.litAll ar vars) body=Sc.first (Sc.litAll ar vars) (body.drop (j+1))):=by show _=_;rw[HFD.out,Sc.litAll,h9,Sc.thn_zero,h10,Sc.thn_zero]);clear HFD HTV HFI hb3 h9 h10 l3 d4' hR2;go_wp2_with fail;go_roundw;(case rel=>exact⟨j+1,oM,gN,hR3,HV.out⟩);case measure=>exact mI
    (have hz:Sc.first (Sc.litAll ar vars) body=0:=by rw[HFJ.out,aL oM];rfl);have hgood:RuleGood ⟨k,ts,fold,body,vars⟩:=⟨by show 0≤vars;omega,by show vars≤8;omega,by show body.length≤4;omega,fun i hi=>yL (iT hz _ (nZ hi)) (by show 0≤vars;omega) (HFB.out i hi)⟩;rw[hz,Sc.thn_zero]at HE0;clear HFJ hz hLA;go_wp2_with fail;refine Calls.mono (aAx ⟨k,ts,fold,body,vars⟩ _ _ _ (fR HL.out hR.bel) hgood) ?_;rintro e w2 ⟨he,hb2⟩;have hR:=hR.below hb2;cases h11:Sc.safe ⟨k,ts,fold,body,vars⟩
    ·rw[h11]at he HE0;subst he;(have HV:Hid (Sc.ruleErr ar ⟨k,ts,fold,body,vars⟩=4):=by show _=_;rw[HE0.out];rfl);clear HE0 hgood h11;go_wp2_with fail;refine(cX 4 _).mono ?_;rintro e w1 ⟨rfl,hb1⟩;go_wp2_with fail;exact⟨rfl,rV,hR.bel.trans (hb1.mono hR.bel.size)⟩
    rw[h11]at he HE0;subst he;(have HV:Hid (Sc.ruleErr ar ⟨k,ts,fold,body,vars⟩=0):=by show _=_;rw[HE0.out];rfl);clear HE0 hgood h11;go_wp2_with fail;refine(dJ 4 _).mono ?_;rintro e w1 ⟨rfl,rfl⟩;go_wp2_with fail;exact⟨rfl, .tuple #[],by simp[results,Tryz.results175],rV,hR.bel⟩
 (have h2:¬(ts.length:Int)=Sc.intD ar k:=by simpa using g2);(have HV:Hid (Sc.ruleErr ar ⟨k,ts,fold,body,vars⟩=1):=by show _=_;rw[HE0.out,if_pos h2];rfl);have hb02:=hR.bel;clear HE0 h2;refine wp_region_held_drew (S:=(fun y=>y.cell? ⟨w.heap.size,0,none⟩=some (.slice (some ⟨b,off,none⟩) ar.length cap)∧y.cell? ⟨w.heap.size+1,0,none⟩=some (.int .i64 k)∧y.cell? ⟨w.heap.size+1,1,none⟩=some (.slice at_ ts.length ct)∧y.cell? ⟨b,off+k,none⟩=some (.int .i64 (Sc.intD ar k)))) kR (by go_keep) (fun hHeld=>?_);refine wpAnyH_take (i:=0) (v:=?v0x0) rfl kR kR kR (fun _ _ _ h=>h) (Or.inl ⟨by rfl,?hy0x0⟩) (by assumption) ?_;(case hy0x0=>intro w hSw;(try dsimp only at hSw);go_simp;try with_reducible rfl);(try simp only[Act.put,aV]);refine wpAnyH_take (i:=1) (v:=?v1x1) rfl kR kR kR (fun _ _ _ h=>h) (Or.inl ⟨by rfl,?hy1x1⟩) (by assumption) ?_;(case hy1x1=>intro w hSw;(try dsimp only at hSw);go_simp;try with_reducible rfl);(try simp only[Act.put]);refine wpAnyH_take (i:=2) (v:=?v2x2) rfl kR kR kR (fun _ _ _ h=>h) (Or.inl ⟨by rfl,?hy2x2⟩) (by assumption) ?_;(case hy2x2=>intro w hSw;(try dsimp only at hSw);go_simp;try with_reducible rfl);(try simp only[Act.put]);refine wpAnyH_take (i:=3) (v:=?v3x3) rfl kR kR kR (fun _ _ _ h=>h) (Or.inl ⟨by rfl,?hy3x3⟩) (by assumption) ?_;(case hy3x3=>intro w hSw;(try dsimp only at hSw);go_simp;try with_reducible rfl);(try simp only[Act.put]);refine wpAnyH_take (i:=4) (v:=?v4x4) rfl kR kR kR (fun _ _ _ h=>h) (Or.inl ⟨by rfl,?hy4x4⟩) (by assumption) ?_;(case hy4x4=>intro w hSw;(try dsimp only at hSw);go_simp;try with_reducible rfl);(try simp only[Act.put]);refine wpAnyH_take (i:=5) (v:=?v5x5) rfl kR kR kR (fun _ _ _ h=>h) (Or.inl ⟨by rfl,?hy5x5⟩) (by assumption) ?_;(case hy5x5=>intro w hSw;(try dsimp only at hSw);go_simp;try with_reducible rfl);(try simp only[Act.put]);refine wpAnyH_take (i:=6) (v:=?v6x6) rfl kR kR kR (fun _ _ _ h=>h) (Or.inl ⟨by rfl,?hy6x6⟩) (by assumption) ?_;(case hy6x6=>intro w hSw;(try dsimp only at hSw);go_simp;try with_reducible rfl);(try simp only[Act.put]);refine wpAnyH_take (i:=7) (v:=?v7x7) rfl kR kR kR (fun _ _ _ h=>h) (Or.inl ⟨by rfl,?hy7x7⟩) (by assumption) ?_;(case hy7x7=>intro w hSw;(try dsimp only at hSw);go_simp;try with_reducible rfl);(try simp only[Act.put]);refine wpAnyH_take (i:=8) (v:=?v8x8) rfl kR kR kR (fun _ _ _ h=>h) (Or.inl ⟨by rfl,?hy8x8⟩) (by assumption) ?_;(case hy8x8=>intro w hSw;(try dsimp only at hSw);go_simp;try with_reducible rfl);(try simp only[Act.put]);refine wpAnyH_take (i:=9) (v:=?v9x9) rfl kR kR kR (fun _ _ _ h=>h) (Or.inl ⟨by rfl,?hy9x9⟩) (by assumption) ?_;(case hy9x9=>intro w hSw;(try dsimp only at hSw);go_simp;try with_reducible rfl);(try simp only[Act.put]);refine wpAnyH_ready (rs:=[10]) kR sI ?_;refine AllReadyH.cons rfl (fun K hK=>?_) AllReadyH.nil;go_simp;go_at_call 129;refine Calls.mono (cX 1 _) ?_;rintro e y2 ⟨rfl,hb4⟩;exact⟨rfl,rV,hb02.drew.trans (hb4.mono hb02.size)⟩
structure CB (w:World) (o:Obj) (M:Nat) (ns:List (List UInt8)) (wr:World):Prop where
 bel:Below w.heap.size w wr
 box:wr.heap[w.heap.size]?=some o
 num:NumAt wr M ns
 lt:w.heap.size<M
theorem CB.below{w wr w2:World}{o:Obj}{M:Nat}{ns:List (List UInt8)}(h:CB w o M ns wr)(hb:Below wr.heap.size wr w2):CB w o M ns w2:=
 ⟨h.bel.trans (hb.mono h.bel.size),(hb.block _ (aY h.box)).trans h.box,h.num.below hb,h.lt⟩
theorem CB.of{w wr w2:World}{o:Obj}{M:Nat}{ns ns':List (List UInt8)}(h:CB w o M ns wr)(hg:wr.grownBy w2 (some M))(hn:NumAt w2 M ns'):CB w o M ns' w2:=by
 have hlt:=h.lt;have hs:=h.bel.size
 exact⟨⟨hg.os.trans h.bel.os,hg.tape.trans h.bel.tape,hg.output.trans h.bel.output,aX hs hg.size,fun k hk=>(hg.block k (bP hk hs) (fun e=>by injection e;omega)).trans (h.bel.block k hk)⟩,
  (hg.block _ (aY h.box) (fun e=>by injection e;omega)).trans h.box,hn,hlt⟩
theorem CB.start(w:World)(o:Obj):CB w o (w.heap.size+1) [] ((w.alloc o).alloc (.map #[] 0)):=by have h:=gY (w:=w) (o1:=o) (o2:=.map #[] 0) (aH _ _);have hn:=aAq (w.alloc o);rw[show(w.alloc o).heap.size=w.heap.size+1 by simp]at hn;exact⟨jB w _ _,h.1,hn,oM⟩
theorem vF{w:World}{ao:Option Addr}{l:List (List UInt8)}(h:StrsAt w ao l)(n:Nat)(hn:n<l.length):∃b off,ao=some ⟨b,off,none⟩∧w.cell? ⟨b,off+n,none⟩=some (.string ⟨(Sc.strD l n).toArray⟩):=by
 rcases h with h|⟨b,off,ha,hc⟩
 ·rw[h]at hn;exact absurd hn sI
 exact⟨b,off,ha,hc n hn⟩
theorem iG{w:World}{ao:Option Addr}{l:List Sc.Rule}(h:PRulesAt w ao l)(n:Nat)(hn:n<l.length):∃b off,ao=some ⟨b,off,none⟩∧PRuleIn w b (off+n*5) (Sc.ruleD l n):=by
 rcases h with h|⟨b,off,ha,hc⟩
 ·rw[h]at hn;exact absurd hn sI
 exact⟨b,off,ha,hc n hn⟩
theorem uA(ar:List Int)(ns:List (List UInt8))(j:Nat)(h:j<ns.length):Sc.first (Sc.predErr ar ns) ((List.range ns.length).drop j)=Sc.thn (Sc.predErr ar ns j) (Sc.first (Sc.predErr ar ns) ((List.range ns.length).drop (j+1))):=by
 rw[Sc.first_drop _ 0 _ j (by simpa using h)]
 congr 2
 simp[h]
theorem aA5(ns:List (List UInt8))(j:Nat)(h:j<ns.length):ns.take j++[Sc.strD ns j]=ns.take (j+1):=by rw[lQ h];simp[Sc.strD,List.getD_eq_getElem?_getD,h]
theorem aDd{x:List UInt8}{l:List (List UInt8)}(h:l.contains x=true):l.idxOf x<l.length:=List.idxOf_lt_length_iff.mpr (by simpa using h)
theorem pC(p:Sc.Prog)(va vn vr:Value)(w:World)(hP:ProgV w va vn vr p)(hF:ProgFit p):
 Calls Tryz.prog 128 #[progVal va vn vr] w fun e w'=>e=finE (Sc.check p)∧Below w.heap.size w w':=by
 obtain⟨ar,ns,rs⟩:=p;obtain⟨hA,hN,hL⟩:=hP;have HA:Hid (IntsV w va ar):=hA;obtain⟨ao,cap,rfl,hA⟩:=hA;obtain⟨an,cn,rfl,hN⟩:=hN;obtain⟨al,cl,rfl,hL⟩:=hL;have hA:IntsAt w ao ar:=hA;have hN:StrsAt w an ns:=hN;have hL:PRulesAt w al rs:=hL;have HFR:Hid (∀i,i<rs.length→RuleFit (Sc.ruleD rs i)):=hF.rs;clear hF;have hmm:=@run_makeMap Tryz.prog;have hb0:Below w.heap.size w (w.alloc (.cells #[.slice ao ar.length cap, .slice an ns.length cn, .slice al rs.length cl] 26)):=(aH _ _).alloc (aF _) _;have HE0:Hid (Sc.check ⟨ar,ns,rs⟩=if 10<ar.length∨12<rs.length then 2 else if¬ns.length=ar.length then 1 else Sc.thn (Sc.first (Sc.predErr ar ns) (List.range ns.length)) (Sc.first (Sc.ruleErr ar) rs)):=rfl;by_cases h1:10<ar.length
 ·(have HV:Hid (Sc.check ⟨ar,ns,rs⟩=2):=by show _=_;rw[HE0.out,if_pos (.inl h1)]);have g1:decide (10<ar.length)=true:=decide_eq_true h1;have g1':decide ((10:Int)<(ar.length:Int))=true:=decide_eq_true oM;clear HE0 hA hN hL
  go_enter Tryz.func128,Tryz.ntmps128
  go_wp2_with fail;refine(cX 2 _).mono ?_;rintro e w1 ⟨rfl,hb1⟩;go_wp2_with fail;exact⟨rfl,rV,hb0.trans (hb1.mono hb0.size)⟩
 have g1:decide (10<ar.length)=false:=decide_eq_false h1;have g1':decide ((10:Int)<(ar.length:Int))=false:=decide_eq_false oM;by_cases h2:12<rs.length
 ·(have HV:Hid (Sc.check ⟨ar,ns,rs⟩=2):=by show _=_;rw[HE0.out,if_pos (.inr h2)]);have g2:decide (12<rs.length)=true:=decide_eq_true h2;have g2':decide ((12:Int)<(rs.length:Int))=true:=decide_eq_true oM;clear HE0 hA hN hL
  go_enter Tryz.func128,Tryz.ntmps128
  go_wp2_with fail;refine(cX 2 _).mono ?_;rintro e w1 ⟨rfl,hb1⟩;go_wp2_with fail;exact⟨rfl,rV,hb0.trans (hb1.mono hb0.size)⟩
 have g2:decide (12<rs.length)=false:=decide_eq_false h2;have g2':decide ((12:Int)<(rs.length:Int))=false:=decide_eq_false oM;rw[if_neg (fun h=>h.elim h1 h2)]at HE0;by_cases h3:ns.length=ar.length;rotate_left
 ·(have HV:Hid (Sc.check ⟨ar,ns,rs⟩=1):=by show _=_;rw[HE0.out,if_pos h3]);(have g3:((ns.length:Int) != (ar.length:Int))=true:=by simp;omega);(have g3':(ns.length != ar.length)=true:=by simp;omega);clear HE0 hA hN hL
  go_enter Tryz.func128,Tryz.ntmps128
  go_wp2_with fail;refine(dJ 2 _).mono ?_;rintro e w1 ⟨rfl,rfl⟩;go_wp2_with fail;refine(cX 1 _).mono ?_;rintro e w1 ⟨rfl,hb1⟩;go_wp2_with fail;exact⟨rfl,rV,hb0.trans (hb1.mono hb0.size)⟩
 rw[if_neg (fun h=>h h3)]at HE0;have H3:Hid (ns.length=ar.length):=h3;(have g3:((ns.length:Int) != (ar.length:Int))=false:=by simp;omega);(have g3':(ns.length != ar.length)=false:=by simp;omega);have hst:=CB.start w (.cells #[.slice ao ar.length cap, .slice an ns.length cn, .slice al rs.length cl] 26);(have H10:Hid (ns.length≤10):=by show _≤_;omega);clear h3
 go_enter Tryz.func128,Tryz.ntmps128
 go_wp2_with fail;refine(dJ 2 _).mono ?_;rintro e w1 ⟨rfl,rfl⟩;go_wp2_with fail;refine(dJ 1 _).mono ?_;rintro e w1 ⟨rfl,rfl⟩;go_wp2_with fail;generalize w.heap.size+1=M at *;go_loopw [30] (fun i wr=>∃j:Nat,j≤ns.length∧i=.int .i64 j∧CB w (.cells #[.slice ao ar.length cap, .slice an ns.length cn, .slice al rs.length cl] 26) M (ns.take j) wr∧Sc.first (Sc.predErr ar ns) (List.range ns.length)=Sc.first (Sc.predErr ar ns) ((List.range ns.length).drop j)) (fun i _=>ns.length-(intOf i).toNat);case atStart=>exact⟨0,aR _,rfl,hst,rfl⟩
 case round=>
  clear hst;obtain⟨j,hj,rfl,hR,hfj⟩:=hrel;have HFJ:Hid _:=hfj;clear hfj;(have c0:wr.cell? ⟨w.heap.size,0,none⟩=some (.slice ao ar.length cap):=by rw[aC hR.box];rfl);by_cases hjl:j<ns.length
  ·obtain⟨b,off,rfl,p0⟩:=vF hN j hjl;(have hja:j<ar.length:=by rw[←H3.out];exact hjl);obtain⟨b2,off2,rfl,p1⟩:=fS hA j hja;have q0:=aD hR.bel p0;have q1:=aD hR.bel p1;have HFD:Hid (Sc.first (Sc.predErr ar ns) (List.range ns.length)=Sc.thn (Sc.predErr ar ns j) (Sc.first (Sc.predErr ar ns) ((List.range ns.length).drop (j+1)))):=HFJ.out.trans (uA ar ns j hjl);have HPE:Hid (Sc.predErr ar ns j=Sc.thn (if Tr.between (Sc.intD ar j) 0 3 then 0 else 3) (Sc.thn (if Tr.isName (Sc.strD ns j)then 0 else 1) (if(ns.take j).contains (Sc.strD ns j)then 6 else 0))):=rfl;have HTS:Hid (ns.take j++[Sc.strD ns j]=ns.take (j+1)):=aA5 ns j hjl;clear p0 p1 hA hN hL HFJ;generalize Sc.intD ar j=a at *;generalize Sc.strD ns j=s at *;by_cases h4:a<0
   ·(have HV:Hid (Sc.check ⟨ar,ns,rs⟩=3):=by show _=_;rw[HE0.out,HFD.out,HPE.out,if_neg (by simp[Tr.between];omega)];rfl);have g4:decide (a<0)=true:=decide_eq_true h4;clear HE0 HFD HPE;go_wp2_with fail;refine(cX 3 _).mono ?_;rintro e w1 ⟨rfl,hb1⟩;go_wp2_with fail;exact⟨rfl,rV,hR.bel.trans (hb1.mono hR.bel.size)⟩
   have g4:decide (a<0)=false:=decide_eq_false h4;by_cases h4b:3<a
   ·(have HV:Hid (Sc.check ⟨ar,ns,rs⟩=3):=by show _=_;rw[HE0.out,HFD.out,HPE.out,if_neg (by simp[Tr.between];omega)];rfl);have g4b:decide (3<a)=true:=decide_eq_true h4b;clear HE0 HFD HPE;go_wp2_with fail;refine(cX 3 _).mono ?_;rintro e w1 ⟨rfl,hb1⟩;go_wp2_with fail;exact⟨rfl,rV,hR.bel.trans (hb1.mono hR.bel.size)⟩
   have g4b:decide (3<a)=false:=decide_eq_false h4b;rw[if_pos (show Tr.between a 0 3=true by simp[Tr.between];omega),Sc.thn_zero]at HPE;go_wp2_with fail;refine(dJ 3 _).mono ?_;rintro e w1 ⟨rfl,rfl⟩;go_wp2_with fail;refine Calls.mono (aAb s _) ?_;rintro e w2 ⟨he,hb2⟩;have hR2:=hR.below hb2;cases h5:Tr.isName s
   ·rw[h5]at he;subst he;(have HV:Hid (Sc.check ⟨ar,ns,rs⟩=1):=by show _=_;rw[HE0.out,HFD.out,HPE.out,h5];rfl);clear HE0 HFD HPE;go_wp2_with fail;refine(cX 1 _).mono ?_;rintro e w1 ⟨rfl,hb1⟩;go_wp2_with fail;exact⟨rfl,rV,hR2.bel.trans (hb1.mono hR2.bel.size)⟩
   rw[h5]at he;subst he;have h12:s.length≤5000:=by
    (have :Tk.isTok 1 s=true:=by unfold Tr.isName at h5;simp at h5;exact h5.1);have :=Tk.isTok_len _ _ this;omega
   rw[h5,if_pos rfl,Sc.thn_zero]at HPE;clear hR hb2 q0 q1 c0 h5;go_wp2_with fail;refine(dJ 1 _).mono ?_;rintro e w1 ⟨rfl,rfl⟩;go_wp2_with fail;refine Calls.mono (aDa M (ns.take j) s _ hR2.num h12 (by have :=H10.out;rw[bC];omega)) ?_;rintro e w3 ⟨rfl,hn3,hg3⟩;(have hlt:(ns.take j).length=j:=by rw[bC];omega);cases h6:(ns.take j).contains s
   ·rw[h6,if_neg sI,HTS.out]at hn3;have hR3:=hR2.of hg3 hn3;(have hix:(ns.take j).idxOf s=j:=by rw[yS (by simpa using h6),hlt]);rw[hix];(have g6:((j:Int) != (j:Int))=false:=by simp);(have HV:Hid (Sc.first (Sc.predErr ar ns) (List.range ns.length)=Sc.first (Sc.predErr ar ns) ((List.range ns.length).drop (j+1))):=by show _=_;rw[HFD.out,HPE.out,h6];rfl);clear HFD HPE hn3 hg3 hR2 hix h6 hlt HTS;go_wp2_with fail;refine(dJ 6 _).mono ?_;rintro e w1 ⟨rfl,rfl⟩;go_wp2_with fail;go_roundw;(case rel=>exact⟨j+1,oM,gN,hR3,HV.out⟩);case measure=>exact mI
   rw[h6,if_pos rfl]at hn3;have hR3:=hR2.of hg3 hn3;have hix:=aDd h6;rw[hlt]at hix;(have g6:(((ns.take j).idxOf s:Int) != (j:Int))=true:=by simp;omega);(have HV:Hid (Sc.check ⟨ar,ns,rs⟩=6):=by show _=_;rw[HE0.out,HFD.out,HPE.out,h6];rfl);clear HFD HPE hn3 hg3 hR2 h6 HE0 HTS;generalize (ns.take j).idxOf s=ix at *;(have g6':(ix != j)=true:=by simp;omega);go_wp2_with fail;refine(cX 6 _).mono ?_;rintro e w1 ⟨rfl,hb1⟩;go_wp2_with fail;exact⟨rfl,rV,hR3.bel.trans (hb1.mono hR3.bel.size)⟩
  (have hz:Sc.first (Sc.predErr ar ns) (List.range ns.length)=0:=by rw[HFJ.out,aL sO];rfl);rw[hz,Sc.thn_zero]at HE0;generalize hj0:j=j0 at *;clear hj0;(have c2:wr.cell? ⟨w.heap.size,2,none⟩=some (.slice al rs.length cl):=by rw[aC hR.box];rfl);clear HFJ hz hA hN;go_wp2_with fail;go_loopw [64] (fun i wr=>∃j:Nat,j≤rs.length∧i=.int .i64 j∧CB w (.cells #[.slice ao ar.length cap, .slice an ns.length cn, .slice al rs.length cl] 26) M (ns.take j0) wr∧Sc.first (Sc.ruleErr ar) rs=Sc.first (Sc.ruleErr ar) (rs.drop j)) (fun i _=>rs.length-(intOf i).toNat);case atStart=>exact⟨0,aR _,rfl,hR,rfl⟩
  case round=>
   clear hR c0 c2;obtain⟨j,hj,rfl,hR,hfj⟩:=hrel;have HFJ:Hid _:=hfj;clear hfj;by_cases hjl:j<rs.length
   ·obtain⟨b,off,rfl,p0,⟨vt,p1,hT⟩,p2,⟨vb,p3,hB⟩,p4⟩:=iG hL j hjl;have HT:Hid (PTermsV w vt (Sc.ruleD rs j).terms):=hT;have HB:Hid (PLitsV w vb (Sc.ruleD rs j).body):=hB;obtain⟨at_,ct,rfl,_,_⟩:=hT;obtain⟨ab,cb,rfl,_⟩:=hB;have q0:=aD hR.bel p0;have q1:=aD hR.bel p1;have q2:=aD hR.bel p2;have q3:=aD hR.bel p3;have q4:=aD hR.bel p4;have HFD:Hid (Sc.first (Sc.ruleErr ar) rs=Sc.thn (Sc.ruleErr ar (Sc.ruleD rs j)) (Sc.first (Sc.ruleErr ar) (rs.drop (j+1)))):=HFJ.out.trans (Sc.first_drop _ _ _ j hjl);have HFI:Hid (RuleFit (Sc.ruleD rs j)):=HFR.out j hjl;have hb1:Below wr.heap.size wr (wr.alloc (.cells #[.int .i64 (Sc.ruleD rs j).pred, .slice at_ (Sc.ruleD rs j).terms.length ct, .int .i64 (Sc.ruleD rs j).fold, .slice ab (Sc.ruleD rs j).body.length cb, .int .i64 (Sc.ruleD rs j).vars] 40)):=(aH _ _).alloc (aF _) _;have hR1:=hR.below hb1;clear p0 p1 p2 p3 p4 HFJ hL hb1;generalize hx:Sc.ruleD rs j=x at *;clear hx;(have c0:(wr.alloc (.cells #[.int .i64 x.pred, .slice at_ x.terms.length ct, .int .i64 x.fold, .slice ab x.body.length cb, .int .i64 x.vars] 40)).cell? ⟨w.heap.size,0,none⟩=some (.slice ao ar.length cap):=by rw[aC hR1.box];rfl);(have c1:(wr.alloc (.cells #[.int .i64 x.pred, .slice at_ x.terms.length ct, .int .i64 x.fold, .slice ab x.body.length cb, .int .i64 x.vars] 40)).cell? ⟨w.heap.size,1,none⟩=some (.slice an ns.length cn):=by rw[aC hR1.box];rfl);(have c2:(wr.alloc (.cells #[.int .i64 x.pred, .slice at_ x.terms.length ct, .int .i64 x.fold, .slice ab x.body.length cb, .int .i64 x.vars] 40)).cell? ⟨w.heap.size,2,none⟩=some (.slice (some ⟨b,off,none⟩) rs.length cl):=by rw[aC hR1.box];rfl);go_wp2_with fail;refine Calls.mono (tJ ar _ _ _ x _ _ _ (aK HA.out hR1.bel) (bM HT.out hR1.bel) (fR HB.out hR1.bel) HFI.out) ?_;rintro e w2 ⟨he,hb2⟩;by_cases h9:Sc.ruleErr ar x=0;rotate_left
    ·(have HV:Hid (Sc.check ⟨ar,ns,rs⟩=Sc.ruleErr ar x):=by show _=_;rw[HE0.out,HFD.out,Sc.thn_ne _ h9]);rw[iQ h9]at he;subst he;clear HE0 HFD;go_wp2_with fail;exact⟨rfl,by rw[HV.out,iQ h9],hR1.bel.trans (hb2.mono hR1.bel.size)⟩
    rw[h9,kO]at he;subst he;have hR2:=hR1.below hb2;(have HV:Hid (Sc.first (Sc.ruleErr ar) rs=Sc.first (Sc.ruleErr ar) (rs.drop (j+1))):=by show _=_;rw[HFD.out,h9,Sc.thn_zero]);clear HFD HT HB HFI hb2 h9 hR1 q0 q1 q2 q3 q4 c0 c1 c2;go_wp2_with fail;go_roundw;(case rel=>exact⟨j+1,oM,gN,hR2,HV.out⟩);case measure=>exact mI
   (have HV:Hid (Sc.check ⟨ar,ns,rs⟩=0):=by show _=_;rw[HE0.out,HFJ.out,aL oM];rfl);clear HE0 hL;go_wp2_with fail;exact⟨rfl, .tuple #[],by simp[results,Tryz.results128],rV,hR.bel⟩
theorem zH(pf:Addr)(w:World):
 CallsD Tryz.prog 172 #[.pointer (some pf)] .returning w fun e u' w'=>e=.returned (.tuple #[])∧u'=.returning∧w'=w:=by
 refine callsD_of_wpS Tryz.func172 rfl fun c₀ cs hu=>?_;apply wpS_seq;apply wpS_region;simp[wpOpsS,go_sem,recoverD,hu,Tryz.ntmps172,Exit.thenS];refine wpS_of_wp ?_;go_wp2;refine⟨rfl, .returning,?_, .tuple #[],?_,rfl,rfl,rfl⟩
 ·rw[←hu]
 simp[results,Tryz.results172]
theorem oU(bf:Nat)(g0 g1:Value)(a c:Int)(older:List PanicEntry)(w:World)
 (hg0:w.cell? ⟨bf,0,none⟩=some g0) (hg1:w.cell? ⟨bf,1,none⟩=some g1) (fg0:w.frozen? ⟨bf,0,none⟩=false) (fg1:w.frozen? ⟨bf,1,none⟩=false):
 CallsD Tryz.prog 172 #[.pointer (some ⟨bf,0,none⟩)] (.panicking ({v:=.iface 168 (.agg #[.int .i64 a, .int .i64 c]),recovered:=false}::older)) w fun e u' w'=>
  e=.returned (.tuple #[])∧u'=.panicking ({v:=.iface 168 (.agg #[.int .i64 a, .int .i64 c]),recovered:=true}::older)∧
  w'.cell? ⟨bf,0,none⟩=some (.int .i64 a)∧w'.cell? ⟨bf,1,none⟩=some (.int .i64 c)∧w.grownBy w' (some bf)∧w'.heap.size=w.heap.size:=by
 have hta:∀w:World,(Instr.typeAssert (.iface 168 (.agg #[.int .i64 a, .int .i64 c])) 20 168 false).run Tryz.prog w=.ok (.agg #[.int .i64 a, .int .i64 c]) w:=fun _=>kR;refine callsD_of_wpS Tryz.func172 rfl fun c₀ cs hu=>?_;apply wpS_seq;apply wpS_region;simp[wpOpsS,go_sem,recoverD,hu,Tryz.ntmps172,Exit.thenS];refine wpS_of_wp ?_;go_wp2;refine⟨rfl,_,rfl, .tuple #[],?_,rfl,rfl,?_,?_,?_,?_⟩
 ·simp[results,Tryz.results172]
 ·simp[go_sem,hg0]
 ·simp[go_sem,hg1]
 ·exact gQ (jA _ _) (jA _ _)
 simp
theorem enters142:Enters 142:=eQ Tryz.func142 kR rfl
def endE(a c:Int):Ending:=if c=0 then goneOn else gaveF a c
def CaughtEnd(a c:Int)(row:Option Nat)(Z:World→Prop)(w:World)(e:Ending)(w':World):Prop:=
 e=.returned (.agg #[.int .i64 (if c=0 then 0 else a), .int .i64 c])∧w.grownBy w' row∧Z w'
theorem qV{w u v:World}{row:Option Nat}(o:Obj)(hu:(w.alloc o).grownBy u row)(hv:u.grownBy v (some w.heap.size)):w.grownBy v row:=by(have hs:(w.alloc o).heap.size=w.heap.size+1:=by simp);refine⟨hv.os.trans hu.os,hv.tape.trans hu.tape,hv.output.trans hu.output,aX (by rw[←Nat.succ_le_succ_iff];have :=hu.size;omega) hv.size,fun k hk hne=>?_⟩;have h1:=hu.block k oM hne;have h2:=hv.block k (by have :=hu.size;omega) (fun e=>by injection e;omega);rw[h2,h1];exact((aH _ _).alloc (aF _) o).block k hk
theorem sB(G:Nat)(caps:Array Value)(row:Option Nat)(a c:Int)(Z:World→Prop)(w:World)(hE:Enters G)(hrow:∀k,row=some k→k<w.heap.size)
 (hZ:∀u v:World,Z u→v.heap.size=u.heap.size→(∀k,¬k=w.heap.size→v.heap[k]?=u.heap[k]?)→Z v)
 (hdo:Calls Tryz.prog G caps (w.alloc (.cells #[.int .i64 0, .int .i64 0] 168)) fun e w'=>e=endE a c∧(w.alloc (.cells #[.int .i64 0, .int .i64 0] 168)).grownBy w' row∧Z w'):
 Calls Tryz.prog 126 #[.func (.func G) #[] caps] w (CaughtEnd a c row Z w):=by
 have hmf:∀(fn:Fn)(first cap:Array Value)(w:World),(Instr.makeFunc fn first cap).run Tryz.prog w=.ok (.func fn first cap) w:=fun _ _ _ _=>rfl;have he:=hE;unfold Enters at he;have hBx:=heap_alloc_new w (.cells #[.int .i64 0, .int .i64 0] 168)
 go_enter_defers Tryz.func126,Tryz.ntmps126
 go_wp2_with fail;refine Calls.mono hdo ?_;rintro e w1 ⟨rfl,hg,hz⟩;have hB1:=(hg.block _ (aY hBx) (fun e=>Nat.lt_irrefl _ (hrow _ e.symm))).trans hBx;(have g0:w1.cell? ⟨w.heap.size,0,none⟩=some (.int .i64 0):=by rw[aC hB1];rfl);(have g1:w1.cell? ⟨w.heap.size,1,none⟩=some (.int .i64 0):=by rw[aC hB1];rfl);have f0:w1.frozen? ⟨w.heap.size,0,none⟩=false:=bQ hB1 0;have f1:w1.frozen? ⟨w.heap.size,1,none⟩=false:=bQ hB1 1;clear hdo hBx hB1 he hmf;unfold endE;by_cases hc:c=0
 ·subst hc;rw[if_pos rfl];go_wp2_with fail;refine leaves_cons (f:=172) (args:=#[.pointer (some ⟨w.heap.size,0,none⟩)]) sI (by simp[go_sem]) ?_;refine(zH _ _).mono ?_;rintro e u' w2 ⟨rfl,rfl,rfl⟩;refine⟨.agg #[.int .i64 0, .int .i64 0],by simp[results,Tryz.results126,go_sem,g0,g1],rfl,?_,?_⟩
  ·exact qV _ hg (gQ (jA _ _) (jA _ _))
  exact hZ _ _ hz sI (fun k hk=>by rw[dO _ _ _ _ hk,dO _ _ _ _ hk])
 rw[if_neg hc];go_wp2_with fail;refine leaves_cons (f:=172) (args:=#[.pointer (some ⟨w.heap.size,0,none⟩)]) sI (by simp[go_sem]) ?_;refine(oU w.heap.size _ _ a c [] w1 g0 g1 f0 f1).mono ?_;rintro e u' w2 ⟨rfl,rfl,k1,k2,hg2,hs2⟩;refine⟨.agg #[.int .i64 a, .int .i64 c],by simp[results,Tryz.results126,go_sem,k1,k2],by rw[if_neg hc],?_,?_⟩
 ·exact qV _ hg hg2
 refine hZ _ _ hz hs2 (fun k hk=>?_);rcases dF k w1.heap.size with h|h
 ·exact hg2.block k h (fun e=>by injection e with e;exact hk e)
 rw[gM h,gM oM]
theorem mQ{w w':World}(h:w.grownBy w' none):Below w.heap.size w w':=⟨h.os,h.tape,h.output,h.size,fun k hk=>h.block k hk (fun e=>by cases e)⟩
theorem fldF(a b:Value)(w:World):(Instr.field 168 (.agg #[a,b]) 1).run Tryz.prog w=.ok b w:=kR
theorem aAN(p:Sc.Prog)(va vn vr:Value)(X:Nat)(w:World)(hX:w.heap[X]?=some (.cells #[va,vn,vr] 26))(hP:ProgV w va vn vr p)(hF:ProgFit p):
 Calls Tryz.prog 142 #[.pointer (some ⟨X,0,none⟩)] w fun e w'=>e=finE (Sc.check p)∧Below w.heap.size w w':=by
 (have c0:w.cell? ⟨X,0,none⟩=some va:=by rw[aC hX];rfl);(have c1:w.cell? ⟨X,1,none⟩=some vn:=by rw[aC hX];rfl);have c2:w.cell? ⟨X,2,none⟩=some vr:=by rw[aC hX];rfl
 go_enter Tryz.func142,Tryz.ntmps142
 go_wp2_with fail;refine Calls.mono (pC p va vn vr _ hP hF) ?_;rintro e w1 ⟨rfl,hb⟩;by_cases h:Sc.check p=0
 ·rw[h,kO];go_wp2_with fail;exact⟨rfl, .tuple #[],by simp[results,Tryz.results142],by rw[h];rfl,hb⟩
 rw[iQ h];go_wp2_with fail;exact⟨rfl,(iQ h).symm,hb⟩
theorem pP(p:Sc.Prog)(va vn vr:Value)(w:World)(hP:ProgV w va vn vr p)(hF:ProgFit p):
 Calls Tryz.prog 97 #[progVal va vn vr] w fun e w'=>e=.returned (.int .i64 (Sc.check p))∧Below w.heap.size w w':=by
 obtain⟨a0,n0,rfl,_⟩:=id hP.ar;obtain⟨a1,n1,rfl,_⟩:=id hP.nm;obtain⟨a2,n2,rfl,_⟩:=id hP.rl;have hmf:∀(fn:Fn)(first cap:Array Value)(w:World),(Instr.makeFunc fn first cap).run Tryz.prog w=.ok (.func fn first cap) w:=fun _ _ _ _=>rfl;have hb0:∀(u:World)(o:Obj),Below u.heap.size u (u.alloc o):=fun u o=>(aH _ _).alloc (aF _) o;have hX:=heap_alloc_new w (.cells #[.slice a0 p.arity.length n0, .slice a1 p.names.length n1, .slice a2 p.rules.length n2] 26);have hP1:=hP.below (hb0 w (.cells #[.slice a0 p.arity.length n0, .slice a1 p.names.length n1, .slice a2 p.rules.length n2] 26));have HB:=hb0 w (.cells #[.slice a0 p.arity.length n0, .slice a1 p.names.length n1, .slice a2 p.rules.length n2] 26)
 go_enter Tryz.func97,Tryz.ntmps97
 go_wp2_with fail;generalize w.alloc (.cells #[.slice a0 p.arity.length n0, .slice a1 p.names.length n1, .slice a2 p.rules.length n2] 26)=w1 at *;refine Calls.mono (sB 142 _ none 0 (Sc.check p) (fun _=>True) w1 enters142 (fun _ e=>by cases e) (fun _ _ _ _ _=>trivial) ?_) ?_
 ·refine Calls.mono (aAN p _ _ _ w.heap.size _ (((hb0 w1 _).block _ (aY hX)).trans hX) (hP1.below (hb0 w1 _)) hF) ?_;rintro e w2 ⟨rfl,hb⟩;exact⟨rfl,iH hb _,trivial⟩
 rintro e w2 ⟨rfl,hg,_⟩;have hbb:=HB.trans ((mQ hg).mono HB.size);go_wp2_with fail;simp only[fldF];go_wp2_with fail;go_ret;exact⟨rfl,hbb⟩
end Go.Proofs.YthenjegmigeieaaGreat
namespace Go.Proofs.YthenjegmigeieaaGreat
open Go.RowKit Go.Shelf
attribute [local go_sem] Oper.semAt_some
namespace St
structure RuleIn (n:Nat) (r:Sc.Rule):Prop where
 h0:0≤r.pred
 h1:r.pred<(n:Int)
 hb:Bound n r.body
 hl:r.body.length≤4
def edgesOf(l:List Sc.Rule):List Fx.Edge:=l.flatMap ruleE
theorem edgesOf_snoc(l:List Sc.Rule)(r:Sc.Rule):edgesOf (l++[r])=edgesOf l++ruleE r:=by unfold edgesOf;rw[List.flatMap_append];simp
theorem ruleE_length(r:Sc.Rule):(ruleE r).length≤r.body.length:=by unfold ruleE;rw[aO];exact gU _ _
theorem ruleE_one{r:Sc.Rule}:∀e,e∈ruleE r→e.2.2≤1:=fun e he=>by unfold ruleE at he;obtain⟨x,_,rfl⟩:=bO.mp he;rcases strict01 r x with h|h<;>simp[h]
end St
structure RSt (w:World) (LB n cap:Nat) (W:World) (cur:List Int) (fl:Bool):Prop where
 gr:w.grownBy W (some LB)
 row:W.heap[LB]?=some (.cells (intRow cur) 3)
 box:W.heap[w.heap.size]?=some (.cells #[.slice (some ⟨LB,0,none⟩) n cap] 22)
 flag:W.heap[w.heap.size+1]?=some (.cells #[.bool fl] 4)
theorem aCE{W:World}{b:Nat}{v:Value}{t:TypeId}(h:W.heap[b]?=some (.cells #[v] t)):W.cell? ⟨b,0,none⟩=some v:=by rw[aC h];rfl
structure RMem (wr W2:World) (rb:Obj):Prop where
 bel:Below wr.heap.size wr W2
 qb:W2.heap[wr.heap.size]?=some rb
 rb:W2.heap[wr.heap.size+1]?=some rb
 sz:W2.heap.size=wr.heap.size+2
theorem aBk(wr W2:World)(rb:Obj)(h2:W2=(wr.alloc rb).alloc rb):RMem wr W2 rb:=by subst h2;have b1:=(aH wr.heap.size wr).alloc (aF _) rb;have p1:=heap_alloc_new wr rb;(have s1:(wr.alloc rb).heap.size=wr.heap.size+1:=by simp);generalize wr.alloc rb=x1 at *;have b2:=(aH x1.heap.size x1).alloc (aF _) rb;have p2:=heap_alloc_new x1 rb;refine⟨b1.trans (b2.mono b1.size),(b2.block _ oM).trans p1,by rw[←s1];exact p2,by simp[s1]⟩
def edgeOf{n:Nat}(h:Nat)(p:HP n):Fx.Edge:=(h,p.1.1.toNat,p.1.2)
structure RIn (w wr W2:World) (LB n cap:Nat) (rb:Obj) (ds:List Deferred) (l:List Int) (E:List Fx.Edge) (h:Nat) {np:Nat} (pre:List (HP np)) (W:World):Prop where
 st:RSt w LB n cap W (Fx.round (E++pre.map (edgeOf h)) l) (decide (Fx.round (E++pre.map (edgeOf h)) l≠l))
 qb:W.heap[wr.heap.size]?=some rb
 mks:MarksL (w.heap.size+2) W ds
 sz:W2.heap.size≤W.heap.size
theorem aBV{w wr W2:World}{LB n cap:Nat}{rb:Obj}{ds:List Deferred}{l:List Int}{E:List Fx.Edge}{h np:Nat}(hS:RSt w LB n cap wr (Fx.round E l) (decide (Fx.round E l≠l)))(hM:MarksL (w.heap.size+2) wr ds)(hW:RMem wr W2 rb):RIn w wr W2 LB n cap rb ds l E h ([]:List (HP np)) W2:=by have h1:=bP (aJ.mp hS.flag).1 (aF _);refine⟨?_,hW.qb,hM.keep fun D _ _ hD=>(hW.bel.block D (aJ.mp hD).1).trans hD,aF _⟩;rw[List.map_nil,fE];refine⟨⟨hW.bel.os.trans hS.gr.os,hW.bel.tape.trans hS.gr.tape,hW.bel.output.trans hS.gr.output,aX hS.gr.size hW.bel.size,fun j hj hn=>(hW.bel.block j (bP hj hS.gr.size)).trans (hS.gr.block j hj hn)⟩,(hW.bel.block _ (aJ.mp hS.row).1).trans hS.row,(hW.bel.block _ (aJ.mp hS.box).1).trans hS.box,(hW.bel.block _ h1).trans hS.flag⟩
theorem aC6{w wr W2:World}{LB n cap:Nat}{rb:Obj}{ds:List Deferred}{l:List Int}{np:Nat}{c0:List Int}{f0:Bool}(hS:RSt w LB n cap wr c0 f0)(hM:MarksL (w.heap.size+2) wr ds)(hW:RMem wr W2 rb)(E:List Fx.Edge)(h:Nat):
 OwnFrom W2.heap.size (fun(pre:List (HP np)) W=>RIn w wr W2 LB n cap rb ds l E h pre W):=by
 intro pre A B row hI hg hr;have hsz:=hW.sz;have hgs:=hS.gr.size;have hfl:=(aJ.mp hS.flag).1;have hrw:=(aJ.mp hS.row).1;have keep:∀j,j<W2.heap.size→B.heap[j]?=A.heap[j]?:=fun j hj=>hg.block j (bP hj hI.sz) (fun e=>by have :=(hr j e.symm).1;omega);refine⟨⟨⟨hg.os.trans hI.st.gr.os,hg.tape.trans hI.st.gr.tape,hg.output.trans hI.st.gr.output,aX hI.st.gr.size hg.size,fun j hj hn=>(keep j oM).trans (hI.st.gr.block j hj hn)⟩,(keep _ oM).trans hI.st.row,(keep _ oM).trans hI.st.box,(keep _ oM).trans hI.st.flag⟩,(keep _ oM).trans hI.qb,hI.mks.keep fun D _ hm hD=>?_,aX hI.sz hg.size⟩;have :=(aJ.mp (hM.mem D hm)).1;exact(keep D oM).trans hD
theorem tZ{np:Nat}(E:List Fx.Edge)(h:Nat)(pre:List (HP np))(x:HP np):E++(pre++[x]).map (edgeOf h)=(E++pre.map (edgeOf h))++[edgeOf h x]:=by rw[bJ,dT];rfl
section
variable {w wr W2 W:World} {LB n cap:Nat} {rb:Obj} {ds:List Deferred} {l:List Int} {E:List Fx.Edge} {h np:Nat} {pre:List (HP np)}
theorem aDj(hI:RIn w wr W2 LB n cap rb ds l E h pre W)(x:HP np)(hh:h<l.length)(hno:¬(Fx.round (E++pre.map (edgeOf h)) l).getD h 0<(Fx.round (E++pre.map (edgeOf h)) l).getD x.1.1.toNat 0+x.1.2):RIn w wr W2 LB n cap rb ds l E h (pre++[x]) W:=by refine⟨?_,hI.qb,hI.mks,hI.sz⟩;rw[tZ,Fx.rose_snoc _ _ _ hh,Fx.round_snoc];(have h1:Fx.step (Fx.round (E++pre.map (edgeOf h)) l) (edgeOf h x)=Fx.round (E++pre.map (edgeOf h)) l:=by unfold Fx.step;exact if_neg hno);have h2:decide ((Fx.round (E++pre.map (edgeOf h)) l).getD (edgeOf h x).1 0<(Fx.round (E++pre.map (edgeOf h)) l).getD (edgeOf h x).2.1 0+(edgeOf h x).2.2)=false:=decide_eq_false hno;rw[h1,h2,Bool.or_false];exact hI.st
theorem aC5(hI:RIn w wr W2 LB n cap rb ds l E h pre W)(x:HP np)(hh:h<l.length)(hLw:LB<w.heap.size)(hwr:w.heap.size+2≤wr.heap.size)(hyes:(Fx.round (E++pre.map (edgeOf h)) l).getD h 0<(Fx.round (E++pre.map (edgeOf h)) l).getD x.1.1.toNat 0+x.1.2):
 RIn w wr W2 LB n cap rb ds l E h (pre++[x]) ((W.setCell ⟨LB,h,none⟩ (.int .i64 ((Fx.round (E++pre.map (edgeOf h)) l).getD x.1.1.toNat 0+x.1.2))).setCell ⟨w.heap.size+1,0,none⟩ (.bool true)):=by
 (have other:∀j,¬j=LB→¬j=w.heap.size+1→((W.setCell ⟨LB,h,none⟩ (.int .i64 ((Fx.round (E++pre.map (edgeOf h)) l).getD x.1.1.toNat 0+x.1.2))).setCell ⟨w.heap.size+1,0,none⟩ (.bool true)).heap[j]?=W.heap[j]?:=fun j h1 h2=>by rw[bH h2,bH h1]);have h2:decide ((Fx.round (E++pre.map (edgeOf h)) l).getD (edgeOf h x).1 0<(Fx.round (E++pre.map (edgeOf h)) l).getD (edgeOf h x).2.1 0+(edgeOf h x).2.2)=true:=decide_eq_true hyes;(have h1:Fx.step (Fx.round (E++pre.map (edgeOf h)) l) (edgeOf h x)=(Fx.round (E++pre.map (edgeOf h)) l).set h ((Fx.round (E++pre.map (edgeOf h)) l).getD x.1.1.toNat 0+x.1.2):=by unfold Fx.step;exact if_pos hyes);refine⟨?_,(other _ oM oM).trans hI.qb,hI.mks.keep fun D hD hm hd=>(other D oM oM).trans hd,?_⟩
 ·rw[tZ,Fx.rose_snoc _ _ _ hh,Fx.round_snoc,h1,h2,gH];refine⟨⟨hI.st.gr.os,hI.st.gr.tape,hI.st.gr.output,?_,fun j hj hn=>?_⟩,?_,(other _ oM oM).trans hI.st.box,?_⟩
  ·have :=hI.st.gr.size;simpa using this
  ·have hjl:¬j=LB:=fun e=>hn (by rw[e]);exact(other j hjl oM).trans (hI.st.gr.block j hj hn)
  ·rw[bH oM];exact qT hI.st.row _ _
  have hf:(W.setCell ⟨LB,h,none⟩ (.int .i64 ((Fx.round (E++pre.map (edgeOf h)) l).getD x.1.1.toNat 0+x.1.2))).heap[w.heap.size+1]?=some (.cells #[.bool _] 4):=(bH oM).trans hI.st.flag;rw[bL hf];rfl
 have :=hI.sz;simpa using this
end
theorem iA:∀(l:List Sc.Rule),(∀r,r∈l→r.body.length≤4)→(St.edgesOf l).length≤4*l.length
 |[],_=>aR _
 |r::l,h=>by have ih:=iA l (fun x hx=>h x (aP _ hx));have h1:=h r bA;have h2:=St.ruleE_length r;unfold St.edgesOf at ih ⊢;rw[List.flatMap_cons,aN,dK];omega
theorem lE(l:List Sc.Rule):∀e,e∈St.edgesOf l→e.2.2≤1:=fun e he=>by obtain⟨r,_,h⟩:=jI.mp he;exact St.ruleE_one e h
theorem aBl(wp w:World)(rules:List Sc.Rule)(vr:Value)(l:List Int)(LB cap:Nat)(K:Int)(hV:PRulesV wp vr rules)(hB:Below wp.heap.size wp w)(hLB:wp.heap.size≤LB)(hrow:w.heap[LB]?=some (.cells (intRow l) 3))
 (hR:∀r,r∈rules→St.RuleIn l.length r) (hn:rules.length≤12) (hk0:∀i:Nat,0≤l.getD i 0) (hk1:∀i:Nat,l.getD i 0≤K) (hK:K≤1000000):
 Calls Tryz.prog 122 #[.slice (some ⟨LB,0,none⟩) l.length cap,vr] w fun e w'=>e=.returned (.bool (decide (Fx.round (St.edgesOf rules) l≠l)))∧w'.heap[LB]?=some (.cells (intRow (Fx.round (St.edgesOf rules) l)) 3)∧w.grownBy w' (some LB):=by
 obtain⟨ar,cr,rfl,hA⟩:=hV;have HA:Hid (PRulesAt wp ar rules):=hA;have hLw:LB<w.heap.size:=(aJ.mp hrow).1;refine(callsIn_wide (n:=3)).1 ?_;refine callsIn_of_wp_marks Tryz.func122 rfl trivial ?_ rfl;simp only[Tryz.ntmps122,List.size_toArray,dK,List.length_nil,Nat.reduceAdd,Nat.reduceSub,Array.replicate_succ,Array.replicate_zero,List.push_toArray,List.append_toArray,eW,gS];(have hSt:RSt w LB l.length cap ((w.alloc (.cells #[.slice (some ⟨LB,0,none⟩) l.length cap] 22)).alloc (.cells #[.bool false] 4)) l false:=by have b1:=(aH w.heap.size w).alloc (aF _) (.cells #[.slice (some ⟨LB,0,none⟩) l.length cap] 22);have p1:=heap_alloc_new w (.cells #[.slice (some ⟨LB,0,none⟩) l.length cap] 22);(have s1:(w.alloc (.cells #[.slice (some ⟨LB,0,none⟩) l.length cap] 22)).heap.size=w.heap.size+1:=by simp);generalize w.alloc (.cells #[.slice (some ⟨LB,0,none⟩) l.length cap] 22)=x1 at *;have b2:=(aH x1.heap.size x1).alloc (aF _) (.cells #[.bool false] 4);have p2:=heap_alloc_new x1 (.cells #[.bool false] 4);have b12:=b1.trans (b2.mono b1.size);refine⟨⟨b12.os,b12.tape,b12.output,b12.size,fun j hj _=>b12.block j hj⟩,(b12.block _ hLw).trans hrow,(b2.block _ oM).trans p1,?_⟩;rw[s1]at p2;exact p2);have HST:Hid _:=hSt;have HRR:Hid _:=hR;have HROW:Hid _:=hrow;have HK0:Hid ((∀i:Nat,0≤l.getD i 0)∧∀i:Nat,l.getD i 0≤K):=⟨hk0,hk1⟩;clear hSt hR hrow hA hk0 hk1;gi_wp2;refine wpIn_loop (fun a wr=>∃(k:Nat)(ds:List Deferred)(x7 x8 x9 x10 x14 x15 x16 x17 x18 x19 x20 x21 x22 x23 x24 x25 x26 x27 x28 x29 x30 x31 x32 x33 x34 x35 x36 x37 x38 x39:Value),k≤rules.length∧a={tmps:=#[.slice (some ⟨LB,0,none⟩) l.length cap, .slice ar rules.length cr, .pointer (some ⟨w.heap.size,0,none⟩),undef, .bool false, .pointer (some ⟨w.heap.size+1,0,none⟩),undef,x7,x8,x9,x10, .slice ar rules.length cr, .int .i64 rules.length, .int .i64 k,x14,x15,x16,x17,x18,x19,x20,x21,x22,x23,x24,x25,x26,x27,x28,x29,x30,x31,x32,x33,x34,x35,x36,x37,x38,x39,undef],defers:=ds}∧RSt w LB l.length cap wr (Fx.round (St.edgesOf (rules.take k)) l) (decide (Fx.round (St.edgesOf (rules.take k)) l≠l))∧MarksL (w.heap.size+2) wr ds) (fun a _=>rules.length-(intOf (a.tmps.getD 13 undef)).toNat) ?h0 ?round;case h0=>exact⟨0,[],_,_,_,_,_,_,_,_,_,_,_,_,_,_,_,_,_,_,_,_,_,_,_,_,_,_,_,_,_,_,aR _,rfl,by simpa[St.edgesOf,Fx.round]using HST.out,trivial⟩
 case round=>
  clear HST;rintro a wr ⟨k,ds,x7,x8,x9,x10,x14,x15,x16,x17,x18,x19,x20,x21,x22,x23,x24,x25,x26,x27,x28,x29,x30,x31,x32,x33,x34,x35,x36,x37,x38,x39,hk,rfl,hS,hM⟩;have hBw:Below wp.heap.size wp wr:=⟨hS.gr.os.trans hB.os,hS.gr.tape.trans hB.tape,hS.gr.output.trans hB.output,aX hB.size hS.gr.size,fun j hj=>(hS.gr.block j (bP hj hB.size) (fun e=>by injection e with e;omega)).trans (hB.block j hj)⟩;have HS:Hid _:=hS;have HM:Hid _:=hM;have HBW:Hid _:=hBw;clear hS hM;by_cases hlt:k<rules.length
  ·obtain⟨b,off,rfl,p0,⟨vt,p1,hT⟩,p2,⟨vb,p3,hLL⟩,p4⟩:=iG HA.out k hlt;obtain⟨at_,ct,rfl,_⟩:=hT;obtain⟨ab,cb,rfl,hLL⟩:=hLL;have HLL:Hid _:=hLL;have HRI:Hid (St.RuleIn l.length (Sc.ruleD rules k)):=HRR.out _ (by unfold Sc.ruleD;rw[aE,aG hlt];exact cR hlt);have HTK:Hid (rules.take (k+1)=rules.take k++[Sc.ruleD rules k]):=by
    show _=_;rw[cY]
    congr 1
    unfold Sc.ruleD;rw[aE,aG hlt];rfl
   have q0:=aD hBw p0;have q1:=aD hBw p1;have q2:=aD hBw p2;have q3:=aD hBw p3;have q4:=aD hBw p4;clear p0 p1 p2 p3 p4 hLL hBw;generalize Sc.ruleD rules k=r at *;gi_wp2;refine⟨trivial,?_⟩;refine(aCs Fence.wide _ trivial rfl r _ _ _ _ _).mono ?_;rintro e w' ⟨rfl,rfl⟩;gi_wp2;clear q0 q1 q2 q3 q4;obtain⟨W2,hW2⟩:∃W2,W2=((wr.alloc (.cells #[.int .i64 r.pred, .slice at_ r.terms.length ct, .int .i64 r.fold, .slice ab r.body.length cb, .int .i64 r.vars] 40)).alloc (.cells #[.int .i64 r.pred, .slice at_ r.terms.length ct, .int .i64 r.fold, .slice ab r.body.length cb, .int .i64 r.vars] 40)):=⟨_,rfl⟩;have HW:=aBk wr W2 (.cells #[.int .i64 r.pred, .slice at_ r.terms.length ct, .int .i64 r.fold, .slice ab r.body.length cb, .int .i64 r.vars] 40) hW2;rw[←hW2];clear hW2;have HW:Hid _:=HW;have hRp:=HRI.out.h0;have hRq:=HRI.out.h1;obtain⟨pr,hpr⟩:∃pr:Nat,Hid (r.pred=pr):=⟨r.pred.toNat,show _=_ by omega⟩;clear hRp hRq
   refine wpIn_rangeFunc_ownG (n:=3) rfl oM (gf:=204) (lb:=#[.pointer (some ⟨wr.heap.size+1,0,none⟩)]) ?hg trivial (eQ Tryz.func204 kR rfl)
    (yX Fence.wide 2 trivial rfl oM (wr.heap.size+1) wp l.length r _ ab cb HLL.out (aX HRI.out.hl dE) HRI.out.hb W2 (HBW.out.trans (HW.out.bel.mono HBW.out.size)) HW.out.rb) (fun h k=>HK.trans h k)
    (fun W j o o' hl h h1 h2=>HK.put (aX HBW.out.size HW.out.bel.size) W j o o' hl h h1 h2) (aH _ _) (fun _=>rfl)
    (fun pre W=>RIn w wr W2 LB l.length cap (.cells #[.int .i64 r.pred, .slice at_ r.terms.length ct, .int .i64 r.fold, .slice ab r.body.length cb, .int .i64 r.vars] 40) ds l (St.edgesOf (rules.take k)) pr pre W) (fun _ _ _=>False) (aC6 HS.out HM.out HW.out _ _) (fun _ _ _ _ _ h _ _=>h) (aBV HS.out HM.out HW.out)
    (fun x=>{tmps:=#[.slice (some ⟨LB,0,none⟩) l.length cap, .slice (some ⟨b,off,none⟩) rules.length cr, .pointer (some ⟨w.heap.size,0,none⟩),undef, .bool false, .pointer (some ⟨w.heap.size+1,0,none⟩),undef, .pointer (some ⟨wr.heap.size,0,none⟩), .int .i64 x.1.1, .int .i64 x.1.2,x10, .slice (some ⟨b,off,none⟩) rules.length cr, .int .i64 rules.length, .int .i64 k, .bool true, .pointer (some ⟨b,off+k*5,none⟩), .agg #[.int .i64 r.pred, .slice at_ r.terms.length ct, .int .i64 r.fold, .slice ab r.body.length cb, .int .i64 r.vars], .agg #[.int .i64 r.pred, .slice at_ r.terms.length ct, .int .i64 r.fold, .slice ab r.body.length cb, .int .i64 r.vars], .func (.func 204) #[] #[.pointer (some ⟨wr.heap.size+1,0,none⟩)], .int .i64 x.1.1, .int .i64 x.1.2,x21,x22,x23,x24,x25,x26,x27,x28,x29,x30,x31,x32,x33,x34,x35,x36,x37,x38,x39,undef],defers:=[]}) ?assign ?body ?done ?stop
   (case hg=>rfl);(case assign=>intro l x W K hK;gi_wp2;exact hK);case stop=>rintro D c pre W _ _ h _;exact h.elim
   case done=>
    rintro D ys W hD rfl hI hK;have hsz:=HW.out.sz;have HE:Hid (Fx.round (St.edgesOf (rules.take (k+1))) l=Fx.round (St.edgesOf (rules.take k)++(St.pairs l.length r r.body).map (edgeOf pr)) l):=by
     show _=_;(have hpt:r.pred.toNat=pr:=by have :=hpr.out;omega);rw[←hpt];rw[HTK.out,St.edgesOf_snoc]
     congr 2
     exact(St.pairs_edges HRI.out.hb).symm
    gi_wp2;refine⟨⟨k+1,_,_,_,_,_,_,_,_,_,_,_,_,_,_,_,_,_,_,_,_,_,_,_,_,_,_,_,_,_,_,_,hlt,rfl,?_,?_⟩,?_⟩
    ·rw[HE.out];exact hI.st
    ·refine⟨⟨D,?_,rfl,hK,fun d' hd' e=>?_⟩,hI.mks⟩
     ·have :=(aJ.mp HS.out.flag).1;omega
     subst e;have :=(aJ.mp (HM.out.mem D hd')).1;omega
    simp[intOf];omega
   case body=>
    rintro l0 pre ⟨⟨pq,m⟩,h0,h1,hm⟩ W hI hpl;dsimp only at h0 h1 hm;obtain⟨q,hq⟩:∃q:Nat,pq=q:=⟨pq.toNat,oM⟩;subst hq;(have hpn:pr<l.length:=by have :=HRI.out.h1;have :=hpr.out;omega);have hq1:q<l.length:=oM;have HI:Hid _:=hI;have hwz:=(aJ.mp HS.out.flag).1;have hgz:=HBW.out.size;(have c0:W.cell? ⟨w.heap.size,0,none⟩=some (.slice (some ⟨LB,0,none⟩) l.length cap):=by rw[aC hI.st.box];rfl);(have c1:W.cell? ⟨wr.heap.size,0,none⟩=some (.int .i64 pr):=by rw[aC hI.qb,←hpr.out];rfl);have hcl:(Fx.round (St.edgesOf (rules.take k)++pre.map (edgeOf pr)) l).length=l.length:=Fx.round_length _ _;have c2:=kC hI.st.row (i:=q) oM;have c3:=kC hI.st.row (i:=pr) oM;have f3:=bQ hI.st.row pr;have HFL:Hid _:=fun(v:Value)=>(bH (w:=W) (b:=LB) (c:=w.heap.size+1) (i:=pr) (v:=v) oM).trans hI.st.flag;have hlo:∀i:Nat,0≤(Fx.round (St.edgesOf (rules.take k)++pre.map (edgeOf pr)) l).getD i 0:=fun i=>lA (HK0.out.1 i) ((Fx.round_le _ l).2 i);have hel:(St.edgesOf (rules.take k)).length≤4*rules.length:=aX (iA _ (fun r hr=>(HRR.out r (eM hr)).hl)) (by rw[bC];omega);have hhi:∀i:Nat,(Fx.round (St.edgesOf (rules.take k)++pre.map (edgeOf pr)) l).getD i 0≤K+(4*12+4):=fun i=>by
     have h9:=Fx.round_bound (St.edgesOf (rules.take k)++pre.map (edgeOf pr)) (l:=l) (K:=K) HK0.out.2 (fun e he=>by
      rcases bX.mp he with h|h
      ·exact lE _ e h
      obtain⟨y,_,rfl⟩:=bO.mp h;show y.1.2≤1
      rcases y.2.2.2 with h|h<;>omega) i
     rw[aN,aO]at h9;have :=HRI.out.hl;omega
    have hlq:=hlo q;have hhq:=hhi q;(have HYES:Hid (∀A Bv:Int,A=(Fx.round (St.edgesOf (rules.take k)++pre.map (edgeOf pr)) l).getD q 0→Bv=(Fx.round (St.edgesOf (rules.take k)++pre.map (edgeOf pr)) l).getD pr 0→Bv<A+m→RIn w wr W2 LB l.length cap (.cells #[.int .i64 r.pred, .slice at_ r.terms.length ct, .int .i64 r.fold, .slice ab r.body.length cb, .int .i64 r.vars] 40) ds l (St.edgesOf (rules.take k)) pr (pre++[⟨((q:Int),m),h0,h1,hm⟩]) ((W.setCell ⟨LB,pr,none⟩ (.int .i64 (A+m))).setCell ⟨w.heap.size+1,0,none⟩ (.bool true))):=fun A Bv hA hB hy=>by subst hA hB;exact aC5 HI.out ⟨((q:Int),m),h0,h1,hm⟩ hpn hLw oM hy);(have HNO:Hid (∀A Bv:Int,A=(Fx.round (St.edgesOf (rules.take k)++pre.map (edgeOf pr)) l).getD q 0→Bv=(Fx.round (St.edgesOf (rules.take k)++pre.map (edgeOf pr)) l).getD pr 0→¬Bv<A+m→RIn w wr W2 LB l.length cap (.cells #[.int .i64 r.pred, .slice at_ r.terms.length ct, .int .i64 r.fold, .slice ab r.body.length cb, .int .i64 r.vars] 40) ds l (St.edgesOf (rules.take k)) pr (pre++[⟨((q:Int),m),h0,h1,hm⟩]) W):=fun A Bv hA hB hy=>by subst hA hB;exact aDj HI.out ⟨((q:Int),m),h0,h1,hm⟩ hpn hy);obtain⟨A,hA⟩:∃A:Int,A=(Fx.round (St.edgesOf (rules.take k)++pre.map (edgeOf pr)) l).getD q 0:=⟨_,rfl⟩;obtain⟨Bv,hBv⟩:∃Bv:Int,Bv=(Fx.round (St.edgesOf (rules.take k)++pre.map (edgeOf pr)) l).getD pr 0:=⟨_,rfl⟩;replace HYES:Hid _:=HYES.out A Bv hA hBv;replace HNO:Hid _:=HNO.out A Bv hA hBv;rw[←hA]at c2 hlq hhq;rw[←hBv]at c3;have hm0:0≤m:=oM;have hm1:m≤1:=oM;have HKL:Hid (wp.heap.size≤LB∧LB<w.heap.size∧w.heap.size+2≤wr.heap.size):=⟨hLB,hLw,oM⟩;have hwp:wp.heap.size≤w.heap.size:=oM;clear hI hlo hhi hel hcl hA hBv hwz hgz;by_cases hy:Bv<A+m
    ·have hyd:decide (Bv<A+m)=true:=decide_eq_true hy;replace HYES:Hid _:=HYES.out hy;have c6:=aCE (HFL.out (.int .i64 (A+m)));have f6:=bQ (HFL.out (.int .i64 (A+m))) 0;clear HNO hy;gi_wp2;refine⟨((KeepsOthers.setCell _ _ _).trans (KeepsOthers.setCell _ _ _)).from _,⟨((aH _ W).setCell (p:=⟨LB,pr,none⟩) HKL.out.1 _).setCell (p:=⟨w.heap.size+1,0,none⟩) (Nat.le_succ_of_le hwp) _,fun o _ hR=>?_⟩,HYES.out⟩;have h9:=HKL.out;rw[bH oM,bH oM];exact hR
    have hyd:decide (Bv<A+m)=false:=decide_eq_false hy;replace HNO:Hid _:=HNO.out hy;clear HYES hy;gi_wp2;exact⟨KeepsFrom.refl _ _,HK.refl _ _ _,HNO.out⟩
  obtain rfl:k=rules.length:=oM;(have c5:wr.cell? ⟨w.heap.size+1,0,none⟩=some (.bool (decide (Fx.round (St.edgesOf (rules.take rules.length)) l≠l))):=by rw[aC HS.out.flag];rfl);rw[gR]at *;obtain⟨fb,hfb⟩:∃fb,fb=decide (Fx.round (St.edgesOf rules) l≠l):=⟨_,rfl⟩;rw[←hfb]at c5;have HFB:Hid _:=hfb;clear hfb;gi_wp2;have hrw:=(aJ.mp HROW.out).1;refine pI (B:=w.heap.size+2) (v:=.bool fb) (fun w=>results_tmp (t:=4) rfl _ _ w) ds wr HM.out (fun w' hb=>⟨by rw[HFB.out],?_,?_⟩)
  ·exact(hb.block LB oM).trans HS.out.row
  exact⟨hb.os.trans HS.out.gr.os,hb.tape.trans HS.out.gr.tape,hb.output.trans HS.out.gr.output,aX HS.out.gr.size hb.size,fun j hj hn=>(hb.block j oM).trans (HS.out.gr.block j hj hn)⟩
end Go.Proofs.YthenjegmigeieaaGreat
namespace Go.Proofs.YthenjegmigeieaaGreat
open Go.RowKit
namespace St
theorem thn_zero_iff{a b:Int}(h:Sc.thn a b=0):a=0∧b=0:=by
 unfold Sc.thn at h;split at h
 ·exact⟨by assumption,h⟩
 exact absurd h (by assumption)
theorem check_in{p:Sc.Prog}(h:Sc.check p=0):p.arity.length≤10∧p.rules.length≤12∧∀r,r∈p.rules→RuleIn p.arity.length r:=by
 unfold Sc.check at h;split at h
 ·omega
 rename_i h1;split at h
 ·omega
 refine⟨oM,oM,fun r hr=>?_⟩;have h2:=iT (thn_zero_iff h).2 r hr;unfold Sc.ruleErr at h2;split at h2
 ·rename_i hp;obtain⟨_,h2⟩:=thn_zero_iff h2;obtain⟨_,h2⟩:=thn_zero_iff h2;obtain⟨_,h2⟩:=thn_zero_iff h2;obtain⟨_,h2⟩:=thn_zero_iff h2;obtain⟨_,h2⟩:=thn_zero_iff h2;obtain⟨h4,h2⟩:=thn_zero_iff h2;obtain⟨h5,_⟩:=thn_zero_iff h2;(have hpp:0≤r.pred∧r.pred≤(p.arity.length:Int)-1:=by unfold Sc.isPred Tr.between at hp;simpa using hp);refine⟨hpp.1,oM,fun x hx hk=>?_,?_⟩
  ·have h6:=iT h5 x hx;obtain⟨h6,_⟩:=thn_zero_iff h6;unfold Sc.litErr at h6;rw[if_pos (of_decide_eq_true hk)]at h6;split at h6
   ·omega
   split at h6
   ·rename_i h7;unfold Sc.isPred Tr.between at h7;(have h8:0≤x.pred∧x.pred≤(p.arity.length:Int)-1:=by simpa using h7);omega
   omega
  by_cases h9:4<r.body.length
  ·rw[if_pos h9]at h4;omega
  omega
 omega
def levErr(p:Sc.Prog):Int:=if Sc.check p=0 then(if flat p then 0 else 4)else Sc.check p
def levOut(p:Sc.Prog):List Int:=if Sc.check p=0∧flat p=true then level p else []
theorem levErr_bad{p:Sc.Prog}(h:¬Sc.check p=0):levErr p=Sc.check p∧levOut p=[]:=by unfold levErr levOut;rw[if_neg h,if_neg (fun k=>h k.1)];exact⟨rfl,rfl⟩
theorem levErr_flat{p:Sc.Prog}(h:Sc.check p=0)(hf:flat p=true):levErr p=0∧levOut p=level p:=by unfold levErr levOut;rw[if_pos h,if_pos hf,if_pos ⟨h,hf⟩];exact⟨rfl,rfl⟩
theorem levErr_not{p:Sc.Prog}(h:Sc.check p=0)(hf:flat p=false):levErr p=4∧levOut p=[]:=by unfold levErr levOut;rw[if_pos h,if_neg (by simp[hf]),if_neg (by simp[hf])];exact⟨rfl,rfl⟩
theorem level_early{p:Sc.Prog}{k:Nat}(hk:k≤p.arity.length)(h:Fx.round (edges p) (Fx.iter (edges p) k (zeros p.arity.length))=Fx.iter (edges p) k (zeros p.arity.length)):level p=Fx.iter (edges p) k (zeros p.arity.length)∧flat p=true:=by(have h1:level p=Fx.iter (edges p) k (zeros p.arity.length):=by unfold level;obtain⟨d,hd⟩:∃d,p.arity.length=k+d:=⟨p.arity.length-k,oM⟩;rw[hd,Fx.iter_add,←hd,Fx.iter_fix h]);refine⟨h1,decide_eq_true ?_⟩;rw[h1,h]
theorem iter_bound(E:List Fx.Edge)(hE:∀e,e∈E→e.2.2≤1)(n:Nat):∀(k i:Nat),(Fx.iter E k (zeros n)).getD i 0≤(k*E.length:Nat)
 |0,i=>by rw[show Fx.iter E 0 (zeros n)=zeros n from rfl,zeros_getD];omega
 |k+1,i=>by rw[Fx.iter_succ];have :=Fx.round_bound E (iter_bound E hE n k) hE i;rw[nR];omega
theorem iter_nonneg(E:List Fx.Edge)(n k i:Nat):0≤(Fx.iter E k (zeros n)).getD i 0:=by have :=(Fx.iter_le E k (zeros n)).2 i;rw[zeros_getD]at this;exact this
end St
theorem uD(n:Nat):madeCells #[Value.int .i64 0] n=intRow (St.zeros n):=by
 unfold intRow St.zeros;apply Array.ext
 ·simp[size_madeCells]
 intro i h1 h2;simp[madeCells,Nat.mod_one]
theorem pK{w:World}{b:Nat}{l:List Int}(cap:Nat)(h:w.heap[b]?=some (.cells (intRow l) 3)):IntsV w (.slice (some ⟨b,0,none⟩) l.length cap) l:=by refine⟨_,_,rfl, .inr ⟨b,0,rfl,fun i hi=>?_⟩⟩;rw[cV];exact kC h hi
theorem oV{w wr w5:World}{LB:Nat}(hb:Below w.heap.size w wr)(hg:wr.grownBy w5 (some LB))(h:w.heap.size≤LB):Below w.heap.size w w5:=
 ⟨hg.os.trans hb.os,hg.tape.trans hb.tape,hg.output.trans hb.output,aX hb.size hg.size,fun j hj=>(hg.block j (bP hj hb.size) (fun e=>by injection e with e;omega)).trans (hb.block j hj)⟩
theorem _root_.Go.World.grownBy.trans_row{a b c:World}{LB:Nat}(h:a.grownBy b (some LB))(k:b.grownBy c (some LB)):a.grownBy c (some LB):=
 ⟨k.os.trans h.os,k.tape.trans h.tape,k.output.trans h.output,aX h.size k.size,fun j hj hn=>(k.block j (bP hj h.size) hn).trans (h.block j hj hn)⟩
theorem aAU(p:Sc.Prog)(va vn vr:Value)(w:World)(hP:ProgV w va vn vr p)(hF:ProgFit p):
 Calls Tryz.prog 80 #[progVal va vn vr] w fun e w'=>∃v,e=.returned (.tuple #[v, .int .i64 (St.levErr p)])∧IntsV w' v (St.levOut p)∧Below w.heap.size w w':=by
 obtain⟨a0,n0,rfl,_⟩:=id hP.ar;obtain⟨a1,n1,rfl,_⟩:=id hP.nm;obtain⟨a2,n2,rfl,_⟩:=id hP.rl;have hb0:Below w.heap.size w (w.alloc (.cells #[.slice a0 p.arity.length n0, .slice a1 p.names.length n1, .slice a2 p.rules.length n2] 26)):=(aH _ _).alloc (aF _) _;have hX:=heap_alloc_new w (.cells #[.slice a0 p.arity.length n0, .slice a1 p.names.length n1, .slice a2 p.rules.length n2] 26);have HP:Hid _:=hP;have HF:Hid _:=hF;clear hP hF
 go_enter Tryz.func80,Tryz.ntmps80
 go_wp2_with fail;generalize w.alloc (.cells #[.slice a0 p.arity.length n0, .slice a1 p.names.length n1, .slice a2 p.rules.length n2] 26)=w1 at *;refine(pP p _ _ _ w1 (HP.out.below hb0) HF.out).mono ?_;rintro e w2 ⟨rfl,hb2⟩;have hX2:=(hb2.block _ (aJ.mp hX).1).trans hX;have hbw:=hb0.trans (hb2.mono hb0.size);clear hX hb0 hb2;by_cases hc:Sc.check p=0
 ·obtain⟨hn,hr,hR⟩:=St.check_in hc;have HC:Hid (Sc.check p=0):=hc;have HR:Hid _:=hR;rw[hc];clear hc hR;(have c0:w2.cell? ⟨w.heap.size,0,none⟩=some (.slice a0 p.arity.length n0):=by rw[aC hX2];rfl);have hmk:=run_make_row' (P:=Tryz.prog) 22 3 (.int .i64 0) 8 Tryz.underlying22 kR rfl .i64 .i64 p.arity.length oM oM;have b3:=(aH w2.heap.size w2).alloc (aF _) (.cells (madeCells #[Value.int .i64 0] p.arity.length) 3);have hrow:=heap_alloc_new w2 (.cells (madeCells #[Value.int .i64 0] p.arity.length) 3);have hX3:=(b3.block _ (aJ.mp hX2).1).trans hX2;have hb3:=hbw.trans (b3.mono hbw.size);(have c3:(w2.alloc (.cells (madeCells #[Value.int .i64 0] p.arity.length) 3)).cell? ⟨w.heap.size,0,none⟩=some (.slice a0 p.arity.length n0):=by rw[aC hX3];rfl);have hlw:w.heap.size<w2.heap.size:=(aJ.mp hX2).1;clear b3;go_wp2_with fail;rw[uD]at *;generalize w2.alloc (.cells (intRow (St.zeros p.arity.length)) 3)=w3 at *;generalize w2.heap.size=LB at *;clear hmk c0 hX2 hbw c3;have HX3:Hid _:=hX3;have HB3:Hid _:=hb3;clear hX3 hb3;go_loopw [19] (fun i wr=>∃k:Nat,k≤p.arity.length+1∧i=.int .i64 k∧wr.heap[LB]?=some (.cells (intRow (Fx.iter (St.edges p) k (St.zeros p.arity.length))) 3)∧(∀j,j<k→Fx.round (St.edges p) (Fx.iter (St.edges p) j (St.zeros p.arity.length))≠Fx.iter (St.edges p) j (St.zeros p.arity.length))∧w3.grownBy wr (some LB)) (fun i _=>p.arity.length+1-(intOf i).toNat);case atStart=>exact⟨0,aR _,rfl,hrow,fun j hj=>absurd hj (fD _),⟨rfl,rfl,rfl,aF _,fun _ _ _=>rfl⟩⟩
  case round=>
   clear hrow;obtain⟨k,hk,rfl,hrow,hno,hg⟩:=hrel;have hXr:wr.heap[w.heap.size]?=some (.cells #[.slice a0 p.arity.length n0, .slice a1 p.names.length n1, .slice a2 p.rules.length n2] 26):=(hg.block _ (aJ.mp HX3.out).1 (fun e=>by injection e with e;omega)).trans HX3.out;(have c2:wr.cell? ⟨w.heap.size,2,none⟩=some (.slice a2 p.rules.length n2):=by rw[aC hXr];rfl);have hbr:Below w.heap.size w wr:=⟨hg.os.trans HB3.out.os,hg.tape.trans HB3.out.tape,hg.output.trans HB3.out.output,aX HB3.out.size hg.size,fun j hj=>(hg.block j (bP hj HB3.out.size) (fun e=>by injection e with e;omega)).trans (HB3.out.block j hj)⟩;have HBR:Hid _:=hbr;have HNO:Hid _:=hno;have HROW:Hid _:=hrow;have HG:Hid _:=hg;clear hXr hbr hno hrow hg;by_cases hlt:k<p.arity.length+1
   ·have hel:=iA p.rules (fun r hr=>(HR.out r hr).hl);(have hlen:(Fx.iter (St.edges p) k (St.zeros p.arity.length)).length=p.arity.length:=by rw[Fx.iter_length];simp[St.zeros]);have HRA:=aBl w wr p.rules (.slice a2 p.rules.length n2) (Fx.iter (St.edges p) k (St.zeros p.arity.length)) LB p.arity.length 528 HP.out.rl HBR.out oM HROW.out (by rw[hlen];exact HR.out) hr (St.iter_nonneg _ _ _) (fun i=>by
     have h9:=St.iter_bound (St.edges p) (lE p.rules) p.arity.length k i;have h8:(k*(St.edges p).length:Nat)≤11*48:=Nat.mul_le_mul oM (by show(St.edgesOf p.rules).length≤48;omega)
     omega) dE
    rw[hlen]at HRA;have HRA:Hid _:=HRA;clear hel hlen;go_wp2_with fail;refine Calls.mono HRA.out ?_;rintro e w5 ⟨rfl,hrow5,hg5⟩;have HR5:Hid _:=hrow5;have HG5:Hid _:=hg5;clear HRA hrow5 hg5;by_cases hfx:Fx.round (St.edgesOf p.rules) (Fx.iter (St.edges p) k (St.zeros p.arity.length))=Fx.iter (St.edges p) k (St.zeros p.arity.length)
    ·have hfd:decide (Fx.round (St.edgesOf p.rules) (Fx.iter (St.edges p) k (St.zeros p.arity.length))≠Fx.iter (St.edges p) k (St.zeros p.arity.length))=false:=decide_eq_false (fun h=>h hfx);have HL:=St.level_early (p:=p) (k:=k) oM hfx;have HE:=St.levErr_flat HC.out HL.2;have HL:Hid _:=HL;have HE:Hid _:=HE;rw[hfd];rw[hfx]at HR5;clear hfx hfd;go_wp2_with fail;refine bodyPost_ret (results_tmp2 rfl _ _ _) rfl ⟨_,by rw[HE.out.1];rfl,?_,?_⟩
     ·rw[HE.out.2,HL.out.1];have h9:=pK p.arity.length HR5.out;rw[Fx.iter_length,show(St.zeros p.arity.length).length=p.arity.length by simp[St.zeros]]at h9;exact h9
     exact oV HBR.out HG5.out oM
    have hfd:decide (Fx.round (St.edgesOf p.rules) (Fx.iter (St.edges p) k (St.zeros p.arity.length))≠Fx.iter (St.edges p) k (St.zeros p.arity.length))=true:=decide_eq_true hfx;have HFX:Hid _:=hfx;rw[hfd];clear hfx hfd;go_wp2_with fail;go_roundw
    case rel=>
     refine⟨k+1,oM,gN,by rw[Fx.iter_succ];exact HR5.out,fun j hj=>?_,HG.out.trans_row HG5.out⟩;by_cases hjk:j=k
     ·rw[hjk];exact HFX.out
     exact HNO.out j oM
    case measure=>exact mI
   obtain rfl:k=p.arity.length+1:=oM;have HE:=St.levErr_not (p:=p) HC.out (decide_eq_false (HNO.out p.arity.length oM));have HE:Hid _:=HE;clear c2;go_wp2_with fail;refine bodyPost_ret (results_tmp2 rfl _ _ _) rfl ⟨_,by rw[HE.out.1];rfl,by rw[HE.out.2];exact⟨none,0,rfl, .inl rfl⟩,HBR.out⟩
 (have hcd:(Sc.check p==0)=false:=by simp[hc]);have HE:=St.levErr_bad hc;have HE:Hid _:=HE;clear hc;go_wp2_with fail;refine bodyPost_ret (results_tmp2 rfl _ _ _) rfl ?_;exact⟨_,by rw[HE.out.1];rfl,by rw[HE.out.2];exact⟨none,0,rfl, .inl rfl⟩,hbw⟩
abbrev Lv:=Sc.Lit×Value
def lvCells(p:Lv):List Value:=[.int .i64 p.1.kind, .int .i64 p.1.op, .int .i64 p.1.pred,p.2]
def lCells(q:List Lv):List Value:=(q.map lvCells).flatten
theorem aAZ{α:Type}(f:α→List Value)(c:Nat)(hf:∀a,(f a).length=c):∀(l:List α)(i:Nat)(a:α)(t:Nat),l[i]?=some a→t<c→(l.map f).flatten[i*c+t]?=(f a)[t]?
 |[],i,a,t,h,_=>by simp at h
 |b::l,0,a,t,h,ht=>by(have hab:b=a:=by simpa using h);subst hab;rw[eT,iM,jT,cV,eH (by rw[hf];exact ht)]
 |b::l,i+1,a,t,h,ht=>by(have h':l[i]?=some a:=by simpa using h);rw[eT,iM,eB (by rw[hf,nR];omega),hf];(have e:(i+1)*c+t-c=i*c+t:=by rw[nR];omega);rw[e];exact aAZ f c hf l i a t h' ht
theorem yY{α:Type}(f:α→List Value)(c:Nat)(hf:∀a,(f a).length=c):∀(l:List α),(l.map f).flatten.length=l.length*c
 |[]=>by simp
 |b::l=>by rw[eT,iM,aN,hf,yY f c hf l,dK,nR];omega
theorem aBF{α:Type}(f:α→List Value)(c:Nat)(hc:0<c)(hf:∀a,(f a).length=c)(l:List α)(j:Nat)(u:Value)(h:(l.map f).flatten[j]?=some u):∃a,l[j/c]?=some a∧(f a)[j% c]?=some u:=by(have hj:j<l.length*c:=by rw[←yY f c hf l];exact(dA.mp h).1);have hd:j/c<l.length:=(Nat.div_lt_iff_lt_mul hc).mpr hj;refine⟨l[j/c],aG hd,?_⟩;rw[←aAZ f c hf l (j/c) l[j/c] (j% c) (aG hd) (Nat.mod_lt _ hc),Nat.mul_comm,Nat.div_add_mod];exact h
theorem fF{W W':World}{B e c n:Nat}{v:Value}{xs:List Value}(h:W.ownsRow B e c v n xs)(hk:∀(k:Nat)(a:Array Value),W.heap[k]?=some (.cells a e)→W'.heap[k]?=some (.cells a e)):W'.ownsRow B e c v n xs:=by
 obtain⟨h1,h2⟩:=h;refine⟨h1,?_⟩;rcases h2 with h2|⟨g,cap,cur,hv,hg,hh,r⟩
 ·exact .inl h2
 exact .inr ⟨g,cap,cur,hv,hg,hk g cur hh,r⟩
theorem aBn{W:World}{B e c n:Nat}{v:Value}{xs:List Value}(h:W.ownsRow B e c v n xs):∃ao cap,v=.slice ao n cap∧n≤cap∧(n=0∨∃g,ao=some ⟨g,0,none⟩∧∀j,j<n*c→W.cell? ⟨g,j,none⟩=xs[j]?):=by
 rcases eU h with⟨rfl,rfl⟩|⟨g,cap,rfl⟩
 ·exact⟨none,0,rfl,aF _, .inl rfl⟩
 refine⟨_,cap,rfl,?_, .inr ⟨g,rfl,fun j hj=>h.cellAt j hj⟩⟩;rcases h.2 with⟨h2,_⟩|⟨g2,cap2,cur,hv,_,_,hle,_⟩
 ·cases h2
 injection hv with _ _ h3;omega
end Go.Proofs.YthenjegmigeieaaGreat
namespace Go.Proofs.YthenjegmigeieaaGreat
section
variable {P:Program} {ops:Array Oper} {Q:Exit→Act→World→Prop} {md:Region.Mode}
theorem iZ{s:Array Bool}{i:Nat}(h:i∈Region.ready md ops s):s[i]?=some false∧∃o,ops[i]?=some o∧∀e,e∈o.after→Region.binds md e=true→s[e.on]?=some true:=by
 unfold Region.ready at h;obtain⟨_,h⟩:=eX.mp h;rw[aW]at h;obtain⟨h1,h2⟩:=h;refine⟨?_,?_⟩
 ·cases hs:s[i]? with
  |none=>simp[Array.getD_eq_getD_getElem?,hs]at h1
  |some b=>cases b<;>simp[Array.getD_eq_getD_getElem?,hs]at h1 ⊢
 cases ho:ops[i]? with
 |none=>simp[ho]at h2
 |some o=>
  refine⟨o,rfl,fun e he hb=>?_⟩;rw[ho,dG,dH,eI]at h2;have h3:=h2 e he;rw[hb]at h3
  cases hs:s[e.on]? with
  |none=>simp[Array.getD_eq_getD_getElem?,hs]at h3
  |some b=>cases b<;>simp[Array.getD_eq_getD_getElem?,hs]at h3 ⊢
def left(s:Array Bool):Nat:=s.toList.countP (fun b=> !b)
theorem uE{s:Array Bool}(h:left s=0):Region.ready md ops s=[]:=by
 cases hr:Region.ready md ops s with
 |nil=>rfl
 |cons i r=>
  have h1:=(iZ (s:=s) (i:=i) (by rw[hr];exact bA)).1;(have h2:false∈s.toList:=by rw[←bF]at h1;exact dL h1);have h3:=List.countP_eq_zero.mp h false h2;simp at h3
theorem aCo{s:Array Bool}{i:Nat}(h:s[i]?=some false):left (s.setIfInBounds i true)+1=left s:=by obtain⟨hi,he⟩:=aJ.mp h;unfold left;(have h1:(s.setIfInBounds i true).toList=s.toList.set i true:=by simp);rw[h1,List.countP_set (h:=by simpa using hi)];have hm:0<s.toList.countP (fun b=> !b):=List.countP_pos_iff.mpr ⟨false,by rw[←bF]at h;exact dL h,rfl⟩;(have h2:s.toList[i]'(by simpa using hi)=false:=by rw[Array.getElem_toList];exact he);rw[h2];simp only[Bool.not_false,Bool.not_true,if_true,eF,if_false];omega
theorem tU(I:Array Bool→Act→World→Prop)(hend:∀s a w,Region.ready md ops s=[]→I s a w→Q .normal a w)
 (hstep:∀s a w i,i∈Region.ready md ops s→I s a w→wpOp P ops Q i (I (s.setIfInBounds i true)) a w):
 ∀(fuel:Nat)(s:Array Bool)(a:Act)(w:World),left s≤fuel→I s a w→wpAny P md ops Q fuel s a w
 |0,s,a,w,hc,hI=>⟨uE (by omega),hend s a w (uE (by omega)) hI⟩
 |fuel+1,s,a,w,hc,hI=>⟨fun h0=>hend s a w h0 hI,fun i hi=>wpOp_mono (fun a' w' hI'=>tU I hend hstep fuel _ a' w' (by have :=aCo (iZ hi).1;omega) hI') (hstep s a w i hi hI)⟩
theorem gO(I:Array Bool→Act→World→Prop){id:Nat}{a:Act}{w:World}(hm:P.follows .mixedOrders=true)
 (hend:∀s a w,Region.ready .any ops s=[]→I s a w→Q .normal a w)
 (hstep:∀s a w i,i∈Region.ready .any ops s→I s a w→wpOp P ops Q i (I (s.setIfInBounds i true)) a w)
 (h0:I (Array.replicate ops.size false) a {w with drawn:=w.drawn+1}):(Code.region id ops true).wp P Q a w:=by
 refine wp_region_any hm (tU I hend hstep ops.size _ _ _ ?_ h0);unfold left;exact aX List.countP_le_length (by simp)
end
end Go.Proofs.YthenjegmigeieaaGreat
