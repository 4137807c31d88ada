/- Own texts, one behind the other (part 9). -/
import Derived.Test.YthenjegmigeieaaGreatBundleH
import Derived.Test.YthenjegmigeieaaGreatRows
import Derived.Deep.QuietTactic
import Derived.BigQuiet
import Derived.Deep.RegionHeld3
import Derived.Deep.DeepCutAuto
import Derived.Deep.RegionLaw
import Derived.Laws.AppendOwnNone
set_option maxRecDepth 100000
set_option maxHeartbeats 8000000
namespace Go.Proofs.YthenjegmigeieaaGreat
open Go.RowKit
structure PB (w:World) (o:Obj) (wr:World):Prop where
 bel:Below w.heap.size w wr
 box:wr.heap[w.heap.size]?=some o
theorem PB.below{w wr w2:World}{o:Obj}(h:PB w o wr)(hb:Below wr.heap.size wr w2):PB w o w2:=
 ⟨h.bel.trans (hb.mono h.bel.size),(hb.block _ (aY h.box)).trans h.box⟩
theorem PB.start(w:World)(o:Obj):PB w o (w.alloc o):=⟨(aG _ _).alloc (aE _) _,heap_alloc_new w o⟩
theorem PB.drew{w wr:World}{o:Obj}(h:PB w o wr):PB w o wr.drew:=⟨h.bel.drew,h.box⟩
theorem rI(l:List (List UInt8))(s:List UInt8)(k:Nat)(h:k<l.length):(l.drop k).contains s=((Sc.strD l k==s)||(l.drop (k+1)).contains s):=by rw[aZ h,List.contains_cons];(have :Sc.strD l k=l[k]:=by simp[Sc.strD,List.getD_eq_getElem?_getD,h]);rw[this,Bool.beq_comm]
theorem aAH(ns:List (List UInt8))(j m:Nat)(h:m<j):Sc.strD (ns.take j) m=Sc.strD ns m:=by simp[Sc.strD,List.getD_eq_getElem?_getD,h]
theorem oT(p:Sc.Prog)(va vn vr:Value)(w:World)(hP:ProgV w va vn vr p)(hF:ProgFit p):
 Calls Tryz.prog 59 #[progVal va vn vr] w fun e w'=>e=.returned (.int .i64 (Sc.check p))∧Below w.heap.size w w':=by
 obtain⟨ar,ns,rs⟩:=p;obtain⟨hA,hN,hL⟩:=hP;have HA:Hid (IntsV w va ar):=hA;obtain⟨ao,cap,rfl,hA⟩:=hA;obtain⟨an,cn,rfl,hN⟩:=hN;obtain⟨al,cl,rfl,hL⟩:=hL;have hA:IntsAt w ao ar:=hA;have hN:StrsAt w an ns:=hN;have hL:PRulesAt w al rs:=hL;have HFR:Hid (∀i,i<rs.length→RuleFit (Sc.ruleD rs i)):=hF.rs;clear hF;have hst:=PB.start w (.cells #[.slice ao ar.length cap, .slice an ns.length cn, .slice al rs.length cl] 26);have HE0:Hid (Sc.check ⟨ar,ns,rs⟩=if 10<ar.length∨12<rs.length then 2 else if¬ns.length=ar.length then 1 else Sc.thn (Sc.first (Sc.predErr ar ns) (List.range ns.length)) (Sc.first (Sc.ruleErr ar) rs)):=rfl;by_cases h1:10<ar.length
 ·(have HV:Hid (Sc.check ⟨ar,ns,rs⟩=2):=by show _=_;rw[HE0.out,if_pos (.inl h1)]);have g1:decide (10<ar.length)=true:=decide_eq_true h1;have g1':decide ((10:Int)<(ar.length:Int))=true:=decide_eq_true (by omega);clear HE0 hA hN hL;go_enter Tryz.func59,Tryz.ntmps59;(go_wp2_with fail);go_ret;exact⟨by rw[HV.out];rfl,hst.bel⟩
 have g1:decide (10<ar.length)=false:=decide_eq_false h1;have g1':decide ((10:Int)<(ar.length:Int))=false:=decide_eq_false (by omega);by_cases h2:12<rs.length
 ·(have HV:Hid (Sc.check ⟨ar,ns,rs⟩=2):=by show _=_;rw[HE0.out,if_pos (.inr h2)]);have g2:decide (12<rs.length)=true:=decide_eq_true h2;have g2':decide ((12:Int)<(rs.length:Int))=true:=decide_eq_true (by omega);clear HE0 hA hN hL;go_enter Tryz.func59,Tryz.ntmps59;(go_wp2_with fail);go_ret;exact⟨by rw[HV.out];rfl,hst.bel⟩
 have g2:decide (12<rs.length)=false:=decide_eq_false h2;have g2':decide ((12:Int)<(rs.length:Int))=false:=decide_eq_false (by omega);rw[if_neg (fun h=>h.elim h1 h2)]at HE0;by_cases h3:ns.length=ar.length;rotate_left
 ·(have HV:Hid (Sc.check ⟨ar,ns,rs⟩=1):=by show _=_;rw[HE0.out,if_pos h3]);(have g3:((ns.length:Int) != (ar.length:Int))=true:=by simp;omega);(have g3':(ns.length != ar.length)=true:=by simp;omega);clear HE0 hA hN hL;go_enter Tryz.func59,Tryz.ntmps59;(go_wp2_with fail);go_ret;exact⟨by rw[HV.out];rfl,hst.bel⟩
 rw[if_neg (fun h=>h h3)]at HE0;have H3:Hid (ns.length=ar.length):=h3;(have g3:((ns.length:Int) != (ar.length:Int))=false:=by simp;omega);(have g3':(ns.length != ar.length)=false:=by simp;omega);(have h10:ns.length≤10:=by omega);clear h3;go_enter Tryz.func59,Tryz.ntmps59;(go_wp2_with fail);(go_loopw [3] (fun i wr=>∃j:Nat,j≤ns.length∧i=.int .i64 j∧PB w (.cells #[.slice ao ar.length cap, .slice an ns.length cn, .slice al rs.length cl] 26) wr∧Sc.first (Sc.predErr ar ns) (List.range ns.length)=Sc.first (Sc.predErr ar ns) ((List.range ns.length).drop j)) (fun i _=>ns.length-(intOf i).toNat));case atStart=>exact⟨0,aR _,rfl,hst,rfl⟩
 case round=>
  clear hst;obtain⟨j,hj,rfl,hR,hfj⟩:=hrel;have HFJ:Hid _:=hfj;clear hfj;(have c0:wr.cell? ⟨w.heap.size,0,none⟩=some (.slice ao ar.length cap):=by rw[aA hR.box];rfl);(have c1:wr.cell? ⟨w.heap.size,1,none⟩=some (.slice an ns.length cn):=by rw[aA hR.box];rfl);by_cases hjl:j<ns.length
  ·obtain⟨b,off,rfl,p0⟩:=sW hN j hjl;(have hja:j<ar.length:=by rw[←H3.out];exact hjl);obtain⟨b2,off2,rfl,p1⟩:=eP hA j hja;have q0:=aB hR.bel p0;have q1:=aB hR.bel p1;(have HNC:Hid (∀y m,Below w.heap.size w y→m<ns.length→y.cell? ⟨b,off+m,none⟩=some (.string ⟨(Sc.strD ns m).toArray⟩)):=by intro y m hy hm;obtain⟨b',off',e,hc⟩:=sW hN m hm;(obtain⟨rfl,rfl⟩:b=b'∧off=off':=by simpa using e);exact aB hy hc);have HFD:Hid (Sc.first (Sc.predErr ar ns) (List.range ns.length)=Sc.thn (Sc.predErr ar ns j) (Sc.first (Sc.predErr ar ns) ((List.range ns.length).drop (j+1)))):=HFJ.out.trans (rY ar ns j hjl);have HPE:Hid (Sc.predErr ar ns j=Sc.thn (if Tr.between (Sc.intD ar j) 0 3 then 0 else 3) (Sc.thn (if Tr.isName (Sc.strD ns j)then 0 else 1) (if(ns.take j).contains (Sc.strD ns j)then 6 else 0))):=rfl;clear p0 p1 hA hN hL HFJ;generalize Sc.intD ar j=a at *;generalize hs:Sc.strD ns j=s at *;have HSJ:Hid _:=hs;clear hs;(go_wp2_with fail);refine(iM _ _ _ _).mono ?_;rintro e w2 ⟨he,rfl⟩;cases g4:Tr.between a 0 3
   ·rw[g4]at he;subst he;(have HV:Hid (Sc.check ⟨ar,ns,rs⟩=3):=by show _=_;rw[HE0.out,HFD.out,HPE.out,g4];rfl);clear HE0 HFD HPE;(go_wp2_with fail);go_ret;exact⟨by rw[HV.out];rfl,hR.bel⟩
   rw[g4]at he;subst he;rw[g4,if_pos rfl,Sc.thn_zero]at HPE;(go_wp2_with fail);refine(wO s _).mono ?_;rintro e w3 ⟨he,rfl⟩;cases h5:Tr.isName s
   ·rw[h5]at he;subst he;(have HV:Hid (Sc.check ⟨ar,ns,rs⟩=1):=by show _=_;rw[HE0.out,HFD.out,HPE.out,h5];rfl);clear HE0 HFD HPE;(go_wp2_with fail);go_ret;exact⟨by rw[HV.out];rfl,hR.bel⟩
   rw[h5]at he;subst he;rw[h5,if_pos rfl,Sc.thn_zero]at HPE;clear c0 c1 q0 q1 g4 h5;(go_wp2_with fail);(go_loopw [4] (fun i wq=>∃m:Nat,m≤j∧i=.int .i64 m∧PB w (.cells #[.slice (some ⟨b2,off2,none⟩) ar.length cap, .slice (some ⟨b,off,none⟩) ns.length cn, .slice al rs.length cl] 26) wq∧(ns.take j).contains s=((ns.take j).drop m).contains s) (fun i _=>j-(intOf i).toNat));case atStart=>exact⟨0,aR _,rfl,hR,rfl⟩
   case round=>
    clear hR;obtain⟨m,hm,rfl,hR,hct⟩:=hrel;have HCT:Hid _:=hct;clear hct;(have c1:wr.cell? ⟨w.heap.size,1,none⟩=some (.slice (some ⟨b,off,none⟩) ns.length cn):=by rw[aA hR.box];rfl);by_cases hml:m<j
    ·have q0:=HNC.out _ m hR.bel (by omega);have q1:=HNC.out _ j hR.bel hjl;rw[HSJ.out]at q1;(have hlt2:m<(ns.take j).length:=by rw[bA];omega);(have HCD:Hid ((ns.take j).contains s=((Sc.strD ns m==s)||((ns.take j).drop (m+1)).contains s)):=by show _=_;rw[HCT.out,rI _ _ m hlt2,aAH ns j m hml]);clear HCT hlt2;(have hml2:m<ns.length:=by omega);(go_upto_region 15 with fail);cases g6:(Sc.strD ns m==s)
     ·(have HV:Hid ((ns.take j).contains s=((ns.take j).drop (m+1)).contains s):=by show _=_;rw[HCD.out,g6];rfl);clear HCD;(go_region_held3 (fun y=>y.cell? ⟨w.heap.size,1,none⟩=some (.slice (some ⟨b,off,none⟩) ns.length cn)∧y.cell? ⟨b,off+m,none⟩=some (.string ⟨(Sc.strD ns m).toArray⟩)∧y.cell? ⟨b,off+j,none⟩=some (.string ⟨s.toArray⟩)) (go_keep) (fail));have hRd:=hR.drew;(go_wp2_with fail);go_roundw;(case rel=>exact⟨m+1,by omega,by go_num,hRd,HV.out⟩);case measure=>simp[intOf];omega
     (have HV:Hid (Sc.check ⟨ar,ns,rs⟩=6):=by show _=_;rw[HE0.out,HFD.out,HPE.out,HCD.out,g6];rfl);clear HCD HE0 HFD HPE;(go_region_held3 (fun y=>y.cell? ⟨w.heap.size,1,none⟩=some (.slice (some ⟨b,off,none⟩) ns.length cn)∧y.cell? ⟨b,off+m,none⟩=some (.string ⟨(Sc.strD ns m).toArray⟩)∧y.cell? ⟨b,off+j,none⟩=some (.string ⟨s.toArray⟩)) (go_keep) (fail));have hRd:=hR.drew.bel;(go_wp2_with fail);go_ret;exact⟨by rw[HV.out];rfl,hRd⟩
    (have hz:(ns.take j).contains s=false:=by rw[HCT.out,aH (by rw[bA];omega)];rfl);(have HV:Hid (Sc.first (Sc.predErr ar ns) (List.range ns.length)=Sc.first (Sc.predErr ar ns) ((List.range ns.length).drop (j+1))):=by show _=_;rw[HFD.out,HPE.out,hz];rfl);clear HFD HPE HCT hz;(go_wp2_with fail);go_roundw;(case rel=>exact⟨j+1,by omega,by go_num,hR,HV.out⟩);case measure=>simp[intOf];omega
  (have hz:Sc.first (Sc.predErr ar ns) (List.range ns.length)=0:=by rw[HFJ.out,aH (by simp;omega)];rfl);rw[hz,Sc.thn_zero]at HE0;(have har:ar.length≤9223372036854775807:=by omega);clear HFJ hz hA hN;(go_wp2_with fail);(go_loopw [5] (fun i wr=>∃j:Nat,j≤rs.length∧i=.int .i64 j∧PB w (.cells #[.slice ao ar.length cap, .slice an ns.length cn, .slice al rs.length cl] 26) wr∧Sc.first (Sc.ruleErr ar) rs=Sc.first (Sc.ruleErr ar) (rs.drop j)) (fun i _=>rs.length-(intOf i).toNat));case atStart=>exact⟨0,aR _,rfl,hR,rfl⟩
  case round=>
   clear hR c0 c1;obtain⟨j,hj,rfl,hR,hfj⟩:=hrel;have HFJ:Hid _:=hfj;clear hfj;(have c0:wr.cell? ⟨w.heap.size,0,none⟩=some (.slice ao ar.length cap):=by rw[aA hR.box];rfl);(have c1:wr.cell? ⟨w.heap.size,1,none⟩=some (.slice an ns.length cn):=by rw[aA hR.box];rfl);(have c2:wr.cell? ⟨w.heap.size,2,none⟩=some (.slice al rs.length cl):=by rw[aA hR.box];rfl);by_cases hjl:j<rs.length
   ·obtain⟨b,off,rfl,p0,⟨vt,p1,hT⟩,p2,⟨vb,p3,hB⟩,p4⟩:=iA hL j hjl;have HT:Hid (PTermsV w vt (Sc.ruleD rs j).terms):=hT;have HB:Hid (PLitsV w vb (Sc.ruleD rs j).body):=hB;obtain⟨at_,ct,rfl,_,_⟩:=hT;obtain⟨ab,cb,rfl,_⟩:=hB;have q0:=aB hR.bel p0;have q1:=aB hR.bel p1;have q2:=aB hR.bel p2;have q3:=aB hR.bel p3;have q4:=aB hR.bel p4;have HFD:Hid (Sc.first (Sc.ruleErr ar) rs=Sc.thn (Sc.ruleErr ar (Sc.ruleD rs j)) (Sc.first (Sc.ruleErr ar) (rs.drop (j+1)))):=HFJ.out.trans (Sc.first_drop _ _ _ j hjl);have HFI:Hid (RuleFit (Sc.ruleD rs j)):=HFR.out j hjl;clear p0 p1 p2 p3 p4 HFJ hL;generalize hx:Sc.ruleD rs j=x at *;clear hx;(have HRU:Hid (∀y,(PB w (.cells #[.slice ao ar.length cap, .slice an ns.length cn, .slice (some ⟨b,off,none⟩) rs.length cl] 26) y∧y.cell? ⟨w.heap.size,0,none⟩=some (.slice ao ar.length cap)∧y.cell? ⟨w.heap.size,1,none⟩=some (.slice an ns.length cn)∧y.cell? ⟨w.heap.size,2,none⟩=some (.slice (some ⟨b,off,none⟩) rs.length cl)∧y.cell? ⟨b,off+j*5,none⟩=some (.int .i64 x.pred)∧y.cell? ⟨b,off+j*5+1,none⟩=some (.slice at_ x.terms.length ct)∧y.cell? ⟨b,off+j*5+2,none⟩=some (.int .i64 x.fold)∧y.cell? ⟨b,off+j*5+3,none⟩=some (.slice ab x.body.length cb)∧y.cell? ⟨b,off+j*5+4,none⟩=some (.int .i64 x.vars))→Calls Tryz.prog 111 #[progVal (.slice ao ar.length cap) (.slice an ns.length cn) (.slice (some ⟨b,off,none⟩) rs.length cl),pruleVal x (.slice at_ x.terms.length ct) (.slice ab x.body.length cb)] y fun e w'=>e=.returned (.int .i64 (Sc.ruleErr ar x))∧(PB w (.cells #[.slice ao ar.length cap, .slice an ns.length cn, .slice (some ⟨b,off,none⟩) rs.length cl] 26) w'∧w'.cell? ⟨w.heap.size,0,none⟩=some (.slice ao ar.length cap)∧w'.cell? ⟨w.heap.size,1,none⟩=some (.slice an ns.length cn)∧w'.cell? ⟨w.heap.size,2,none⟩=some (.slice (some ⟨b,off,none⟩) rs.length cl)∧w'.cell? ⟨b,off+j*5,none⟩=some (.int .i64 x.pred)∧w'.cell? ⟨b,off+j*5+1,none⟩=some (.slice at_ x.terms.length ct)∧w'.cell? ⟨b,off+j*5+2,none⟩=some (.int .i64 x.fold)∧w'.cell? ⟨b,off+j*5+3,none⟩=some (.slice ab x.body.length cb)∧w'.cell? ⟨b,off+j*5+4,none⟩=some (.int .i64 x.vars))):=by rintro y ⟨hPB,k0,k1,k2,k3,k4,k5,k6,k7⟩;refine Calls.mono (yY ar _ _ _ x _ _ y har (aK HA.out hPB.bel) (bK HT.out hPB.bel) (fR HB.out hPB.bel) HFI.out) ?_;rintro e w' ⟨rfl,hb⟩;exact⟨rfl,hPB.below hb,aB hb k0,aB hb k1,aB hb k2,aB hb k3,aB hb k4,aB hb k5,aB hb k6,aB hb k7⟩);have hRd:=hR.drew;clear HT HB HFI;(go_upto_region 20 with fail);(go_region_held3 (fun y=>(PB w (.cells #[.slice ao ar.length cap, .slice an ns.length cn, .slice (some ⟨b,off,none⟩) rs.length cl] 26) y∧y.cell? ⟨w.heap.size,0,none⟩=some (.slice ao ar.length cap)∧y.cell? ⟨w.heap.size,1,none⟩=some (.slice an ns.length cn)∧y.cell? ⟨w.heap.size,2,none⟩=some (.slice (some ⟨b,off,none⟩) rs.length cl)∧y.cell? ⟨b,off+j*5,none⟩=some (.int .i64 x.pred)∧y.cell? ⟨b,off+j*5+1,none⟩=some (.slice at_ x.terms.length ct)∧y.cell? ⟨b,off+j*5+2,none⟩=some (.int .i64 x.fold)∧y.cell? ⟨b,off+j*5+3,none⟩=some (.slice ab x.body.length cb)∧y.cell? ⟨b,off+j*5+4,none⟩=some (.int .i64 x.vars))) (go_keep) ((go_at_call 111;refine Calls.mono (HRU.out _ ?_) ?_;(simp[*]);rintro e w2 ⟨rfl,h1,h2,h3,h4,h5,h6,h7,h8,h9⟩)));have hR2:=h1;clear h2 h3 h4 h5 h6 h7 h8 h9 HRU;by_cases h9:Sc.ruleErr ar x=0;rotate_left
    ·(have HV:Hid (Sc.check ⟨ar,ns,rs⟩=Sc.ruleErr ar x):=by show _=_;rw[HE0.out,HFD.out,Sc.thn_ne _ h9]);(have g9:(Sc.ruleErr ar x != 0)=true:=by simpa using h9);clear HE0 HFD h9;(go_wp2_with fail);go_ret;exact⟨by rw[HV.out];rfl,hR2.bel⟩
    (have HV:Hid (Sc.first (Sc.ruleErr ar) rs=Sc.first (Sc.ruleErr ar) (rs.drop (j+1))):=by show _=_;rw[HFD.out,h9,Sc.thn_zero]);rw[h9];clear HFD h9;(go_wp2_with fail);go_roundw;(case rel=>exact⟨j+1,by omega,by go_num,hR2,HV.out⟩);case measure=>simp[intOf];omega
   (have HV:Hid (Sc.check ⟨ar,ns,rs⟩=0):=by show _=_;rw[HE0.out,HFJ.out,aH (by omega)];rfl);clear HE0 hL;(go_wp2_with fail);go_ret;exact⟨by rw[HV.out];rfl,hR.bel⟩

abbrev rulObj(r:Tr.Rule)(v u:Value):Obj:=.cells #[.int .i64 r.at_, .string ⟨r.name.toArray⟩,v, .int .i64 r.fold,u] 240
abbrev pruObj(r:Sc.Rule)(v u:Value):Obj:=.cells #[.int .i64 r.pred,v, .int .i64 r.fold,u, .int .i64 r.vars] 40
abbrev pliObj(x:Sc.Lit)(v:Value):Obj:=.cells #[.int .i64 x.kind, .int .i64 x.op, .int .i64 x.pred,v] 49

def smallQ:Sc.Prog:=⟨[2,2],[[113],[112]],
 [⟨1,[⟨0,0⟩,⟨1,0⟩],0,[⟨1,0,0,[⟨0,0⟩,⟨1,0⟩]⟩],2⟩,
  ⟨1,[⟨0,0⟩,⟨2,0⟩],0,[⟨1,0,1,[⟨0,0⟩,⟨1,0⟩]⟩,⟨1,0,0,[⟨1,0⟩,⟨2,0⟩]⟩],3⟩]⟩
def laidAll(w:World):List Obj→World
 |[]=>w
 |o::os=>laidAll (w.alloc o) os
theorem nD:∀(os:List Obj)(w:World),Below w.heap.size w (laidAll w os):=by
 intro os
 induction os with
 |nil=>intro w;exact aG _ _
 |cons o os ih=>
  intro w;have b1:Below w.heap.size w (w.alloc o):=(aG _ _).alloc (aE _) o;exact b1.trans ((ih (w.alloc o)).mono b1.size)
theorem qJ:∀(os:List Obj)(w:World)(k:Nat)(o:Obj),os[k]?=some o→(laidAll w os).heap[w.heap.size+k]?=some o:=by
 intro os
 induction os with
 |nil=>intro w k o h;simp at h
 |cons x os ih=>
  intro w k o h
  cases k with
  |zero=>
   (have hx:x=o:=by simpa using h);subst hx;have hn:=heap_alloc_new w x;exact((nD os (w.alloc x)).block _ (aY hn)).trans hn
  |succ k=>
   have :=ih (w.alloc x) k o (by simpa using h);(have hs:(w.alloc x).heap.size=w.heap.size+1:=by simp);rw[hs]at this;rw[show w.heap.size+(k+1)=w.heap.size+1+k by omega];exact this
theorem gI(os:List Obj)(w:World)(k:Nat)(c:Array Value)(t:Nat)(i:Nat)(v:Value)(h:os[k]?=some (.cells c t))(hv:c[i]?=some v):
 (laidAll w os).cell? ⟨w.heap.size+k,i,none⟩=some v:=by
 rw[aA (qJ os w k _ h)];exact hv
abbrev slc(n k l:Nat):Value:=.slice (some ⟨n+k,0,none⟩) l l
abbrev num(i:Int):Value:=.int .i64 i
def smallO(n:Nat):List Obj:=
 [.cells #[slc n 4 2,slc n 5 2,slc n 13 2] 26,
  .cells #[num 0,num 0] 147, .cells #[num 1,num 0] 147, .cells #[num 2,num 0] 147,
  .cells #[num 2,num 2] 3,
  .cells #[.string ⟨#[113]⟩, .string ⟨#[112]⟩] 9,
  .cells #[num 0,num 0,num 1,num 0] 147,
  .cells #[num 0,num 0,num 1,num 0] 147,
  .cells #[num 1,num 0,num 0,slc n 7 2] 49,
  .cells #[num 0,num 0,num 2,num 0] 147,
  .cells #[num 0,num 0,num 1,num 0] 147,
  .cells #[num 1,num 0,num 2,num 0] 147,
  .cells #[num 1,num 0,num 1,slc n 10 2,num 1,num 0,num 0,slc n 11 2] 49,
  .cells #[num 1,slc n 6 2,num 0,slc n 8 1,num 2,num 1,slc n 9 2,num 0,slc n 12 2,num 3] 40]
theorem jX(w:World)(os:List Obj)(k:Nat)(a b:Int)(h:os[k]?=some (.cells #[num a,num 0,num b,num 0] 147)):
 PTermsV (laidAll w os) (slc w.heap.size k 2) [⟨a,0⟩,⟨b,0⟩]:=by
 refine⟨_,_,rfl,aE _, .inr ⟨_,0,rfl,fun i hi=>?_⟩⟩
 match i,hi with
 |0,_=>exact⟨gI os w k _ _ 0 _ h rfl,gI os w k _ _ 1 _ h rfl⟩
 |1,_=>exact⟨gI os w k _ _ 2 _ h rfl,gI os w k _ _ 3 _ h rfl⟩
theorem yS(w:World):ProgV (laidAll w (smallO w.heap.size)) (slc w.heap.size 4 2) (slc w.heap.size 5 2) (slc w.heap.size 13 2) smallQ:=by
 have c:∀(k:Nat)(c:Array Value)(t i:Nat)(v:Value),(smallO w.heap.size)[k]?=some (.cells c t)→c[i]?=some v→(laidAll w (smallO w.heap.size)).cell? ⟨w.heap.size+k,i,none⟩=some v:=
  fun k c t i v=>gI _ w k c t i v
 refine⟨?_,?_,?_⟩
 ·refine⟨_,_,rfl, .inr ⟨_,0,rfl,fun i hi=>?_⟩⟩
  match i,hi with
  |0,_=>exact c 4 _ _ 0 _ rfl rfl
  |1,_=>exact c 4 _ _ 1 _ rfl rfl
 ·refine⟨_,_,rfl, .inr ⟨_,0,rfl,fun i hi=>?_⟩⟩
  match i,hi with
  |0,_=>exact c 5 _ _ 0 _ rfl rfl
  |1,_=>exact c 5 _ _ 1 _ rfl rfl
 refine⟨_,_,rfl, .inr ⟨_,0,rfl,fun i hi=>?_⟩⟩
 match i,hi with
 |0,_=>
  refine⟨c 13 _ _ 0 _ rfl rfl,⟨_,c 13 _ _ 1 _ rfl rfl,jX w _ 6 0 1 rfl⟩,c 13 _ _ 2 _ rfl rfl,⟨_,c 13 _ _ 3 _ rfl rfl,?_⟩,c 13 _ _ 4 _ rfl rfl⟩;refine⟨_,_,rfl, .inr ⟨_,0,rfl,fun j hj=>?_⟩⟩
  match j,hj with
  |0,_=>exact⟨c 8 _ _ 0 _ rfl rfl,c 8 _ _ 1 _ rfl rfl,c 8 _ _ 2 _ rfl rfl,_,c 8 _ _ 3 _ rfl rfl,jX w _ 7 0 1 rfl⟩
 |1,_=>
  refine⟨c 13 _ _ 5 _ rfl rfl,⟨_,c 13 _ _ 6 _ rfl rfl,jX w _ 9 0 2 rfl⟩,c 13 _ _ 7 _ rfl rfl,⟨_,c 13 _ _ 8 _ rfl rfl,?_⟩,c 13 _ _ 9 _ rfl rfl⟩;refine⟨_,_,rfl, .inr ⟨_,0,rfl,fun j hj=>?_⟩⟩
  match j,hj with
  |0,_=>exact⟨c 12 _ _ 0 _ rfl rfl,c 12 _ _ 1 _ rfl rfl,c 12 _ _ 2 _ rfl rfl,_,c 12 _ _ 3 _ rfl rfl,jX w _ 10 0 1 rfl⟩
  |1,_=>exact⟨c 12 _ _ 4 _ rfl rfl,c 12 _ _ 5 _ rfl rfl,c 12 _ _ 6 _ rfl rfl,_,c 12 _ _ 7 _ rfl rfl,jX w _ 11 1 2 rfl⟩
theorem lM:ProgFit smallQ:=by
 refine⟨by decide,by decide,by decide,fun i hi=>?_⟩
 match i,hi with
 |0,_=>
  refine⟨by decide,by decide,fun j hj=>?_⟩
  match j,hj with
  |0,_=>exact(by decide:(2:Nat)≤9223372036854775807)
 |1,_=>
  refine⟨by decide,by decide,fun j hj=>?_⟩
  match j,hj with
  |0,_=>exact(by decide:(2:Nat)≤9223372036854775807)
  |1,_=>exact(by decide:(2:Nat)≤9223372036854775807)
theorem xW(p:Int)(a:Option Addr)(n c:Nat)(w:World):
 Calls Tryz.prog 65 #[.int .i64 p, .slice a n c] w fun e w'=>e=.returned (fcVal p (.slice a n c))∧Below w.heap.size w w':=by
 have hb0:∀o,Below w.heap.size w (w.alloc o):=fun o=>(aG _ _).alloc (aE _) o;go_enter Tryz.func65,Tryz.ntmps65;(go_wp2_with fail);have hGa:=fQ w (.cells #[.int .i64 p, .slice a n c] 55);(have d0:(w.alloc (.cells #[.int .i64 p, .slice a n c] 55)).cell? ⟨w.heap.size,0,none⟩=some (.int .i64 p):=by rw[aA hGa];rfl);(have d1:(w.alloc (.cells #[.int .i64 p, .slice a n c] 55)).cell? ⟨w.heap.size,1,none⟩=some (.slice a n c):=by rw[aA hGa];rfl);refine bodyPost_ret (v:=fcVal p (.slice a n c)) (by simp[results,Tryz.results65,go_sem,d0,d1]) rfl ⟨rfl,hb0 _⟩
theorem gJ{w w':World}{v:Value}{l:List Bool}(h:BoolsV w v l)(hb:Below w.heap.size w w'):BoolsV w' v l:=by obtain⟨ao,cap,rfl,hc,h⟩:=h;exact⟨ao,cap,rfl,hc,jR h hb⟩
theorem cQ(y:World)(o:Obj):Below y.heap.size y (y.alloc o):=(aG _ _).alloc (aE _) o
theorem aAe(y:World)(f g:Rl.Fc)(u v:Value)(h:IntsV y u f.args)(k:IntsV y v g.args):FactsV (y.alloc (.cells #[.int .i64 f.pred,u, .int .i64 g.pred,v] 55)) (.slice (some ⟨y.heap.size,0,none⟩) 2 2) [f,g]:=by
 refine⟨_,_,rfl,⟨aE _,fun h=>by cases h⟩, .inr ⟨_,_,rfl,fun i hi=>?_⟩⟩;(have h0:i=0∨i=1:=by simp at hi;omega);rcases h0 with rfl|rfl
 ·exact⟨by rw[aA (fQ y _)];rfl,u,by rw[aA (fQ y _)];rfl,aK h (cQ _ _)⟩
 exact⟨by rw[aA (fQ y _)];rfl,v,by rw[aA (fQ y _)];rfl,aK k (cQ _ _)⟩
theorem sK(n k l:Nat):CapOk (slc n k l):=by intro ao m cp h;injection h with _ h1 h2;omega
theorem yT(w:World):RulesCap (laidAll w (smallO w.heap.size)) (slc w.heap.size 13 2):=by
 have c3:(laidAll w (smallO w.heap.size)).cell? ⟨w.heap.size+13,3,none⟩=some (slc w.heap.size 8 1):=gI (smallO w.heap.size) w 13 _ _ 3 _ rfl rfl;have c8:(laidAll w (smallO w.heap.size)).cell? ⟨w.heap.size+13,8,none⟩=some (slc w.heap.size 12 2):=gI (smallO w.heap.size) w 13 _ _ 8 _ rfl rfl;generalize laidAll w (smallO w.heap.size)=W at *;generalize w.heap.size=N at *;intro b off n cap hv k hk v hc;injection hv with e1 e2 e3;injection e1 with e1;injection e1 with e1 e4;subst e2 e4;rw[←e1]at hc;rcases(show k=0∨k=1 by omega)with rfl|rfl
 ·have hc':W.cell? ⟨N+13,3,none⟩=some v:=hc;rw[c3]at hc';rw[←Option.some.inj hc'];exact sK _ _ _
 have hc':W.cell? ⟨N+13,8,none⟩=some v:=hc;rw[c8]at hc';rw[←Option.some.inj hc'];exact sK _ _ _
theorem aAL(w:World):Calls Tryz.prog 63 #[] w fun e w'=>∃ua un ur,e=.returned (progVal ua un ur)∧ProgV w' ua un ur smallQ∧RulesCap w' ur∧Below w.heap.size w w':=by
 have HS:Hid (ProgV (laidAll w (smallO w.heap.size)) (slc w.heap.size 4 2) (slc w.heap.size 5 2) (slc w.heap.size 13 2) smallQ∧RulesCap (laidAll w (smallO w.heap.size)) (slc w.heap.size 13 2)∧Below w.heap.size w (laidAll w (smallO w.heap.size))):=⟨yS w,yT w,nD _ w⟩;have h0:(laidAll w (smallO w.heap.size)).heap[w.heap.size]?=_:=qJ (smallO w.heap.size) w 0 _ rfl;(have d0:(laidAll w (smallO w.heap.size)).cell? ⟨w.heap.size,0,none⟩=some (slc w.heap.size 4 2):=by rw[aA h0];rfl);(have d1:(laidAll w (smallO w.heap.size)).cell? ⟨w.heap.size,1,none⟩=some (slc w.heap.size 5 2):=by rw[aA h0];rfl);(have d2:(laidAll w (smallO w.heap.size)).cell? ⟨w.heap.size,2,none⟩=some (slc w.heap.size 13 2):=by rw[aA h0];rfl);have HD:Hid (_∧_∧_):=⟨d0,d1,d2⟩;clear h0 d0 d1 d2
 go_enter Tryz.func63,Tryz.ntmps63
 (go_wp2_with fail);change bodyPost _ _ _ _ _ (laidAll w (smallO w.heap.size));obtain⟨d0,d1,d2⟩:=HD.out;generalize laidAll w (smallO w.heap.size)=w2 at *;refine bodyPost_ret (v:=progVal (slc w.heap.size 4 2) (slc w.heap.size 5 2) (slc w.heap.size 13 2)) (by simp[results,Tryz.results63,go_sem,d0,d1,d2]) rfl ⟨_,_,_,rfl,HS.out.1,HS.out.2.1,HS.out.2.2⟩
def fullF:List Rl.Fc:=[⟨0,[1,2]⟩,⟨0,[2,3]⟩,⟨1,[1,2]⟩,⟨1,[1,3]⟩,⟨1,[2,3]⟩]
theorem mW:∀f,f∈fullF→FFit f:=by intro f hf;simp only[fullF,bE,eX,or_false]at hf;rcases hf with rfl|rfl|rfl|rfl|rfl<;>exact(by decide:(2:Nat)≤9223372036854775807)
theorem iV(y:World)(a b:Int):IntsV (y.alloc (.cells #[.int .i64 a, .int .i64 b] 3)) (.slice (some ⟨y.heap.size,0,none⟩) 2 2) [a,b]:=by
 refine⟨_,_,rfl, .inr ⟨_,0,rfl,fun i hi=>?_⟩⟩
 match i,hi with
 |0,_=>rw[aA (fQ y _)];rfl
 |1,_=>rw[aA (fQ y _)];rfl
theorem aAd(y:World)(f0 f1 f2 f3 f4:Rl.Fc)(u0 u1 u2 u3 u4:Value)(h0:IntsV y u0 f0.args)(h1:IntsV y u1 f1.args)(h2:IntsV y u2 f2.args)(h3:IntsV y u3 f3.args)(h4:IntsV y u4 f4.args):FactsV (y.alloc (.cells #[.int .i64 f0.pred,u0, .int .i64 f1.pred,u1, .int .i64 f2.pred,u2, .int .i64 f3.pred,u3, .int .i64 f4.pred,u4] 55)) (.slice (some ⟨y.heap.size,0,none⟩) 5 5) [f0,f1,f2,f3,f4]:=by
 refine⟨_,_,rfl,⟨aE _,fun h=>by cases h⟩, .inr ⟨_,0,rfl,fun i hi=>?_⟩⟩
 match i,hi with
 |0,_=>exact⟨by rw[aA (fQ y _)];rfl,u0,by rw[aA (fQ y _)];rfl,aK h0 (cQ _ _)⟩
 |1,_=>exact⟨by rw[aA (fQ y _)];rfl,u1,by rw[aA (fQ y _)];rfl,aK h1 (cQ _ _)⟩
 |2,_=>exact⟨by rw[aA (fQ y _)];rfl,u2,by rw[aA (fQ y _)];rfl,aK h2 (cQ _ _)⟩
 |3,_=>exact⟨by rw[aA (fQ y _)];rfl,u3,by rw[aA (fQ y _)];rfl,aK h3 (cQ _ _)⟩
 |4,_=>exact⟨by rw[aA (fQ y _)];rfl,u4,by rw[aA (fQ y _)];rfl,aK h4 (cQ _ _)⟩
theorem aB5(w:World):Calls Tryz.prog 64 #[] w fun e w'=>∃v,e=.returned v∧FactsV w' v fullF∧Below w.heap.size w w':=by
 have HFC:Hid (∀(p:Int)(a:Option Addr)(n c:Nat)(w:World),Calls Tryz.prog 65 #[.int .i64 p, .slice a n c] w fun e w'=>e=.returned (fcVal p (.slice a n c))∧Below w.heap.size w w'):=xW
 go_enter Tryz.func64,Tryz.ntmps64
 (go_wp2_with fail);have H1:Hid _:=iV w 1 2;have B1:Hid _:=cQ w (.cells #[.int .i64 1, .int .i64 2] 3);generalize hX1:w.heap.size=X1 at *;generalize w.alloc (.cells #[.int .i64 1, .int .i64 2] 3)=w1 at *;refine Calls.mono (HFC.out _ _ _ _ _) ?_;rintro _ y1 ⟨rfl,hb1⟩;have J1:Hid _:=aK H1.out hb1;have D1:Hid (Below X1 w y1):=B1.out.trans (hb1.mono (by rw[←hX1];rw[←hX1]at B1;exact B1.out.size));clear hb1 H1 B1;(go_wp2_with fail);have H2:Hid _:=iV y1 2 3;have K1:Hid _:=aK J1.out (cQ y1 (.cells #[.int .i64 2, .int .i64 3] 3));have D2:Hid (Below X1 w (y1.alloc (.cells #[.int .i64 2, .int .i64 3] 3))):=D1.out.trans ((cQ y1 _).mono (by have :=D1.out.size;omega));clear J1 D1;generalize hX2:y1.heap.size=X2 at *;generalize y1.alloc (.cells #[.int .i64 2, .int .i64 3] 3)=w2 at *;refine Calls.mono (HFC.out _ _ _ _ _) ?_;rintro _ y2 ⟨rfl,hb2⟩;have J1:Hid _:=aK K1.out hb2;have J2:Hid _:=aK H2.out hb2;have D3:Hid (Below X1 w y2):=D2.out.trans (hb2.mono (by have :=D2.out.size;omega));clear hb2 H2 K1 D2;(go_wp2_with fail);have H3:Hid _:=iV y2 1 2;have K1:Hid _:=aK J1.out (cQ y2 (.cells #[.int .i64 1, .int .i64 2] 3));have K2:Hid _:=aK J2.out (cQ y2 (.cells #[.int .i64 1, .int .i64 2] 3));have D4:Hid (Below X1 w (y2.alloc (.cells #[.int .i64 1, .int .i64 2] 3))):=D3.out.trans ((cQ y2 _).mono (by have :=D3.out.size;omega));clear J1 J2 D3;generalize hX3:y2.heap.size=X3 at *;generalize y2.alloc (.cells #[.int .i64 1, .int .i64 2] 3)=w3 at *;refine Calls.mono (HFC.out _ _ _ _ _) ?_;rintro _ y3 ⟨rfl,hb3⟩;have J1:Hid _:=aK K1.out hb3;have J2:Hid _:=aK K2.out hb3;have J3:Hid _:=aK H3.out hb3;have D5:Hid (Below X1 w y3):=D4.out.trans (hb3.mono (by have :=D4.out.size;omega));clear hb3 H3 K1 K2 D4;(go_wp2_with fail);have H4:Hid _:=iV y3 1 3;have K1:Hid _:=aK J1.out (cQ y3 (.cells #[.int .i64 1, .int .i64 3] 3));have K2:Hid _:=aK J2.out (cQ y3 (.cells #[.int .i64 1, .int .i64 3] 3));have K3:Hid _:=aK J3.out (cQ y3 (.cells #[.int .i64 1, .int .i64 3] 3));have D6:Hid (Below X1 w (y3.alloc (.cells #[.int .i64 1, .int .i64 3] 3))):=D5.out.trans ((cQ y3 _).mono (by have :=D5.out.size;omega));clear J1 J2 J3 D5;generalize hX4:y3.heap.size=X4 at *;generalize y3.alloc (.cells #[.int .i64 1, .int .i64 3] 3)=w4 at *;refine Calls.mono (HFC.out _ _ _ _ _) ?_;rintro _ y4 ⟨rfl,hb4⟩;have J1:Hid _:=aK K1.out hb4;have J2:Hid _:=aK K2.out hb4;have J3:Hid _:=aK K3.out hb4;have J4:Hid _:=aK H4.out hb4;have D7:Hid (Below X1 w y4):=D6.out.trans (hb4.mono (by have :=D6.out.size;omega));clear hb4 H4 K1 K2 K3 D6;(go_wp2_with fail);have H5:Hid _:=iV y4 2 3;have K1:Hid _:=aK J1.out (cQ y4 (.cells #[.int .i64 2, .int .i64 3] 3));have K2:Hid _:=aK J2.out (cQ y4 (.cells #[.int .i64 2, .int .i64 3] 3));have K3:Hid _:=aK J3.out (cQ y4 (.cells #[.int .i64 2, .int .i64 3] 3));have K4:Hid _:=aK J4.out (cQ y4 (.cells #[.int .i64 2, .int .i64 3] 3));have D8:Hid (Below X1 w (y4.alloc (.cells #[.int .i64 2, .int .i64 3] 3))):=D7.out.trans ((cQ y4 _).mono (by have :=D7.out.size;omega));clear J1 J2 J3 J4 D7;generalize hX5:y4.heap.size=X5 at *;generalize y4.alloc (.cells #[.int .i64 2, .int .i64 3] 3)=w5 at *;refine Calls.mono (HFC.out _ _ _ _ _) ?_;rintro _ y5 ⟨rfl,hb5⟩;have HR:Hid _:=aAd y5 ⟨0,[1,2]⟩ ⟨0,[2,3]⟩ ⟨1,[1,2]⟩ ⟨1,[1,3]⟩ ⟨1,[2,3]⟩ _ _ _ _ _ (aK K1.out hb5) (aK K2.out hb5) (aK K3.out hb5) (aK K4.out hb5) (aK H5.out hb5);have D9:Hid (Below X1 w y5):=D8.out.trans (hb5.mono (by have :=D8.out.size;omega));clear hb5 H5 K1 K2 K3 K4 D8;(go_wp2_with fail);go_ret;exact⟨_,rfl,HR.out,by rw[hX1];exact D9.out.trans ((cQ y5 _).mono (by have :=D9.out.size;omega))⟩
namespace Ru
def lessI:List Int→List Int→Bool
 |a::x,b::y=>if a=b then lessI x y else decide (a<b)
 |_,_=>false
theorem lessI_cmp:∀{x y:List Int},x.length=y.length→lessI x y=decide (Rl.cmpL x y<0)
 |[],[],_=>rfl
 |[],_::_,h=>by cases h
 |_::_,[],h=>by cases h
 |a::x,b::y,h=>by
  (have h':x.length=y.length:=by simpa using h);unfold lessI;by_cases hab:a=b
  ·subst hab;rw[if_pos rfl,lessI_cmp h'];(have e:Rl.cmpL (a::x) (a::y)=Rl.cmpL x y:=by show(if Rl.cmpI a a=0 then Rl.cmpL x y else Rl.cmpI a a)=_;rw[if_pos (Rl.cmpI_zero.mpr rfl)]);rw[e]
  rw[if_neg hab];(have e:Rl.cmpL (a::x) (b::y)=Rl.cmpI a b:=by show(if Rl.cmpI a b=0 then Rl.cmpL x y else Rl.cmpI a b)=_;rw[if_neg (fun h0=>hab (Rl.cmpI_zero.mp h0))]);rw[e];unfold Rl.cmpI;by_cases h1:a<b
  ·simp[h1]
  (have h2:b<a:=by omega);simp[h1,h2]
theorem lessI_drop{x y:List Int}(hl:x.length=y.length){k:Nat}(hk:k<x.length):lessI (x.drop k) (y.drop k)=if Sc.intD x k=Sc.intD y k then lessI (x.drop (k+1)) (y.drop (k+1))else decide (Sc.intD x k<Sc.intD y k):=by(have e1:x.drop k=Sc.intD x k::x.drop (k+1):=by rw[aZ hk];unfold Sc.intD;rw[aC,aD hk];rfl);(have e2:y.drop k=Sc.intD y k::y.drop (k+1):=by rw[aZ (by omega)];unfold Sc.intD;rw[aC,aD (by omega)];rfl);rw[e1,e2];rfl
end Ru
namespace Ru
theorem all_drop(K:List Bool)(ts:List Sc.Term)(k:Nat)(h:k<ts.length):(ts.drop k).all (Sc.known K)=(Sc.known K (Sc.termD ts k)&&(ts.drop (k+1)).all (Sc.known K)):=by(have e:ts.drop k=Sc.termD ts k::ts.drop (k+1):=by rw[aZ h];unfold Sc.termD;rw[aC,aD h];rfl);rw[e,List.all_cons]
end Ru
theorem aAm{w:World}{ao:Option Addr}{l:List Bool}(h:BoolsAt w ao l){k:Nat}(hk:k<l.length):∃b off,ao=some ⟨b,off,none⟩∧w.cell? ⟨b,off+k,none⟩=some (.bool (Rl.boolD l k)):=by
 rcases h with h|⟨b,off,ha,hc⟩
 ·rw[h]at hk;exact absurd hk (by simp)
 exact⟨b,off,ha,hc k hk⟩
theorem mJ(ts:List Sc.Term)(K:List Bool)(vt vk:Value)(w:World)(hT:PTermsV w vt ts)(hK:BoolsV w vk K)(hI:Ru.TermsIn K.length ts)(hl:ts.length≤1000000):Calls Tryz.prog 167 #[vt,vk] w fun e w'=>e=.returned (.bool (ts.all (Sc.known K)))∧Below w.heap.size w w':=by
 obtain⟨ao,cap,rfl,_,hA⟩:=hT;obtain⟨bo,cbp,rfl,_,hB⟩:=hK;have HA:Hid _:=hA;have HB:Hid _:=hB;have HI:Hid _:=hI;clear hA hB hI
 go_enter Tryz.func167,Tryz.ntmps167
 (go_wp2_with fail);(go_loopw [5] (fun iv wr=>∃k:Nat,k≤ts.length∧iv=.int .i64 k∧Hid (ts.all (Sc.known K)=(ts.drop k).all (Sc.known K))∧Hid (Below w.heap.size w wr)) (fun iv _=>ts.length-(intOf iv).toNat));case atStart=>exact⟨0,by omega,rfl,rfl,aG _ _⟩
 case round=>
  obtain⟨k,hk,rfl,HR,HBr⟩:=hrel;by_cases hlt:k<ts.length
  ·obtain⟨b',off',rfl,hck⟩:=fH HA.out k hlt;have q0:=aB HBr.out (hck k hlt).1;have HS:Hid _:=Ru.all_drop K ts k hlt;have HTI:Hid (Ru.TermIn K.length (Sc.termD ts k)):=HI.out _ (Ru.termD_mem hlt);clear hck;generalize Sc.termD ts k=t at *;obtain⟨tv,tn⟩:=t;dsimp only at *;by_cases h0:tv<0
   ·have g0:decide (0≤tv)=false:=decide_eq_false (by omega);(have HR2:Hid (ts.all (Sc.known K)=(ts.drop (k+1)).all (Sc.known K)):=by show _=_;rw[HR.out,HS.out];unfold Sc.known;simp[h0]);clear h0;(go_upto_region 4 with fail);(try go_quiet(fail));(go_wp2_with fail);go_roundw;(case rel=>exact⟨k+1,hlt,by go_num,HR2.out,HBr.out⟩);case measure=>simp[intOf];omega
   obtain⟨m,rfl⟩:∃m:Nat,tv=m:=⟨tv.toNat,by omega⟩;have hmK:m<K.length:=by
    rcases HTI.out with h|h
    ·exact absurd h h0
    simpa using h
   obtain⟨b2,off2,rfl,hcb⟩:=aAm HB.out hmK;have q1:=aB HBr.out hcb;have g0:decide (0≤(m:Int))=true:=decide_eq_true (by omega);(have HKN:Hid (Sc.known K ⟨(m:Int),tn⟩=Rl.boolD K m):=by show _=_;unfold Sc.known Rl.boolD;rw[decide_eq_false (show¬((m:Int)<0) by omega),Bool.false_or];rfl);clear hcb h0;generalize Rl.boolD K m=kb at *;cases kb
   ·(have HE:Hid (ts.all (Sc.known K)=false):=by show _=_;rw[HR.out,HS.out,HKN.out];rfl);(go_upto_region 4 with fail);(try go_quiet(fail));(go_wp2_with fail);go_ret;exact⟨by rw[HE.out];rfl,HBr.out⟩
   (have HR2:Hid (ts.all (Sc.known K)=(ts.drop (k+1)).all (Sc.known K)):=by show _=_;rw[HR.out,HS.out,HKN.out,eZ]);(go_upto_region 4 with fail);(try go_quiet(fail));(go_wp2_with fail);go_roundw;(case rel=>exact⟨k+1,hlt,by go_num,HR2.out,HBr.out⟩);case measure=>simp[intOf];omega
  have hdd:decide (k<ts.length)=false:=decide_eq_false hlt;(have HE:Hid (ts.all (Sc.known K)=true):=by show _=_;rw[HR.out,aH (by omega)];rfl);(go_wp2_with fail);go_ret;exact⟨by rw[HE.out];rfl,HBr.out⟩
theorem aB6{ts:List Sc.Term}(h:ts.length=2)(x:List Int):Ru.fill ts x=[Ru.num x (Sc.termD ts 0),Ru.num x (Sc.termD ts 1)]:=by
 match ts,h with
 |[a,b],_=>rfl
theorem aAc{ts:List Sc.Term}(h:ts.length=3)(x:List Int):Ru.fill ts x=[Ru.num x (Sc.termD ts 0),Ru.num x (Sc.termD ts 1),Ru.num x (Sc.termD ts 2)]:=by
 match ts,h with
 |[a,b,c],_=>rfl
theorem aB7(ts:List Sc.Term)(x:List Int):(Ru.fill ts x).length=ts.length:=by unfold Ru.fill;rw[aN]
theorem mH(facts:List Rl.Fc)(l:Sc.Lit)(x:List Int)(vt vx vf:Value)(w:World)(hT:PTermsV w vt l.terms)(hX:IntsV w vx x)(hF:FactsV w vf facts)(hFl:facts.length≤1000000)(hFF:∀f,f∈facts→FFit f)(hl:l.terms.length≤1000)(hI:Ru.TermsIn x.length l.terms)(hk:l.kind=1∨l.kind=2):
 Calls Tryz.prog 24 #[plitVal l vt,vx,vf] w fun e w'=>e=.returned (.bool (Ru.holds facts l x))∧Below w.heap.size w w':=by
 obtain⟨at_,ct,rfl,_⟩:=id hT;obtain⟨ax,cx,rfl,_⟩:=id hX;obtain⟨af,cf,rfl,_⟩:=id hF;obtain⟨kd,op,pd,ts⟩:=l;dsimp only at *;have bT:=(aG w.heap.size w).alloc (aE _) (.cells #[.int .i64 kd, .int .i64 op, .int .i64 pd, .slice at_ ts.length ct] 49);have HBX:Hid _:=heap_alloc_new w (.cells #[.int .i64 kd, .int .i64 op, .int .i64 pd, .slice at_ ts.length ct] 49);have HB:Hid _:=bT;have HC:Hid _:=jP ts x _ _ _ (bK hT bT) (aK hX bT) (by omega) hI;have HF:Hid (FactsV w (.slice af facts.length cf) facts):=hF;have HFF:Hid _:=hFF;have hfl:=aB7 ts x;clear bT hT hX hF hFF hI
 go_enter Tryz.func24,Tryz.ntmps24
 (go_upto_region 1 with fail);generalize w.alloc (.cells #[.int .i64 kd, .int .i64 op, .int .i64 pd, .slice at_ ts.length ct] 49)=w1 at *;(have c3:w1.cell? ⟨w.heap.size,3,none⟩=some (.slice at_ ts.length ct):=by rw[aA HBX.out];rfl);(go_wp2_with fail);refine Calls.mono HC.out ?_;rintro _ w2 ⟨va,rfl,hrow,hb2⟩;have hints:=hrow.ints;have HIV:Hid (IntsV w2 va (Ru.fill ts x)):=hints;obtain⟨aa,ca,rfl,_⟩:=hints;have HB2:Hid (Below w.heap.size w w2):=HB.out.trans (hb2.mono HB.out.size);have HBX2:Hid _:=(hb2.block _ (aY HBX.out)).trans HBX.out;have HHAS:Hid _:=mN facts ⟨pd,Ru.fill ts x⟩ _ _ w2 (aL HF.out HB2.out) HIV.out (by omega) HFF.out (by unfold FFit;show(Ru.fill ts x).length≤_;omega);clear c3 hb2 HB HBX HC hrow HF HFF hfl;(have c0:w2.cell? ⟨w.heap.size,0,none⟩=some (.int .i64 kd):=by rw[aA HBX2.out];rfl);(have c2:w2.cell? ⟨w.heap.size,2,none⟩=some (.int .i64 pd):=by rw[aA HBX2.out];rfl);rcases hk with rfl|rfl
 ·(go_wp2_with fail);refine Calls.mono HHAS.out ?_;rintro _ w3 ⟨rfl,hb3⟩;have HB3:Hid _:=HB2.out.trans (hb3.mono HB2.out.size);clear hb3 c0 c2;(go_wp2_with fail);go_ret;exact⟨rfl,HB3.out⟩
 (go_wp2_with fail);refine Calls.mono HHAS.out ?_;rintro _ w3 ⟨rfl,hb3⟩;have HB3:Hid _:=HB2.out.trans (hb3.mono HB2.out.size);clear hb3 c0 c2;(go_wp2_with fail);go_ret;exact⟨rfl,HB3.out⟩
theorem rH(facts:List Rl.Fc)(l:Sc.Lit)(x:List Int)(vt vx vf:Value)(w:World)(hT:PTermsV w vt l.terms)(hX:IntsV w vx x)(hF:FactsV w vf facts)(hl:l.terms.length≤1000)(hI:Ru.TermsIn x.length l.terms)(hk:l.kind=3)(h2:l.terms.length=2)(hop:l.op=1∨l.op=2∨l.op=3∨l.op=4):
 Calls Tryz.prog 24 #[plitVal l vt,vx,vf] w fun e w'=>e=.returned (.bool (Ru.holds facts l x))∧Below w.heap.size w w':=by
 obtain⟨at_,ct,rfl,_⟩:=id hT;obtain⟨ax,cx,rfl,_⟩:=id hX;obtain⟨af,cf,rfl,_⟩:=id hF;obtain⟨kd,op,pd,ts⟩:=l;dsimp only at *;have bT:=(aG w.heap.size w).alloc (aE _) (.cells #[.int .i64 kd, .int .i64 op, .int .i64 pd, .slice at_ ts.length ct] 49);have HBX:Hid _:=heap_alloc_new w (.cells #[.int .i64 kd, .int .i64 op, .int .i64 pd, .slice at_ ts.length ct] 49);have HB:Hid _:=bT;have HC:Hid _:=jP ts x _ _ _ (bK hT bT) (aK hX bT) (by omega) hI;rw[aB6 h2 x]at HC;(have HE:Hid (Ru.holds facts ⟨kd,op,pd,ts⟩ x=Ru.isSo op (Ru.num x (Sc.termD ts 0)) (Ru.num x (Sc.termD ts 1))):=by show _=_;unfold Ru.holds;dsimp only;rw[if_neg (by omega),if_neg (by omega),if_pos hk]);generalize Ru.num x (Sc.termD ts 0)=a at *;generalize Ru.num x (Sc.termD ts 1)=c at *;subst hk;clear bT hT hX hF hI;clear h2 hl
 go_enter Tryz.func24,Tryz.ntmps24
 (go_upto_region 1 with fail);generalize w.alloc (.cells #[.int .i64 3, .int .i64 op, .int .i64 pd, .slice at_ ts.length ct] 49)=w1 at *;(have c3:w1.cell? ⟨w.heap.size,3,none⟩=some (.slice at_ ts.length ct):=by rw[aA HBX.out];rfl);(go_wp2_with fail);refine Calls.mono HC.out ?_;rintro _ w2 ⟨va,rfl,hrow,hb2⟩;have hints:=hrow.ints;have HIV:Hid (IntsV w2 va [a,c]):=hints;obtain⟨aa,ca,rfl,hIA⟩:=hints;have HB2:Hid (Below w.heap.size w w2):=HB.out.trans (hb2.mono HB.out.size);have HBX2:Hid _:=(hb2.block _ (aY HBX.out)).trans HBX.out;clear c3 hb2 HB HBX HC hrow;(have c0:w2.cell? ⟨w.heap.size,0,none⟩=some (.int .i64 3):=by rw[aA HBX2.out];rfl);(have c1:w2.cell? ⟨w.heap.size,1,none⟩=some (.int .i64 op):=by rw[aA HBX2.out];rfl);have hr:∃b0 off0,aa=some ⟨b0,off0,none⟩∧w2.cell? ⟨b0,off0,none⟩=some (.int .i64 a)∧w2.cell? ⟨b0,off0+1,none⟩=some (.int .i64 c):=by
  rcases hIA with h|⟨b0,off0,h1,h2⟩
  ·cases h
  exact⟨b0,off0,h1,h2 0 (jT _),h2 1 (mZ (jT _))⟩
 obtain⟨b0,off0,rfl,r0,r1⟩:=hr;clear hIA HIV;rcases hop with rfl|rfl|rfl|rfl
 ·by_cases hc:a<c
  ·(have g:decide (a<c)=true:=by simpa using hc);(have HE2:Hid (Ru.holds facts ⟨3,1,pd,ts⟩ x=true):=by show _=_;rw[HE.out];unfold Ru.isSo;simp;first|exact hc|omega);clear hc;(go_upto_region 8 with fail);(go_quiet(fail));(go_wp2_with fail);go_ret;exact⟨by rw[HE2.out];rfl,HB2.out.trans ((bQ _ _).mono HB2.out.size)⟩
  (have g:decide (a<c)=false:=by simpa using hc);(have HE2:Hid (Ru.holds facts ⟨3,1,pd,ts⟩ x=false):=by show _=_;rw[HE.out];unfold Ru.isSo;simp;first|exact hc|omega);clear hc;(go_upto_region 8 with fail);(go_quiet(fail));(go_wp2_with fail);go_ret;exact⟨by rw[HE2.out];rfl,HB2.out.trans ((bQ _ _).mono HB2.out.size)⟩
 ·by_cases hc:a≤c
  ·(have g:decide (a≤c)=true:=by simpa using hc);(have HE2:Hid (Ru.holds facts ⟨3,2,pd,ts⟩ x=true):=by show _=_;rw[HE.out];unfold Ru.isSo;simp;first|exact hc|omega);clear hc;(go_upto_region 8 with fail);(go_quiet(fail));(go_wp2_with fail);go_ret;exact⟨by rw[HE2.out];rfl,HB2.out.trans ((bQ _ _).mono HB2.out.size)⟩
  (have g:decide (a≤c)=false:=by simpa using hc);(have HE2:Hid (Ru.holds facts ⟨3,2,pd,ts⟩ x=false):=by show _=_;rw[HE.out];unfold Ru.isSo;simp;first|exact hc|omega);clear hc;(go_upto_region 8 with fail);(go_quiet(fail));(go_wp2_with fail);go_ret;exact⟨by rw[HE2.out];rfl,HB2.out.trans ((bQ _ _).mono HB2.out.size)⟩
 ·by_cases hc:a=c
  ·(have g:(a==c)=true:=by simpa using hc);(have HE2:Hid (Ru.holds facts ⟨3,3,pd,ts⟩ x=true):=by show _=_;rw[HE.out];unfold Ru.isSo;simp;first|exact hc|omega);clear hc;(go_upto_region 8 with fail);(go_quiet(fail));(go_wp2_with fail);go_ret;exact⟨by rw[HE2.out];rfl,HB2.out.trans ((bQ _ _).mono HB2.out.size)⟩
  (have g:(a==c)=false:=by simpa using hc);(have HE2:Hid (Ru.holds facts ⟨3,3,pd,ts⟩ x=false):=by show _=_;rw[HE.out];unfold Ru.isSo;simp;first|exact hc|omega);clear hc;(go_upto_region 8 with fail);(go_quiet(fail));(go_wp2_with fail);go_ret;exact⟨by rw[HE2.out];rfl,HB2.out.trans ((bQ _ _).mono HB2.out.size)⟩
 by_cases hc:a≠c
 ·(have g:(a != c)=true:=by simpa using hc);(have HE2:Hid (Ru.holds facts ⟨3,4,pd,ts⟩ x=true):=by show _=_;rw[HE.out];unfold Ru.isSo;simp;first|exact hc|omega);clear hc;(go_upto_region 8 with fail);(go_quiet(fail));(go_wp2_with fail);go_ret;exact⟨by rw[HE2.out];rfl,HB2.out.trans ((bQ _ _).mono HB2.out.size)⟩
 (have g:(a != c)=false:=by simpa using hc);(have HE2:Hid (Ru.holds facts ⟨3,4,pd,ts⟩ x=false):=by show _=_;rw[HE.out];unfold Ru.isSo;simp;first|exact hc|omega);clear hc;(go_upto_region 8 with fail);(go_quiet(fail));(go_wp2_with fail);go_ret;exact⟨by rw[HE2.out];rfl,HB2.out.trans ((bQ _ _).mono HB2.out.size)⟩
theorem rG(facts:List Rl.Fc)(l:Sc.Lit)(x:List Int)(vt vx vf:Value)(w:World)(hT:PTermsV w vt l.terms)(hX:IntsV w vx x)(hF:FactsV w vf facts)(hl:l.terms.length≤1000)(hI:Ru.TermsIn x.length l.terms)(hk:l.kind=4)(h3:l.terms.length=3)(hn0:Sc.isNum (Ru.num x (Sc.termD l.terms 0))=true)(hn1:Sc.isNum (Ru.num x (Sc.termD l.terms 1))=true):
 Calls Tryz.prog 24 #[plitVal l vt,vx,vf] w fun e w'=>e=.returned (.bool (Ru.holds facts l x))∧Below w.heap.size w w':=by
 obtain⟨at_,ct,rfl,_⟩:=id hT;obtain⟨ax,cx,rfl,_⟩:=id hX;obtain⟨af,cf,rfl,_⟩:=id hF;obtain⟨kd,op,pd,ts⟩:=l;dsimp only at *;have bT:=(aG w.heap.size w).alloc (aE _) (.cells #[.int .i64 kd, .int .i64 op, .int .i64 pd, .slice at_ ts.length ct] 49);have HBX:Hid _:=heap_alloc_new w (.cells #[.int .i64 kd, .int .i64 op, .int .i64 pd, .slice at_ ts.length ct] 49);have HB:Hid _:=bT;have HC:Hid _:=jP ts x _ _ _ (bK hT bT) (aK hX bT) (by omega) hI;rw[aAc h3 x]at HC;(have HE:Hid (Ru.holds facts ⟨kd,op,pd,ts⟩ x=(Sc.isNum (Ru.reck op (Ru.num x (Sc.termD ts 0)) (Ru.num x (Sc.termD ts 1)))&&decide (Ru.reck op (Ru.num x (Sc.termD ts 0)) (Ru.num x (Sc.termD ts 1))=Ru.num x (Sc.termD ts 2)))):=by show _=_;unfold Ru.holds Ru.calc3;dsimp only;rw[if_neg (by omega),if_neg (by omega),if_neg (by omega)]);generalize Ru.num x (Sc.termD ts 0)=a at *;generalize Ru.num x (Sc.termD ts 1)=c at *;generalize Ru.num x (Sc.termD ts 2)=d at *;subst hk;clear bT hT hX hF hI;have HQ:Hid (∀z:World,Calls Tryz.prog 67 #[.int .i64 op, .int .i64 a, .int .i64 c] z fun e w'=>e=.returned (.int .i64 (Ru.reck op a c))∧∃n,w'=z.drewN n):=fun z=>(qW op a c z (Ru.between_iff.mp hn0) (Ru.between_iff.mp hn1)).mono fun _ _ h=>⟨h.1,0,h.2⟩;clear hn0 hn1 h3 hl
 go_enter Tryz.func24,Tryz.ntmps24
 (go_upto_region 1 with fail);generalize w.alloc (.cells #[.int .i64 4, .int .i64 op, .int .i64 pd, .slice at_ ts.length ct] 49)=w1 at *;(have c3:w1.cell? ⟨w.heap.size,3,none⟩=some (.slice at_ ts.length ct):=by rw[aA HBX.out];rfl);(go_wp2_with fail);refine Calls.mono HC.out ?_;rintro _ w2 ⟨va,rfl,hrow,hb2⟩;have hints:=hrow.ints;have HIV:Hid (IntsV w2 va [a,c,d]):=hints;obtain⟨aa,ca,rfl,hIA⟩:=hints;have HB2:Hid (Below w.heap.size w w2):=HB.out.trans (hb2.mono HB.out.size);have HBX2:Hid _:=(hb2.block _ (aY HBX.out)).trans HBX.out;clear c3 hb2 HB HBX HC hrow;(have c0:w2.cell? ⟨w.heap.size,0,none⟩=some (.int .i64 4):=by rw[aA HBX2.out];rfl);(have c1:w2.cell? ⟨w.heap.size,1,none⟩=some (.int .i64 op):=by rw[aA HBX2.out];rfl);have hr:∃b0 off0,aa=some ⟨b0,off0,none⟩∧w2.cell? ⟨b0,off0,none⟩=some (.int .i64 a)∧w2.cell? ⟨b0,off0+1,none⟩=some (.int .i64 c)∧w2.cell? ⟨b0,off0+2,none⟩=some (.int .i64 d):=by
  rcases hIA with h|⟨b0,off0,h1,h2⟩
  ·cases h
  exact⟨b0,off0,h1,h2 0 (jT _),h2 1 (mZ (jT _)),h2 2 (mZ (mZ (jT _)))⟩
 obtain⟨b0,off0,rfl,r0,r1,r2⟩:=hr;clear hIA HIV;have HN:Hid (∀(n:Int)(z:World),Calls Tryz.prog 23 #[.int .i64 n] z fun e w'=>e=.returned (.bool (Sc.isNum n))∧w'=z):=fun n z=>kN n z;go_upto_region 9 with fail
 go_quiet(first
  |(go_at_call 67;exact jK (HQ.out _)))
 generalize Ru.reck op a c=m at *;have HBd:Hid (∀j,Below w.heap.size w (w2.drewN j)):=fun j=>HB2.out.trans ((bQ _ _).mono HB2.out.size);cases hn:Sc.isNum m
 ·(have HE2:Hid (Ru.holds facts ⟨4,op,pd,ts⟩ x=false):=by show _=_;rw[HE.out,hn];rfl);(have HN2:Hid (∀z:World,Calls Tryz.prog 23 #[.int .i64 m] z fun e w'=>e=.returned (.bool false)∧w'=z):=fun z=>by have :=HN.out m z;rw[hn]at this;exact this);clear hn;(go_wp2_with fail);refine Calls.mono (HN2.out _) ?_;rintro _ z ⟨rfl,rfl⟩;(go_wp2_with fail);go_ret;exact⟨by rw[HE2.out];rfl,HBd.out _⟩
 (have HN2:Hid (∀z:World,Calls Tryz.prog 23 #[.int .i64 m] z fun e w'=>e=.returned (.bool true)∧w'=z):=fun z=>by have :=HN.out m z;rw[hn]at this;exact this);by_cases hmd:m=d
 ·(have g:(m==d)=true:=by simpa using hmd);(have HE2:Hid (Ru.holds facts ⟨4,op,pd,ts⟩ x=true):=by show _=_;rw[HE.out,hn,decide_eq_true hmd];rfl);clear hn hmd;(go_wp2_with fail);refine Calls.mono (HN2.out _) ?_;rintro _ z ⟨rfl,rfl⟩;(go_wp2_with fail);go_ret;exact⟨by rw[HE2.out];rfl,HBd.out _⟩
 (have g:(m==d)=false:=by simpa using hmd);(have HE2:Hid (Ru.holds facts ⟨4,op,pd,ts⟩ x=false):=by show _=_;rw[HE.out,hn,decide_eq_false hmd];rfl);clear hn hmd;(go_wp2_with fail);refine Calls.mono (HN2.out _) ?_;rintro _ z ⟨rfl,rfl⟩;(go_wp2_with fail);go_ret;exact⟨by rw[HE2.out];rfl,HBd.out _⟩
theorem vA(facts:List Rl.Fc)(l:Sc.Lit)(x:List Int)(vt vx vf:Value)(w:World)(hT:PTermsV w vt l.terms)(hX:IntsV w vx x)(hF:FactsV w vf facts)(hFl:facts.length≤1000000)(hFF:∀f,f∈facts→FFit f)(hl:l.terms.length≤1000)(hI:Ru.LitIn x.length facts l)
 (hop:l.kind=3→l.op=1∨l.op=2∨l.op=3∨l.op=4) (hn0:l.kind=4→Sc.isNum (Ru.num x (Sc.termD l.terms 0))=true) (hn1:l.kind=4→Sc.isNum (Ru.num x (Sc.termD l.terms 1))=true):
 Calls Tryz.prog 24 #[plitVal l vt,vx,vf] w fun e w'=>e=.returned (.bool (Ru.holds facts l x))∧Below w.heap.size w w':=by
 rcases hI.k with hk|hk|hk|hk
 ·exact mH facts l x vt vx vf w hT hX hF hFl hFF hl hI.t (.inl hk)
 ·exact mH facts l x vt vx vf w hT hX hF hFl hFF hl hI.t (.inr hk)
 ·exact rH facts l x vt vx vf w hT hX hF hl hI.t hk (hI.k3 hk) (hop hk)
 exact rG facts l x vt vx vf w hT hX hF hl hI.t hk (hI.k4 hk) (hn0 hk) (hn1 hk)
theorem uZ(x y:List Int)(v u:Value)(w:World)(hV:IntsV w v x)(hU:IntsV w u y)(hl:x.length≤1000000):Calls Tryz.prog 25 #[v,u] w fun e w'=>e=.returned (.bool (decide (x=y)))∧∃n,w'=w.drewN n:=by
 obtain⟨ao,cap,rfl,hA⟩:=hV;obtain⟨bo,cbp,rfl,hB⟩:=hU;have HA:Hid _:=hA;have HB:Hid _:=hB;clear hA hB;by_cases hlen:x.length=y.length
 ·have HLEN:Hid _:=hlen;(have g0:((x.length:Int) != (y.length:Int))=false:=by rw[hlen];simp);clear hlen
  go_enter Tryz.func25,Tryz.ntmps25
  (go_wp2_with fail);(go_loopw [5] (fun iv wr=>∃k nq:Nat,k≤x.length∧iv=.int .i64 k∧Hid (x=y↔x.drop k=y.drop k)∧wr=w.drewN nq) (fun iv _=>x.length-(intOf iv).toNat));case atStart=>exact⟨0,0,by omega,rfl,Iff.rfl,rfl⟩
  case round=>
   obtain⟨k,nq,hk,rfl,HR,rfl⟩:=hrel;by_cases hlt:k<x.length
   ·(have hlt2:k<y.length:=by have :=HLEN.out;omega);obtain⟨b',off',rfl,hck⟩:=fW HA.out hlt;obtain⟨b2,off2,rfl,hck2⟩:=fW HB.out hlt2;have HS:Hid _:=Ru.eq_step HLEN.out hlt;generalize Sc.intD x k=a at *;generalize Sc.intD y k=c at *;by_cases hac:a=c
    ·(have gx:(a != c)=false:=by simpa using hac);have HR2:Hid (x=y↔x.drop (k+1)=y.drop (k+1)):=HR.out.trans (HS.out.trans ⟨fun h=>h.2,fun h=>⟨hac,h⟩⟩);clear hac;(go_wp2_with fail);(go_quiet(fail));(go_wp2_with fail);go_roundw;(case rel=>exact⟨k+1,_,hlt,by go_num,HR2.out,rfl⟩);case measure=>simp[intOf];omega
    (have gx:(a != c)=true:=by simpa using hac);have HE:Hid (decide (x=y)=false):=decide_eq_false (fun h=>hac (HS.out.mp (HR.out.mp h)).1);clear hac;(go_wp2_with fail);(go_quiet(fail));(go_wp2_with fail);go_ret;exact⟨by rw[HE.out];rfl,_,mD _ _ _⟩
   have hdd:decide (k<x.length)=false:=decide_eq_false hlt;have HE:Hid (decide (x=y)=true):=decide_eq_true (HR.out.mpr (by have :=HLEN.out;rw[aH (by omega),aH (by omega)]));(go_wp2_with fail);go_ret;exact⟨by rw[HE.out];rfl,_,rfl⟩
 have HE:Hid (decide (x=y)=false):=decide_eq_false (fun h=>hlen (by rw[h]));(have g0:((x.length:Int) != (y.length:Int))=true:=by simp;omega);clear hlen
 go_enter Tryz.func25,Tryz.ntmps25
 (go_wp2_with fail);go_ret;exact⟨by rw[HE.out];rfl,0,rfl⟩
namespace Ru
theorem lit_ops{ar:List Int}{r:Sc.Rule}(hr:RuleOk ar r){l:Sc.Lit}(hl:l∈r.body)(hk:l.kind=3):l.op=1∨l.op=2∨l.op=3∨l.op=4:=by
 obtain⟨h1,_⟩:=hr.lit l hl;unfold Sc.litErr at h1;rw[if_neg (by omega),if_pos hk]at h1;split at h1
 ·rename_i hp;have :=between_iff.mp hp;omega
 omega
structure LitFine (facts:List Rl.Fc) (m:Nat) (l:Sc.Lit):Prop where
 i:LitIn m facts l
 s:l.terms.length≤3
 o:l.kind=3→l.op=1∨l.op=2∨l.op=3∨l.op=4
 n:LitNum l
theorem litFine_of{p:Sc.Prog}(h:ProgOk p){r:Sc.Rule}(hr:RuleOk p.arity r){facts:List Rl.Fc}(hF:∀f,f∈facts→Right p.arity f){l:Sc.Lit}(hl:l∈r.body):LitFine facts r.vars.toNat l:=
 ⟨litIn_of hr hF hl,lit_short h hr hl,lit_ops hr hl,lit_num hr hl⟩
theorem num_fine{m:Nat}{t:Sc.Term}{x:List Int}(ht:TermIn m t)(hn:t.var<0→Sc.isNum t.n=true)(hl:x.length=m)(hx:∀n,n∈x→Sc.isNum n=true):Sc.isNum (num x t)=true:=by
 unfold num;split
 ·rename_i h;exact hn h
 rename_i h0;(have hlt:t.var.toNat<x.length:=by rcases ht with h|h<;>omega);rw[aC,aD hlt];exact hx _ (cL hlt)
end Ru
theorem rR(facts:List Rl.Fc)(l:Sc.Lit)(x:List Int)(vt vx vf:Value)(w:World)(hT:PTermsV w vt l.terms)(hX:IntsV w vx x)(hF:FactsV w vf facts)(hFl:facts.length≤1000000)(hFF:∀f,f∈facts→FFit f){m:Nat}(hm:x.length=m)(hL:Ru.LitFine facts m l)(hN:∀n,n∈x→Sc.isNum n=true):
 Calls Tryz.prog 24 #[plitVal l vt,vx,vf] w fun e w'=>e=.returned (.bool (Ru.holds facts l x))∧Below w.heap.size w w':=
 vA facts l x vt vx vf w hT hX hF hFl hFF (by have :=hL.s;omega) (by rw[hm];exact hL.i) hL.o
  (fun hk=>Ru.num_fine (hL.i.t _ (Ru.termD_mem (by have :=hL.i.k4 hk;omega))) (hL.n _ (Ru.termD_mem (by have :=hL.i.k4 hk;omega))) hm hN)
  (fun hk=>Ru.num_fine (hL.i.t _ (Ru.termD_mem (by have :=hL.i.k4 hk;omega))) (hL.n _ (Ru.termD_mem (by have :=hL.i.k4 hk;omega))) hm hN)
theorem mU{l:List Sc.Lit}{k:Nat}(h:k<l.length):l[k]?=some (Sc.litD l k):=by unfold Sc.litD;rw[aC,aD h];rfl
namespace Ru
structure WayOk (m:Nat) (y:Way):Prop where
 wf:Wf m y
 nm:∀n,n∈y.nums→Sc.isNum n=true
theorem reckR_drop{body:List Sc.Lit}{k:Nat}(hk:k<body.length)(y:Way):reckR (body.drop k) y=match reck1 y (Sc.litD body k)with |none=>none|some y'=>reckR (body.drop (k+1)) y':=by
 (have :body.drop k=Sc.litD body k::body.drop (k+1):=by rw[aZ hk];unfold Sc.litD;rw[aC,aD hk];rfl);rw[this];rfl
theorem mem_set_or{l:List Int}{i:Nat}{v n:Int}(h:n∈l.set i v):n∈l∨n=v:=List.mem_or_eq_of_mem_set h
theorem reck1_skip{y:Way}{l:Sc.Lit}(h:¬(l.kind=4∧(l.terms.take 2).all (Sc.known y.known)=true∧¬(l.terms.drop 2).all (Sc.known y.known)=true)):reck1 y l=some y:=by unfold reck1;rw[if_neg h]
theorem reck1_none{y:Way}{l:Sc.Lit}(h:l.kind=4∧(l.terms.take 2).all (Sc.known y.known)=true∧¬(l.terms.drop 2).all (Sc.known y.known)=true)(hn:Sc.isNum (calc3 l y.nums)=false):reck1 y l=none:=by unfold reck1;rw[if_pos h,if_neg (by rw[hn];simp)]
theorem reck1_some{y:Way}{l:Sc.Lit}(h:l.kind=4∧(l.terms.take 2).all (Sc.known y.known)=true∧¬(l.terms.drop 2).all (Sc.known y.known)=true)(hn:Sc.isNum (calc3 l y.nums)=true):reck1 y l=some ⟨y.nums.set (Sc.termD l.terms 2).var.toNat (calc3 l y.nums),y.known.set (Sc.termD l.terms 2).var.toNat true⟩:=by unfold reck1;rw[if_pos h,if_pos hn]
theorem fill_take2{l:List Sc.Term}(h:l.length=3)(x:List Int):fill (l.take 2) x=[num x (Sc.termD l 0),num x (Sc.termD l 1)]:=by
 match l,h with
 |[a,b,c],_=>rfl
theorem unknown_var{K:List Bool}{t:Sc.Term}{m:Nat}(h:Sc.known K t=false)(ht:TermIn m t):∃v:Nat,t.var=v∧v<m:=by
 unfold Sc.known at h;rw[iE]at h;have h0:=of_decide_eq_false h.1;refine⟨t.var.toNat,by omega,?_⟩;rcases ht with h1|h1
 ·omega
 exact h1
end Ru
def FindB(w:World)(FB:Nat)(vt vb vf vo:Value)(r:Sc.Rule)(many:Bool):Prop:=w.heap[FB]?=some (.cells #[.int .i64 r.pred,vt, .int .i64 r.fold,vb, .int .i64 r.vars,vf,vo, .bool many] 100)
structure Rows2 (B:Nat) (w:World) (vn vs:Value) (m:Nat) (y:Ru.Way):Prop where
 n:w.ownsRow B 3 1 vn m (y.nums.map (Value.int .i64))
 s:w.ownsRow B 4 1 vs m (y.known.map Value.bool)
 ok:Ru.WayOk m y
theorem Rows2.below{B:Nat}{w w':World}{vn vs:Value}{m:Nat}{y:Ru.Way}(h:Rows2 B w vn vs m y)(hb:Below w.heap.size w w'):Rows2 B w' vn vs m y:=⟨aQ h.n hb,aQ h.s hb,h.ok⟩
theorem Rows2.ints{B:Nat}{w:World}{vn vs:Value}{m:Nat}{y:Ru.Way}(h:Rows2 B w vn vs m y):IntsV w vn y.nums:=gB (by rw[h.ok.wf.n];exact h.n)
theorem aAY{W:World}{B:Nat}{v:Value}{l:List Bool}(h:W.ownsRow B 4 1 v l.length (l.map Value.bool)):BoolsV W v l:=by
 rcases id h.2 with⟨hv,h0⟩|⟨g,cap,cur,hv,_,_,hc,_⟩
 ·exact⟨none,0,by rw[hv,h0],⟨by omega,fun _=>rfl⟩, .inl (cI h0)⟩
 refine⟨some ⟨g,0,none⟩,cap,hv,⟨hc,fun h=>by cases h⟩, .inr ⟨g,0,rfl,fun i hi=>?_⟩⟩;subst hv;rw[cM,World.ownsRow.cellAt h i (by omega),bI,aD hi];unfold Rl.boolD;rw[aC,aD hi];rfl
theorem Rows2.bools{B:Nat}{w:World}{vn vs:Value}{m:Nat}{y:Ru.Way}(h:Rows2 B w vn vs m y):BoolsV w vs y.known:=aAY (by rw[h.ok.wf.k];exact h.s)
theorem Rows2.forms{B:Nat}{w:World}{vn vs:Value}{m:Nat}{y:Ru.Way}(h:Rows2 B w vn vs m y)(hm:0<m):∃NB SB cN cS,vn=.slice (some ⟨NB,0,none⟩) m cN∧vs=.slice (some ⟨SB,0,none⟩) m cS∧B≤NB∧B≤SB∧¬SB=NB:=by
 rcases id h.n.2 with⟨_,h0⟩|⟨g,cap,cur,hv,hb,hg,_⟩
 ·omega
 rcases id h.s.2 with⟨_,h0⟩|⟨g2,cap2,cur2,hv2,hb2,hg2,_⟩
 ·omega
 refine⟨g,g2,cap,cap2,hv,hv2,hb,hb2,fun e=>?_⟩;rw[e,hg]at hg2;injection hg2 with hg2;injection hg2 with _ hg2;cases hg2
theorem Rows2.put{B:Nat}{w:World}{m NB SB cN cS:Nat}{y:Ru.Way}(h:Rows2 B w (.slice (some ⟨NB,0,none⟩) m cN) (.slice (some ⟨SB,0,none⟩) m cS) m y)(hne:¬SB=NB)(v:Nat)(x:Int)(hx:Sc.isNum x=true):
 Rows2 B ((w.setCell ⟨NB,v,none⟩ (.int .i64 x)).setCell ⟨SB,v,none⟩ (.bool true)) (.slice (some ⟨NB,0,none⟩) m cN) (.slice (some ⟨SB,0,none⟩) m cS) m ⟨y.nums.set v x,y.known.set v true⟩:=by
 have hn:=(World.ownsRow.stored h.n v (.int .i64 x)).1;have hs:(w.setCell ⟨NB,v,none⟩ (.int .i64 x)).ownsRow B 4 1 (.slice (some ⟨SB,0,none⟩) m cS) m (y.known.map Value.bool):=dW h.s (fun g hg=>bJ (fun e=>hne (by have :SB=g:=(by simpa[Value.ownBlock]using hg);omega)));have hs2:=(World.ownsRow.stored hs v (.bool true)).1;refine⟨?_,?_,⟨by simpa using h.ok.wf.n,by simpa using h.ok.wf.k⟩,fun n hn'=>?_⟩
 ·refine dW (w:=w.setCell ⟨NB,v,none⟩ (.int .i64 x)) ?_ (fun g hg=>bJ (fun e=>hne (by have :NB=g:=(by simpa[Value.ownBlock]using hg);omega)));rw[iR];exact hn
 ·rw[iR];exact hs2
 rcases Ru.mem_set_or hn' with h1|h1
 ·exact h.ok.nm n h1
 rw[h1];exact hx
theorem tL{w:World}{b off ct:Nat}{l:List Sc.Term}(h3:l.length=3)(hc:3≤ct)(h:∀i,i<l.length→PTermIn w b (off+i*2) (Sc.termD l i)):PTermsV w (.slice (some ⟨b,off,none⟩) 2 ct) (l.take 2)∧PTermsV w (.slice (some ⟨b,off+4,none⟩) 1 (ct-2)) (l.drop 2):=by
 match l,h3 with
 |[t0,t1,t2],_=>
  refine⟨⟨_,_,rfl,by show 2≤ct;omega, .inr ⟨b,off,rfl,fun i hi=>?_⟩⟩,⟨_,_,rfl,by show 1≤ct-2;omega, .inr ⟨b,off+4,rfl,fun i hi=>?_⟩⟩⟩
  ·match i,hi with
   |0,_=>exact h 0 (by simp)
   |1,_=>exact h 1 (by simp)
  match i,hi with
  |0,_=>exact h 2 (by simp)
theorem aAp(w0:World)(B m FB:Nat)(facts:List Rl.Fc)(r:Sc.Rule)(vt0 vb vf vo vn vs:Value)(many:Bool)(y0:Ru.Way)(w:World)(hB0:w0.heap.size≤B)(hFBB:FB<B)(hBw:B≤w.heap.size)(hw0:Below w0.heap.size w0 w)(hFB:FindB w FB vt0 vb vf vo r many)(hb:PLitsV w0 vb r.body)(hb4:r.body.length≤4)(hL:∀l,l∈r.body→Ru.LitFine facts m l)(hm8:m≤8)(hR:Rows2 B w vn vs m y0):
 Calls Tryz.prog 112 #[.pointer (some ⟨FB,0,none⟩),vn,vs] w fun e w'=>((Ru.reckN r.body (r.body.length+1) y0=none∧e=.returned (.bool false))∨∃y',Ru.reckN r.body (r.body.length+1) y0=some y'∧e=.returned (.bool true)∧Rows2 B w' vn vs m y')∧Below B w w':=by
 obtain⟨ab,cb,rfl,hBA⟩:=hb;have HBA:Hid _:=hBA;have HL:Hid _:=hL;have HR:Hid _:=hR;have HFB:Hid (FindB w FB vt0 (.slice ab r.body.length cb) vf vo r many):=hFB;have HW0:Hid _:=hw0;obtain⟨an,cn,hvn⟩:=aW hR.n;obtain⟨as_,cs,hvs⟩:=aW hR.s;subst hvn hvs;clear hBA hL hR hFB hw0;have hKB:∀{z:World},Below B w z→Below w0.heap.size w0 z:=fun hz=>HW0.out.trans (hz.mono hB0);have HKB:Hid (∀{z:World},Below B w z→Below w0.heap.size w0 z):=hKB;clear hKB
 go_enter Tryz.func112,Tryz.ntmps112
 (go_wp2_with fail);(go_loopw [7] (fun av wr=>∃(a:Nat)(y:Ru.Way),a≤r.body.length+1∧av=.int .i64 a∧Hid (Ru.reckN r.body (r.body.length+1) y0=Ru.reckN r.body (r.body.length+1-a) y)∧Hid (Rows2 B wr (.slice an m cn) (.slice as_ m cs) m y)∧Hid (Below B w wr)) (fun av _=>r.body.length+1-(intOf av).toNat));case atStart=>exact⟨0,y0,aR _,rfl,rfl,HR.out,aG _ _⟩
 case round=>
  obtain⟨a,ya,ha,rfl,HRN,HRY,HBW⟩:=hrel;have hFBr:wr.heap[FB]?=_:=(HBW.out.block FB hFBB).trans HFB.out;(have fb3:wr.cell? ⟨FB,3,none⟩=some (.slice ab r.body.length cb):=by rw[aA hFBr];rfl);clear hFBr;by_cases hal:a≤r.body.length
  ·(have HRN2:Hid (Ru.reckN r.body (r.body.length+1-a) ya=match Ru.reckR r.body ya with |none=>none|some w'=>Ru.reckN r.body (r.body.length+1-(a+1)) w'):=by show _=_;rw[show r.body.length+1-a=(r.body.length+1-(a+1))+1 from by omega];rfl);have gal:decide ((a:Int)≤(r.body.length:Int))=true:=decide_eq_true (by omega);(go_wp2_with fail);obtain⟨wa0,hwa0⟩:∃wa0,wa0=wr:=⟨_,rfl⟩;subst hwa0;(go_loopw [8] (fun iv wr=>∃(k:Nat)(y:Ru.Way),k≤r.body.length∧iv=.int .i64 k∧Hid (Ru.reckR r.body ya=Ru.reckR (r.body.drop k) y)∧Hid (Rows2 B wr (.slice an m cn) (.slice as_ m cs) m y)∧Hid (Below B w wr)) (fun iv _=>r.body.length-(intOf iv).toNat));case atStart=>exact⟨0,ya,aR _,rfl,by show _=_;rw[cP],HRY.out,HBW.out⟩
   case round=>
    clear HRY HBW fb3;obtain⟨k,y,hk,rfl,HRR,HRY,HBW⟩:=hrel;have hFBr:wr.heap[FB]?=_:=(HBW.out.block FB hFBB).trans HFB.out;(have fb3:wr.cell? ⟨FB,3,none⟩=some (.slice ab r.body.length cb):=by rw[aA hFBr];rfl);clear hFBr;by_cases hlt:k<r.body.length
    ·obtain⟨b,off,rfl,q0,q1,q2,vt,q3,hT⟩:=jF HBA.out k hlt;have HRD:Hid _:=Ru.reckR_drop hlt y;have hfine:=HL.out _ (dF (mU hlt));have p0:=aB (HKB.out HBW.out) q0;have p1:=aB (HKB.out HBW.out) q1;have p2:=aB (HKB.out HBW.out) q2;have p3:=aB (HKB.out HBW.out) q3;obtain⟨at_,ct,rfl,hct,hTA⟩:=hT;have HTA:Hid _:=hTA;clear q0 q1 q2 q3 hTA;generalize Sc.litD r.body k=l at *;have HFI:Hid _:=hfine;clear hfine;(go_upto_region 8 with fail);have hba:=cQ wr (.cells #[.int .i64 l.kind, .int .i64 l.op, .int .i64 l.pred, .slice at_ l.terms.length ct] 49);have HLB:Hid _:=heap_alloc_new wr (.cells #[.int .i64 l.kind, .int .i64 l.op, .int .i64 l.pred, .slice at_ l.terms.length ct] 49);have HRY1:Hid _:=HRY.out.below hba;have HSZ1:Hid (B≤wr.heap.size):=aU hBw HBW.out.size;have HBW1:Hid (Below B w (wr.alloc (.cells #[.int .i64 l.kind, .int .i64 l.op, .int .i64 l.pred, .slice at_ l.terms.length ct] 49))):=HBW.out.trans (hba.mono HSZ1.out);clear p0 p1 p2 p3 fb3 hba HRY HBW;generalize hLBn:wr.heap.size=LB at *;generalize wr.alloc (.cells #[.int .i64 l.kind, .int .i64 l.op, .int .i64 l.pred, .slice at_ l.terms.length ct] 49)=wa at *;clear hLBn;(have d0:wa.cell? ⟨LB,0,none⟩=some (.int .i64 l.kind):=by rw[aA HLB.out];rfl);(have d3:wa.cell? ⟨LB,3,none⟩=some (.slice at_ l.terms.length ct):=by rw[aA HLB.out];rfl);by_cases h4:l.kind=4
     ·have h3:=HFI.out.i.k4 h4;have HH4:Hid _:=h4;have HH3:Hid _:=h3;(have g4:(l.kind != 4)=false:=by simpa using h4);have hat:∃tb toff,at_=some ⟨tb,toff,none⟩∧∀i,i<l.terms.length→PTermIn w0 tb (toff+i*2) (Sc.termD l.terms i):=by
       rcases HTA.out with h|h
       ·rw[h]at h3;simp at h3
       exact h
      obtain⟨tb,toff,rfl,hTC⟩:=hat;(have hct3:3≤ct:=by omega);obtain⟨hT2,hT1⟩:=tL h3 hct3 hTC;have hv0:=hTC 2 (by omega);have HV0:Hid (w0.cell? ⟨tb,toff+4,none⟩=some (.int .i64 (Sc.termD l.terms 2).var)):=hv0.1;have HT2:Hid _:=hT2;have HT1:Hid _:=hT1;have HA2:Hid _:=Ru.fill_take2 h3 y.nums;have HIN:Hid (∀i,i<3→Ru.TermIn m (Sc.termD l.terms i)):=fun i hi=>HFI.out.i.t _ (Ru.termD_mem (by omega));have HC3:Hid (Ru.calc3 l y.nums=Ru.reck l.op (Ru.num y.nums (Sc.termD l.terms 0)) (Ru.num y.nums (Sc.termD l.terms 1))):=rfl;have HNM:Hid (∀i,i<3→Sc.isNum (Ru.num y.nums (Sc.termD l.terms i))=true):=fun i hi=>Ru.num_fine (HIN.out i hi) (HFI.out.n _ (Ru.termD_mem (by omega))) HRY1.out.ok.wf.n HRY1.out.ok.nm;have HRE1:Hid _:=mJ (l.terms.take 2) y.known _ _ wa (bK HT2.out (HKB.out HBW1.out)) HRY1.out.bools (fun t ht=>by rw[HRY1.out.ok.wf.k];exact HFI.out.i.t t (eJ ht)) (by rw[bA];omega);rw[h3]at d3;obtain⟨b1,Hb1⟩:∃b1,Hid ((l.terms.take 2).all (Sc.known y.known)=b1):=⟨_,rfl⟩;rw[Hb1.out]at HRE1;clear h4 h3 hT2 hT1 hv0 hTC HTA hct;(have hg2:(2:Int)≤(ct:Int):=by omega);(go_wp2_with fail);refine Calls.mono HRE1.out ?_;rintro _ w2 ⟨rfl,hb2⟩;have HSZ2:Hid (B≤w2.heap.size):=aU (aU hBw HBW1.out.size) hb2.size;have HRY2:Hid _:=HRY1.out.below hb2;have HBW2:Hid (Below B w w2):=HBW1.out.trans (hb2.mono (aU hBw HBW1.out.size));have HLB2:Hid _:=(hb2.block _ (aY HLB.out)).trans HLB.out;clear hb2 HRE1 HRY1 HBW1 HLB d0 d3;(have d3:w2.cell? ⟨LB,3,none⟩=some (.slice (some ⟨tb,toff,none⟩) 3 ct):=by rw[aA HLB2.out];show some (Value.slice _ l.terms.length ct)=_;rw[HH3.out]);cases b1
      ·(have HNX:Hid (Ru.reckR r.body ya=Ru.reckR (r.body.drop (k+1)) y):=by show _=_;rw[HRR.out,HRD.out,Ru.reck1_skip (fun h=>by rw[Hb1.out]at h;exact absurd h.2.1 (by simp))]);(go_wp2_with fail);go_roundw;(case rel=>exact⟨k+1,y,hlt,by go_num,HNX.out,HRY2.out,HBW2.out⟩);case measure=>simp[intOf];omega
      have HRE2:Hid _:=mJ (l.terms.drop 2) y.known _ _ w2 (bK HT1.out (HKB.out HBW2.out)) HRY2.out.bools (fun t ht=>by rw[HRY2.out.ok.wf.k];exact HFI.out.i.t t (fA ht)) (by rw[fS,HH3.out];decide);obtain⟨b2,Hb2⟩:∃b2,Hid ((l.terms.drop 2).all (Sc.known y.known)=b2):=⟨_,rfl⟩;rw[Hb2.out]at HRE2;(go_wp2_with fail);refine Calls.mono HRE2.out ?_;rintro _ w3 ⟨rfl,hb3⟩;have HSZ3:Hid (B≤w3.heap.size):=aU HSZ2.out hb3.size;have HRY3:Hid _:=HRY2.out.below hb3;have HBW3:Hid (Below B w w3):=HBW2.out.trans (hb3.mono HSZ2.out);have HLB3:Hid _:=(hb3.block _ (aY HLB2.out)).trans HLB2.out;clear hb3 HRE2 HRY2 HBW2 HLB2 d3;(have d3:w3.cell? ⟨LB,3,none⟩=some (.slice (some ⟨tb,toff,none⟩) 3 ct):=by rw[aA HLB3.out];show some (Value.slice _ l.terms.length ct)=_;rw[HH3.out]);cases b2
      ·have HCON:Hid (l.kind=4∧(l.terms.take 2).all (Sc.known y.known)=true∧¬(l.terms.drop 2).all (Sc.known y.known)=true):=⟨HH4.out,Hb1.out,by rw[Hb2.out];simp⟩;(have HKV:Hid (Sc.known y.known (Sc.termD l.terms 2)=false):=by have :=Hb2.out;rw[Ru.drop2_all HH3.out]at this;exact this);have HAR:Hid _:=jP (l.terms.take 2) y.nums _ _ w3 (bK HT2.out (HKB.out HBW3.out)) HRY3.out.ints (by rw[bA];omega) (fun t ht=>by rw[HRY3.out.ok.wf.n];exact HFI.out.i.t t (eJ ht));rw[HA2.out]at HAR;have HN0:Hid _:=HNM.out 0 (by decide);have HN1:Hid _:=HNM.out 1 (by decide);(go_wp2_with fail);refine Calls.mono HAR.out ?_;rintro _ w4 ⟨va,rfl,hrow,hb4⟩;have HSZ4:Hid (B≤w4.heap.size):=aU HSZ3.out hb4.size;have HRY4:Hid _:=HRY3.out.below hb4;have HBW4:Hid (Below B w w4):=HBW3.out.trans (hb4.mono HSZ3.out);have HLB4:Hid _:=(hb4.block _ (aY HLB3.out)).trans HLB3.out;have hints:=hrow.ints;obtain⟨aa,ca,rfl,hIA⟩:=hints;clear hb4 HAR HRY3 HBW3 HLB3 d3 hrow;generalize Ru.num y.nums (Sc.termD l.terms 0)=n0 at *;generalize Ru.num y.nums (Sc.termD l.terms 1)=n1 at *;have hr:∃b0 off0,aa=some ⟨b0,off0,none⟩∧w4.cell? ⟨b0,off0,none⟩=some (.int .i64 n0)∧w4.cell? ⟨b0,off0+1,none⟩=some (.int .i64 n1):=by
        rcases hIA with h|⟨b0,off0,h1,h2⟩
        ·cases h
        exact⟨b0,off0,h1,h2 0 (jT _),h2 1 (mZ (jT _))⟩
       obtain⟨b0,off0,rfl,r0,r1⟩:=hr;clear hIA;(have d1:w4.cell? ⟨LB,1,none⟩=some (.int .i64 l.op):=by rw[aA HLB4.out];rfl);have HQ:Hid (∀z:World,Calls Tryz.prog 67 #[.int .i64 l.op, .int .i64 n0, .int .i64 n1] z fun e w'=>e=.returned (.int .i64 (Ru.reck l.op n0 n1))∧∃n,w'=z.drewN n):=fun z=>(qW l.op n0 n1 z (Ru.between_iff.mp HN0.out) (Ru.between_iff.mp HN1.out)).mono fun _ _ h=>⟨h.1,0,h.2⟩;(go_upto_region 10 with fail);(go_quiet(first|(go_at_call 67;exact jK (HQ.out _))));have hbd:=bQ w4 nq;have HSZ5:Hid (B≤(w4.drewN nq).heap.size):=aU HSZ4.out hbd.size;have HRY5:Hid _:=HRY4.out.below hbd;have HBW5:Hid (Below B w (w4.drewN nq)):=HBW4.out.trans (hbd.mono HSZ4.out);have HLB5:Hid _:=(hbd.block _ (aY HLB4.out)).trans HLB4.out;clear hbd r0 r1 d1 HRY4 HBW4 HLB4 HQ;obtain⟨v,hv,hvm⟩:=Ru.unknown_var HKV.out (HIN.out 2 (by decide));have HST0:Hid (Sc.isNum (Ru.calc3 l y.nums)=false→Ru.reck1 y l=none):=fun h=>Ru.reck1_none HCON.out h;(have HST1:Hid (Sc.isNum (Ru.calc3 l y.nums)=true→Ru.reck1 y l=some ⟨y.nums.set v (Ru.calc3 l y.nums),y.known.set v true⟩):=fun h=>by have :=Ru.reck1_some HCON.out h;rw[hv,dB]at this;exact this);rw[hv]at HV0;rw[←HC3.out];clear hv;generalize Ru.calc3 l y.nums=x at *;generalize w4.drewN nq=w5 at *;have HNU:Hid _:=kN x w5;(go_wp2_with fail);refine Calls.mono HNU.out ?_;rintro _ w6 ⟨rfl,rfl⟩;cases hn:Sc.isNum x
       ·(have HEN:Hid (Ru.reckN r.body (r.body.length+1) y0=none):=by show _=_;rw[HRN.out,HRN2.out,HRR.out,HRD.out,HST0.out hn]);(go_wp2_with fail);go_ret;exact⟨.inl ⟨HEN.out,rfl⟩,HBW5.out⟩
       (have HNX:Hid (Ru.reckR r.body ya=Ru.reckR (r.body.drop (k+1)) ⟨y.nums.set v x,y.known.set v true⟩):=by show _=_;rw[HRR.out,HRD.out,HST1.out hn]);obtain⟨NB,SB,cN,cS,e1,e2,hNB,hSB,hne⟩:=HRY5.out.forms (by omega);injection e1 with e1 _ e3;injection e2 with e2 _ e4;subst e1 e2 e3 e4;have HRY5':Hid (Rows2 B w6 (.slice (some ⟨NB,0,none⟩) m cn) (.slice (some ⟨SB,0,none⟩) m cs) m y):=HRY5.out;have hnl:=HRY5'.out.ok.wf.n;have hkl:=HRY5'.out.ok.wf.k;(have cN:w6.cell? ⟨NB,v,none⟩=some (.int .i64 (y.nums.getD v 0)):=by rw[World.ownsRow.cellAt HRY5'.out.n v (by omega),bI,aD (by omega),aC,aD (by omega)];rfl);(have fN:w6.frozen? ⟨NB,v,none⟩=false:=World.ownsRow.frozenAt HRY5'.out.n v;have HLNB:Hid (¬LB=NB):=fun e=>by have h9:=HLB5.out;rw[e]at h9;have :=jG HRY5'.out.n rfl h9;cases this);((have HLSB:Hid (¬LB=SB):=fun e=>by have h9:=HLB5.out;rw[e]at h9;have :=jG HRY5'.out.s rfl h9;cases this);have HPUT:Hid _:=HRY5'.out.put hne v x hn;(have d3:w6.cell? ⟨LB,3,none⟩=some (.slice (some ⟨tb,toff,none⟩) 3 ct):=by rw[aA HLB5.out];show some (Value.slice _ l.terms.length ct)=_;rw[HH3.out]);have tv:=aB (HKB.out HBW5.out) HV0.out;have HBW6:Hid (Below B w (w6.setCell ⟨NB,v,none⟩ (.int .i64 x))):=HBW5.out.setCell (p:=⟨NB,v,none⟩) hNB _;have HBW7:Hid (Below B w ((w6.setCell ⟨NB,v,none⟩ (.int .i64 x)).setCell ⟨SB,v,none⟩ (.bool true))):=HBW6.out.setCell (p:=⟨SB,v,none⟩) hSB _;(have HD6:Hid ((w6.setCell ⟨NB,v,none⟩ (.int .i64 x)).cell? ⟨LB,3,none⟩=some (.slice (some ⟨tb,toff,none⟩) 3 ct)):=by show _=_;rw[fP (a:=⟨LB,3,none⟩) (bJ HLNB.out)];exact d3);have HT6:Hid _:=aB (HKB.out HBW6.out) HV0.out;have HC6:Hid ((w6.setCell ⟨NB,v,none⟩ (.int .i64 x)).cell? ⟨SB,v,none⟩=some (.bool (y.known.getD v false))∧(w6.setCell ⟨NB,v,none⟩ (.int .i64 x)).frozen? ⟨SB,v,none⟩=false):=by have hs6:(w6.setCell ⟨NB,v,none⟩ (.int .i64 x)).ownsRow B 4 1 (.slice (some ⟨SB,0,none⟩) m cs) m (y.known.map Value.bool):=dW HRY5'.out.s (fun g hg=>bJ (fun e=>hne (by have :SB=g:=(by simpa[Value.ownBlock]using hg);omega)));refine⟨?_,World.ownsRow.frozenAt hs6 v⟩;rw[World.ownsRow.cellAt hs6 v (by omega),bI,aD (by omega),aC,aD (by omega)];rfl);clear hnl hkl;generalize y.nums.getD v 0=nv at *;generalize y.known.getD v false=kv at *;(go_upto_region 14 with fail);generalize w6.setCell ⟨NB,v,none⟩ (.int .i64 x)=w7 at *;have d37:=HD6.out;have tv7:=HT6.out;obtain⟨cS7,fS7⟩:=HC6.out;clear d3 tv cN fN;(go_wp2_with fail);go_roundw;(case rel=>exact⟨k+1,_,hlt,by go_num,HNX.out,HPUT.out,HBW7.out⟩);case measure=>simp[intOf];omega
      (have HNX:Hid (Ru.reckR r.body ya=Ru.reckR (r.body.drop (k+1)) y):=by show _=_;rw[HRR.out,HRD.out,Ru.reck1_skip (fun h=>h.2.2 Hb2.out)]);(go_wp2_with fail);go_roundw;(case rel=>exact⟨k+1,y,hlt,by go_num,HNX.out,HRY3.out,HBW3.out⟩);case measure=>simp[intOf];omega
     (have g4:(l.kind != 4)=true:=by simpa using h4);(have HNX:Hid (Ru.reckR r.body ya=Ru.reckR (r.body.drop (k+1)) y):=by show _=_;rw[HRR.out,HRD.out,Ru.reck1_skip (fun h=>h4 h.1)]);clear h4;(go_wp2_with fail);go_roundw;(case rel=>exact⟨k+1,y,hlt,by go_num,HNX.out,HRY1.out,HBW1.out⟩);case measure=>simp[intOf];omega
    have hdd:decide (k<r.body.length)=false:=decide_eq_false hlt;(have HNX:Hid (Ru.reckN r.body (r.body.length+1) y0=Ru.reckN r.body (r.body.length+1-(a+1)) y):=by show _=_;rw[HRN.out,HRN2.out,HRR.out,aH (by omega)];rfl);(go_wp2_with fail);go_roundw;(case rel=>exact⟨a+1,y,by omega,by go_num,HNX.out,HRY.out,HBW.out⟩);case measure=>simp[intOf];omega
  have gal:decide ((a:Int)≤(r.body.length:Int))=false:=decide_eq_false (by omega);(have HE:Hid (Ru.reckN r.body (r.body.length+1) y0=some ya):=by show _=_;rw[HRN.out,show r.body.length+1-a=0 from by omega];rfl);(go_wp2_with fail);go_ret;exact⟨.inr ⟨ya,HE.out,rfl,HRY.out⟩,HBW.out⟩
def wrong5TvT(LB FB:Nat)(VT VS VN VF:Value)(l:Sc.Lit)(hb:Bool):Nat→Value
 |27=>.pointer (some ⟨LB,3,none⟩)
 |28=>VT
 |29=>VS
 |30=>.bool true
 |31=>.bool true
 |32=>plitVal l VT
 |33=>VN
 |34=>.pointer (some ⟨FB,0,none⟩)
 |35=>.pointer (some ⟨FB,0,none⟩)
 |36=>.pointer (some ⟨FB,5,none⟩)
 |37=>VF
 |38=>.bool hb
 |39=>.bool (!hb)
 |40=>.bool (!hb)
 |_=>.bool false
def wrong5TvF(LB:Nat)(VT VS:Value):Nat→Value
 |27=>.pointer (some ⟨LB,3,none⟩)
 |28=>VT
 |29=>VS
 |30=>.bool false
 |31=>.bool false
 |32=>undef
 |33=>undef
 |34=>undef
 |35=>undef
 |36=>undef
 |37=>undef
 |38=>undef
 |39=>undef
 |40=>.bool false
 |_=>.bool false
theorem aBs(m FB:Nat)(facts:List Rl.Fc)(r:Sc.Rule)(vt0 vb vf vo vn vs:Value)(many:Bool)(y:Ru.Way)(w:World)(hFB:FindB w FB vt0 vb vf vo r many)(hb:PLitsV w vb r.body)(hF:FactsV w vf facts)(hFl:facts.length≤1000000)(hFF:∀f,f∈facts→FFit f)(hb4:r.body.length≤4)(hL:∀l,l∈r.body→Ru.LitFine facts m l)(hN:IntsV w vn y.nums)(hS:BoolsV w vs y.known)(hY:Ru.WayOk m y):
 Calls Tryz.prog 113 #[.pointer (some ⟨FB,0,none⟩),vn,vs] w fun e w'=>e=.returned (.bool (Ru.wrong facts r.body y))∧Below w.heap.size w w':=by
 obtain⟨ab,cb,rfl,hBA⟩:=hb;obtain⟨af,cf,rfl,_⟩:=id hF;obtain⟨an,cn,rfl,_⟩:=id hN;obtain⟨as_,cs,rfl,_⟩:=id hS;have HBA:Hid _:=hBA;have HL:Hid _:=hL;have HF:Hid (FactsV w (.slice af facts.length cf) facts∧facts.length≤1000000∧∀f,f∈facts→FFit f):=⟨hF,hFl,hFF⟩;have HN:Hid (IntsV w (.slice an y.nums.length cn) y.nums):=hN;have HS:Hid (BoolsV w (.slice as_ y.known.length cs) y.known):=hS;have HY:Hid _:=hY;(have f3w:w.cell? ⟨FB,3,none⟩=some (.slice ab r.body.length cb):=by rw[aA hFB];rfl);(have f5w:w.cell? ⟨FB,5,none⟩=some (.slice af facts.length cf):=by rw[aA hFB];rfl);clear hBA hL hF hFF hN hS hFB hFl hY
 go_enter Tryz.func113,Tryz.ntmps113
 (go_wp2_with fail);(go_loopw [7] (fun iv wr=>∃k:Nat,k≤r.body.length∧iv=.int .i64 k∧Hid ((r.body.take k).any (fun l=>l.terms.all (Sc.known y.known)&& !Ru.holds facts l y.nums)=false)∧Hid (Below w.heap.size w wr)) (fun iv _=>r.body.length-(intOf iv).toNat));case atStart=>exact⟨0,aR _,rfl,rfl,aG _ _⟩
 case round=>
  obtain⟨k,hk,rfl,HK,HB2⟩:=hrel;have f3:=aB HB2.out f3w;by_cases hlt:k<r.body.length
  ·obtain⟨b,off,rfl,q0,q1,q2,vt,q3,hT⟩:=jF HBA.out k hlt;have HLM:Hid (Sc.litD r.body k∈r.body):=dF (mU hlt);have HLG:Hid _:=mU hlt;have p0:=aB HB2.out q0;have p1:=aB HB2.out q1;have p2:=aB HB2.out q2;have p3:=aB HB2.out q3;have HT:Hid _:=hT;obtain⟨at_,ct,rfl,_⟩:=id hT;have HFI:Hid _:=HL.out _ HLM.out;clear q0 q1 q2 q3 hT;generalize Sc.litD r.body k=l at *;(go_upto_region 5 with fail);have hba:=cQ wr (.cells #[.int .i64 l.kind, .int .i64 l.op, .int .i64 l.pred, .slice at_ l.terms.length ct] 49);have HLB:Hid _:=heap_alloc_new wr (.cells #[.int .i64 l.kind, .int .i64 l.op, .int .i64 l.pred, .slice at_ l.terms.length ct] 49);have HB3:Hid (Below w.heap.size w (wr.alloc (.cells #[.int .i64 l.kind, .int .i64 l.op, .int .i64 l.pred, .slice at_ l.terms.length ct] 49))):=HB2.out.trans (hba.mono HB2.out.size);clear p0 p1 p2 p3 f3 hba HB2;generalize hLBn:wr.heap.size=LB at *;generalize wr.alloc (.cells #[.int .i64 l.kind, .int .i64 l.op, .int .i64 l.pred, .slice at_ l.terms.length ct] 49)=wa at *;clear hLBn;(have d0:wa.cell? ⟨LB,0,none⟩=some (.int .i64 l.kind):=by rw[aA HLB.out];rfl);(have d1:wa.cell? ⟨LB,1,none⟩=some (.int .i64 l.op):=by rw[aA HLB.out];rfl);(have d2:wa.cell? ⟨LB,2,none⟩=some (.int .i64 l.pred):=by rw[aA HLB.out];rfl);(have d3:wa.cell? ⟨LB,3,none⟩=some (.slice at_ l.terms.length ct):=by rw[aA HLB.out];rfl);have f5:=aB HB3.out f5w;(have HRE:Hid (∀y_,Below wa.heap.size wa y_→Calls Tryz.prog 167 #[.slice at_ l.terms.length ct, .slice as_ y.known.length cs] y_ fun e w'=>e=.returned (.bool (l.terms.all (Sc.known y.known)))∧Below y_.heap.size y_ w'):=fun y_ hb=>by have hb':Below w.heap.size w y_:=HB3.out.trans (hb.mono HB3.out.size);exact mJ l.terms y.known _ _ y_ (bK HT.out hb') (gJ HS.out hb') (by rw[HY.out.wf.k];exact HFI.out.i.t) (by have :=HFI.out.s;omega));(have HLH:Hid (∀y_,Below wa.heap.size wa y_→Calls Tryz.prog 24 #[plitVal l (.slice at_ l.terms.length ct), .slice an y.nums.length cn, .slice af facts.length cf] y_ fun e w'=>e=.returned (.bool (Ru.holds facts l y.nums))∧Below y_.heap.size y_ w'):=fun y_ hb=>by have hb':Below w.heap.size w y_:=HB3.out.trans (hb.mono HB3.out.size);exact rR facts l y.nums _ _ _ y_ (bK HT.out hb') (aK HN.out hb') (aL HF.out.1 hb') HF.out.2.1 HF.out.2.2 HY.out.wf.n HFI.out HY.out.nm);obtain⟨hb,HHB⟩:∃hb,Hid (Ru.holds facts l y.nums=hb):=⟨_,rfl⟩;rw[HHB.out]at HLH;cases hb1:l.terms.all (Sc.known y.known)
   ·have HB1:Hid _:=hb1;rw[hb1]at HRE;clear hb1 HLH;refine eS (fun tQ vQ _=>vQ=wrong5TvF LB (.slice at_ l.terms.length ct) (.slice as_ y.known.length cs) tQ) (by kernel_rfl) (by kernel_rfl) (fun _ _ _ _ _ h=>h) ?hop ?hend
    case hop=>
     refine oC (fun a y_ h=>by have e8:a.eval (.tmp 8)=(.pointer (some ⟨LB,0,none⟩):Value):=h.old 8;exact opX (.pointer (some ⟨LB,3,none⟩))) ?_;refine oC (fun a y_ h=>by have e27:a.eval (.tmp 27)=(.pointer (some ⟨LB,3,none⟩):Value):=h.of 27;have c3:=aB h.below d3;exact opX (.slice at_ l.terms.length ct)) ?_;refine oC (fun a y_ h=>by have e2:a.eval (.tmp 2)=(.slice as_ y.known.length cs:Value):=h.old 2;exact opX (.slice as_ y.known.length cs)) ?_;refine oC (fun a y_ h=>?_) ?_
     ·have e28:a.eval (.tmp 28)=(.slice at_ l.terms.length ct:Value):=h.of 28;have e29:a.eval (.tmp 29)=(.slice as_ y.known.length cs:Value):=h.of 29;refine dL (f:=167) (args:=#[.slice at_ l.terms.length ct, .slice as_ y.known.length cs]) (aM rfl) ?_ ?_
      ·have ec:=evc a;have ef:=evf a;generalize a.eval=ev at *;clear h;go_simp
      refine Calls.mono (HRE.out y_ h.below) ?_;rintro _ y2 ⟨rfl,hb2⟩;exact⟨_,rfl,fun t ht=>by cases ht;exact rfl,hb2⟩
     refine oC (fun a y_ h=>by have e30:a.eval (.tmp 30)=(.bool false:Value):=h.of 30;exact opX (.bool false)) ?_;refine oC (fun a y_ h=>by exact eL (j:=4) (t:=31) (b:=true) (c:=false) rfl rfl rfl (h.of 31) (by decide) (fun t ht=>by cases ht;exact rfl)) ?_;refine oC (fun a y_ h=>by exact eL (j:=4) (t:=31) (b:=true) (c:=false) rfl rfl rfl (h.of 31) (by decide) (fun t ht=>by cases ht;exact rfl)) ?_;refine oC (fun a y_ h=>by exact eL (j:=4) (t:=31) (b:=true) (c:=false) rfl rfl rfl (h.of 31) (by decide) (fun t ht=>by cases ht;exact rfl)) ?_;refine oC (fun a y_ h=>by exact eL (j:=4) (t:=31) (b:=true) (c:=false) rfl rfl rfl (h.of 31) (by decide) (fun t ht=>by cases ht;exact rfl)) ?_;refine oC (fun a y_ h=>by exact eL (j:=4) (t:=31) (b:=true) (c:=false) rfl rfl rfl (h.of 31) (by decide) (fun t ht=>by cases ht;exact rfl)) ?_;refine oC (fun a y_ h=>by exact eL (j:=4) (t:=31) (b:=true) (c:=false) rfl rfl rfl (h.of 31) (by decide) (fun t ht=>by cases ht;exact rfl)) ?_;refine oC (fun a y_ h=>by exact eL (j:=4) (t:=31) (b:=true) (c:=false) rfl rfl rfl (h.of 31) (by decide) (fun t ht=>by cases ht;exact rfl)) ?_;refine oC (fun a y_ h=>by exact eL (j:=4) (t:=31) (b:=true) (c:=false) rfl rfl rfl (h.of 31) (by decide) (fun t ht=>by cases ht;exact rfl)) ?_;refine oC (fun a y_ h=>by have e31:a.eval (.tmp 31)=(.bool false:Value):=h.of 31;have e39:a.eval (.tmp 39)=(undef:Value):=h.of 39;exact opX (.bool false)) ?_;exact AllOps.nil
    case hend=>rintro⟨tm,df⟩ wE hbE hdE hsE hstE hTE;have h40:tm.getD 40 undef=.bool false:=jI (T:=fun tQ vQ _=>vQ=wrong5TvF LB (.slice at_ l.terms.length ct) (.slice as_ y.known.length cs) tQ) (w:=wE) (a:=⟨tm,df⟩) (t:=40) hTE (by kernel_rfl);obtain rfl:df=[]:=hdE;have hFE:=dQ [27,28,29,30,31,32,33,34,35,36,37,38,39,40] tm _ hsE hstE;clear hsE hstE hTE;simp only[cD,cY,h40]at hFE;clear h40;generalize tm.getD 27 undef=x27 at hFE;generalize tm.getD 28 undef=x28 at hFE;generalize tm.getD 29 undef=x29 at hFE;generalize tm.getD 30 undef=x30 at hFE;generalize tm.getD 31 undef=x31 at hFE;generalize tm.getD 32 undef=x32 at hFE;generalize tm.getD 33 undef=x33 at hFE;generalize tm.getD 34 undef=x34 at hFE;generalize tm.getD 35 undef=x35 at hFE;generalize tm.getD 36 undef=x36 at hFE;generalize tm.getD 37 undef=x37 at hFE;generalize tm.getD 38 undef=x38 at hFE;generalize tm.getD 39 undef=x39 at hFE;simp only[aX,bV,bX]at hFE;subst hFE;(have HK2:Hid ((r.body.take (k+1)).any (fun l=>l.terms.all (Sc.known y.known)&& !Ru.holds facts l y.nums)=false):=by show _=_;rw[cO,List.any_append,HK.out,HLG.out];show(l.terms.all (Sc.known y.known)&& !Ru.holds facts l y.nums||false)=false;rw[HB1.out];rfl);(go_wp2_with fail);go_roundw;(case rel=>exact⟨k+1,hlt,by go_num,HK2.out,HB3.out.trans (hbE.mono HB3.out.size)⟩);case measure=>simp[intOf];omega
   have HB1:Hid _:=hb1;rw[hb1]at HRE;clear hb1;refine eS (fun tQ vQ _=>vQ=wrong5TvT LB FB (.slice at_ l.terms.length ct) (.slice as_ y.known.length cs) (.slice an y.nums.length cn) (.slice af facts.length cf) l hb tQ) (by kernel_rfl) (by kernel_rfl) (fun _ _ _ _ _ h=>h) ?hop ?hend
   case hop=>
    refine oC (fun a y_ h=>by have e8:a.eval (.tmp 8)=(.pointer (some ⟨LB,0,none⟩):Value):=h.old 8;exact opX (.pointer (some ⟨LB,3,none⟩))) ?_;refine oC (fun a y_ h=>by have e27:a.eval (.tmp 27)=(.pointer (some ⟨LB,3,none⟩):Value):=h.of 27;have c3:=aB h.below d3;exact opX (.slice at_ l.terms.length ct)) ?_;refine oC (fun a y_ h=>by have e2:a.eval (.tmp 2)=(.slice as_ y.known.length cs:Value):=h.old 2;exact opX (.slice as_ y.known.length cs)) ?_;refine oC (fun a y_ h=>?_) ?_
    ·have e28:a.eval (.tmp 28)=(.slice at_ l.terms.length ct:Value):=h.of 28;have e29:a.eval (.tmp 29)=(.slice as_ y.known.length cs:Value):=h.of 29;refine dL (f:=167) (args:=#[.slice at_ l.terms.length ct, .slice as_ y.known.length cs]) (aM rfl) ?_ ?_
     ·have ec:=evc a;have ef:=evf a;generalize a.eval=ev at *;clear h;go_simp
     refine Calls.mono (HRE.out y_ h.below) ?_;rintro _ y2 ⟨rfl,hb2⟩;exact⟨_,rfl,fun t ht=>by cases ht;exact rfl,hb2⟩
    refine oC (fun a y_ h=>by have e30:a.eval (.tmp 30)=(.bool true:Value):=h.of 30;exact opX (.bool true)) ?_;refine oC (fun a y_ h=>by have e8:a.eval (.tmp 8)=(.pointer (some ⟨LB,0,none⟩):Value):=h.old 8;have c0:=aB h.below d0;have c1:=aB h.below d1;have c2:=aB h.below d2;have c3:=aB h.below d3;refine dK (v:=plitVal l (.slice at_ l.terms.length ct)) (w':=y_) (dP (j:=4) (t:=31) (b:=true) rfl rfl rfl (h.of 31)) ?_ (fun t ht=>by cases ht;exact rfl) (aG _ _);have ec:=evc a;generalize a.eval=ev at *;clear h;go_simp) ?_;refine oC (fun a y_ h=>by have e1:a.eval (.tmp 1)=(.slice an y.nums.length cn:Value):=h.old 1;refine dK (v:=.slice an y.nums.length cn) (w':=y_) (dP (j:=4) (t:=31) (b:=true) rfl rfl rfl (h.of 31)) ?_ (fun t ht=>by cases ht;exact rfl) (aG _ _);have ec:=evc a;generalize a.eval=ev at *;clear h;go_simp) ?_;refine oC (fun a y_ h=>by have e0:a.eval (.tmp 0)=(.pointer (some ⟨FB,0,none⟩):Value):=h.old 0;refine dK (v:=.pointer (some ⟨FB,0,none⟩)) (w':=y_) (dP (j:=4) (t:=31) (b:=true) rfl rfl rfl (h.of 31)) ?_ (fun t ht=>by cases ht;exact rfl) (aG _ _);have ec:=evc a;generalize a.eval=ev at *;clear h;go_simp) ?_;refine oC (fun a y_ h=>by have e34:a.eval (.tmp 34)=(.pointer (some ⟨FB,0,none⟩):Value):=h.of 34;refine dK (v:=.pointer (some ⟨FB,0,none⟩)) (w':=y_) (dP (j:=4) (t:=31) (b:=true) rfl rfl rfl (h.of 31)) ?_ (fun t ht=>by cases ht;exact rfl) (aG _ _);have ec:=evc a;generalize a.eval=ev at *;clear h;go_simp) ?_;refine oC (fun a y_ h=>by have e35:a.eval (.tmp 35)=(.pointer (some ⟨FB,0,none⟩):Value):=h.of 35;refine dK (v:=.pointer (some ⟨FB,5,none⟩)) (w':=y_) (dP (j:=4) (t:=31) (b:=true) rfl rfl rfl (h.of 31)) ?_ (fun t ht=>by cases ht;exact rfl) (aG _ _);have ec:=evc a;generalize a.eval=ev at *;clear h;go_simp) ?_;refine oC (fun a y_ h=>by have e36:a.eval (.tmp 36)=(.pointer (some ⟨FB,5,none⟩):Value):=h.of 36;have c5:=aB h.below f5;refine dK (v:=.slice af facts.length cf) (w':=y_) (dP (j:=4) (t:=31) (b:=true) rfl rfl rfl (h.of 31)) ?_ (fun t ht=>by cases ht;exact rfl) (aG _ _);have ec:=evc a;generalize a.eval=ev at *;clear h;go_simp) ?_;refine oC (fun a y_ h=>?_) ?_
    ·have e32:a.eval (.tmp 32)=(plitVal l (.slice at_ l.terms.length ct):Value):=h.of 32;have e33:a.eval (.tmp 33)=(.slice an y.nums.length cn:Value):=h.of 33;have e37:a.eval (.tmp 37)=(.slice af facts.length cf:Value):=h.of 37;refine dL (f:=24) (args:=#[plitVal l (.slice at_ l.terms.length ct), .slice an y.nums.length cn, .slice af facts.length cf]) (dP (j:=4) (t:=31) (b:=true) rfl rfl rfl (h.of 31)) ?_ ?_
     ·have ec:=evc a;have ef:=evf a;generalize a.eval=ev at *;clear h;go_simp
     refine Calls.mono (HLH.out y_ h.below) ?_;rintro _ y2 ⟨rfl,hb2⟩;exact⟨_,rfl,fun t ht=>by cases ht;exact rfl,hb2⟩
    refine oC (fun a y_ h=>by have e38:a.eval (.tmp 38)=(.bool hb:Value):=h.of 38;refine dK (v:=.bool (!hb)) (w':=y_) (dP (j:=4) (t:=31) (b:=true) rfl rfl rfl (h.of 31)) ?_ (fun t ht=>by cases ht;exact rfl) (aG _ _);have ec:=evc a;generalize a.eval=ev at *;clear h;go_simp) ?_;refine oC (fun a y_ h=>by have e31:a.eval (.tmp 31)=(.bool true:Value):=h.of 31;have e39:a.eval (.tmp 39)=(.bool (!hb):Value):=h.of 39;exact opX (.bool (!hb))) ?_;exact AllOps.nil
   case hend=>
    rintro⟨tm,df⟩ wE hbE hdE hsE hstE hTE;have h40:tm.getD 40 undef=.bool (!hb):=jI (T:=fun tQ vQ _=>vQ=wrong5TvT LB FB (.slice at_ l.terms.length ct) (.slice as_ y.known.length cs) (.slice an y.nums.length cn) (.slice af facts.length cf) l hb tQ) (w:=wE) (a:=⟨tm,df⟩) (t:=40) hTE (by kernel_rfl);obtain rfl:df=[]:=hdE;have hFE:=dQ [27,28,29,30,31,32,33,34,35,36,37,38,39,40] tm _ hsE hstE;clear hsE hstE hTE;simp only[cD,cY,h40]at hFE;clear h40;generalize tm.getD 27 undef=x27 at hFE;generalize tm.getD 28 undef=x28 at hFE;generalize tm.getD 29 undef=x29 at hFE;generalize tm.getD 30 undef=x30 at hFE;generalize tm.getD 31 undef=x31 at hFE;generalize tm.getD 32 undef=x32 at hFE;generalize tm.getD 33 undef=x33 at hFE;generalize tm.getD 34 undef=x34 at hFE;generalize tm.getD 35 undef=x35 at hFE;generalize tm.getD 36 undef=x36 at hFE;generalize tm.getD 37 undef=x37 at hFE;generalize tm.getD 38 undef=x38 at hFE;generalize tm.getD 39 undef=x39 at hFE;simp only[aX,bV,bX]at hFE;subst hFE;cases hb
    ·(have HE:Hid (Ru.wrong facts r.body y=true):=by show _=_;unfold Ru.wrong;exact gR.mpr ⟨_,HLM.out,by rw[HB1.out,HHB.out];rfl⟩);(go_wp2_with fail);go_ret;exact⟨by rw[HE.out];rfl,HB3.out.trans (hbE.mono HB3.out.size)⟩
    (have HK2:Hid ((r.body.take (k+1)).any (fun l=>l.terms.all (Sc.known y.known)&& !Ru.holds facts l y.nums)=false):=by show _=_;rw[cO,List.any_append,HK.out,HLG.out];show(l.terms.all (Sc.known y.known)&& !Ru.holds facts l y.nums||false)=false;rw[HHB.out,HB1.out];rfl);(go_wp2_with fail);go_roundw;(case rel=>exact⟨k+1,hlt,by go_num,HK2.out,HB3.out.trans (hbE.mono HB3.out.size)⟩);case measure=>simp[intOf];omega
  have hdd:decide (k<r.body.length)=false:=decide_eq_false hlt;(have HE:Hid (Ru.wrong facts r.body y=false):=by show _=_;have :=HK.out;rw[bR (by omega)]at this;exact this);(go_wp2_with fail);go_ret;exact⟨by rw[HE.out];rfl,HB2.out⟩
namespace Ru
abbrev Out:=List (List Int)×Bool
def stepO(s:Out)(x:List Int):Out:=if s.2=true then s else if s.1.length=2000 then(s.1,true)else(s.1++[x],false)
def runO(s:Out)(L:List (List Int)):Out:=L.foldl stepO s
theorem runO_many{s:Out}(h:s.2=true):∀L,runO s L=s
 |[]=>rfl
 |x::L=>by show runO (stepO s x) L=s;rw[show stepO s x=s from if_pos h];exact runO_many h L
theorem runO_append(s:Out)(L M:List (List Int)):runO s (L++M)=runO (runO s L) M:=kE
theorem stepO_le{s:Out}(h:s.1.length≤2000)(x:List Int):(stepO s x).1.length≤2000:=by
 unfold stepO;split
 ·exact h
 split
 ·exact h
 show(s.1++[x]).length≤2000;rw[aJ,jV];omega
theorem runO_le:∀(L:List (List Int)){s:Out},s.1.length≤2000→(runO s L).1.length≤2000
 |[],_,h=>h
 |x::L,_,h=>runO_le L (stepO_le h x)
def fromF(facts:List Rl.Fc)(body:List Sc.Lit)(k j:Nat)(w1:Way)(f:Rl.Fc):List (List Int):=
 if f.pred=(Sc.litD body j).pred then(match withW w1 (Sc.litD body j).terms f.args with |none=>[]|some w2=>fromN facts body k (j+1) w2)else []
theorem fromN_none{facts:List Rl.Fc}{body:List Sc.Lit}{k i:Nat}{w:Way}(h:reckN body (body.length+1) w=none):fromN facts body (k+1) i w=[]:=by unfold fromN;rw[h]
theorem fromN_wrong{facts:List Rl.Fc}{body:List Sc.Lit}{k i:Nat}{w w1:Way}(h:reckN body (body.length+1) w=some w1)(hw:wrong facts body w1=true):fromN facts body (k+1) i w=[]:=by unfold fromN;rw[h];simp only[if_pos hw]
theorem fromN_end{facts:List Rl.Fc}{body:List Sc.Lit}{k i:Nat}{w w1:Way}(h:reckN body (body.length+1) w=some w1)(hw:wrong facts body w1=false)(hi:¬skipTo body i<body.length):fromN facts body (k+1) i w=[w1.nums]:=by unfold fromN;rw[h];simp only[hw,if_neg hi];rfl
theorem fromN_go{facts:List Rl.Fc}{body:List Sc.Lit}{k i:Nat}{w w1:Way}(h:reckN body (body.length+1) w=some w1)(hw:wrong facts body w1=false)(hi:skipTo body i<body.length):fromN facts body (k+1) i w=facts.flatMap (fromF facts body k (skipTo body i) w1):=by unfold fromN;rw[h];simp only[hw,if_pos hi];rfl
theorem skipTo_lt{body:List Sc.Lit}{j:Nat}(hj:j<body.length):skipTo body j=if(Sc.litD body j).kind=1 then j else skipTo body (j+1):=by
 (have :body.drop j=Sc.litD body j::body.drop (j+1):=by rw[aZ hj];unfold Sc.litD;rw[aC,aD hj];rfl);unfold skipTo;rw[this];rfl
theorem skipTo_end{body:List Sc.Lit}{j:Nat}(hj:body.length≤j):skipTo body j=j:=by unfold skipTo;rw[aH hj];rfl
theorem with1_neg{z:Way}{tv tn a:Int}(h:tv<0):with1 z ⟨tv,tn⟩ a=if tn=a then some z else none:=by(have hk:Sc.known z.known ⟨tv,tn⟩=true:=by unfold Sc.known;simp[h]);(have hn:num z.nums ⟨tv,tn⟩=tn:=by unfold num;rw[if_pos h]);unfold with1;rw[if_pos hk,hn]
theorem with1_kn{z:Way}{v:Nat}{tn a:Int}(h:z.known.getD v false=true):with1 z ⟨(v:Int),tn⟩ a=if z.nums.getD v 0=a then some z else none:=by(have hk:Sc.known z.known ⟨(v:Int),tn⟩=true:=by unfold Sc.known;dsimp only;rw[dB,h,gF]);(have hn:num z.nums ⟨(v:Int),tn⟩=z.nums.getD v 0:=by unfold num;rw[if_neg (show¬(v:Int)<0 by omega)];dsimp only;rw[dB]);unfold with1;rw[if_pos hk,hn]
theorem with1_nw{z:Way}{v:Nat}{tn a:Int}(h:z.known.getD v false=false):with1 z ⟨(v:Int),tn⟩ a=some ⟨z.nums.set v a,z.known.set v true⟩:=by(have hk:¬Sc.known z.known ⟨(v:Int),tn⟩=true:=by unfold Sc.known;dsimp only;rw[dB,h,Bool.or_false,decide_eq_true_iff];omega);unfold with1;rw[if_neg hk];dsimp only;rw[dB]
end Ru
structure FindI (FB:Nat) (vt vb vf:Value) (r:Sc.Rule) (s:Ru.Out) (q:List (List Int×Value)) (vo:Value) (w:World):Prop where
 hq:q.map (·.1)=s.1
 b:FindB w FB vt vb vf vo r s.2
 o:w.ownsRow (FB+1) 22 1 vo q.length (q.map (·.2))
 hr:∀p,p∈q→w.ownsRow (FB+1) 3 1 p.2 p.1.length (p.1.map (Value.int .i64))
theorem FindI.below{FB:Nat}{vt vb vf:Value}{r:Sc.Rule}{s:Ru.Out}{q:List (List Int×Value)}{vo:Value}{w w':World}(h:FindI FB vt vb vf r s q vo w)(hb:Below w.heap.size w w'):FindI FB vt vb vf r s q vo w':=
 ⟨h.hq,(hb.block _ (aY h.b)).trans h.b,aQ h.o hb,fun p hp=>aQ (h.hr p hp) hb⟩
theorem FindI.lt{FB:Nat}{vt vb vf:Value}{r:Sc.Rule}{s:Ru.Out}{q:List (List Int×Value)}{vo:Value}{w:World}(h:FindI FB vt vb vf r s q vo w):FB<w.heap.size:=aY h.b
theorem Rows2.keep{B n0 NB:Nat}{w w':World}{vn vs:Value}{m:Nat}{y:Ru.Way}(h:Rows2 B w vn vs m y)(hk:Kp n0 NB w w')(hB:NB<B):Rows2 B w' vn vs m y:=
 ⟨dW h.n (fun g hg=>by
  obtain⟨h1,h2⟩:=h.n;rcases h2 with⟨h2,_⟩|⟨g',cap,cur,hv,hb,hh,_⟩
  ·rw[h2]at hg;cases hg
  rw[hv]at hg;(have e:g'=g:=by simpa[Value.ownBlock]using hg);subst e;rw[hh]
  exact hk.keep g' cur 3 hh (by omega) (by decide)),
  dW h.s (fun g hg=>by
   obtain⟨h1,h2⟩:=h.s;rcases h2 with⟨h2,_⟩|⟨g',cap,cur,hv,hb,hh,_⟩
   ·rw[h2]at hg;cases hg
   rw[hv]at hg;(have e:g'=g:=by simpa[Value.ownBlock]using hg);subst e;rw[hh]
   exact hk.keep g' cur 4 hh (by omega) (by decide)),h.ok⟩
theorem Kp.setB{n0 NB o:Nat}{w:World}(h:n0≤NB)(v:Value):Kp n0 NB w (w.setCell ⟨NB,o,none⟩ v):=
 ⟨rfl,rfl,rfl,by simp,fun k hk=>bJ (by omega),fun k c t hk hne _=>(bJ hne).trans hk⟩
theorem FindI.other{FB:Nat}{vt vb vf:Value}{r:Sc.Rule}{s s':Ru.Out}{q:List (List Int×Value)}{vo vo':Value}{w:World}{o:Nat}{v:Value}(h:FindI FB vt vb vf r s q vo w)(hs:q.map (·.1)=s'.1)(hb:FindB (w.setCell ⟨FB,o,none⟩ v) FB vt vb vf vo' r s'.2)(hv:vo'=vo):FindI FB vt vb vf r s' q vo' (w.setCell ⟨FB,o,none⟩ v):=by subst hv;exact⟨hs,hb,dW h.o (fun g hg=>bJ (fun e=>by have :=(h.o.lt g hg).1;omega)),fun p hp=>dW (h.hr p hp) (fun g hg=>bJ (fun e=>by have :=((h.hr p hp).lt g hg).1;omega))⟩
theorem FindI.many{FB:Nat}{vt vb vf:Value}{r:Sc.Rule}{sl:List (List Int)}{q:List (List Int×Value)}{vo:Value}{w:World}(h:FindI FB vt vb vf r (sl,false) q vo w):FindI FB vt vb vf r (sl,true) q vo (w.setCell ⟨FB,7,none⟩ (.bool true)):=
 h.other h.hq (by unfold FindB;rw[cA h.b];rfl) rfl
theorem FindI.push{FB n0 B m:Nat}{vt vb vf vo v9 u:Value}{r:Sc.Rule}{sl:List (List Int)}{q:List (List Int×Value)}{w w9:World}{x:List Int}(h:FindI FB vt vb vf r (sl,false) q vo w)(hn0:n0≤FB)(hB:FB+1≤B)(hxm:x.length=m)(hu:w.ownsRow B 3 1 u m (x.map (Value.int .i64)))(ho:w9.ownsRow (FB+1) 22 1 v9 (q.length+1) (q.map (·.2)++[u]))(hg:w.grownBy w9 vo.ownBlock):
 FindI FB vt vb vf r (sl++[x],false) (q++[(x,u)]) v9 (w9.setCell ⟨FB,6,none⟩ v9)∧Kp n0 FB w (w9.setCell ⟨FB,6,none⟩ v9):=by
 have hown:∀kQ,vo.ownBlock=some kQ→FB+1≤kQ:=fun kQ hk=>(h.o.lt kQ hk).1;have hot:∀(k:Nat)(c:Array Value)(t:TypeId),w.heap[k]?=some (.cells c t)→t≠22→w9.heap[k]?=some (.cells c t):=fun k c t hk ht=>(hg.block k (aY hk) (fun e=>ht (jG h.o e.symm hk))).trans hk;have hF9:=hot _ _ _ h.b (by decide);have hoth:∀(k:Nat)(c:Array Value)(t:TypeId),w.heap[k]?=some (.cells c t)→k≠FB→t≠22→(w9.setCell ⟨FB,6,none⟩ v9).heap[k]?=some (.cells c t):=fun k c t hk hne ht=>(bJ hne).trans (hot k c t hk ht);have h3:∀(B' n:Nat)(xs:List Value)(z:Value),w.ownsRow B' 3 1 z n xs→(w9.setCell ⟨FB,6,none⟩ v9).ownsRow B' 3 1 z n xs:=fun B' n xs z hz=>fF hz (fun k c hk=>hoth k c 3 hk (fun e=>by rw[e,h.b]at hk;injection hk with hk;injection hk with _ hk;cases hk) (by decide));refine⟨⟨by rw[bF];show _++[x]=_;rw[h.hq],by unfold FindB;rw[cA hF9];rfl,?_,fun p hp=>?_⟩,hg.os,hg.tape,hg.output,by simpa using hg.size,fun k hk=>(bJ (by omega)).trans (hg.block k (by have :=h.lt;omega) (fun e=>by have :=hown k e.symm;omega)),hoth⟩
 ·rw[aJ,bF];exact dW ho (fun g hgq=>bJ (fun e=>by have :=(ho.lt g hgq).1;omega))
 rcases bP.mp hp with hp|hp
 ·exact h3 _ _ _ _ (h.hr p hp)
 rcases bG.mp hp with rfl;show World.ownsRow _ (FB+1) 3 1 u x.length _;rw[hxm];exact dM (h3 _ _ _ _ hu) hB
theorem vM:(Tryz.prog.info? 4).map (fun i=>(i.zero,i.size,i.bytes))=some (some (.bool false),1,1):=by kernel_rfl
theorem nR{w:World}{ops:Array Oper}{rest:List Oper}{o:Oper}{a:Act}{Q:Exit→Act→World→Prop}(hgd:o.guard=none)(s x:Operand)(t e:TypeId)(i0:TypeInfo)(z:Value)(bytes:Nat)
 (ho:o.op=.call {callee:=.builtin .append,args:=#[s,x],argTypes:=#[t,t]}) (ht:Tryz.prog.underlying t=some (.slice e)) (hi:Tryz.prog.info? e=some i0) (hz0:i0.zero=some z) (hz1:i0.size=1) (hz2:i0.bytes=bytes) (hzc:z.cells.size=1) (hby:bytes≤8)
 (base B m:Nat) (v u:Value) (xs:List Value) (hs:a.eval s=v) (hx:a.eval x=u) (hown:w.ownsRow base e 1 v 0 []) (hsrc:w.ownsRow B e 1 u m xs) (h1:∀c,c∈xs→c.oneCell'=true) (hm:m≤1000) (hbase:base≤w.heap.size)
 (h:∀v' w',w'.ownsRow base e 1 v' m xs→w.grownBy w' v.ownBlock→wpList Tryz.prog ops Q rest (a.put o.dst v') w'):wpList Tryz.prog ops Q (o::rest) a w:=by
 rcases id hsrc.2 with⟨hu,h0⟩|⟨g,cap,cur,hu,_⟩
 ·have hxs:xs=[]:=cI (by rw[hsrc.1,h0]);refine wpList_append_own_none hgd s x t ho base e i0 1 ht hi v 0 [] hs hown (by rw[hx,hu]) ?_;refine h v w (by rw[h0,hxs];exact hown) ⟨rfl,rfl,rfl,aE _,fun _ _ _=>rfl⟩
 subst hu;refine wpList_append_own w hgd s x t ho base e i0 z 1 bytes ht hi hz0 hz1 hz2 hzc (by decide) v 0 [] hs hown ⟨g,0,none⟩ m cap xs hx (by rw[hsrc.1]) (fun j c hj=>?_) h1 (by unfold maxLen;omega) ?_ hbase ?_
 ·have hlt:j<m:=by
   have :=hsrc.1;rcases dD j xs.length with h9|h9
   ·omega
   rw[bO h9]at hj;cases hj
  rw[Addr.add_lit,cM,World.ownsRow.cellAt hsrc j (by omega)];exact hj
 ·rw[cM];exact aU (Nat.mul_le_mul hm hby) (by decide)
 intro v' w' ho9 hg9 _;rw[cM,eV]at ho9;exact h v' w' ho9 hg9

def harm(ops:Array Oper)(wr:Nat→Bool)(surv:Nat→Nat→Bool)(i j:Nat):Bool:=(wr i&&decide (i<ops.size))&& !decide (i=j)&& !reach ops 12 j i&& !(((ops[j]?).map fun o=>(o.dst.map (surv i)).getD true).getD true)
def okEdge(ops:Array Oper)(wr:Nat→Bool)(surv:Nat→Nat→Bool)(m j:Nat):Bool:=(List.range ops.size).all fun i=> !harm ops wr surv i j||(i==m||reach ops 12 i m)
def waitsForH(ops:Array Oper)(wr:Nat→Bool)(surv:Nat→Nat→Bool)(m:Nat)(o:Oper)(t:Nat):Bool:=o.after.toList.any fun e=>Region.binds .any e&&okEdge ops wr surv m e.on&&((ops[e.on]?).map fun o'=>o'.dst==some t).getD false
def unharmed(ops:Array Oper)(wr:Nat→Bool)(surv:Nat→Nat→Bool)(i:Nat):Bool:=(List.range ops.size).all fun k=> !harm ops wr surv k i
def preFine(ops:Array Oper)(wr:Nat→Bool)(m:Nat):Bool:=(List.range ops.size).all fun i=> !wr i||(i==m||reach ops 12 i m)
structure OpInW (R:World→World→Prop) (E:Nat→World→Prop) (ops:Array Oper) (wr:Nat→Bool) (surv:Nat→Nat→Bool) (T:Nat→Value→World→Prop) (a0:Act) (w0:World) (m:Nat) (o:Oper) (a:Act) (w:World):Prop where
 below:R w0 w
 still:∀t,t∉ops.toList.filterMap (·.dst)→a.tmps.getD t undef=a0.tmps.getD t undef
 has:∀e,e∈o.after→Region.binds .any e=true→okEdge ops wr surv m e.on=true→∀(o':Oper)(t:Nat),ops[e.on]?=some o'→o'.dst=some t→T t (a.tmps.getD t undef) w
 wrote:∀e,e∈o.after→Region.binds .any e=true→wr e.on=true→E e.on w
 pre:preFine ops wr m=true→Below w0.heap.size w0 w
theorem OpInW.of{R:World→World→Prop}{E:Nat→World→Prop}{ops:Array Oper}{wr:Nat→Bool}{surv:Nat→Nat→Bool}{T:Nat→Value→World→Prop}{a0:Act}{w0:World}{m:Nat}{o:Oper}{a:Act}{w:World}(h:OpInW R E ops wr surv T a0 w0 m o a w)(t:Nat)(hw:waitsForH ops wr surv m o t=true:=by kernel_rfl):T t (a.tmps.getD t undef) w:=by
 unfold waitsForH at hw;obtain⟨e,he,hb⟩:=gR.mp hw;rw[aV,aV]at hb
 cases ho:ops[e.on]? with
 |none=>rw[ho]at hb;simp at hb
 |some o'=>
  rw[ho,cZ,dA]at hb;exact h.has e (by simpa using he) hb.1.1 hb.1.2 o' t ho (by simpa using hb.2)
theorem OpInW.old{R:World→World→Prop}{E:Nat→World→Prop}{ops:Array Oper}{wr:Nat→Bool}{surv:Nat→Nat→Bool}{T:Nat→Value→World→Prop}{a0:Act}{w0:World}{m:Nat}{o:Oper}{a:Act}{w:World}(h:OpInW R E ops wr surv T a0 w0 m o a w)(t:Nat)(hs:stays ops t=true:=by kernel_rfl):a.tmps.getD t undef=a0.tmps.getD t undef:=by refine h.still t fun hm=>?_;unfold stays at hs;simp[hm]at hs
structure TabbedW (R:World→World→Prop) (E:Nat→World→Prop) (ops:Array Oper) (wr:Nat→Bool) (surv:Nat→Nat→Bool) (T:Nat→Value→World→Prop) (a0:Act) (w0:World) (s:Array Bool) (a:Act) (w:World):Prop where
 below:R w0 w
 defers:a.defers=a0.defers
 size:a.tmps.size=a0.tmps.size
 still:∀t,t∉ops.toList.filterMap (·.dst)→a.tmps.getD t undef=a0.tmps.getD t undef
 done:∀(i:Nat)(o:Oper)(t:Nat),s[i]?=some true→ops[i]?=some o→o.dst=some t→(∀k,harm ops wr surv k i=true→s[k]?=some false)→T t (a.tmps.getD t undef) w
 wrote:∀i,s[i]?=some true→wr i=true→E i w
 pre:(∀i,wr i=true→¬s[i]?=some true)→Below w0.heap.size w0 w
structure OpInX (R:World→World→Prop) (E:Nat→World→Prop) (ops:Array Oper) (wr:Nat→Bool) (surv:Nat→Nat→Bool) (T:Nat→Value→World→Prop) (a0:Act) (w0:World) (L:Nat) (a:Act) (w:World):Prop where
 below:R w0 w
 defers:a.defers=a0.defers
 size:a.tmps.size=a0.tmps.size
 still:∀t,t∉ops.toList.filterMap (·.dst)→a.tmps.getD t undef=a0.tmps.getD t undef
 all:∀(i:Nat)(o:Oper)(t:Nat),i<L→ops[i]?=some o→o.dst=some t→(∀k,harm ops wr surv k i=false)→T t (a.tmps.getD t undef) w
 wrote:∀i,i<L→wr i=true→E i w
theorem OpInX.of{R:World→World→Prop}{E:Nat→World→Prop}{ops:Array Oper}{wr:Nat→Bool}{surv:Nat→Nat→Bool}{T:Nat→Value→World→Prop}{a0:Act}{w0:World}{L:Nat}{a:Act}{w:World}(h:OpInX R E ops wr surv T a0 w0 L a w)(i:Nat)(o:Oper)(t:Nat)(hi:i<L)(ho:ops[i]?=some o)(hd:o.dst=some t)(hu:unharmed ops wr surv i=true):T t (a.tmps.getD t undef) w:=by
 refine h.all i o t hi ho hd fun k=>?_
 cases hk:decide (k<ops.size)with
 |true=>
  have :=bH.mp hu k (cX.mpr (of_decide_eq_true hk));simpa using this
 |false=>unfold harm;rw[hk];simp
section
variable {P:Program} {ops:Array Oper} {Q:Exit→Act→World→Prop}
theorem lX(R:World→World→Prop)(hRt:∀a b c,R a b→R b c→R a c)(hRb:∀w w',Below w.heap.size w w'→R w w')(T:Nat→Value→World→Prop)(E:Nat→World→Prop)(L:Nat)(wr:Nat→Bool)(surv:Nat→Nat→Bool){id:Nat}{a0:Act}{w0:World}(hL:L<ops.size)(htf:tailFine ops L=true)(hm:P.follows .mixedOrders=true)
 (hf:tabFineR ops a0.tmps.size=true)
 (hmono:∀t v w w',Below w.heap.size w w'→T t v w→T t v w')
 (hmonoE:∀i w w',Below w.heap.size w w'→E i w→E i w')
 (hmonoW:∀i t v w w',wr i=true→surv i t=true→R w w'→T t v w→T t v w')
 (hop:AllOpsI (fun i o=>∀a w,OpInW R E ops wr surv T a0 w0 i o a w→(∀t,t∉(ops.toList.take L).filterMap (·.dst)→a.tmps.getD t undef=a0.tmps.getD t undef)→if wr i=true then(Region.wanted o (yielded ops a.tmps)=true∧o.wp P a w (fun a' w'=>∃v,a'=a.put o.dst v∧(∀t,o.dst=some t→T t v w')∧R w w'∧(∀j,E j w→E j w')∧E i w') Q)else OpOk P ops Q T o a w) 0 (ops.toList.take L))
 (htail:∀a w,OpInX R E ops wr surv T a0 w0 L a w→(∀t,t∉(ops.toList.take L).filterMap (·.dst)→a.tmps.getD t undef=a0.tmps.getD t undef)→wpOps P ops Q (List.range' L (ops.size-L)) a w):
 (Code.region id ops true).wp P Q a0 w0:=by
 (have hkf':∀(m j:Nat),okEdge ops wr surv m j=true→∀i,harm ops wr surv i j=true→i=m∨reach ops 12 i m=true:=fun m j hw i hh=>by(have hi:i<ops.size:=Classical.byContradiction fun hc=>by unfold harm at hh;rw[aV,aV,aV]at hh;have h9:=hh.1.1.1;rw[aV]at h9;exact hc (of_decide_eq_true h9.2));have h3:=bH.mp hw i (cX.mpr hi);rw[hh,Bool.not_true,Bool.false_or,dY,beq_iff_eq]at h3;exact h3);unfold tailFine at htf;rw[aV]at htf;have ht1:∀j,j<L→reach ops 12 L j=true:=fun j hj=>bH.mp htf.1 j (cX.mpr hj);(have ht2:∀i,i<ops.size→L<i→reach ops 12 i (i-1)=true:=fun i hi hLi=>by have h:=bH.mp htf.2 i (cX.mpr hi);rw[decide_eq_true hLi]at h;simpa using h);unfold tabFineR at hf;rw[aV,aV]at hf;obtain⟨⟨hnd,hlt⟩,hah⟩:=hf;have hnd:=of_decide_eq_true hnd;have hlt':∀t,t∈ops.toList.filterMap (·.dst)→t<a0.tmps.size:=fun t ht=>of_decide_eq_true (bH.mp hlt t ht);have hah':∀(i:Nat)(o:Oper),ops[i]?=some o→∀e,e∈o.after→Region.binds .any e=true→e.on<i:=fun i o ho e he hbe=>by have hi:i<ops.size:=(aI.mp ho).1;have h:=bH.mp hah i (cX.mpr hi);rw[ho,cZ,dA]at h;have h9:=bH.mp h e (by simpa using he);rw[hbe]at h9;exact of_decide_eq_true (by simpa using h9)
 refine gM (fun s a w=>(s.size=ops.size∧Closed ops s)∧(((∀i,L≤i→i<ops.size→s[i]?=some false)∧(∀t,t∉(ops.toList.take L).filterMap (·.dst)→a.tmps.getD t undef=a0.tmps.getD t undef)∧TabbedW R E ops wr surv T a0 w0 s a w)∨
  (∃m,L≤m∧m≤ops.size∧(∀i,i<m→s[i]?=some true)∧(∀i,m≤i→i<ops.size→s[i]?=some false)∧wpOps P ops Q (List.range' m (ops.size-m)) a w))) hm ?_ ?_ ?_
 ·rintro s a w hr ⟨⟨hs,hC⟩,hI⟩;have hall:∀n:Nat,n≤ops.size→∀i:Nat,i<n→s[i]?=some true:=by
   intro n
   induction n with
   |zero=>intro _ i hi;exact absurd hi (fD _)
   |succ n ih=>
    intro hn i hi;have ih:=ih (by omega);by_cases hin:i<n
    ·exact ih i hin
    (have hin:i=n:=by omega);subst hin
    cases hsi:s[i]? with
    |none=>rw[dT]at hsi;omega
    |some b=>
     cases b with
     |true=>rfl
     |false=>
      exfalso;(have hio:i<ops.size:=by omega);have :i∈Region.ready .any ops s:=by
       unfold Region.ready;refine dX.mpr ⟨cX.mpr hio,?_⟩;rw[aV];refine⟨by simp[Array.getD_eq_getD_getElem?,hsi],?_⟩;have ho:ops[i]?=some ops[i]:=bS hio;rw[ho,cZ,dA,eG];intro e he
       cases hbe:Region.binds .any e with
       |false=>rfl
       |true=>
        have h1:=ih e.on (hah' i _ ho e he hbe);simp[Array.getD_eq_getD_getElem?,h1]
      rw[hr]at this;exact absurd this (by simp)
  have hd:=hall ops.size (aE _);rcases hI with⟨hF,_,_⟩|⟨m,_,hm1,_,hF,hW⟩
  ·have h1:=hF L (aE _) hL;rw[hd L hL]at h1;cases h1
  by_cases hme:m=ops.size
  ·subst hme;rw[iP]at hW;exact hW
  have h1:=hF m (aE _) (by omega);rw[hd m (by omega)]at h1;cases h1
 ·rintro s a w i hi ⟨⟨hs,hC⟩,hI⟩;obtain⟨hsi,o,ho,haf⟩:=iU hi;have his:i<ops.size:=(aI.mp ho).1;have hup:∀j,s[j]?=some true→(s.setIfInBounds i true)[j]?=some true:=fun j hj=>by
   rw[aP];by_cases hij:i=j
   ·rw[if_pos hij,if_pos (by omega)]
   rw[if_neg hij];exact hj
  have hss:(s.setIfInBounds i true).size=ops.size∧Closed ops (s.setIfInBounds i true):=by
   refine⟨by simp[hs],fun i' o' hi' ho' e he hb=>?_⟩;by_cases hii:i=i'
   ·subst hii;rw[ho]at ho';cases ho';exact hup _ (haf e he hb)
   rw[aP,if_neg hii]at hi';exact hup _ (hC i' o' hi' ho' e he hb)
  have go:∀m,L≤m→m<ops.size→i=m→(∀j,j<m→s[j]?=some true)→(∀j,m≤j→j<ops.size→s[j]?=some false)→wpOps P ops Q (List.range' m (ops.size-m)) a w→
   wpOp P ops Q i (fun a' w'=>((s.setIfInBounds i true).size=ops.size∧Closed ops (s.setIfInBounds i true))∧(((∀j,L≤j→j<ops.size→(s.setIfInBounds i true)[j]?=some false)∧(∀t,t∉(ops.toList.take L).filterMap (·.dst)→a'.tmps.getD t undef=a0.tmps.getD t undef)∧TabbedW R E ops wr surv T a0 w0 (s.setIfInBounds i true) a' w')∨
    (∃m,L≤m∧m≤ops.size∧(∀j,j<m→(s.setIfInBounds i true)[j]?=some true)∧(∀j,m≤j→j<ops.size→(s.setIfInBounds i true)[j]?=some false)∧wpOps P ops Q (List.range' m (ops.size-m)) a' w'))) a w:=by
   intro m hLm hms him hT hF hW;subst him;obtain⟨d,hd⟩:∃d,ops.size-i=d+1:=⟨ops.size-i-1,by omega⟩;rw[hd,List.range'_succ,wpOps_cons]at hW;refine wpOp_mono (fun a' w' h'=>⟨hss, .inr ⟨i+1,by omega,by omega,fun j hj=>?_,fun j hj hjs=>?_,?_⟩⟩) hW
   ·by_cases hji:j=i
    ·subst hji;rw[aP,if_pos rfl,if_pos (by omega)]
    exact hup j (hT j (by omega))
   ·rw[aP,if_neg (by omega)];exact hF j (by omega) hjs
   rw[show ops.size-(i+1)=d by omega];exact h'
  rcases hI with⟨hF,hO,hI⟩|⟨m,hLm,hm1,hT,hF,hW⟩
  ·by_cases hiL:L≤i
   ·have hiL2:i=L:=by
     rcases dD L i with h|h
     ·have h1:=eE hC 12 i (i-1) o ho haf (ht2 i his h);rw[hF (i-1) (by omega) (by omega)]at h1;cases h1
     omega
    subst hiL2;have hdn:∀j,j<i→s[j]?=some true:=fun j hj=>eE hC 12 i j o ho haf (ht1 j hj);exact go i (aE _) his rfl hdn (fun j hj hjs=>hF j hj hjs) (htail a w ⟨hI.below,hI.defers,hI.size,hI.still,fun j oj t hj hoj hd hal=>hI.done j oj t (hdn j hj) hoj hd (fun k hk=>absurd hk (by rw[hal k];exact Bool.false_ne_true)),fun j hj hwj=>hI.wrote j (hdn j hj) hwj⟩ hO)
   (have hmo:o∈ops.toList.take L:=by rw[←bD]at ho;refine dF (i:=i) ?_;rw[dH,if_pos (by omega)];exact ho);have hopI:=AllOpsI.get _ 0 hop i o (by
    rw[dH,if_pos (by omega),bD];exact ho) a w (by rw[cM];exact⟨hI.below,hI.still,fun e he hb hok o' t ho' hd=>hI.done e.on o' t (haf e he hb) ho' hd (fun k hk=>by
     have hks:k<s.size:=by rw[hs];unfold harm at hk;rw[aV,aV,aV]at hk;have h9:=hk.1.1.1;rw[aV]at h9;exact of_decide_eq_true h9.2
     cases hsk:s[k]? with
     |none=>rw[dT]at hsk;omega
     |some bk=>
      cases bk with
      |false=>rfl
      |true=>
       exfalso;rcases hkf' i e.on hok k hk with h|h
       ·rw[h,hsi]at hsk;cases hsk
       have hko:∃ok,ops[k]?=some ok:=⟨ops[k]'(by omega),bS (by omega)⟩;obtain⟨ok,hok⟩:=hko;have h1:=eE hC 12 k i ok hok (fun e' he' hb'=>hC k ok hsk hok e' he' hb') h;rw[hsi]at h1
       cases h1),fun e he hb hwe=>hI.wrote e.on (haf e he hb) hwe,fun hpf=>hI.pre (fun k hwk hsk=>by
     have hks:k<ops.size:=by
      rcases dD k ops.size with h|h
      ·exact h
      rw[gL (by omega)]at hsk;cases hsk
     have h1:=bH.mp hpf k (cX.mpr hks);rw[hwk,Bool.not_true,Bool.false_or,dY,beq_iff_eq]at h1;rcases h1 with h|h
     ·rw[h,hsi]at hsk;cases hsk
     obtain⟨ok,hok⟩:∃ok,ops[k]?=some ok:=⟨ops[k]'hks,bS hks⟩;have h2:=eE hC 12 k i ok hok (fun e' he' hb'=>hC k ok hsk hok e' he' hb') h;rw[hsi]at h2
     cases h2)⟩) hO
   rw[cM]at hopI;have hOset:∀(v:Value) t,t∉(ops.toList.take L).filterMap (·.dst)→(a.put o.dst v).tmps.getD t undef=a0.tmps.getD t undef:=fun v t ht=>by
    cases hd:o.dst with
    |none=>exact hO t ht
    |some u=>
     have hne:t≠u:=fun h=>ht (h▸dG.mpr ⟨o,hmo,hd⟩);rw[cB hne];exact hO t ht
   have hset:∀{v:Value}{w':World},(∀t,o.dst=some t→T t v w')→R w w'→(∀j,E j w→E j w')→(wr i=true→E i w')→(¬wr i=true→Below w.heap.size w w')→(∀(j:Nat)(oj:Oper)(t:Nat),s[j]?=some true→ops[j]?=some oj→oj.dst=some t→harm ops wr surv i j=false→∀u,T t u w→T t u w')→TabbedW R E ops wr surv T a0 w0 (s.setIfInBounds i true) (a.put o.dst v) w':=by
    intro v w' hv hb hE1 hE2 hBw hmono;refine⟨hRt _ _ _ hI.below hb,by rw[jL];exact hI.defers,by rw[fI];exact hI.size,fun t ht=>?_,fun j oj t hj hoj hd hk=>?_,fun j hj hwj=>?_,fun hns=>?_⟩
    ·cases hd:o.dst with
     |none=>exact hI.still t ht
     |some u=>
      have hne:t≠u:=fun h=>ht (h▸iL ho hd);rw[cB hne];exact hI.still t ht
    ·by_cases hij:j=i
     ·subst hij;rw[ho]at hoj;cases hoj;rw[hd,cW (by rw[hI.size];exact hlt' t (iL ho hd))];exact hv t hd
     (have hj':s[j]?=some true:=by rw[aP,if_neg (fun h=>hij h.symm)]at hj;exact hj);have hni:harm ops wr surv i j=false:=by
      cases hh:harm ops wr surv i j with
      |false=>rfl
      |true=>
       have h9:=hk i hh;rw[aP,if_pos rfl,if_pos (by omega)]at h9;cases h9
     have h1:=hmono j oj t hj' hoj hd hni _ (hI.done j oj t hj' hoj hd (fun k hh=>by
      have h9:=hk k hh;rw[aP,if_neg (fun e=>by subst e;rw[hni]at hh;cases hh)]at h9
      exact h9))
     cases hd2:o.dst with
     |none=>exact h1
     |some u=>
      have hne:t≠u:=fun h=>hij (lS ops.toList hnd j i oj o t (by rw[bD];exact hoj) (by rw[bD];exact ho) hd (h▸hd2));rw[cB hne];exact h1
    ·by_cases hij:j=i
     ·subst hij;exact hE2 hwj
     rw[aP,if_neg (fun h=>hij h.symm)]at hj;exact hE1 j (hI.wrote j hj hwj)
    have hiw:¬wr i=true:=fun h=>hns i h (by rw[aP,if_pos rfl,if_pos (by omega)]);have h1:=hI.pre (fun j hwj hsj=>hns j hwj (hup j hsj));exact h1.trans ((hBw hiw).mono h1.size)
   (have hF':∀j,L≤j→j<ops.size→(s.setIfInBounds i true)[j]?=some false:=fun j hj hjs=>by rw[aP,if_neg (by omega)];exact hF j hj hjs);by_cases hiW:wr i=true
   ·rw[if_pos hiW]at hopI;obtain⟨hw,hwp⟩:=hopI;unfold wpOp;rw[ho];dsimp only;rw[if_pos hw];refine .inl (Oper.wp_mono ?_ hwp);rintro a' w' ⟨v,rfl,hv,hb,hE1,hE2⟩;refine⟨hss, .inl ⟨hF',hOset v,hset hv hb hE1 (fun _=>hE2) (fun h=>absurd hiW h) (fun j oj t hj hoj hd hni u hu=>?_)⟩⟩;have hsv:surv i t=true:=by
     unfold harm at hni;rw[hiW,decide_eq_true his,hoj,cZ,dA,hd,cZ,dA]at hni;have hne:decide (i=j)=false:=decide_eq_false (fun e=>by subst e;rw[hsi]at hj;cases hj);have hr:reach ops 12 j i=false:=by
      cases hr:reach ops 12 j i with
      |false=>rfl
      |true=>
       have h1:=eE hC 12 j i oj hoj (fun e he hb=>hC j oj hj hoj e he hb) hr;rw[hsi]at h1;cases h1
     rw[hne,hr]at hni;simpa using hni
    exact hmonoW i t u w w' hiW hsv hb hu
   rw[if_neg hiW]at hopI;unfold OpOk at hopI;unfold wpOp;rw[ho];dsimp only;by_cases hw:Region.wanted o (yielded ops a.tmps)=true
   ·rw[if_pos hw]at hopI ⊢;refine hopI.imp (Oper.wp_mono ?_) (fun h=>h);rintro a' w' ⟨v,rfl,hv,hb⟩;exact⟨hss, .inl ⟨hF',hOset v,hset hv (hRb _ _ hb) (fun j hj=>hmonoE j w w' hb hj) (fun h=>absurd h hiW) (fun _=>hb) (fun _ _ t _ _ _ _ u hu=>hmono t u w w' hb hu)⟩⟩
   rw[if_neg hw]at hopI ⊢;exact⟨hss, .inl ⟨hF',hOset _,hset hopI (hRb _ _ (aG _ _)) (fun _ hj=>hj) (fun h=>absurd h hiW) (fun _=>aG _ _) (fun _ _ t _ _ _ _ u hu=>hu)⟩⟩
  have him:m≤i:=by
   rcases dD i m with h|h
   ·have h1:=hT i h;rw[hsi]at h1;cases h1
   exact h
  have him2:i=m:=by
   rcases dD m i with h|h
   ·have h1:=eE hC 12 i (i-1) o ho haf (ht2 i his (by omega));rw[hF (i-1) (by omega) (by omega)]at h1;cases h1
   omega
  exact go m hLm (by omega) him2 hT hF hW
 refine⟨⟨by simp,fun i o h=>?_⟩, .inl ⟨fun i _ hi=>?_,fun _ _=>rfl,⟨hRb _ _ ⟨rfl,rfl,rfl,aE _,fun _ _=>rfl⟩,rfl,rfl,fun _ _=>rfl,fun i o t h _ _ _=>?_,fun i h _=>?_,fun _=>⟨rfl,rfl,rfl,aE _,fun _ _=>rfl⟩⟩⟩⟩
 ·rw[cC]at h;split at h<;>simp at h
 ·rw[cC,if_pos hi]
 ·rw[cC]at h;split at h<;>simp at h
 rw[cC]at h;split at h<;>simp at h
end
end Go.Proofs.YthenjegmigeieaaGreat
