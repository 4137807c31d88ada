/- Own texts, one behind the other (part 10). -/
import Derived.Test.YthenjegmigeieaaGreatBundleI
import Derived.Test.YthenjegmigeieaaGreatRows
import Derived.Laws.AppendOwnNone
set_option maxRecDepth 100000
set_option maxHeartbeats 8000000
namespace Go.Proofs.YthenjegmigeieaaGreat
open Go.RowKit
namespace Md
def oneF:List Rl.Fc:=[⟨0,[1,2]⟩,⟨1,[1,2]⟩]
theorem one_set:Rl.set ([⟨0,[1,2]⟩]:List Rl.Fc)=[⟨0,[1,2]⟩]:=kR
theorem one_eq:Rl.union ([⟨0,[1,2]⟩]:List Rl.Fc) (Ru.hd [⟨0,[1,2]⟩] r0)=oneF:=kR
theorem one_h0:Ru.hd oneF r0=[⟨1,[1,2]⟩]:=kR
theorem one_h1:Ru.hd oneF r1=[]:=kR
theorem one_w0:(Ru.ways oneF r0).length=1:=kR
theorem one_w1:(Ru.ways oneF r1).length=0:=kR
theorem one_model:IsModel smallQ [⟨0,[1,2]⟩] (some oneF):=by
 have ha:smallQ.arity.length=2:=rfl;unfold IsModel;rw[ha,one_set];refine⟨some oneF,⟨some [⟨0,[1,2]⟩],rfl,?_⟩,?_⟩
 ·refine⟨?_,fun r hr _ f hf=>?_,dE,fun r hr _=>?_⟩
  ·have h1:=Reach.step Reach.refl (grows_union (p:=smallQ) (T:=[⟨0,[1,2]⟩]) r0_in lv_r0);rw[one_eq]at h1;exact h1
  ·rcases small_rules hr with rfl|rfl
   ·rw[one_h0]at hf;rw[bI.mp hf];exact aP _ bA
   rw[one_h1]at hf;cases hf
  rcases small_rules hr with rfl|rfl
  ·rw[one_w0];decide
  rw[one_w1];decide
 refine⟨Reach.refl,fun r hr hk=>?_,dE,fun r hr hk=>?_⟩
 ·rcases small_rules hr with rfl|rfl
  ·rw[lv_r0]at hk;cases hk
  rw[lv_r1]at hk;cases hk
 rcases small_rules hr with rfl|rfl
 ·rw[lv_r0]at hk;cases hk
 rw[lv_r1]at hk;cases hk
theorem one_res:MRes smallQ [⟨0,[1,2]⟩] [] 0 oneF:=.inr ⟨by kernel_rfl,some oneF,one_model,rfl,rfl⟩
end Md
namespace Ch
theorem ares_one{p:Sc.Prog}{l m puts takes:List Rl.Fc}{e e':Int}{G N C D G' N' C' D':List Rl.Fc}(h:ARes p l m puts takes e G N C D)(h':ARes p l m puts takes e' G' N' C' D'):e=e'∧G=G'∧N=N'∧C=C'∧D=D':=by
 obtain⟨x,h1,h2⟩:=h;obtain⟨x',h1',h2'⟩:=h';obtain rfl:=chk_one h1 h1';rcases h2 with⟨a,rfl,rfl,rfl,rfl,rfl⟩|⟨a,c,N1,h3,h4⟩
 ·rcases h2' with⟨_,rfl,rfl,rfl,rfl,rfl⟩|⟨b,_⟩
  ·exact⟨rfl,rfl,rfl,rfl,rfl⟩
  exact absurd b a
 rcases h2' with⟨b,_⟩|⟨_,c',N2,h3',h4'⟩
 ·exact absurd a b
 obtain⟨rfl,rfl⟩:=Md.mres_one h3 h3';rcases h4 with⟨b,rfl,rfl,rfl,rfl,rfl⟩|⟨b,rfl,rfl,rfl,rfl,rfl⟩
 ·rcases h4' with⟨_,rfl,rfl,rfl,rfl,rfl⟩|⟨b',_⟩
  ·exact⟨rfl,rfl,rfl,rfl,rfl⟩
  exact absurd b' b
 rcases h4' with⟨b',_⟩|⟨_,rfl,rfl,rfl,rfl,rfl⟩
 ·exact absurd b b'
 exact⟨rfl,rfl,rfl,rfl,rfl⟩
theorem begun_chk:ChkRes smallQ pairsF fullF [] [⟨0,[2,3]⟩] 0:=
 ⟨0,fullF,Md.small_res rfl, .inr (.inr (.inr ⟨rfl,dE,kR, .inl ⟨Md.full_set,rfl⟩⟩))⟩
theorem begun_given:given pairsF [] [⟨0,[2,3]⟩]=[⟨0,[1,2]⟩]:=kR
theorem begun_came:Rl.minus Md.oneF fullF=[]:=kR
theorem begun_went:Rl.minus fullF Md.oneF=[⟨0,[2,3]⟩,⟨1,[1,3]⟩,⟨1,[2,3]⟩]:=kR
theorem begun_res:ARes smallQ pairsF fullF [] [⟨0,[2,3]⟩] 0 [⟨0,[1,2]⟩] [⟨0,[1,2]⟩,⟨1,[1,2]⟩] [] [⟨0,[2,3]⟩,⟨1,[1,3]⟩,⟨1,[2,3]⟩]:=
 ⟨0,begun_chk, .inr ⟨rfl,0,Md.oneF,by rw[begun_given];exact Md.one_res, .inr ⟨rfl,rfl,begun_given.symm,rfl,begun_came.symm,begun_went.symm⟩⟩⟩
theorem begun_play:Rl.union (Rl.minus fullF [⟨0,[2,3]⟩,⟨1,[1,3]⟩,⟨1,[2,3]⟩]) []=[⟨0,[1,2]⟩,⟨1,[1,2]⟩]:=kR
end Ch
theorem yH:∀f,f∈([⟨0,[1,2]⟩,⟨1,[1,2]⟩]:List Rl.Fc)→FFit f:=by intro f hf;simp only[bD,eN,or_false]at hf;rcases hf with rfl|rfl<;>exact(by decide:(2:Nat)≤9223372036854775807)
theorem uL:∀f,f∈fullF→f.args.length≤3:=by intro f hf;simp only[fullF,bD,eN,or_false]at hf;rcases hf with rfl|rfl|rfl|rfl|rfl<;>exact(by decide:(2:Nat)≤3)
theorem zQ:∀f,f∈([⟨0,[2,3]⟩,⟨1,[1,3]⟩,⟨1,[2,3]⟩]:List Rl.Fc)→f.args.length≤3:=by intro f hf;simp only[bD,eN,or_false]at hf;rcases hf with rfl|rfl|rfl<;>exact(by decide:(2:Nat)≤3)
def chbV(VG VN VC VD:Value)(XB:Nat)(tQ:Nat)(vQ:Value):Prop:=
 match tQ with
 |17=>vQ=(.int .i64 0:Value)
 |18=>vQ=(.bool true:Value)
 |19=>vQ=(.bool true:Value)
 |20=>vQ=(VG:Value)
 |23=>vQ=(.bool true:Value)
 |24=>vQ=(.bool true:Value)
 |25=>vQ=(.bool true:Value)
 |26=>vQ=(VN:Value)
 |32=>vQ=(.bool true:Value)
 |33=>vQ=(.bool true:Value)
 |34=>vQ=(.bool true:Value)
 |35=>vQ=(.pointer (some ⟨XB,0,none⟩):Value)
 |36=>vQ=(VC:Value)
 |37=>vQ=(.int .i64 0:Value)
 |38=>vQ=(.bool true:Value)
 |39=>vQ=(.bool true:Value)
 |40=>vQ=(.bool true:Value)
 |41=>vQ=(.pointer (some ⟨XB,1,none⟩):Value)
 |42=>vQ=(VD:Value)
 |43=>vQ=(.int .i64 3:Value)
 |44=>vQ=(.bool true:Value)
 |45=>vQ=(.bool true:Value)
 |46=>vQ=(.bool true:Value)
 |48=>vQ=(.agg #[VC,VD]:Value)
 |50=>vQ=(VN:Value)
 |51=>vQ=(.bool true:Value)
 |52=>vQ=(.bool true:Value)
 |0=>vQ=(.bool true:Value)
 |_=>True
def chbT(VG VN VC VD:Value)(XB:Nat)(tQ:Nat)(vQ:Value)(WQ:World):Prop:=
 if tQ=21 then∃b off cap,vQ=.slice (some ⟨b,off,none⟩) 2 cap∧2≤cap∧FactsV WQ vQ pairsF
 else if tQ=22 then FactsV WQ vQ (pairsF.take 1)
 else if tQ=27 then∃a c,vQ=.slice a 2 c∧IntsV WQ (.slice a 2 c) [1,2]
 else if tQ=28 then∃a c,vQ=fcVal 0 (.slice a 2 c)∧IntsV WQ (.slice a 2 c) [1,2]
 else if tQ=29 then∃a c,vQ=.slice a 2 c∧IntsV WQ (.slice a 2 c) [1,2]
 else if tQ=30 then∃a c,vQ=fcVal 1 (.slice a 2 c)∧IntsV WQ (.slice a 2 c) [1,2]
 else if tQ=31 then FactsV WQ vQ [⟨0,[1,2]⟩,⟨1,[1,2]⟩]
 else if tQ=47 then FactsV WQ vQ fullF
 else if tQ=49 then FactsV WQ vQ [⟨0,[1,2]⟩,⟨1,[1,2]⟩]
 else chbV VG VN VC VD XB tQ vQ
theorem aBM(VG VN VC VD:Value)(XB:Nat)(tQ:Nat)(vQ:Value)(W W':World)(hb:Below W.heap.size W W')(h:chbT VG VN VC VD XB tQ vQ W):chbT VG VN VC VD XB tQ vQ W':=by
 unfold chbT at h ⊢;by_cases h21:tQ=21
 ·rw[if_pos h21]at h ⊢;obtain⟨b,off,cap,h1,h2,h3⟩:=h;exact⟨b,off,cap,h1,h2,aI h3 hb⟩
 rw[if_neg h21]at h ⊢;by_cases h22:tQ=22
 ·rw[if_pos h22]at h ⊢;exact aI h hb
 rw[if_neg h22]at h ⊢;by_cases h27:tQ=27
 ·rw[if_pos h27]at h ⊢;obtain⟨a,c,h1,h2⟩:=h;exact⟨a,c,h1,aK h2 hb⟩
 rw[if_neg h27]at h ⊢;by_cases h28:tQ=28
 ·rw[if_pos h28]at h ⊢;obtain⟨a,c,h1,h2⟩:=h;exact⟨a,c,h1,aK h2 hb⟩
 rw[if_neg h28]at h ⊢;by_cases h29:tQ=29
 ·rw[if_pos h29]at h ⊢;obtain⟨a,c,h1,h2⟩:=h;exact⟨a,c,h1,aK h2 hb⟩
 rw[if_neg h29]at h ⊢;by_cases h30:tQ=30
 ·rw[if_pos h30]at h ⊢;obtain⟨a,c,h1,h2⟩:=h;exact⟨a,c,h1,aK h2 hb⟩
 rw[if_neg h30]at h ⊢;by_cases h31:tQ=31
 ·rw[if_pos h31]at h ⊢;exact aI h hb
 rw[if_neg h31]at h ⊢;by_cases h47:tQ=47
 ·rw[if_pos h47]at h ⊢;exact aI h hb
 rw[if_neg h47]at h ⊢;by_cases h49:tQ=49
 ·rw[if_pos h49]at h ⊢;exact aI h hb
 rw[if_neg h49]at h ⊢;exact h
theorem kI(w:World):Calls Tryz.prog 49 #[] w fun e w'=>e=.returned (.bool true)∧Below w.heap.size w w':=by
 have HS:Hid (∀w,Calls Tryz.prog 63 #[] w fun e w'=>∃ua un ur,e=.returned (progVal ua un ur)∧ProgV w' ua un ur smallQ∧RulesCap w' ur∧Below w.heap.size w w'):=aBb;have HFU:Hid (∀w,Calls Tryz.prog 64 #[] w fun e w'=>∃v,e=.returned v∧FactsV w' v fullF∧Below w.heap.size w w'):=aCw;have HFC:Hid (∀(p:Int)(a:Option Addr)(n c:Nat)(w:World),Calls Tryz.prog 65 #[.int .i64 p, .slice a n c] w fun e w'=>e=.returned (fcVal p (.slice a n c))∧Below w.heap.size w w'):=qY;have HPA:Hid (∀w,Calls Tryz.prog 75 #[] w fun e w'=>∃b off cap,e=.returned (.slice (some ⟨b,off,none⟩) 2 cap)∧2≤cap∧FactsV w' (.slice (some ⟨b,off,none⟩) 2 cap) pairsF∧Below w.heap.size w w'):=fun w=>Calls.mono (aBm w) (by
  rintro e w' ⟨v,rfl,hF,hb⟩;obtain⟨ao,cap,rfl,hc,hA⟩:=id hF;rcases hA with hA|⟨b,off,rfl,_⟩
  ·cases hA
  exact⟨b,off,cap,rfl,hc.1,hF,hb⟩)
 have HAP:Hid (∀w ua un ur uf uo ut,ProgV w ua un ur smallQ→RulesCap w ur→FactsV w uf pairsF→FactsV w uo fullF→FactsV w ut [⟨0,[2,3]⟩]→Calls Tryz.prog 46 #[progVal ua un ur,uf,uo, .slice none 0 0,ut] w fun e w'=>∃a1 c1 a2 c2 a3 c3 a4 c4,e=.returned (.tuple #[.slice a1 1 c1, .slice a2 2 c2, .agg #[.slice a3 0 c3, .slice a4 3 c4], .int .i64 0])∧FactsV w' (.slice a1 1 c1) (pairsF.take 1)∧FactsV w' (.slice a2 2 c2) [⟨0,[1,2]⟩,⟨1,[1,2]⟩]∧FactsV w' (.slice a3 0 c3) []∧FactsV w' (.slice a4 3 c4) [⟨0,[2,3]⟩,⟨1,[1,3]⟩,⟨1,[2,3]⟩]∧Below w.heap.size w w'):=by intro w ua un ur uf uo ut h1 h2 h3 h4 h5;refine(uX smallQ pairsF fullF [] [⟨0,[2,3]⟩] ua un ur uf uo _ ut w h1 zY h2 h3 dE qM h4 dE (fun f hf=>by have :=uL f hf;omega) ⟨none,0,rfl,⟨aF _,fun _=>rfl⟩, .inl rfl⟩ (aR _) (fun f hf=>absurd hf sI) h5 dE (fun f hf=>by rw[bI.mp hf];exact(by decide:(2:Nat)≤9223372036854775807))).mono ?_;rintro e w' ⟨vg,vw,vc,vd,c,G,N,C,D,rfl,hR,hg,hn,hc,hd,hb⟩;obtain⟨rfl,rfl,rfl,rfl,rfl⟩:=Ch.ares_one hR Ch.begun_res;obtain⟨x1,y1,rfl,_⟩:=id hg;obtain⟨x2,y2,rfl,_⟩:=id hn;obtain⟨x3,y3,rfl,_⟩:=id hc;obtain⟨x4,y4,rfl,_⟩:=id hd;exact⟨x1,y1,x2,y2,x3,y3,x4,y4,rfl,hg,hn,hc,hd,hb⟩
 go_enter Tryz.func49,Tryz.ntmps49
 go_wp2_with fail;refine Calls.mono (HS.out _) ?_;rintro e w1 ⟨ua,un,ur,rfl,hP1,hC1,hb1⟩;have HP1:Hid _:=And.intro hP1 hC1;have HB1:Hid _:=hb1;clear hP1 hC1 hb1;go_wp2_with fail;refine Calls.mono (HPA.out _) ?_;rintro e w2 ⟨pb,po,pc,rfl,hpc,hF2,hb2⟩;have HP2:Hid _:=And.intro (HP1.out.1.below hb2) (HP1.out.2.below HP1.out.1.rl hb2);have HB2:Hid _:=HB1.out.trans (hb2.mono HB1.out.size);have HF2:Hid _:=hF2;clear HP1 HB1 hb2 hF2 hpc;go_wp2_with fail;refine Calls.mono (HFU.out _) ?_;rintro e w3 ⟨uo,rfl,hF3,hb3⟩;have HP3:Hid _:=And.intro (HP2.out.1.below hb3) (HP2.out.2.below HP2.out.1.rl hb3);have HB3:Hid _:=HB2.out.trans (hb3.mono HB2.out.size);have HL3:Hid _:=aI HF2.out hb3;have HO3:Hid _:=hF3;clear HP2 HB2 HF2 hb3 hF3;go_wp2_with fail;have hx1:=cJ w3 (.cells #[.int .i64 2, .int .i64 3] 3);have HI4:Hid _:=gP w3 2 3;have HP4:Hid _:=And.intro (HP3.out.1.below hx1) (HP3.out.2.below HP3.out.1.rl hx1);have HB4:Hid _:=HB3.out.trans (hx1.mono HB3.out.size);have HL4:Hid _:=aI HL3.out hx1;have HO4:Hid _:=aI HO3.out hx1;clear hx1 HP3 HB3 HL3 HO3;generalize w3.alloc (.cells #[.int .i64 2, .int .i64 3] 3)=w4 at *;generalize w3.heap.size=X3 at *;refine Calls.mono (HFC.out _ _ _ _ _) ?_;rintro e w5 ⟨rfl,hb5⟩;have HI5:Hid _:=aK HI4.out hb5;have HP5:Hid _:=And.intro (HP4.out.1.below hb5) (HP4.out.2.below HP4.out.1.rl hb5);have HB5:Hid _:=HB4.out.trans (hb5.mono HB4.out.size);have HL5:Hid _:=aI HL4.out hb5;have HO5:Hid _:=aI HO4.out hb5;clear hb5 HI4 HP4 HB4 HL4 HO4;go_wp2_with fail;have hx1:=cJ w5 (.cells #[.int .i64 0, .slice (some ⟨X3,0,none⟩) 2 2] 55);have HT6:Hid _:=aAJ w5 ⟨0,[2,3]⟩ _ HI5.out;have HP6:Hid _:=And.intro (HP5.out.1.below hx1) (HP5.out.2.below HP5.out.1.rl hx1);have HB6:Hid _:=HB5.out.trans (hx1.mono HB5.out.size);have HL6:Hid _:=aI HL5.out hx1;have HO6:Hid _:=aI HO5.out hx1;clear hx1 HI5 HP5 HB5 HL5 HO5;generalize w5.alloc (.cells #[.int .i64 0, .slice (some ⟨X3,0,none⟩) 2 2] 55)=w6 at *;generalize w5.heap.size=X5 at *;refine Calls.mono (HAP.out _ _ _ _ _ _ _ HP6.out.1 HP6.out.2 HL6.out HO6.out HT6.out) ?_;rintro e w7 ⟨a1,c1,a2,c2,a3,c3,a4,c4,rfl,hg,hn,hcm,hwt,hb7⟩;have HG0:Hid _:=hg;have HN0:Hid _:=hn;have HC0:Hid _:=hcm;have HD0:Hid _:=hwt;have HB70:Hid (Below w.heap.size w w7):=HB6.out.trans (hb7.mono HB6.out.size);clear hg hn hcm hwt hb7 HP6 HB6 HL6 HO6 HT6 HAP HS;go_upto_region 2 with fail;have hx:=cJ w7 (.cells #[.slice a3 0 c3, .slice a4 3 c4] 84);have HXB:Hid _:=heap_alloc_new w7 (.cells #[.slice a3 0 c3, .slice a4 3 c4] 84);have HG:Hid _:=aI HG0.out hx;have HN:Hid _:=aI HN0.out hx;have HC:Hid _:=aI HC0.out hx;have HD:Hid _:=aI HD0.out hx;have HB7:Hid (Below w.heap.size w _):=HB70.out.trans (hx.mono HB70.out.size);clear hx HG0 HN0 HC0 HD0 HB70;generalize w7.alloc (.cells #[.slice a3 0 c3, .slice a4 3 c4] 84)=w8 at *;generalize w7.heap.size=XB at *;(have d0:w8.cell? ⟨XB,0,none⟩=some (.slice a3 0 c3):=by rw[aC HXB.out];rfl);(have d1:w8.cell? ⟨XB,1,none⟩=some (.slice a4 3 c4):=by rw[aC HXB.out];rfl);(have HPL:Hid (∀y,Below w8.heap.size w8 y→∀v,FactsV y v fullF→Calls Tryz.prog 50 #[v, .agg #[.slice a3 0 c3, .slice a4 3 c4]] y fun e w'=>∃v',e=.returned v'∧FactsV w' v' [⟨0,[1,2]⟩,⟨1,[1,2]⟩]∧Below y.heap.size y w'):=fun y hy v hv=>by have h:=aCJ fullF [] [⟨0,[2,3]⟩,⟨1,[1,3]⟩,⟨1,[2,3]⟩] v (.slice a3 0 c3) (.slice a4 3 c4) y hv (aI HC.out hy) (aI HD.out hy) dE dE dE (fun f hf=>by have :=uL f hf;omega) (fun f hf=>absurd hf sI) (fun f hf=>by have :=zQ f hf;omega);rw[Ch.begun_play]at h;exact h);refine eJ (chbT (.slice a1 1 c1) (.slice a2 2 c2) (.slice a3 0 c3) (.slice a4 3 c4) XB) kR kR (aBM _ _ _ _ _) ?hop ?hend
 case hop=>
  refine oC (fun a y h=>by have e4:a.eval (.tmp 4)=(.int .i64 0:Value):=h.old 4;exact opX (.int .i64 0)) ?_;refine oC (fun a y h=>by have e17:a.eval (.tmp 17)=(.int .i64 0:Value):=h.of 17;exact opX (.bool true)) ?_;refine oC (fun a y h=>by have e18:a.eval (.tmp 18)=(.bool true:Value):=h.of 18;exact opX (.bool true)) ?_;refine oC (fun a y h=>by have e1:a.eval (.tmp 1)=(.slice a1 1 c1:Value):=h.old 1;refine cP (v:=.slice a1 1 c1) (w':=y) (wG (h.of 19)) ?_ tR (aH _ _);have ec:=evc a;generalize a.eval=ev at *;clear h;go_simp) ?_;refine oC (fun a y h=>?_) ?_
  ·refine dD (f:=75) (args:=#[]) (wG (h.of 19)) ?_ ?_
   ·have ec:=evc a;have ef:=evf a;generalize a.eval=ev at *;clear h;go_simp
   refine Calls.mono (HPA.out y) ?_;rintro _ y2 ⟨b,off,cap,rfl,hc,hF,hb2⟩;exact⟨_,rfl,fun t ht=>by cases ht;exact⟨b,off,cap,rfl,hc,hF⟩,hb2⟩
  refine oC (fun a y h=>by obtain⟨b,off,cap,e21,hc,hF⟩:∃b off cap,a.eval (.tmp 21)=.slice (some ⟨b,off,none⟩) 2 cap∧2≤cap∧FactsV y (a.eval (.tmp 21)) pairsF:=h.of 21;rw[e21]at hF;have hF2:FactsV y (.slice (some ⟨b,off,none⟩) 1 cap) (pairsF.take 1):=aAH hF 0 1 cap dE oM;refine cP (v:=.slice (some ⟨b,off,none⟩) 1 cap) (w':=y) (wG (h.of 19)) ?_ (fun t ht=>by cases ht;exact hF2) (aH _ _);have g1:decide ((1:Int)≤(cap:Int))=true:=decide_eq_true oM;have g2:(1:Int)≤(cap:Int):=oM;have ec:=evc a;generalize a.eval=ev at *;clear h;go_simp) ?_;refine oC (fun a y h=>?_) ?_
  ·have e20:a.eval (.tmp 20)=(.slice a1 1 c1:Value):=h.of 20;have h22:FactsV y (a.eval (.tmp 22)) (pairsF.take 1):=h.of 22;obtain⟨a8,c8,e22,_⟩:=id h22;rw[e22]at h22;refine dD (f:=21) (args:=#[.slice a1 1 c1, .slice a8 (pairsF.take 1).length c8]) (wG (h.of 19)) ?_ ?_
   ·have ec:=evc a;have ef:=evf a;generalize a.eval=ev at *;clear h;go_simp
   refine Calls.mono (dU (pairsF.take 1) _ _ y (aI HG.out h.below) h22 dE (fun f hf=>qM f (eM hf))) ?_;rintro _ y2 ⟨rfl,hb2⟩;exact⟨_,rfl,fun t ht=>by cases ht;exact rfl,hb2⟩
  refine oC (fun a y h=>by have e19:a.eval (.tmp 19)=(.bool true:Value):=h.of 19;have e23:a.eval (.tmp 23)=(.bool true:Value):=h.of 23;exact opX (.bool true)) ?_;refine oC (fun a y h=>by have e24:a.eval (.tmp 24)=(.bool true:Value):=h.of 24;exact opX (.bool true)) ?_;refine oC (fun a y h=>by have e2:a.eval (.tmp 2)=(.slice a2 2 c2:Value):=h.old 2;refine cP (v:=.slice a2 2 c2) (w':=y) (wG (h.of 25)) ?_ tR (aH _ _);have ec:=evc a;generalize a.eval=ev at *;clear h;go_simp) ?_;refine oC (fun a y h=>by refine cP (v:=.slice (some ⟨y.heap.size,0,none⟩) 2 2) (w':=y.alloc (.cells #[.int .i64 1, .int .i64 2] 3)) (wG (h.of 25)) ?_ (fun t ht=>by cases ht;exact⟨_,_,rfl,gP y 1 2⟩) (cJ y _);have ec:=evc a;generalize a.eval=ev at *;clear h;go_simp) ?_;refine oC (fun a y h=>?_) ?_
  ·obtain⟨a8,c8,e27,hI⟩:∃a8 c8,a.eval (.tmp 27)=.slice a8 2 c8∧IntsV y (.slice a8 2 c8) [1,2]:=h.of 27;refine dD (f:=65) (args:=#[.int .i64 0, .slice a8 2 c8]) (wG (h.of 25)) ?_ ?_
   ·have ec:=evc a;have ef:=evf a;generalize a.eval=ev at *;clear h;go_simp
   refine Calls.mono (HFC.out _ _ _ _ y) ?_;rintro _ y2 ⟨rfl,hb2⟩;exact⟨_,rfl,fun t ht=>by cases ht;exact⟨_,_,rfl,aK hI hb2⟩,hb2⟩
  refine oC (fun a y h=>by refine cP (v:=.slice (some ⟨y.heap.size,0,none⟩) 2 2) (w':=y.alloc (.cells #[.int .i64 1, .int .i64 2] 3)) (wG (h.of 25)) ?_ (fun t ht=>by cases ht;exact⟨_,_,rfl,gP y 1 2⟩) (cJ y _);have ec:=evc a;generalize a.eval=ev at *;clear h;go_simp) ?_;refine oC (fun a y h=>?_) ?_
  ·obtain⟨a8,c8,e29,hI⟩:∃a8 c8,a.eval (.tmp 29)=.slice a8 2 c8∧IntsV y (.slice a8 2 c8) [1,2]:=h.of 29;refine dD (f:=65) (args:=#[.int .i64 1, .slice a8 2 c8]) (wG (h.of 25)) ?_ ?_
   ·have ec:=evc a;have ef:=evf a;generalize a.eval=ev at *;clear h;go_simp
   refine Calls.mono (HFC.out _ _ _ _ y) ?_;rintro _ y2 ⟨rfl,hb2⟩;exact⟨_,rfl,fun t ht=>by cases ht;exact⟨_,_,rfl,aK hI hb2⟩,hb2⟩
  refine oC (fun a y h=>by obtain⟨a8,c8,e28,hI⟩:∃a8 c8,a.eval (.tmp 28)=fcVal 0 (.slice a8 2 c8)∧IntsV y (.slice a8 2 c8) [1,2]:=h.of 28;obtain⟨a9,c9,e30,hJ⟩:∃a9 c9,a.eval (.tmp 30)=fcVal 1 (.slice a9 2 c9)∧IntsV y (.slice a9 2 c9) [1,2]:=h.of 30;refine cP (v:=.slice (some ⟨y.heap.size,0,none⟩) 2 2) (w':=y.alloc (.cells #[.int .i64 0, .slice a8 2 c8, .int .i64 1, .slice a9 2 c9] 55)) (wG (h.of 25)) ?_ (fun t ht=>by cases ht;exact qX y ⟨0,[1,2]⟩ ⟨1,[1,2]⟩ _ _ hI hJ) (cJ y _);have ec:=evc a;generalize a.eval=ev at *;clear h;go_simp) ?_;refine oC (fun a y h=>?_) ?_
  ·have e26:a.eval (.tmp 26)=(.slice a2 2 c2:Value):=h.of 26;have h31:FactsV y (a.eval (.tmp 31)) [⟨0,[1,2]⟩,⟨1,[1,2]⟩]:=h.of 31;obtain⟨a8,c8,e31,_⟩:=id h31;rw[e31]at h31;refine dD (f:=21) (args:=#[.slice a2 2 c2, .slice a8 ([⟨0,[1,2]⟩,⟨1,[1,2]⟩]:List Rl.Fc).length c8]) (wG (h.of 25)) ?_ ?_
   ·have ec:=evc a;have ef:=evf a;generalize a.eval=ev at *;clear h;go_simp
   refine Calls.mono (dU [⟨0,[1,2]⟩,⟨1,[1,2]⟩] _ _ y (aI HN.out h.below) h31 dE yH) ?_;rintro _ y2 ⟨rfl,hb2⟩;exact⟨_,rfl,fun t ht=>by cases ht;exact rfl,hb2⟩
  refine oC (fun a y h=>by have e25:a.eval (.tmp 25)=(.bool true:Value):=h.of 25;have e32:a.eval (.tmp 32)=(.bool true:Value):=h.of 32;exact opX (.bool true)) ?_;refine oC (fun a y h=>by have e33:a.eval (.tmp 33)=(.bool true:Value):=h.of 33;exact opX (.bool true)) ?_;refine oC (fun a y h=>by have e3:a.eval (.tmp 3)=(.pointer (some ⟨XB,0,none⟩):Value):=h.old 3;refine cP (v:=.pointer (some ⟨XB,0,none⟩)) (w':=y) (wG (h.of 34)) ?_ tR (aH _ _);have ec:=evc a;generalize a.eval=ev at *;clear h;go_simp) ?_;refine oC (fun a y h=>by have e35:a.eval (.tmp 35)=(.pointer (some ⟨XB,0,none⟩):Value):=h.of 35;have x0:=aD h.below d0;refine cP (v:=.slice a3 0 c3) (w':=y) (wG (h.of 34)) ?_ tR (aH _ _);have ec:=evc a;generalize a.eval=ev at *;clear h;go_simp) ?_;refine oC (fun a y h=>by have e36:a.eval (.tmp 36)=(.slice a3 0 c3:Value):=h.of 36;refine cP (v:=.int .i64 0) (w':=y) (wG (h.of 34)) ?_ tR (aH _ _);have ec:=evc a;generalize a.eval=ev at *;clear h;go_simp) ?_;refine oC (fun a y h=>by have e37:a.eval (.tmp 37)=(.int .i64 0:Value):=h.of 37;refine cP (v:=.bool true) (w':=y) (wG (h.of 34)) ?_ tR (aH _ _);have ec:=evc a;generalize a.eval=ev at *;clear h;go_simp) ?_;refine oC (fun a y h=>by have e34:a.eval (.tmp 34)=(.bool true:Value):=h.of 34;have e38:a.eval (.tmp 38)=(.bool true:Value):=h.of 38;exact opX (.bool true)) ?_;refine oC (fun a y h=>by have e39:a.eval (.tmp 39)=(.bool true:Value):=h.of 39;exact opX (.bool true)) ?_;refine oC (fun a y h=>by have e3:a.eval (.tmp 3)=(.pointer (some ⟨XB,0,none⟩):Value):=h.old 3;refine cP (v:=.pointer (some ⟨XB,1,none⟩)) (w':=y) (wG (h.of 40)) ?_ tR (aH _ _);have ec:=evc a;generalize a.eval=ev at *;clear h;go_simp) ?_;refine oC (fun a y h=>by have e41:a.eval (.tmp 41)=(.pointer (some ⟨XB,1,none⟩):Value):=h.of 41;have x1:=aD h.below d1;refine cP (v:=.slice a4 3 c4) (w':=y) (wG (h.of 40)) ?_ tR (aH _ _);have ec:=evc a;generalize a.eval=ev at *;clear h;go_simp) ?_;refine oC (fun a y h=>by have e42:a.eval (.tmp 42)=(.slice a4 3 c4:Value):=h.of 42;refine cP (v:=.int .i64 3) (w':=y) (wG (h.of 40)) ?_ tR (aH _ _);have ec:=evc a;generalize a.eval=ev at *;clear h;go_simp) ?_;refine oC (fun a y h=>by have e43:a.eval (.tmp 43)=(.int .i64 3:Value):=h.of 43;refine cP (v:=.bool true) (w':=y) (wG (h.of 40)) ?_ tR (aH _ _);have ec:=evc a;generalize a.eval=ev at *;clear h;go_simp) ?_;refine oC (fun a y h=>by have e40:a.eval (.tmp 40)=(.bool true:Value):=h.of 40;have e44:a.eval (.tmp 44)=(.bool true:Value):=h.of 44;exact opX (.bool true)) ?_;refine oC (fun a y h=>by have e45:a.eval (.tmp 45)=(.bool true:Value):=h.of 45;exact opX (.bool true)) ?_;refine oC (fun a y h=>?_) ?_
  ·refine dD (f:=64) (args:=#[]) (wG (h.of 46)) ?_ ?_
   ·have ec:=evc a;have ef:=evf a;generalize a.eval=ev at *;clear h;go_simp
   refine Calls.mono (HFU.out y) ?_;rintro _ y2 ⟨v,rfl,hF,hb2⟩;exact⟨_,rfl,fun t ht=>by cases ht;exact hF,hb2⟩
  refine oC (fun a y h=>by have e3:a.eval (.tmp 3)=(.pointer (some ⟨XB,0,none⟩):Value):=h.old 3;have x0:=aD h.below d0;have x1:=aD h.below d1;refine cP (v:=.agg #[.slice a3 0 c3, .slice a4 3 c4]) (w':=y) (wG (h.of 46)) ?_ tR (aH _ _);have ec:=evc a;generalize a.eval=ev at *;clear h;go_simp) ?_;refine oC (fun a y h=>?_) ?_
  ·have e48:a.eval (.tmp 48)=(.agg #[.slice a3 0 c3, .slice a4 3 c4]:Value):=h.of 48;have h47:FactsV y (a.eval (.tmp 47)) fullF:=h.of 47;obtain⟨a8,c8,e47,_⟩:=id h47;rw[e47]at h47;refine dD (f:=50) (args:=#[.slice a8 fullF.length c8, .agg #[.slice a3 0 c3, .slice a4 3 c4]]) (wG (h.of 46)) ?_ ?_
   ·have ec:=evc a;have ef:=evf a;generalize a.eval=ev at *;clear h;go_simp
   refine Calls.mono (HPL.out y h.below _ h47) ?_;rintro _ y2 ⟨v2,rfl,hF2,hb2⟩;exact⟨_,rfl,fun t ht=>by cases ht;exact hF2,hb2⟩
  refine oC (fun a y h=>by have e2:a.eval (.tmp 2)=(.slice a2 2 c2:Value):=h.old 2;refine cP (v:=.slice a2 2 c2) (w':=y) (wG (h.of 46)) ?_ tR (aH _ _);have ec:=evc a;generalize a.eval=ev at *;clear h;go_simp) ?_;refine oC (fun a y h=>?_) ?_
  ·have e50:a.eval (.tmp 50)=(.slice a2 2 c2:Value):=h.of 50;have h49:FactsV y (a.eval (.tmp 49)) [⟨0,[1,2]⟩,⟨1,[1,2]⟩]:=h.of 49;obtain⟨a8,c8,e49,_⟩:=id h49;rw[e49]at h49;refine dD (f:=21) (args:=#[.slice a8 ([⟨0,[1,2]⟩,⟨1,[1,2]⟩]:List Rl.Fc).length c8, .slice a2 2 c2]) (wG (h.of 46)) ?_ ?_
   ·have ec:=evc a;have ef:=evf a;generalize a.eval=ev at *;clear h;go_simp
   refine Calls.mono (dU [⟨0,[1,2]⟩,⟨1,[1,2]⟩] _ _ y h49 (aI HN.out h.below) dE yH) ?_;rintro _ y2 ⟨rfl,hb2⟩;exact⟨_,rfl,fun t ht=>by cases ht;exact rfl,hb2⟩
  refine oC (fun a y h=>by have e46:a.eval (.tmp 46)=(.bool true:Value):=h.of 46;have e51:a.eval (.tmp 51)=(.bool true:Value):=h.of 51;exact opX (.bool true)) ?_;refine oC (fun a y h=>by have e52:a.eval (.tmp 52)=(.bool true:Value):=h.of 52;exact opX (.bool true)) ?_;exact AllOps.nil
 case hend=>rintro⟨tm,df⟩ wE hbE hdE hsE hstE hTE;have h0:tm.getD 0 undef=(.bool true:Value):=iI (T:=chbT (.slice a1 1 c1) (.slice a2 2 c2) (.slice a3 0 c3) (.slice a4 3 c4) XB) (w:=wE) (a:=⟨tm,df⟩) (t:=0) hTE kR;obtain rfl:df=[]:=hdE;have HBE:Hid (Below w.heap.size w wE):=HB7.out.trans (hbE.mono HB7.out.size);obtain⟨fQ,hQ,hFE⟩:=fH [17,18,19,20,21,22,23,24,25,26,27,28,29,30,31,32,33,34,35,36,37,38,39,40,41,42,43,44,45,46,47,48,49,50,51,52,0] tm _ hsE hstE;clear hsE hstE hTE hbE;simp only[cL,dB,(hQ 0).trans h0]at hFE;clear h0 hQ;simp only[aV,bS,bV]at hFE;subst hFE;go_wp2_with fail;go_ret;exact⟨rfl,HBE.out⟩
def ArgsP(B:Nat)(w:World)(q:List Fv):Prop:=∀p,p∈q→w.ownsRow B 3 1 p.2 p.1.args.length (p.1.args.map (Value.int .i64))
theorem ArgsP.below{B:Nat}{w w':World}{q:List Fv}(h:ArgsP B w q)(hb:Below w.heap.size w w'):ArgsP B w' q:=fun p hp=>aU (h p hp) hb
theorem uY{w:World}{ops:Array Oper}{rest:List Oper}{o:Oper}{a:Act}{Q:Exit→Act→World→Prop}(hgd:o.guard=none)(s x:Operand)
 (ho:o.op=.call {callee:=.builtin .append,args:=#[s,x],argTypes:=#[27,27]}) (B B2:Nat) (v:Value) (n:Nat) (q:List Fv) (hs:a.eval s=v) (hn:n=q.length) (hown:w.ownsRow B 55 2 v n (q.map fcCells).flatten) (hargs:ArgsP B w q)
 (u:Value) (q2:List Fv) (hx:a.eval x=u) (hown2:w.ownsRow B2 55 2 u q2.length (q2.map fcCells).flatten) (hargs2:ArgsP B2 w q2) (hB:B≤B2) (hBw:B≤w.heap.size) (hl:q.length+q2.length≤4194304)
 (h:∀v' w',w'.ownsRow B 55 2 v' (q++q2).length ((q++q2).map fcCells).flatten→ArgsP B w' (q++q2)→Below B w w'→wpList Tryz.prog ops Q rest (a.put o.dst v') w'):wpList Tryz.prog ops Q (o::rest) a w:=by
 obtain⟨i0,hi,hz0,hz1,hz2⟩:=info_parts iE;subst hn;rcases eU hown2 with⟨hu,h0⟩|⟨g,cap,hu⟩
 ·have hq2:q2=[]:=cQ h0;subst hq2;refine wpList_append_own_none hgd s x 27 ho B 55 i0 2 Tryz.underlying27 hi v q.length _ hs hown (by rw[hx,hu]) ?_;exact h v w (by rw[fE];exact hown) (by rw[fE];exact hargs) (aH _ _)
 subst hu;refine wpList_append_own w hgd s x 27 ho B 55 i0 _ 2 32 Tryz.underlying27 hi hz0 hz1 hz2 rfl dE v q.length _ hs hown ⟨g,0,none⟩ q2.length cap (q2.map fcCells).flatten hx (by rw[fJ]) (fun j c hj=>?_) (fun c hc=>?_) (by unfold maxLen;omega) oM hBw ?_
 ·have hlt:j<q2.length*2:=by
   rcases dF j (q2.length*2)with h9|h9
   ·exact h9
   rw[bR (by rw[fJ];exact h9)]at hj;cases hj
  rw[Addr.add_lit,cV,World.ownsRow.cellAt hown2 j hlt];exact hj
 ·obtain⟨l9,hl9,hc9⟩:=List.mem_flatten.mp hc;obtain⟨p,hp,rfl⟩:=bO.mp hl9;obtain⟨a9,c9,hv9⟩:=aZ (hargs2 p hp);simp only[fcCells,bD,eN,or_false]at hc9;rcases hc9 with rfl|rfl
  ·rfl
  rw[hv9];rfl
 intro v' w' ho9 hg9 _;have h3:∀(A:Nat)(l:List Int)(u:Value),w.ownsRow A 3 1 u l.length (l.map (Value.int .i64))→w'.ownsRow A 3 1 u l.length (l.map (Value.int .i64)):=fun A l u hu=>fF hu (fun k c hk=>(hg9.block k (aY hk) (fun e=>by have :=jL hown e.symm hk;cases this)).trans hk);refine h v' w' ?_ (fun p hp=>?_) ((aH B w).grown hg9 hBw (fun k hk=>(hown.lt k hk).1))
 ·rw[aN,bJ,dZ];exact ho9
 rcases bX.mp hp with hp|hp
 ·exact h3 _ _ _ (hargs p hp)
 exact dP (h3 _ _ _ (hargs2 p hp)) hB
namespace Ru
def lessI:List Int→List Int→Bool
 |a::x,b::y=>if a=b then lessI x y else decide (a<b)
 |_,_=>false
theorem lessI_cmp:∀{x y:List Int},x.length=y.length→lessI x y=decide (Rl.cmpL x y<0)
 |[],[],_=>rfl
 |[],_::_,h=>by cases h
 |_::_,[],h=>by cases h
 |a::x,b::y,h=>by
  (have h':x.length=y.length:=by simpa using h);unfold lessI;by_cases hab:a=b
  ·subst hab;rw[if_pos rfl,lessI_cmp h'];(have e:Rl.cmpL (a::x) (a::y)=Rl.cmpL x y:=by show(if Rl.cmpI a a=0 then Rl.cmpL x y else Rl.cmpI a a)=_;rw[if_pos (Rl.cmpI_zero.mpr rfl)]);rw[e]
  rw[if_neg hab];(have e:Rl.cmpL (a::x) (b::y)=Rl.cmpI a b:=by show(if Rl.cmpI a b=0 then Rl.cmpL x y else Rl.cmpI a b)=_;rw[if_neg (fun h0=>hab (Rl.cmpI_zero.mp h0))]);rw[e];unfold Rl.cmpI;by_cases h1:a<b
  ·simp[h1]
  have h2:b<a:=oM;simp[h1,h2]
theorem lessI_drop{x y:List Int}(hl:x.length=y.length){k:Nat}(hk:k<x.length):lessI (x.drop k) (y.drop k)=if Sc.intD x k=Sc.intD y k then lessI (x.drop (k+1)) (y.drop (k+1))else decide (Sc.intD x k<Sc.intD y k):=by(have e1:x.drop k=Sc.intD x k::x.drop (k+1):=by rw[bG hk];unfold Sc.intD;rw[aE,aG hk];rfl);(have e2:y.drop k=Sc.intD y k::y.drop (k+1):=by rw[bG oM];unfold Sc.intD;rw[aE,aG oM];rfl);rw[e1,e2];rfl
end Ru
namespace Ru
theorem all_drop(K:List Bool)(ts:List Sc.Term)(k:Nat)(h:k<ts.length):(ts.drop k).all (Sc.known K)=(Sc.known K (Sc.termD ts k)&&(ts.drop (k+1)).all (Sc.known K)):=by(have e:ts.drop k=Sc.termD ts k::ts.drop (k+1):=by rw[bG h];unfold Sc.termD;rw[aE,aG h];rfl);rw[e,List.all_cons]
end Ru
theorem aAQ{w:World}{ao:Option Addr}{l:List Bool}(h:BoolsAt w ao l){k:Nat}(hk:k<l.length):∃b off,ao=some ⟨b,off,none⟩∧w.cell? ⟨b,off+k,none⟩=some (.bool (Rl.boolD l k)):=by
 rcases h with h|⟨b,off,ha,hc⟩
 ·rw[h]at hk;exact absurd hk sI
 exact⟨b,off,ha,hc k hk⟩
theorem mN(ts:List Sc.Term)(K:List Bool)(vt vk:Value)(w:World)(hT:PTermsV w vt ts)(hK:BoolsV w vk K)(hI:Ru.TermsIn K.length ts)(hl:ts.length≤1000000):Calls Tryz.prog 167 #[vt,vk] w fun e w'=>e=.returned (.bool (ts.all (Sc.known K)))∧Below w.heap.size w w':=by
 obtain⟨ao,cap,rfl,_,hA⟩:=hT;obtain⟨bo,cbp,rfl,_,hB⟩:=hK;have HA:Hid _:=hA;have HB:Hid _:=hB;have HI:Hid _:=hI;clear hA hB hI
 go_enter Tryz.func167,Tryz.ntmps167
 go_wp2_with fail;go_loopw [5] (fun iv wr=>∃k:Nat,k≤ts.length∧iv=.int .i64 k∧Hid (ts.all (Sc.known K)=(ts.drop k).all (Sc.known K))∧Hid (Below w.heap.size w wr)) (fun iv _=>ts.length-(intOf iv).toNat);case atStart=>exact⟨0,oM,rfl,rfl,aH _ _⟩
 case round=>
  obtain⟨k,hk,rfl,HR,HBr⟩:=hrel;by_cases hlt:k<ts.length
  ·obtain⟨b',off',rfl,hck⟩:=fG HA.out k hlt;have q0:=aD HBr.out (hck k hlt).1;have HS:Hid _:=Ru.all_drop K ts k hlt;have HTI:Hid (Ru.TermIn K.length (Sc.termD ts k)):=HI.out _ (Ru.termD_mem hlt);clear hck;generalize Sc.termD ts k=t at *;obtain⟨tv,tn⟩:=t;dsimp only at *;by_cases h0:tv<0
   ·have g0:decide (0≤tv)=false:=decide_eq_false oM;(have HR2:Hid (ts.all (Sc.known K)=(ts.drop (k+1)).all (Sc.known K)):=by show _=_;rw[HR.out,HS.out];unfold Sc.known;simp[h0]);clear h0;go_upto_region 4 with fail;(try go_quiet(fail));go_wp2_with fail;go_roundw;(case rel=>exact⟨k+1,hlt,gN,HR2.out,HBr.out⟩);case measure=>exact mI
   obtain⟨m,rfl⟩:∃m:Nat,tv=m:=⟨tv.toNat,oM⟩;have hmK:m<K.length:=by
    rcases HTI.out with h|h
    ·exact absurd h h0
    simpa using h
   obtain⟨b2,off2,rfl,hcb⟩:=aAQ HB.out hmK;have q1:=aD HBr.out hcb;have g0:decide (0≤(m:Int))=true:=decide_eq_true oM;(have HKN:Hid (Sc.known K ⟨(m:Int),tn⟩=Rl.boolD K m):=by show _=_;unfold Sc.known Rl.boolD;rw[decide_eq_false (show¬((m:Int)<0) by omega),Bool.false_or];rfl);clear hcb h0;generalize Rl.boolD K m=kb at *;cases kb
   ·(have HE:Hid (ts.all (Sc.known K)=false):=by show _=_;rw[HR.out,HS.out,HKN.out];rfl);go_upto_region 4 with fail;(try go_quiet(fail));go_wp2_with fail;go_ret;exact⟨by rw[HE.out];rfl,HBr.out⟩
   (have HR2:Hid (ts.all (Sc.known K)=(ts.drop (k+1)).all (Sc.known K)):=by show _=_;rw[HR.out,HS.out,HKN.out,Bool.true_and]);go_upto_region 4 with fail;(try go_quiet(fail));go_wp2_with fail;go_roundw;(case rel=>exact⟨k+1,hlt,gN,HR2.out,HBr.out⟩);case measure=>exact mI
  have hdd:decide (k<ts.length)=false:=decide_eq_false hlt;(have HE:Hid (ts.all (Sc.known K)=true):=by show _=_;rw[HR.out,aL oM];rfl);go_wp2_with fail;go_ret;exact⟨by rw[HE.out];rfl,HBr.out⟩
theorem aCx{ts:List Sc.Term}(h:ts.length=2)(x:List Int):Ru.fill ts x=[Ru.num x (Sc.termD ts 0),Ru.num x (Sc.termD ts 1)]:=by
 match ts,h with
 |[a,b],_=>rfl
theorem aAG{ts:List Sc.Term}(h:ts.length=3)(x:List Int):Ru.fill ts x=[Ru.num x (Sc.termD ts 0),Ru.num x (Sc.termD ts 1),Ru.num x (Sc.termD ts 2)]:=by
 match ts,h with
 |[a,b,c],_=>rfl
theorem aCy(ts:List Sc.Term)(x:List Int):(Ru.fill ts x).length=ts.length:=by unfold Ru.fill;rw[aO]
theorem mL(facts:List Rl.Fc)(l:Sc.Lit)(x:List Int)(vt vx vf:Value)(w:World)(hT:PTermsV w vt l.terms)(hX:IntsV w vx x)(hF:FactsV w vf facts)(hFl:facts.length≤1000000)(hFF:∀f,f∈facts→FFit f)(hl:l.terms.length≤1000)(hI:Ru.TermsIn x.length l.terms)(hk:l.kind=1∨l.kind=2):
 Calls Tryz.prog 24 #[plitVal l vt,vx,vf] w fun e w'=>e=.returned (.bool (Ru.holds facts l x))∧Below w.heap.size w w':=by
 obtain⟨at_,ct,rfl,_⟩:=id hT;obtain⟨ax,cx,rfl,_⟩:=id hX;obtain⟨af,cf,rfl,_⟩:=id hF;obtain⟨kd,op,pd,ts⟩:=l;dsimp only at *;have bT:=(aH w.heap.size w).alloc (aF _) (.cells #[.int .i64 kd, .int .i64 op, .int .i64 pd, .slice at_ ts.length ct] 49);have HBX:Hid _:=heap_alloc_new w (.cells #[.int .i64 kd, .int .i64 op, .int .i64 pd, .slice at_ ts.length ct] 49);have HB:Hid _:=bT;have HC:Hid _:=jR ts x _ _ _ (bM hT bT) (aK hX bT) oM hI;have HF:Hid (FactsV w (.slice af facts.length cf) facts):=hF;have HFF:Hid _:=hFF;have hfl:=aCy ts x;clear bT hT hX hF hFF hI
 go_enter Tryz.func24,Tryz.ntmps24
 go_upto_region 1 with fail;generalize w.alloc (.cells #[.int .i64 kd, .int .i64 op, .int .i64 pd, .slice at_ ts.length ct] 49)=w1 at *;(have c3:w1.cell? ⟨w.heap.size,3,none⟩=some (.slice at_ ts.length ct):=by rw[aC HBX.out];rfl);go_wp2_with fail;refine Calls.mono HC.out ?_;rintro _ w2 ⟨va,rfl,hrow,hb2⟩;have hints:=hrow.ints;have HIV:Hid (IntsV w2 va (Ru.fill ts x)):=hints;obtain⟨aa,ca,rfl,_⟩:=hints;have HB2:Hid (Below w.heap.size w w2):=HB.out.trans (hb2.mono HB.out.size);have HBX2:Hid _:=(hb2.block _ (aY HBX.out)).trans HBX.out;have HHAS:Hid _:=mR facts ⟨pd,Ru.fill ts x⟩ _ _ w2 (aI HF.out HB2.out) HIV.out oM HFF.out (by unfold FFit;show(Ru.fill ts x).length≤_;omega);clear c3 hb2 HB HBX HC hrow HF HFF hfl;(have c0:w2.cell? ⟨w.heap.size,0,none⟩=some (.int .i64 kd):=by rw[aC HBX2.out];rfl);(have c2:w2.cell? ⟨w.heap.size,2,none⟩=some (.int .i64 pd):=by rw[aC HBX2.out];rfl);rcases hk with rfl|rfl
 ·go_wp2_with fail;refine Calls.mono HHAS.out ?_;rintro _ w3 ⟨rfl,hb3⟩;have HB3:Hid _:=HB2.out.trans (hb3.mono HB2.out.size);clear hb3 c0 c2;go_wp2_with fail;go_ret;exact⟨rfl,HB3.out⟩
 go_wp2_with fail;refine Calls.mono HHAS.out ?_;rintro _ w3 ⟨rfl,hb3⟩;have HB3:Hid _:=HB2.out.trans (hb3.mono HB2.out.size);clear hb3 c0 c2;go_wp2_with fail;go_ret;exact⟨rfl,HB3.out⟩
theorem sV(facts:List Rl.Fc)(l:Sc.Lit)(x:List Int)(vt vx vf:Value)(w:World)(hT:PTermsV w vt l.terms)(hX:IntsV w vx x)(hF:FactsV w vf facts)(hl:l.terms.length≤1000)(hI:Ru.TermsIn x.length l.terms)(hk:l.kind=3)(h2:l.terms.length=2)(hop:l.op=1∨l.op=2∨l.op=3∨l.op=4):
 Calls Tryz.prog 24 #[plitVal l vt,vx,vf] w fun e w'=>e=.returned (.bool (Ru.holds facts l x))∧Below w.heap.size w w':=by
 obtain⟨at_,ct,rfl,_⟩:=id hT;obtain⟨ax,cx,rfl,_⟩:=id hX;obtain⟨af,cf,rfl,_⟩:=id hF;obtain⟨kd,op,pd,ts⟩:=l;dsimp only at *;have bT:=(aH w.heap.size w).alloc (aF _) (.cells #[.int .i64 kd, .int .i64 op, .int .i64 pd, .slice at_ ts.length ct] 49);have HBX:Hid _:=heap_alloc_new w (.cells #[.int .i64 kd, .int .i64 op, .int .i64 pd, .slice at_ ts.length ct] 49);have HB:Hid _:=bT;have HC:Hid _:=jR ts x _ _ _ (bM hT bT) (aK hX bT) oM hI;rw[aCx h2 x]at HC;(have HE:Hid (Ru.holds facts ⟨kd,op,pd,ts⟩ x=Ru.isSo op (Ru.num x (Sc.termD ts 0)) (Ru.num x (Sc.termD ts 1))):=by show _=_;unfold Ru.holds;dsimp only;rw[if_neg oM,if_neg oM,if_pos hk]);generalize Ru.num x (Sc.termD ts 0)=a at *;generalize Ru.num x (Sc.termD ts 1)=c at *;subst hk;clear bT hT hX hF hI;clear h2 hl
 go_enter Tryz.func24,Tryz.ntmps24
 go_upto_region 1 with fail;generalize w.alloc (.cells #[.int .i64 3, .int .i64 op, .int .i64 pd, .slice at_ ts.length ct] 49)=w1 at *;(have c3:w1.cell? ⟨w.heap.size,3,none⟩=some (.slice at_ ts.length ct):=by rw[aC HBX.out];rfl);go_wp2_with fail;refine Calls.mono HC.out ?_;rintro _ w2 ⟨va,rfl,hrow,hb2⟩;have hints:=hrow.ints;have HIV:Hid (IntsV w2 va [a,c]):=hints;obtain⟨aa,ca,rfl,hIA⟩:=hints;have HB2:Hid (Below w.heap.size w w2):=HB.out.trans (hb2.mono HB.out.size);have HBX2:Hid _:=(hb2.block _ (aY HBX.out)).trans HBX.out;clear c3 hb2 HB HBX HC hrow;(have c0:w2.cell? ⟨w.heap.size,0,none⟩=some (.int .i64 3):=by rw[aC HBX2.out];rfl);(have c1:w2.cell? ⟨w.heap.size,1,none⟩=some (.int .i64 op):=by rw[aC HBX2.out];rfl);have hr:∃b0 off0,aa=some ⟨b0,off0,none⟩∧w2.cell? ⟨b0,off0,none⟩=some (.int .i64 a)∧w2.cell? ⟨b0,off0+1,none⟩=some (.int .i64 c):=by
  rcases hIA with h|⟨b0,off0,h1,h2⟩
  ·cases h
  exact⟨b0,off0,h1,h2 0 (jU _),h2 1 (mX (jU _))⟩
 obtain⟨b0,off0,rfl,r0,r1⟩:=hr;clear hIA HIV;rcases hop with rfl|rfl|rfl|rfl
 ·by_cases hc:a<c
  ·(have g:decide (a<c)=true:=by simpa using hc);(have HE2:Hid (Ru.holds facts ⟨3,1,pd,ts⟩ x=true):=by show _=_;rw[HE.out];unfold Ru.isSo;simp;first|exact hc|omega);clear hc;go_upto_region 8 with fail;go_quiet(fail);go_wp2_with fail;go_ret;exact⟨by rw[HE2.out];rfl,HB2.out.trans ((bY _ _).mono HB2.out.size)⟩
  (have g:decide (a<c)=false:=by simpa using hc);(have HE2:Hid (Ru.holds facts ⟨3,1,pd,ts⟩ x=false):=by show _=_;rw[HE.out];unfold Ru.isSo;simp;first|exact hc|omega);clear hc;go_upto_region 8 with fail;go_quiet(fail);go_wp2_with fail;go_ret;exact⟨by rw[HE2.out];rfl,HB2.out.trans ((bY _ _).mono HB2.out.size)⟩
 ·by_cases hc:a≤c
  ·(have g:decide (a≤c)=true:=by simpa using hc);(have HE2:Hid (Ru.holds facts ⟨3,2,pd,ts⟩ x=true):=by show _=_;rw[HE.out];unfold Ru.isSo;simp;first|exact hc|omega);clear hc;go_upto_region 8 with fail;go_quiet(fail);go_wp2_with fail;go_ret;exact⟨by rw[HE2.out];rfl,HB2.out.trans ((bY _ _).mono HB2.out.size)⟩
  (have g:decide (a≤c)=false:=by simpa using hc);(have HE2:Hid (Ru.holds facts ⟨3,2,pd,ts⟩ x=false):=by show _=_;rw[HE.out];unfold Ru.isSo;simp;first|exact hc|omega);clear hc;go_upto_region 8 with fail;go_quiet(fail);go_wp2_with fail;go_ret;exact⟨by rw[HE2.out];rfl,HB2.out.trans ((bY _ _).mono HB2.out.size)⟩
 ·by_cases hc:a=c
  ·(have g:(a==c)=true:=by simpa using hc);(have HE2:Hid (Ru.holds facts ⟨3,3,pd,ts⟩ x=true):=by show _=_;rw[HE.out];unfold Ru.isSo;simp;first|exact hc|omega);clear hc;go_upto_region 8 with fail;go_quiet(fail);go_wp2_with fail;go_ret;exact⟨by rw[HE2.out];rfl,HB2.out.trans ((bY _ _).mono HB2.out.size)⟩
  (have g:(a==c)=false:=by simpa using hc);(have HE2:Hid (Ru.holds facts ⟨3,3,pd,ts⟩ x=false):=by show _=_;rw[HE.out];unfold Ru.isSo;simp;first|exact hc|omega);clear hc;go_upto_region 8 with fail;go_quiet(fail);go_wp2_with fail;go_ret;exact⟨by rw[HE2.out];rfl,HB2.out.trans ((bY _ _).mono HB2.out.size)⟩
 by_cases hc:a≠c
 ·(have g:(a != c)=true:=by simpa using hc);(have HE2:Hid (Ru.holds facts ⟨3,4,pd,ts⟩ x=true):=by show _=_;rw[HE.out];unfold Ru.isSo;simp;first|exact hc|omega);clear hc;go_upto_region 8 with fail;go_quiet(fail);go_wp2_with fail;go_ret;exact⟨by rw[HE2.out];rfl,HB2.out.trans ((bY _ _).mono HB2.out.size)⟩
 (have g:(a != c)=false:=by simpa using hc);(have HE2:Hid (Ru.holds facts ⟨3,4,pd,ts⟩ x=false):=by show _=_;rw[HE.out];unfold Ru.isSo;simp;first|exact hc|omega);clear hc;go_upto_region 8 with fail;go_quiet(fail);go_wp2_with fail;go_ret;exact⟨by rw[HE2.out];rfl,HB2.out.trans ((bY _ _).mono HB2.out.size)⟩
theorem sT(facts:List Rl.Fc)(l:Sc.Lit)(x:List Int)(vt vx vf:Value)(w:World)(hT:PTermsV w vt l.terms)(hX:IntsV w vx x)(hF:FactsV w vf facts)(hl:l.terms.length≤1000)(hI:Ru.TermsIn x.length l.terms)(hk:l.kind=4)(h3:l.terms.length=3)(hn0:Sc.isNum (Ru.num x (Sc.termD l.terms 0))=true)(hn1:Sc.isNum (Ru.num x (Sc.termD l.terms 1))=true):
 Calls Tryz.prog 24 #[plitVal l vt,vx,vf] w fun e w'=>e=.returned (.bool (Ru.holds facts l x))∧Below w.heap.size w w':=by
 obtain⟨at_,ct,rfl,_⟩:=id hT;obtain⟨ax,cx,rfl,_⟩:=id hX;obtain⟨af,cf,rfl,_⟩:=id hF;obtain⟨kd,op,pd,ts⟩:=l;dsimp only at *;have bT:=(aH w.heap.size w).alloc (aF _) (.cells #[.int .i64 kd, .int .i64 op, .int .i64 pd, .slice at_ ts.length ct] 49);have HBX:Hid _:=heap_alloc_new w (.cells #[.int .i64 kd, .int .i64 op, .int .i64 pd, .slice at_ ts.length ct] 49);have HB:Hid _:=bT;have HC:Hid _:=jR ts x _ _ _ (bM hT bT) (aK hX bT) oM hI;rw[aAG h3 x]at HC;(have HE:Hid (Ru.holds facts ⟨kd,op,pd,ts⟩ x=(Sc.isNum (Ru.reck op (Ru.num x (Sc.termD ts 0)) (Ru.num x (Sc.termD ts 1)))&&decide (Ru.reck op (Ru.num x (Sc.termD ts 0)) (Ru.num x (Sc.termD ts 1))=Ru.num x (Sc.termD ts 2)))):=by show _=_;unfold Ru.holds Ru.calc3;dsimp only;rw[if_neg oM,if_neg oM,if_neg oM]);generalize Ru.num x (Sc.termD ts 0)=a at *;generalize Ru.num x (Sc.termD ts 1)=c at *;generalize Ru.num x (Sc.termD ts 2)=d at *;subst hk;clear bT hT hX hF hI;have HQ:Hid (∀z:World,Calls Tryz.prog 67 #[.int .i64 op, .int .i64 a, .int .i64 c] z fun e w'=>e=.returned (.int .i64 (Ru.reck op a c))∧∃n,w'=z.drewN n):=fun z=>(sH op a c z (Ru.between_iff.mp hn0) (Ru.between_iff.mp hn1)).mono fun _ _ h=>⟨h.1,0,h.2⟩;clear hn0 hn1 h3 hl
 go_enter Tryz.func24,Tryz.ntmps24
 go_upto_region 1 with fail;generalize w.alloc (.cells #[.int .i64 4, .int .i64 op, .int .i64 pd, .slice at_ ts.length ct] 49)=w1 at *;(have c3:w1.cell? ⟨w.heap.size,3,none⟩=some (.slice at_ ts.length ct):=by rw[aC HBX.out];rfl);go_wp2_with fail;refine Calls.mono HC.out ?_;rintro _ w2 ⟨va,rfl,hrow,hb2⟩;have hints:=hrow.ints;have HIV:Hid (IntsV w2 va [a,c,d]):=hints;obtain⟨aa,ca,rfl,hIA⟩:=hints;have HB2:Hid (Below w.heap.size w w2):=HB.out.trans (hb2.mono HB.out.size);have HBX2:Hid _:=(hb2.block _ (aY HBX.out)).trans HBX.out;clear c3 hb2 HB HBX HC hrow;(have c0:w2.cell? ⟨w.heap.size,0,none⟩=some (.int .i64 4):=by rw[aC HBX2.out];rfl);(have c1:w2.cell? ⟨w.heap.size,1,none⟩=some (.int .i64 op):=by rw[aC HBX2.out];rfl);have hr:∃b0 off0,aa=some ⟨b0,off0,none⟩∧w2.cell? ⟨b0,off0,none⟩=some (.int .i64 a)∧w2.cell? ⟨b0,off0+1,none⟩=some (.int .i64 c)∧w2.cell? ⟨b0,off0+2,none⟩=some (.int .i64 d):=by
  rcases hIA with h|⟨b0,off0,h1,h2⟩
  ·cases h
  exact⟨b0,off0,h1,h2 0 (jU _),h2 1 (mX (jU _)),h2 2 (mX (mX (jU _)))⟩
 obtain⟨b0,off0,rfl,r0,r1,r2⟩:=hr;clear hIA HIV;have HN:Hid (∀(n:Int)(z:World),Calls Tryz.prog 23 #[.int .i64 n] z fun e w'=>e=.returned (.bool (Sc.isNum n))∧w'=z):=fun n z=>kT n z;go_upto_region 9 with fail
 go_quiet(first
  |(go_at_call 67;exact jM (HQ.out _)))
 generalize Ru.reck op a c=m at *;have HBd:Hid (∀j,Below w.heap.size w (w2.drewN j)):=fun j=>HB2.out.trans ((bY _ _).mono HB2.out.size);cases hn:Sc.isNum m
 ·(have HE2:Hid (Ru.holds facts ⟨4,op,pd,ts⟩ x=false):=by show _=_;rw[HE.out,hn];rfl);(have HN2:Hid (∀z:World,Calls Tryz.prog 23 #[.int .i64 m] z fun e w'=>e=.returned (.bool false)∧w'=z):=fun z=>by have :=HN.out m z;rw[hn]at this;exact this);clear hn;go_wp2_with fail;refine Calls.mono (HN2.out _) ?_;rintro _ z ⟨rfl,rfl⟩;go_wp2_with fail;go_ret;exact⟨by rw[HE2.out];rfl,HBd.out _⟩
 (have HN2:Hid (∀z:World,Calls Tryz.prog 23 #[.int .i64 m] z fun e w'=>e=.returned (.bool true)∧w'=z):=fun z=>by have :=HN.out m z;rw[hn]at this;exact this);by_cases hmd:m=d
 ·(have g:(m==d)=true:=by simpa using hmd);(have HE2:Hid (Ru.holds facts ⟨4,op,pd,ts⟩ x=true):=by show _=_;rw[HE.out,hn,decide_eq_true hmd];rfl);clear hn hmd;go_wp2_with fail;refine Calls.mono (HN2.out _) ?_;rintro _ z ⟨rfl,rfl⟩;go_wp2_with fail;go_ret;exact⟨by rw[HE2.out];rfl,HBd.out _⟩
 (have g:(m==d)=false:=by simpa using hmd);(have HE2:Hid (Ru.holds facts ⟨4,op,pd,ts⟩ x=false):=by show _=_;rw[HE.out,hn,decide_eq_false hmd];rfl);clear hn hmd;go_wp2_with fail;refine Calls.mono (HN2.out _) ?_;rintro _ z ⟨rfl,rfl⟩;go_wp2_with fail;go_ret;exact⟨by rw[HE2.out];rfl,HBd.out _⟩
theorem wW(facts:List Rl.Fc)(l:Sc.Lit)(x:List Int)(vt vx vf:Value)(w:World)(hT:PTermsV w vt l.terms)(hX:IntsV w vx x)(hF:FactsV w vf facts)(hFl:facts.length≤1000000)(hFF:∀f,f∈facts→FFit f)(hl:l.terms.length≤1000)(hI:Ru.LitIn x.length facts l)
 (hop:l.kind=3→l.op=1∨l.op=2∨l.op=3∨l.op=4) (hn0:l.kind=4→Sc.isNum (Ru.num x (Sc.termD l.terms 0))=true) (hn1:l.kind=4→Sc.isNum (Ru.num x (Sc.termD l.terms 1))=true):
 Calls Tryz.prog 24 #[plitVal l vt,vx,vf] w fun e w'=>e=.returned (.bool (Ru.holds facts l x))∧Below w.heap.size w w':=by
 rcases hI.k with hk|hk|hk|hk
 ·exact mL facts l x vt vx vf w hT hX hF hFl hFF hl hI.t (.inl hk)
 ·exact mL facts l x vt vx vf w hT hX hF hFl hFF hl hI.t (.inr hk)
 ·exact sV facts l x vt vx vf w hT hX hF hl hI.t hk (hI.k3 hk) (hop hk)
 exact sT facts l x vt vx vf w hT hX hF hl hI.t hk (hI.k4 hk) (hn0 hk) (hn1 hk)
theorem wV(x y:List Int)(v u:Value)(w:World)(hV:IntsV w v x)(hU:IntsV w u y)(hl:x.length≤1000000):Calls Tryz.prog 25 #[v,u] w fun e w'=>e=.returned (.bool (decide (x=y)))∧∃n,w'=w.drewN n:=by
 obtain⟨ao,cap,rfl,hA⟩:=hV;obtain⟨bo,cbp,rfl,hB⟩:=hU;have HA:Hid _:=hA;have HB:Hid _:=hB;clear hA hB;by_cases hlen:x.length=y.length
 ·have HLEN:Hid _:=hlen;(have g0:((x.length:Int) != (y.length:Int))=false:=by rw[hlen];simp);clear hlen
  go_enter Tryz.func25,Tryz.ntmps25
  go_wp2_with fail;go_loopw [5] (fun iv wr=>∃k nq:Nat,k≤x.length∧iv=.int .i64 k∧Hid (x=y↔x.drop k=y.drop k)∧wr=w.drewN nq) (fun iv _=>x.length-(intOf iv).toNat);case atStart=>exact⟨0,0,oM,rfl,Iff.rfl,rfl⟩
  case round=>
   obtain⟨k,nq,hk,rfl,HR,rfl⟩:=hrel;by_cases hlt:k<x.length
   ·(have hlt2:k<y.length:=by have :=HLEN.out;omega);obtain⟨b',off',rfl,hck⟩:=fX HA.out hlt;obtain⟨b2,off2,rfl,hck2⟩:=fX HB.out hlt2;have HS:Hid _:=Ru.eq_step HLEN.out hlt;generalize Sc.intD x k=a at *;generalize Sc.intD y k=c at *;by_cases hac:a=c
    ·(have gx:(a != c)=false:=by simpa using hac);have HR2:Hid (x=y↔x.drop (k+1)=y.drop (k+1)):=HR.out.trans (HS.out.trans ⟨fun h=>h.2,fun h=>⟨hac,h⟩⟩);clear hac;go_wp2_with fail;go_quiet(fail);go_wp2_with fail;go_roundw;(case rel=>exact⟨k+1,_,hlt,gN,HR2.out,rfl⟩);case measure=>exact mI
    (have gx:(a != c)=true:=by simpa using hac);have HE:Hid (decide (x=y)=false):=decide_eq_false (fun h=>hac (HS.out.mp (HR.out.mp h)).1);clear hac;go_wp2_with fail;go_quiet(fail);go_wp2_with fail;go_ret;exact⟨by rw[HE.out];rfl,_,mG _ _ _⟩
   have hdd:decide (k<x.length)=false:=decide_eq_false hlt;have HE:Hid (decide (x=y)=true):=decide_eq_true (HR.out.mpr (by have :=HLEN.out;rw[aL oM,aL oM]));go_wp2_with fail;go_ret;exact⟨by rw[HE.out];rfl,_,rfl⟩
 have HE:Hid (decide (x=y)=false):=decide_eq_false (fun h=>hlen (by rw[h]));(have g0:((x.length:Int) != (y.length:Int))=true:=by simp;omega);clear hlen
 go_enter Tryz.func25,Tryz.ntmps25
 go_wp2_with fail;go_ret;exact⟨by rw[HE.out];rfl,0,rfl⟩
namespace Ru
theorem lit_ops{ar:List Int}{r:Sc.Rule}(hr:RuleOk ar r){l:Sc.Lit}(hl:l∈r.body)(hk:l.kind=3):l.op=1∨l.op=2∨l.op=3∨l.op=4:=by
 obtain⟨h1,_⟩:=hr.lit l hl;unfold Sc.litErr at h1;rw[if_neg oM,if_pos hk]at h1;split at h1
 ·rename_i hp;have :=between_iff.mp hp;omega
 omega
structure LitFine (facts:List Rl.Fc) (m:Nat) (l:Sc.Lit):Prop where
 i:LitIn m facts l
 s:l.terms.length≤3
 o:l.kind=3→l.op=1∨l.op=2∨l.op=3∨l.op=4
 n:LitNum l
theorem litFine_of{p:Sc.Prog}(h:ProgOk p){r:Sc.Rule}(hr:RuleOk p.arity r){facts:List Rl.Fc}(hF:∀f,f∈facts→Right p.arity f){l:Sc.Lit}(hl:l∈r.body):LitFine facts r.vars.toNat l:=
 ⟨litIn_of hr hF hl,lit_short h hr hl,lit_ops hr hl,lit_num hr hl⟩
theorem num_fine{m:Nat}{t:Sc.Term}{x:List Int}(ht:TermIn m t)(hn:t.var<0→Sc.isNum t.n=true)(hl:x.length=m)(hx:∀n,n∈x→Sc.isNum n=true):Sc.isNum (num x t)=true:=by
 unfold num;split
 ·rename_i h;exact hn h
 rename_i h0;(have hlt:t.var.toNat<x.length:=by rcases ht with h|h<;>omega);rw[aE,aG hlt];exact hx _ (cR hlt)
end Ru
theorem tS(facts:List Rl.Fc)(l:Sc.Lit)(x:List Int)(vt vx vf:Value)(w:World)(hT:PTermsV w vt l.terms)(hX:IntsV w vx x)(hF:FactsV w vf facts)(hFl:facts.length≤1000000)(hFF:∀f,f∈facts→FFit f){m:Nat}(hm:x.length=m)(hL:Ru.LitFine facts m l)(hN:∀n,n∈x→Sc.isNum n=true):
 Calls Tryz.prog 24 #[plitVal l vt,vx,vf] w fun e w'=>e=.returned (.bool (Ru.holds facts l x))∧Below w.heap.size w w':=
 wW facts l x vt vx vf w hT hX hF hFl hFF (by have :=hL.s;omega) (by rw[hm];exact hL.i) hL.o
  (fun hk=>Ru.num_fine (hL.i.t _ (Ru.termD_mem (by have :=hL.i.k4 hk;omega))) (hL.n _ (Ru.termD_mem (by have :=hL.i.k4 hk;omega))) hm hN)
  (fun hk=>Ru.num_fine (hL.i.t _ (Ru.termD_mem (by have :=hL.i.k4 hk;omega))) (hL.n _ (Ru.termD_mem (by have :=hL.i.k4 hk;omega))) hm hN)
theorem mV{l:List Sc.Lit}{k:Nat}(h:k<l.length):l[k]?=some (Sc.litD l k):=by unfold Sc.litD;rw[aE,aG h];rfl
namespace Ru
structure WayOk (m:Nat) (y:Way):Prop where
 wf:Wf m y
 nm:∀n,n∈y.nums→Sc.isNum n=true
theorem reckR_drop{body:List Sc.Lit}{k:Nat}(hk:k<body.length)(y:Way):reckR (body.drop k) y=match reck1 y (Sc.litD body k)with |none=>none|some y'=>reckR (body.drop (k+1)) y':=by
 (have :body.drop k=Sc.litD body k::body.drop (k+1):=by rw[bG hk];unfold Sc.litD;rw[aE,aG hk];rfl);rw[this];rfl
theorem mem_set_or{l:List Int}{i:Nat}{v n:Int}(h:n∈l.set i v):n∈l∨n=v:=List.mem_or_eq_of_mem_set h
theorem reck1_skip{y:Way}{l:Sc.Lit}(h:¬(l.kind=4∧(l.terms.take 2).all (Sc.known y.known)=true∧¬(l.terms.drop 2).all (Sc.known y.known)=true)):reck1 y l=some y:=by unfold reck1;rw[if_neg h]
theorem reck1_none{y:Way}{l:Sc.Lit}(h:l.kind=4∧(l.terms.take 2).all (Sc.known y.known)=true∧¬(l.terms.drop 2).all (Sc.known y.known)=true)(hn:Sc.isNum (calc3 l y.nums)=false):reck1 y l=none:=by unfold reck1;rw[if_pos h,if_neg (by rw[hn];simp)]
theorem reck1_some{y:Way}{l:Sc.Lit}(h:l.kind=4∧(l.terms.take 2).all (Sc.known y.known)=true∧¬(l.terms.drop 2).all (Sc.known y.known)=true)(hn:Sc.isNum (calc3 l y.nums)=true):reck1 y l=some ⟨y.nums.set (Sc.termD l.terms 2).var.toNat (calc3 l y.nums),y.known.set (Sc.termD l.terms 2).var.toNat true⟩:=by unfold reck1;rw[if_pos h,if_pos hn]
theorem fill_take2{l:List Sc.Term}(h:l.length=3)(x:List Int):fill (l.take 2) x=[num x (Sc.termD l 0),num x (Sc.termD l 1)]:=by
 match l,h with
 |[a,b,c],_=>rfl
theorem unknown_var{K:List Bool}{t:Sc.Term}{m:Nat}(h:Sc.known K t=false)(ht:TermIn m t):∃v:Nat,t.var=v∧v<m:=by
 unfold Sc.known at h;rw[iL]at h;have h0:=of_decide_eq_false h.1;refine⟨t.var.toNat,oM,?_⟩;rcases ht with h1|h1
 ·omega
 exact h1
end Ru
def FindB(w:World)(FB:Nat)(vt vb vf vo:Value)(r:Sc.Rule)(many:Bool):Prop:=w.heap[FB]?=some (.cells #[.int .i64 r.pred,vt, .int .i64 r.fold,vb, .int .i64 r.vars,vf,vo, .bool many] 100)
structure Rows2 (B:Nat) (w:World) (vn vs:Value) (m:Nat) (y:Ru.Way):Prop where
 n:w.ownsRow B 3 1 vn m (y.nums.map (Value.int .i64))
 s:w.ownsRow B 4 1 vs m (y.known.map Value.bool)
 ok:Ru.WayOk m y
theorem Rows2.below{B:Nat}{w w':World}{vn vs:Value}{m:Nat}{y:Ru.Way}(h:Rows2 B w vn vs m y)(hb:Below w.heap.size w w'):Rows2 B w' vn vs m y:=⟨aU h.n hb,aU h.s hb,h.ok⟩
theorem Rows2.ints{B:Nat}{w:World}{vn vs:Value}{m:Nat}{y:Ru.Way}(h:Rows2 B w vn vs m y):IntsV w vn y.nums:=gE (by rw[h.ok.wf.n];exact h.n)
theorem aBo{W:World}{B:Nat}{v:Value}{l:List Bool}(h:W.ownsRow B 4 1 v l.length (l.map Value.bool)):BoolsV W v l:=by
 rcases id h.2 with⟨hv,h0⟩|⟨g,cap,cur,hv,_,_,hc,_⟩
 ·exact⟨none,0,by rw[hv,h0],⟨oM,fun _=>rfl⟩, .inl (cQ h0)⟩
 refine⟨some ⟨g,0,none⟩,cap,hv,⟨hc,fun h=>by cases h⟩, .inr ⟨g,0,rfl,fun i hi=>?_⟩⟩;subst hv;rw[cV,World.ownsRow.cellAt h i oM,bK,aG hi];unfold Rl.boolD;rw[aE,aG hi];rfl
theorem Rows2.bools{B:Nat}{w:World}{vn vs:Value}{m:Nat}{y:Ru.Way}(h:Rows2 B w vn vs m y):BoolsV w vs y.known:=aBo (by rw[h.ok.wf.k];exact h.s)
theorem Rows2.forms{B:Nat}{w:World}{vn vs:Value}{m:Nat}{y:Ru.Way}(h:Rows2 B w vn vs m y)(hm:0<m):∃NB SB cN cS,vn=.slice (some ⟨NB,0,none⟩) m cN∧vs=.slice (some ⟨SB,0,none⟩) m cS∧B≤NB∧B≤SB∧¬SB=NB:=by
 rcases id h.n.2 with⟨_,h0⟩|⟨g,cap,cur,hv,hb,hg,_⟩
 ·omega
 rcases id h.s.2 with⟨_,h0⟩|⟨g2,cap2,cur2,hv2,hb2,hg2,_⟩
 ·omega
 refine⟨g,g2,cap,cap2,hv,hv2,hb,hb2,fun e=>?_⟩;rw[e,hg]at hg2;injection hg2 with hg2;injection hg2 with _ hg2;cases hg2
theorem Rows2.put{B:Nat}{w:World}{m NB SB cN cS:Nat}{y:Ru.Way}(h:Rows2 B w (.slice (some ⟨NB,0,none⟩) m cN) (.slice (some ⟨SB,0,none⟩) m cS) m y)(hne:¬SB=NB)(v:Nat)(x:Int)(hx:Sc.isNum x=true):
 Rows2 B ((w.setCell ⟨NB,v,none⟩ (.int .i64 x)).setCell ⟨SB,v,none⟩ (.bool true)) (.slice (some ⟨NB,0,none⟩) m cN) (.slice (some ⟨SB,0,none⟩) m cS) m ⟨y.nums.set v x,y.known.set v true⟩:=by
 have hn:=(World.ownsRow.stored h.n v (.int .i64 x)).1;have hs:(w.setCell ⟨NB,v,none⟩ (.int .i64 x)).ownsRow B 4 1 (.slice (some ⟨SB,0,none⟩) m cS) m (y.known.map Value.bool):=dY h.s (fun g hg=>bH (fun e=>hne (by have :SB=g:=(by simpa[Value.ownBlock]using hg);omega)));have hs2:=(World.ownsRow.stored hs v (.bool true)).1;refine⟨?_,?_,⟨by simpa using h.ok.wf.n,by simpa using h.ok.wf.k⟩,fun n hn'=>?_⟩
 ·refine dY (w:=w.setCell ⟨NB,v,none⟩ (.int .i64 x)) ?_ (fun g hg=>bH (fun e=>hne (by have :NB=g:=(by simpa[Value.ownBlock]using hg);omega)));rw[iW];exact hn
 ·rw[iW];exact hs2
 rcases Ru.mem_set_or hn' with h1|h1
 ·exact h.ok.nm n h1
 rw[h1];exact hx
theorem vV{w:World}{b off ct:Nat}{l:List Sc.Term}(h3:l.length=3)(hc:3≤ct)(h:∀i,i<l.length→PTermIn w b (off+i*2) (Sc.termD l i)):PTermsV w (.slice (some ⟨b,off,none⟩) 2 ct) (l.take 2)∧PTermsV w (.slice (some ⟨b,off+4,none⟩) 1 (ct-2)) (l.drop 2):=by
 match l,h3 with
 |[t0,t1,t2],_=>
  refine⟨⟨_,_,rfl,by show 2≤ct;omega, .inr ⟨b,off,rfl,fun i hi=>?_⟩⟩,⟨_,_,rfl,by show 1≤ct-2;omega, .inr ⟨b,off+4,rfl,fun i hi=>?_⟩⟩⟩
  ·match i,hi with
   |0,_=>exact h 0 sI
   |1,_=>exact h 1 sI
  match i,hi with
  |0,_=>exact h 2 sI
theorem aAS(w0:World)(B m FB:Nat)(facts:List Rl.Fc)(r:Sc.Rule)(vt0 vb vf vo vn vs:Value)(many:Bool)(y0:Ru.Way)(w:World)(hB0:w0.heap.size≤B)(hFBB:FB<B)(hBw:B≤w.heap.size)(hw0:Below w0.heap.size w0 w)(hFB:FindB w FB vt0 vb vf vo r many)(hb:PLitsV w0 vb r.body)(hb4:r.body.length≤4)(hL:∀l,l∈r.body→Ru.LitFine facts m l)(hm8:m≤8)(hR:Rows2 B w vn vs m y0):
 Calls Tryz.prog 112 #[.pointer (some ⟨FB,0,none⟩),vn,vs] w fun e w'=>((Ru.reckN r.body (r.body.length+1) y0=none∧e=.returned (.bool false))∨∃y',Ru.reckN r.body (r.body.length+1) y0=some y'∧e=.returned (.bool true)∧Rows2 B w' vn vs m y')∧Below B w w':=by
 obtain⟨ab,cb,rfl,hBA⟩:=hb;have HBA:Hid _:=hBA;have HL:Hid _:=hL;have HR:Hid _:=hR;have HFB:Hid (FindB w FB vt0 (.slice ab r.body.length cb) vf vo r many):=hFB;have HW0:Hid _:=hw0;obtain⟨an,cn,hvn⟩:=aZ hR.n;obtain⟨as_,cs,hvs⟩:=aZ hR.s;subst hvn hvs;clear hBA hL hR hFB hw0;have hKB:∀{z:World},Below B w z→Below w0.heap.size w0 z:=fun hz=>HW0.out.trans (hz.mono hB0);have HKB:Hid (∀{z:World},Below B w z→Below w0.heap.size w0 z):=hKB;clear hKB
 go_enter Tryz.func112,Tryz.ntmps112
 go_wp2_with fail;go_loopw [7] (fun av wr=>∃(a:Nat)(y:Ru.Way),a≤r.body.length+1∧av=.int .i64 a∧Hid (Ru.reckN r.body (r.body.length+1) y0=Ru.reckN r.body (r.body.length+1-a) y)∧Hid (Rows2 B wr (.slice an m cn) (.slice as_ m cs) m y)∧Hid (Below B w wr)) (fun av _=>r.body.length+1-(intOf av).toNat);case atStart=>exact⟨0,y0,aR _,rfl,rfl,HR.out,aH _ _⟩
 case round=>
  obtain⟨a,ya,ha,rfl,HRN,HRY,HBW⟩:=hrel;have hFBr:wr.heap[FB]?=_:=(HBW.out.block FB hFBB).trans HFB.out;(have fb3:wr.cell? ⟨FB,3,none⟩=some (.slice ab r.body.length cb):=by rw[aC hFBr];rfl);clear hFBr;by_cases hal:a≤r.body.length
  ·(have HRN2:Hid (Ru.reckN r.body (r.body.length+1-a) ya=match Ru.reckR r.body ya with |none=>none|some w'=>Ru.reckN r.body (r.body.length+1-(a+1)) w'):=by show _=_;rw[show r.body.length+1-a=(r.body.length+1-(a+1))+1 from by omega];rfl);have gal:decide ((a:Int)≤(r.body.length:Int))=true:=decide_eq_true oM;go_wp2_with fail;obtain⟨wa0,hwa0⟩:∃wa0,wa0=wr:=⟨_,rfl⟩;subst hwa0;go_loopw [8] (fun iv wr=>∃(k:Nat)(y:Ru.Way),k≤r.body.length∧iv=.int .i64 k∧Hid (Ru.reckR r.body ya=Ru.reckR (r.body.drop k) y)∧Hid (Rows2 B wr (.slice an m cn) (.slice as_ m cs) m y)∧Hid (Below B w wr)) (fun iv _=>r.body.length-(intOf iv).toNat);case atStart=>exact⟨0,ya,aR _,rfl,by show _=_;rw[cW],HRY.out,HBW.out⟩
   case round=>
    clear HRY HBW fb3;obtain⟨k,y,hk,rfl,HRR,HRY,HBW⟩:=hrel;have hFBr:wr.heap[FB]?=_:=(HBW.out.block FB hFBB).trans HFB.out;(have fb3:wr.cell? ⟨FB,3,none⟩=some (.slice ab r.body.length cb):=by rw[aC hFBr];rfl);clear hFBr;by_cases hlt:k<r.body.length
    ·obtain⟨b,off,rfl,q0,q1,q2,vt,q3,hT⟩:=jK HBA.out k hlt;have HRD:Hid _:=Ru.reckR_drop hlt y;have hfine:=HL.out _ (dL (mV hlt));have p0:=aD (HKB.out HBW.out) q0;have p1:=aD (HKB.out HBW.out) q1;have p2:=aD (HKB.out HBW.out) q2;have p3:=aD (HKB.out HBW.out) q3;obtain⟨at_,ct,rfl,hct,hTA⟩:=hT;have HTA:Hid _:=hTA;clear q0 q1 q2 q3 hTA;generalize Sc.litD r.body k=l at *;have HFI:Hid _:=hfine;clear hfine;go_upto_region 8 with fail;have hba:=cJ wr (.cells #[.int .i64 l.kind, .int .i64 l.op, .int .i64 l.pred, .slice at_ l.terms.length ct] 49);have HLB:Hid _:=heap_alloc_new wr (.cells #[.int .i64 l.kind, .int .i64 l.op, .int .i64 l.pred, .slice at_ l.terms.length ct] 49);have HRY1:Hid _:=HRY.out.below hba;have HSZ1:Hid (B≤wr.heap.size):=aX hBw HBW.out.size;have HBW1:Hid (Below B w (wr.alloc (.cells #[.int .i64 l.kind, .int .i64 l.op, .int .i64 l.pred, .slice at_ l.terms.length ct] 49))):=HBW.out.trans (hba.mono HSZ1.out);clear p0 p1 p2 p3 fb3 hba HRY HBW;generalize hLBn:wr.heap.size=LB at *;generalize wr.alloc (.cells #[.int .i64 l.kind, .int .i64 l.op, .int .i64 l.pred, .slice at_ l.terms.length ct] 49)=wa at *;clear hLBn;(have d0:wa.cell? ⟨LB,0,none⟩=some (.int .i64 l.kind):=by rw[aC HLB.out];rfl);(have d3:wa.cell? ⟨LB,3,none⟩=some (.slice at_ l.terms.length ct):=by rw[aC HLB.out];rfl);by_cases h4:l.kind=4
     ·have h3:=HFI.out.i.k4 h4;have HH4:Hid _:=h4;have HH3:Hid _:=h3;(have g4:(l.kind != 4)=false:=by simpa using h4);have hat:∃tb toff,at_=some ⟨tb,toff,none⟩∧∀i,i<l.terms.length→PTermIn w0 tb (toff+i*2) (Sc.termD l.terms i):=by
       rcases HTA.out with h|h
       ·rw[h]at h3;simp at h3
       exact h
      obtain⟨tb,toff,rfl,hTC⟩:=hat;have hct3:3≤ct:=oM;obtain⟨hT2,hT1⟩:=vV h3 hct3 hTC;have hv0:=hTC 2 oM;have HV0:Hid (w0.cell? ⟨tb,toff+4,none⟩=some (.int .i64 (Sc.termD l.terms 2).var)):=hv0.1;have HT2:Hid _:=hT2;have HT1:Hid _:=hT1;have HA2:Hid _:=Ru.fill_take2 h3 y.nums;have HIN:Hid (∀i,i<3→Ru.TermIn m (Sc.termD l.terms i)):=fun i hi=>HFI.out.i.t _ (Ru.termD_mem oM);have HC3:Hid (Ru.calc3 l y.nums=Ru.reck l.op (Ru.num y.nums (Sc.termD l.terms 0)) (Ru.num y.nums (Sc.termD l.terms 1))):=rfl;have HNM:Hid (∀i,i<3→Sc.isNum (Ru.num y.nums (Sc.termD l.terms i))=true):=fun i hi=>Ru.num_fine (HIN.out i hi) (HFI.out.n _ (Ru.termD_mem oM)) HRY1.out.ok.wf.n HRY1.out.ok.nm;have HRE1:Hid _:=mN (l.terms.take 2) y.known _ _ wa (bM HT2.out (HKB.out HBW1.out)) HRY1.out.bools (fun t ht=>by rw[HRY1.out.ok.wf.k];exact HFI.out.i.t t (eM ht)) (by rw[bC];omega);rw[h3]at d3;obtain⟨b1,Hb1⟩:∃b1,Hid ((l.terms.take 2).all (Sc.known y.known)=b1):=⟨_,rfl⟩;rw[Hb1.out]at HRE1;clear h4 h3 hT2 hT1 hv0 hTC HTA hct;have hg2:(2:Int)≤(ct:Int):=oM;go_wp2_with fail;refine Calls.mono HRE1.out ?_;rintro _ w2 ⟨rfl,hb2⟩;have HSZ2:Hid (B≤w2.heap.size):=aX (aX hBw HBW1.out.size) hb2.size;have HRY2:Hid _:=HRY1.out.below hb2;have HBW2:Hid (Below B w w2):=HBW1.out.trans (hb2.mono (aX hBw HBW1.out.size));have HLB2:Hid _:=(hb2.block _ (aY HLB.out)).trans HLB.out;clear hb2 HRE1 HRY1 HBW1 HLB d0 d3;(have d3:w2.cell? ⟨LB,3,none⟩=some (.slice (some ⟨tb,toff,none⟩) 3 ct):=by rw[aC HLB2.out];show some (Value.slice _ l.terms.length ct)=_;rw[HH3.out]);cases b1
      ·(have HNX:Hid (Ru.reckR r.body ya=Ru.reckR (r.body.drop (k+1)) y):=by show _=_;rw[HRR.out,HRD.out,Ru.reck1_skip (fun h=>by rw[Hb1.out]at h;exact absurd h.2.1 sI)]);go_wp2_with fail;go_roundw;(case rel=>exact⟨k+1,y,hlt,gN,HNX.out,HRY2.out,HBW2.out⟩);case measure=>exact mI
      have HRE2:Hid _:=mN (l.terms.drop 2) y.known _ _ w2 (bM HT1.out (HKB.out HBW2.out)) HRY2.out.bools (fun t ht=>by rw[HRY2.out.ok.wf.k];exact HFI.out.i.t t (gC ht)) (by rw[fT,HH3.out];decide);obtain⟨b2,Hb2⟩:∃b2,Hid ((l.terms.drop 2).all (Sc.known y.known)=b2):=⟨_,rfl⟩;rw[Hb2.out]at HRE2;go_wp2_with fail;refine Calls.mono HRE2.out ?_;rintro _ w3 ⟨rfl,hb3⟩;have HSZ3:Hid (B≤w3.heap.size):=aX HSZ2.out hb3.size;have HRY3:Hid _:=HRY2.out.below hb3;have HBW3:Hid (Below B w w3):=HBW2.out.trans (hb3.mono HSZ2.out);have HLB3:Hid _:=(hb3.block _ (aY HLB2.out)).trans HLB2.out;clear hb3 HRE2 HRY2 HBW2 HLB2 d3;(have d3:w3.cell? ⟨LB,3,none⟩=some (.slice (some ⟨tb,toff,none⟩) 3 ct):=by rw[aC HLB3.out];show some (Value.slice _ l.terms.length ct)=_;rw[HH3.out]);cases b2
      ·have HCON:Hid (l.kind=4∧(l.terms.take 2).all (Sc.known y.known)=true∧¬(l.terms.drop 2).all (Sc.known y.known)=true):=⟨HH4.out,Hb1.out,by rw[Hb2.out];simp⟩;(have HKV:Hid (Sc.known y.known (Sc.termD l.terms 2)=false):=by have :=Hb2.out;rw[Ru.drop2_all HH3.out]at this;exact this);have HAR:Hid _:=jR (l.terms.take 2) y.nums _ _ w3 (bM HT2.out (HKB.out HBW3.out)) HRY3.out.ints (by rw[bC];omega) (fun t ht=>by rw[HRY3.out.ok.wf.n];exact HFI.out.i.t t (eM ht));rw[HA2.out]at HAR;have HN0:Hid _:=HNM.out 0 dE;have HN1:Hid _:=HNM.out 1 dE;go_wp2_with fail;refine Calls.mono HAR.out ?_;rintro _ w4 ⟨va,rfl,hrow,hb4⟩;have HSZ4:Hid (B≤w4.heap.size):=aX HSZ3.out hb4.size;have HRY4:Hid _:=HRY3.out.below hb4;have HBW4:Hid (Below B w w4):=HBW3.out.trans (hb4.mono HSZ3.out);have HLB4:Hid _:=(hb4.block _ (aY HLB3.out)).trans HLB3.out;have hints:=hrow.ints;obtain⟨aa,ca,rfl,hIA⟩:=hints;clear hb4 HAR HRY3 HBW3 HLB3 d3 hrow;generalize Ru.num y.nums (Sc.termD l.terms 0)=n0 at *;generalize Ru.num y.nums (Sc.termD l.terms 1)=n1 at *;have hr:∃b0 off0,aa=some ⟨b0,off0,none⟩∧w4.cell? ⟨b0,off0,none⟩=some (.int .i64 n0)∧w4.cell? ⟨b0,off0+1,none⟩=some (.int .i64 n1):=by
        rcases hIA with h|⟨b0,off0,h1,h2⟩
        ·cases h
        exact⟨b0,off0,h1,h2 0 (jU _),h2 1 (mX (jU _))⟩
       obtain⟨b0,off0,rfl,r0,r1⟩:=hr;clear hIA;(have d1:w4.cell? ⟨LB,1,none⟩=some (.int .i64 l.op):=by rw[aC HLB4.out];rfl);have HQ:Hid (∀z:World,Calls Tryz.prog 67 #[.int .i64 l.op, .int .i64 n0, .int .i64 n1] z fun e w'=>e=.returned (.int .i64 (Ru.reck l.op n0 n1))∧∃n,w'=z.drewN n):=fun z=>(sH l.op n0 n1 z (Ru.between_iff.mp HN0.out) (Ru.between_iff.mp HN1.out)).mono fun _ _ h=>⟨h.1,0,h.2⟩;go_upto_region 10 with fail;go_quiet(first|(go_at_call 67;exact jM (HQ.out _)));have hbd:=bY w4 nq;have HSZ5:Hid (B≤(w4.drewN nq).heap.size):=aX HSZ4.out hbd.size;have HRY5:Hid _:=HRY4.out.below hbd;have HBW5:Hid (Below B w (w4.drewN nq)):=HBW4.out.trans (hbd.mono HSZ4.out);have HLB5:Hid _:=(hbd.block _ (aY HLB4.out)).trans HLB4.out;clear hbd r0 r1 d1 HRY4 HBW4 HLB4 HQ;obtain⟨v,hv,hvm⟩:=Ru.unknown_var HKV.out (HIN.out 2 dE);have HST0:Hid (Sc.isNum (Ru.calc3 l y.nums)=false→Ru.reck1 y l=none):=fun h=>Ru.reck1_none HCON.out h;(have HST1:Hid (Sc.isNum (Ru.calc3 l y.nums)=true→Ru.reck1 y l=some ⟨y.nums.set v (Ru.calc3 l y.nums),y.known.set v true⟩):=fun h=>by have :=Ru.reck1_some HCON.out h;rw[hv,dI]at this;exact this);rw[hv]at HV0;rw[←HC3.out];clear hv;generalize Ru.calc3 l y.nums=x at *;generalize w4.drewN nq=w5 at *;have HNU:Hid _:=kT x w5;go_wp2_with fail;refine Calls.mono HNU.out ?_;rintro _ w6 ⟨rfl,rfl⟩;cases hn:Sc.isNum x
       ·(have HEN:Hid (Ru.reckN r.body (r.body.length+1) y0=none):=by show _=_;rw[HRN.out,HRN2.out,HRR.out,HRD.out,HST0.out hn]);go_wp2_with fail;go_ret;exact⟨.inl ⟨HEN.out,rfl⟩,HBW5.out⟩
       (have HNX:Hid (Ru.reckR r.body ya=Ru.reckR (r.body.drop (k+1)) ⟨y.nums.set v x,y.known.set v true⟩):=by show _=_;rw[HRR.out,HRD.out,HST1.out hn]);obtain⟨NB,SB,cN,cS,e1,e2,hNB,hSB,hne⟩:=HRY5.out.forms oM;injection e1 with e1 _ e3;injection e2 with e2 _ e4;subst e1 e2 e3 e4;have HRY5':Hid (Rows2 B w6 (.slice (some ⟨NB,0,none⟩) m cn) (.slice (some ⟨SB,0,none⟩) m cs) m y):=HRY5.out;have hnl:=HRY5'.out.ok.wf.n;have hkl:=HRY5'.out.ok.wf.k;(have cN:w6.cell? ⟨NB,v,none⟩=some (.int .i64 (y.nums.getD v 0)):=by rw[World.ownsRow.cellAt HRY5'.out.n v oM,bK,aG oM,aE,aG oM];rfl);(have fN:w6.frozen? ⟨NB,v,none⟩=false:=World.ownsRow.frozenAt HRY5'.out.n v;have HLNB:Hid (¬LB=NB):=fun e=>by have h9:=HLB5.out;rw[e]at h9;have :=jL HRY5'.out.n rfl h9;cases this);((have HLSB:Hid (¬LB=SB):=fun e=>by have h9:=HLB5.out;rw[e]at h9;have :=jL HRY5'.out.s rfl h9;cases this);have HPUT:Hid _:=HRY5'.out.put hne v x hn;(have d3:w6.cell? ⟨LB,3,none⟩=some (.slice (some ⟨tb,toff,none⟩) 3 ct):=by rw[aC HLB5.out];show some (Value.slice _ l.terms.length ct)=_;rw[HH3.out]);have tv:=aD (HKB.out HBW5.out) HV0.out;have HBW6:Hid (Below B w (w6.setCell ⟨NB,v,none⟩ (.int .i64 x))):=HBW5.out.setCell (p:=⟨NB,v,none⟩) hNB _;have HBW7:Hid (Below B w ((w6.setCell ⟨NB,v,none⟩ (.int .i64 x)).setCell ⟨SB,v,none⟩ (.bool true))):=HBW6.out.setCell (p:=⟨SB,v,none⟩) hSB _;(have HD6:Hid ((w6.setCell ⟨NB,v,none⟩ (.int .i64 x)).cell? ⟨LB,3,none⟩=some (.slice (some ⟨tb,toff,none⟩) 3 ct)):=by show _=_;rw[fP (a:=⟨LB,3,none⟩) (bH HLNB.out)];exact d3);have HT6:Hid _:=aD (HKB.out HBW6.out) HV0.out;have HC6:Hid ((w6.setCell ⟨NB,v,none⟩ (.int .i64 x)).cell? ⟨SB,v,none⟩=some (.bool (y.known.getD v false))∧(w6.setCell ⟨NB,v,none⟩ (.int .i64 x)).frozen? ⟨SB,v,none⟩=false):=by have hs6:(w6.setCell ⟨NB,v,none⟩ (.int .i64 x)).ownsRow B 4 1 (.slice (some ⟨SB,0,none⟩) m cs) m (y.known.map Value.bool):=dY HRY5'.out.s (fun g hg=>bH (fun e=>hne (by have :SB=g:=(by simpa[Value.ownBlock]using hg);omega)));refine⟨?_,World.ownsRow.frozenAt hs6 v⟩;rw[World.ownsRow.cellAt hs6 v oM,bK,aG oM,aE,aG oM];rfl);clear hnl hkl;generalize y.nums.getD v 0=nv at *;generalize y.known.getD v false=kv at *;go_upto_region 14 with fail;generalize w6.setCell ⟨NB,v,none⟩ (.int .i64 x)=w7 at *;have d37:=HD6.out;have tv7:=HT6.out;obtain⟨cS7,fS7⟩:=HC6.out;clear d3 tv cN fN;go_wp2_with fail;go_roundw;(case rel=>exact⟨k+1,_,hlt,gN,HNX.out,HPUT.out,HBW7.out⟩);case measure=>exact mI
      (have HNX:Hid (Ru.reckR r.body ya=Ru.reckR (r.body.drop (k+1)) y):=by show _=_;rw[HRR.out,HRD.out,Ru.reck1_skip (fun h=>h.2.2 Hb2.out)]);go_wp2_with fail;go_roundw;(case rel=>exact⟨k+1,y,hlt,gN,HNX.out,HRY3.out,HBW3.out⟩);case measure=>exact mI
     (have g4:(l.kind != 4)=true:=by simpa using h4);(have HNX:Hid (Ru.reckR r.body ya=Ru.reckR (r.body.drop (k+1)) y):=by show _=_;rw[HRR.out,HRD.out,Ru.reck1_skip (fun h=>h4 h.1)]);clear h4;go_wp2_with fail;go_roundw;(case rel=>exact⟨k+1,y,hlt,gN,HNX.out,HRY1.out,HBW1.out⟩);case measure=>exact mI
    have hdd:decide (k<r.body.length)=false:=decide_eq_false hlt;(have HNX:Hid (Ru.reckN r.body (r.body.length+1) y0=Ru.reckN r.body (r.body.length+1-(a+1)) y):=by show _=_;rw[HRN.out,HRN2.out,HRR.out,aL oM];rfl);go_wp2_with fail;go_roundw;(case rel=>exact⟨a+1,y,oM,gN,HNX.out,HRY.out,HBW.out⟩);case measure=>exact mI
  have gal:decide ((a:Int)≤(r.body.length:Int))=false:=decide_eq_false oM;(have HE:Hid (Ru.reckN r.body (r.body.length+1) y0=some ya):=by show _=_;rw[HRN.out,show r.body.length+1-a=0 from by omega];rfl);go_wp2_with fail;go_ret;exact⟨.inr ⟨ya,HE.out,rfl,HRY.out⟩,HBW.out⟩
def wrong5TvT(LB FB:Nat)(VT VS VN VF:Value)(l:Sc.Lit)(hb:Bool):Nat→Value
 |27=>.pointer (some ⟨LB,3,none⟩)
 |28=>VT
 |29=>VS
 |30=>.bool true
 |31=>.bool true
 |32=>plitVal l VT
 |33=>VN
 |34=>.pointer (some ⟨FB,0,none⟩)
 |35=>.pointer (some ⟨FB,0,none⟩)
 |36=>.pointer (some ⟨FB,5,none⟩)
 |37=>VF
 |38=>.bool hb
 |39=>.bool (!hb)
 |40=>.bool (!hb)
 |_=>.bool false
def wrong5TvF(LB:Nat)(VT VS:Value):Nat→Value
 |27=>.pointer (some ⟨LB,3,none⟩)
 |28=>VT
 |29=>VS
 |30=>.bool false
 |31=>.bool false
 |32=>undef
 |33=>undef
 |34=>undef
 |35=>undef
 |36=>undef
 |37=>undef
 |38=>undef
 |39=>undef
 |40=>.bool false
 |_=>.bool false
theorem aBT(m FB:Nat)(facts:List Rl.Fc)(r:Sc.Rule)(vt0 vb vf vo vn vs:Value)(many:Bool)(y:Ru.Way)(w:World)(hFB:FindB w FB vt0 vb vf vo r many)(hb:PLitsV w vb r.body)(hF:FactsV w vf facts)(hFl:facts.length≤1000000)(hFF:∀f,f∈facts→FFit f)(hb4:r.body.length≤4)(hL:∀l,l∈r.body→Ru.LitFine facts m l)(hN:IntsV w vn y.nums)(hS:BoolsV w vs y.known)(hY:Ru.WayOk m y):
 Calls Tryz.prog 113 #[.pointer (some ⟨FB,0,none⟩),vn,vs] w fun e w'=>e=.returned (.bool (Ru.wrong facts r.body y))∧Below w.heap.size w w':=by
 obtain⟨ab,cb,rfl,hBA⟩:=hb;obtain⟨af,cf,rfl,_⟩:=id hF;obtain⟨an,cn,rfl,_⟩:=id hN;obtain⟨as_,cs,rfl,_⟩:=id hS;have HBA:Hid _:=hBA;have HL:Hid _:=hL;have HF:Hid (FactsV w (.slice af facts.length cf) facts∧facts.length≤1000000∧∀f,f∈facts→FFit f):=⟨hF,hFl,hFF⟩;have HN:Hid (IntsV w (.slice an y.nums.length cn) y.nums):=hN;have HS:Hid (BoolsV w (.slice as_ y.known.length cs) y.known):=hS;have HY:Hid _:=hY;(have f3w:w.cell? ⟨FB,3,none⟩=some (.slice ab r.body.length cb):=by rw[aC hFB];rfl);(have f5w:w.cell? ⟨FB,5,none⟩=some (.slice af facts.length cf):=by rw[aC hFB];rfl);clear hBA hL hF hFF hN hS hFB hFl hY
 go_enter Tryz.func113,Tryz.ntmps113
 go_wp2_with fail;go_loopw [7] (fun iv wr=>∃k:Nat,k≤r.body.length∧iv=.int .i64 k∧Hid ((r.body.take k).any (fun l=>l.terms.all (Sc.known y.known)&& !Ru.holds facts l y.nums)=false)∧Hid (Below w.heap.size w wr)) (fun iv _=>r.body.length-(intOf iv).toNat);case atStart=>exact⟨0,aR _,rfl,rfl,aH _ _⟩
 case round=>
  obtain⟨k,hk,rfl,HK,HB2⟩:=hrel;have f3:=aD HB2.out f3w;by_cases hlt:k<r.body.length
  ·obtain⟨b,off,rfl,q0,q1,q2,vt,q3,hT⟩:=jK HBA.out k hlt;have HLM:Hid (Sc.litD r.body k∈r.body):=dL (mV hlt);have HLG:Hid _:=mV hlt;have p0:=aD HB2.out q0;have p1:=aD HB2.out q1;have p2:=aD HB2.out q2;have p3:=aD HB2.out q3;have HT:Hid _:=hT;obtain⟨at_,ct,rfl,_⟩:=id hT;have HFI:Hid _:=HL.out _ HLM.out;clear q0 q1 q2 q3 hT;generalize Sc.litD r.body k=l at *;go_upto_region 5 with fail;have hba:=cJ wr (.cells #[.int .i64 l.kind, .int .i64 l.op, .int .i64 l.pred, .slice at_ l.terms.length ct] 49);have HLB:Hid _:=heap_alloc_new wr (.cells #[.int .i64 l.kind, .int .i64 l.op, .int .i64 l.pred, .slice at_ l.terms.length ct] 49);have HB3:Hid (Below w.heap.size w (wr.alloc (.cells #[.int .i64 l.kind, .int .i64 l.op, .int .i64 l.pred, .slice at_ l.terms.length ct] 49))):=HB2.out.trans (hba.mono HB2.out.size);clear p0 p1 p2 p3 f3 hba HB2;generalize hLBn:wr.heap.size=LB at *;generalize wr.alloc (.cells #[.int .i64 l.kind, .int .i64 l.op, .int .i64 l.pred, .slice at_ l.terms.length ct] 49)=wa at *;clear hLBn;(have d0:wa.cell? ⟨LB,0,none⟩=some (.int .i64 l.kind):=by rw[aC HLB.out];rfl);(have d1:wa.cell? ⟨LB,1,none⟩=some (.int .i64 l.op):=by rw[aC HLB.out];rfl);(have d2:wa.cell? ⟨LB,2,none⟩=some (.int .i64 l.pred):=by rw[aC HLB.out];rfl);(have d3:wa.cell? ⟨LB,3,none⟩=some (.slice at_ l.terms.length ct):=by rw[aC HLB.out];rfl);have f5:=aD HB3.out f5w;(have HRE:Hid (∀y_,Below wa.heap.size wa y_→Calls Tryz.prog 167 #[.slice at_ l.terms.length ct, .slice as_ y.known.length cs] y_ fun e w'=>e=.returned (.bool (l.terms.all (Sc.known y.known)))∧Below y_.heap.size y_ w'):=fun y_ hb=>by have hb':Below w.heap.size w y_:=HB3.out.trans (hb.mono HB3.out.size);exact mN l.terms y.known _ _ y_ (bM HT.out hb') (wT HS.out hb') (by rw[HY.out.wf.k];exact HFI.out.i.t) (by have :=HFI.out.s;omega));(have HLH:Hid (∀y_,Below wa.heap.size wa y_→Calls Tryz.prog 24 #[plitVal l (.slice at_ l.terms.length ct), .slice an y.nums.length cn, .slice af facts.length cf] y_ fun e w'=>e=.returned (.bool (Ru.holds facts l y.nums))∧Below y_.heap.size y_ w'):=fun y_ hb=>by have hb':Below w.heap.size w y_:=HB3.out.trans (hb.mono HB3.out.size);exact tS facts l y.nums _ _ _ y_ (bM HT.out hb') (aK HN.out hb') (aI HF.out.1 hb') HF.out.2.1 HF.out.2.2 HY.out.wf.n HFI.out HY.out.nm);obtain⟨hb,HHB⟩:∃hb,Hid (Ru.holds facts l y.nums=hb):=⟨_,rfl⟩;rw[HHB.out]at HLH;cases hb1:l.terms.all (Sc.known y.known)
   ·have HB1:Hid _:=hb1;rw[hb1]at HRE;clear hb1 HLH;refine eJ (fun tQ vQ _=>vQ=wrong5TvF LB (.slice at_ l.terms.length ct) (.slice as_ y.known.length cs) tQ) kR kR (fun _ _ _ _ _ h=>h) ?hop ?hend
    case hop=>
     refine oC (fun a y_ h=>by have e8:a.eval (.tmp 8)=(.pointer (some ⟨LB,0,none⟩):Value):=h.old 8;exact opX (.pointer (some ⟨LB,3,none⟩))) ?_;refine oC (fun a y_ h=>by have e27:a.eval (.tmp 27)=(.pointer (some ⟨LB,3,none⟩):Value):=h.of 27;have c3:=aD h.below d3;exact opX (.slice at_ l.terms.length ct)) ?_;refine oC (fun a y_ h=>by have e2:a.eval (.tmp 2)=(.slice as_ y.known.length cs:Value):=h.old 2;exact opX (.slice as_ y.known.length cs)) ?_;refine oC (fun a y_ h=>?_) ?_
     ·have e28:a.eval (.tmp 28)=(.slice at_ l.terms.length ct:Value):=h.of 28;have e29:a.eval (.tmp 29)=(.slice as_ y.known.length cs:Value):=h.of 29;refine dD (f:=167) (args:=#[.slice at_ l.terms.length ct, .slice as_ y.known.length cs]) (aM rfl) ?_ ?_
      ·have ec:=evc a;have ef:=evf a;generalize a.eval=ev at *;clear h;go_simp
      refine Calls.mono (HRE.out y_ h.below) ?_;rintro _ y2 ⟨rfl,hb2⟩;exact⟨_,rfl,fun t ht=>by cases ht;exact rfl,hb2⟩
     refine oC (fun a y_ h=>by have e30:a.eval (.tmp 30)=(.bool false:Value):=h.of 30;exact opX (.bool false)) ?_;refine oC (fun a y_ h=>by exact opS (h.of 31)) ?_;refine oC (fun a y_ h=>by exact opS (h.of 31)) ?_;refine oC (fun a y_ h=>by exact opS (h.of 31)) ?_;refine oC (fun a y_ h=>by exact opS (h.of 31)) ?_;refine oC (fun a y_ h=>by exact opS (h.of 31)) ?_;refine oC (fun a y_ h=>by exact opS (h.of 31)) ?_;refine oC (fun a y_ h=>by exact opS (h.of 31)) ?_;refine oC (fun a y_ h=>by exact opS (h.of 31)) ?_;refine oC (fun a y_ h=>by have e31:a.eval (.tmp 31)=(.bool false:Value):=h.of 31;have e39:a.eval (.tmp 39)=(undef:Value):=h.of 39;exact opX (.bool false)) ?_;exact AllOps.nil
    case hend=>rintro⟨tm,df⟩ wE hbE hdE hsE hstE hTE;have h40:tm.getD 40 undef=.bool false:=iI (T:=fun tQ vQ _=>vQ=wrong5TvF LB (.slice at_ l.terms.length ct) (.slice as_ y.known.length cs) tQ) (w:=wE) (a:=⟨tm,df⟩) (t:=40) hTE kR;obtain rfl:df=[]:=hdE;obtain⟨fQ,hQ,hFE⟩:=fH [27,28,29,30,31,32,33,34,35,36,37,38,39,40] tm _ hsE hstE;clear hsE hstE hTE;simp only[cL,dB,(hQ 40).trans h40]at hFE;clear h40 hQ;simp only[aV,bS,bV]at hFE;subst hFE;(have HK2:Hid ((r.body.take (k+1)).any (fun l=>l.terms.all (Sc.known y.known)&& !Ru.holds facts l y.nums)=false):=by show _=_;rw[cY,List.any_append,HK.out,HLG.out];show(l.terms.all (Sc.known y.known)&& !Ru.holds facts l y.nums||false)=false;rw[HB1.out];rfl);go_wp2_with fail;go_roundw;(case rel=>exact⟨k+1,hlt,gN,HK2.out,HB3.out.trans (hbE.mono HB3.out.size)⟩);case measure=>exact mI
   have HB1:Hid _:=hb1;rw[hb1]at HRE;clear hb1;refine eJ (fun tQ vQ _=>vQ=wrong5TvT LB FB (.slice at_ l.terms.length ct) (.slice as_ y.known.length cs) (.slice an y.nums.length cn) (.slice af facts.length cf) l hb tQ) kR kR (fun _ _ _ _ _ h=>h) ?hop ?hend
   case hop=>
    refine oC (fun a y_ h=>by have e8:a.eval (.tmp 8)=(.pointer (some ⟨LB,0,none⟩):Value):=h.old 8;exact opX (.pointer (some ⟨LB,3,none⟩))) ?_;refine oC (fun a y_ h=>by have e27:a.eval (.tmp 27)=(.pointer (some ⟨LB,3,none⟩):Value):=h.of 27;have c3:=aD h.below d3;exact opX (.slice at_ l.terms.length ct)) ?_;refine oC (fun a y_ h=>by have e2:a.eval (.tmp 2)=(.slice as_ y.known.length cs:Value):=h.old 2;exact opX (.slice as_ y.known.length cs)) ?_;refine oC (fun a y_ h=>?_) ?_
    ·have e28:a.eval (.tmp 28)=(.slice at_ l.terms.length ct:Value):=h.of 28;have e29:a.eval (.tmp 29)=(.slice as_ y.known.length cs:Value):=h.of 29;refine dD (f:=167) (args:=#[.slice at_ l.terms.length ct, .slice as_ y.known.length cs]) (aM rfl) ?_ ?_
     ·have ec:=evc a;have ef:=evf a;generalize a.eval=ev at *;clear h;go_simp
     refine Calls.mono (HRE.out y_ h.below) ?_;rintro _ y2 ⟨rfl,hb2⟩;exact⟨_,rfl,fun t ht=>by cases ht;exact rfl,hb2⟩
    refine oC (fun a y_ h=>by have e30:a.eval (.tmp 30)=(.bool true:Value):=h.of 30;exact opX (.bool true)) ?_;refine oC (fun a y_ h=>by have e8:a.eval (.tmp 8)=(.pointer (some ⟨LB,0,none⟩):Value):=h.old 8;have c0:=aD h.below d0;have c1:=aD h.below d1;have c2:=aD h.below d2;have c3:=aD h.below d3;refine cP (v:=plitVal l (.slice at_ l.terms.length ct)) (w':=y_) (wG (h.of 31)) ?_ tR (aH _ _);have ec:=evc a;generalize a.eval=ev at *;clear h;go_simp) ?_;refine oC (fun a y_ h=>by have e1:a.eval (.tmp 1)=(.slice an y.nums.length cn:Value):=h.old 1;refine cP (v:=.slice an y.nums.length cn) (w':=y_) (wG (h.of 31)) ?_ tR (aH _ _);have ec:=evc a;generalize a.eval=ev at *;clear h;go_simp) ?_;refine oC (fun a y_ h=>by have e0:a.eval (.tmp 0)=(.pointer (some ⟨FB,0,none⟩):Value):=h.old 0;refine cP (v:=.pointer (some ⟨FB,0,none⟩)) (w':=y_) (wG (h.of 31)) ?_ tR (aH _ _);have ec:=evc a;generalize a.eval=ev at *;clear h;go_simp) ?_;refine oC (fun a y_ h=>by have e34:a.eval (.tmp 34)=(.pointer (some ⟨FB,0,none⟩):Value):=h.of 34;refine cP (v:=.pointer (some ⟨FB,0,none⟩)) (w':=y_) (wG (h.of 31)) ?_ tR (aH _ _);have ec:=evc a;generalize a.eval=ev at *;clear h;go_simp) ?_;refine oC (fun a y_ h=>by have e35:a.eval (.tmp 35)=(.pointer (some ⟨FB,0,none⟩):Value):=h.of 35;refine cP (v:=.pointer (some ⟨FB,5,none⟩)) (w':=y_) (wG (h.of 31)) ?_ tR (aH _ _);have ec:=evc a;generalize a.eval=ev at *;clear h;go_simp) ?_;refine oC (fun a y_ h=>by have e36:a.eval (.tmp 36)=(.pointer (some ⟨FB,5,none⟩):Value):=h.of 36;have c5:=aD h.below f5;refine cP (v:=.slice af facts.length cf) (w':=y_) (wG (h.of 31)) ?_ tR (aH _ _);have ec:=evc a;generalize a.eval=ev at *;clear h;go_simp) ?_;refine oC (fun a y_ h=>?_) ?_
    ·have e32:a.eval (.tmp 32)=(plitVal l (.slice at_ l.terms.length ct):Value):=h.of 32;have e33:a.eval (.tmp 33)=(.slice an y.nums.length cn:Value):=h.of 33;have e37:a.eval (.tmp 37)=(.slice af facts.length cf:Value):=h.of 37;refine dD (f:=24) (args:=#[plitVal l (.slice at_ l.terms.length ct), .slice an y.nums.length cn, .slice af facts.length cf]) (wG (h.of 31)) ?_ ?_
     ·have ec:=evc a;have ef:=evf a;generalize a.eval=ev at *;clear h;go_simp
     refine Calls.mono (HLH.out y_ h.below) ?_;rintro _ y2 ⟨rfl,hb2⟩;exact⟨_,rfl,fun t ht=>by cases ht;exact rfl,hb2⟩
    refine oC (fun a y_ h=>by have e38:a.eval (.tmp 38)=(.bool hb:Value):=h.of 38;refine cP (v:=.bool (!hb)) (w':=y_) (wG (h.of 31)) ?_ tR (aH _ _);have ec:=evc a;generalize a.eval=ev at *;clear h;go_simp) ?_;refine oC (fun a y_ h=>by have e31:a.eval (.tmp 31)=(.bool true:Value):=h.of 31;have e39:a.eval (.tmp 39)=(.bool (!hb):Value):=h.of 39;exact opX (.bool (!hb))) ?_;exact AllOps.nil
   case hend=>
    rintro⟨tm,df⟩ wE hbE hdE hsE hstE hTE;have h40:tm.getD 40 undef=.bool (!hb):=iI (T:=fun tQ vQ _=>vQ=wrong5TvT LB FB (.slice at_ l.terms.length ct) (.slice as_ y.known.length cs) (.slice an y.nums.length cn) (.slice af facts.length cf) l hb tQ) (w:=wE) (a:=⟨tm,df⟩) (t:=40) hTE kR;obtain rfl:df=[]:=hdE;obtain⟨fQ,hQ,hFE⟩:=fH [27,28,29,30,31,32,33,34,35,36,37,38,39,40] tm _ hsE hstE;clear hsE hstE hTE;simp only[cL,dB,(hQ 40).trans h40]at hFE;clear h40 hQ;simp only[aV,bS,bV]at hFE;subst hFE;cases hb
    ·(have HE:Hid (Ru.wrong facts r.body y=true):=by show _=_;unfold Ru.wrong;exact gT.mpr ⟨_,HLM.out,by rw[HB1.out,HHB.out];rfl⟩);go_wp2_with fail;go_ret;exact⟨by rw[HE.out];rfl,HB3.out.trans (hbE.mono HB3.out.size)⟩
    (have HK2:Hid ((r.body.take (k+1)).any (fun l=>l.terms.all (Sc.known y.known)&& !Ru.holds facts l y.nums)=false):=by show _=_;rw[cY,List.any_append,HK.out,HLG.out];show(l.terms.all (Sc.known y.known)&& !Ru.holds facts l y.nums||false)=false;rw[HHB.out,HB1.out];rfl);go_wp2_with fail;go_roundw;(case rel=>exact⟨k+1,hlt,gN,HK2.out,HB3.out.trans (hbE.mono HB3.out.size)⟩);case measure=>exact mI
  have hdd:decide (k<r.body.length)=false:=decide_eq_false hlt;(have HE:Hid (Ru.wrong facts r.body y=false):=by show _=_;have :=HK.out;rw[cH oM]at this;exact this);go_wp2_with fail;go_ret;exact⟨by rw[HE.out];rfl,HB2.out⟩
namespace Ru
abbrev Out:=List (List Int)×Bool
def stepO(s:Out)(x:List Int):Out:=if s.2=true then s else if s.1.length=2000 then(s.1,true)else(s.1++[x],false)
def runO(s:Out)(L:List (List Int)):Out:=L.foldl stepO s
theorem runO_many{s:Out}(h:s.2=true):∀L,runO s L=s
 |[]=>rfl
 |x::L=>by show runO (stepO s x) L=s;rw[show stepO s x=s from if_pos h];exact runO_many h L
theorem runO_append(s:Out)(L M:List (List Int)):runO s (L++M)=runO (runO s L) M:=kF
theorem stepO_le{s:Out}(h:s.1.length≤2000)(x:List Int):(stepO s x).1.length≤2000:=by
 unfold stepO;split
 ·exact h
 split
 ·exact h
 show(s.1++[x]).length≤2000;rw[aN,jW];omega
theorem runO_le:∀(L:List (List Int)){s:Out},s.1.length≤2000→(runO s L).1.length≤2000
 |[],_,h=>h
 |x::L,_,h=>runO_le L (stepO_le h x)
def fromF(facts:List Rl.Fc)(body:List Sc.Lit)(k j:Nat)(w1:Way)(f:Rl.Fc):List (List Int):=
 if f.pred=(Sc.litD body j).pred then(match withW w1 (Sc.litD body j).terms f.args with |none=>[]|some w2=>fromN facts body k (j+1) w2)else []
theorem fromN_none{facts:List Rl.Fc}{body:List Sc.Lit}{k i:Nat}{w:Way}(h:reckN body (body.length+1) w=none):fromN facts body (k+1) i w=[]:=by unfold fromN;rw[h]
theorem fromN_wrong{facts:List Rl.Fc}{body:List Sc.Lit}{k i:Nat}{w w1:Way}(h:reckN body (body.length+1) w=some w1)(hw:wrong facts body w1=true):fromN facts body (k+1) i w=[]:=by unfold fromN;rw[h];simp only[if_pos hw]
theorem fromN_end{facts:List Rl.Fc}{body:List Sc.Lit}{k i:Nat}{w w1:Way}(h:reckN body (body.length+1) w=some w1)(hw:wrong facts body w1=false)(hi:¬skipTo body i<body.length):fromN facts body (k+1) i w=[w1.nums]:=by unfold fromN;rw[h];simp only[hw,if_neg hi];rfl
theorem fromN_go{facts:List Rl.Fc}{body:List Sc.Lit}{k i:Nat}{w w1:Way}(h:reckN body (body.length+1) w=some w1)(hw:wrong facts body w1=false)(hi:skipTo body i<body.length):fromN facts body (k+1) i w=facts.flatMap (fromF facts body k (skipTo body i) w1):=by unfold fromN;rw[h];simp only[hw,if_pos hi];rfl
theorem skipTo_lt{body:List Sc.Lit}{j:Nat}(hj:j<body.length):skipTo body j=if(Sc.litD body j).kind=1 then j else skipTo body (j+1):=by
 (have :body.drop j=Sc.litD body j::body.drop (j+1):=by rw[bG hj];unfold Sc.litD;rw[aE,aG hj];rfl);unfold skipTo;rw[this];rfl
theorem skipTo_end{body:List Sc.Lit}{j:Nat}(hj:body.length≤j):skipTo body j=j:=by unfold skipTo;rw[aL hj];rfl
theorem with1_neg{z:Way}{tv tn a:Int}(h:tv<0):with1 z ⟨tv,tn⟩ a=if tn=a then some z else none:=by(have hk:Sc.known z.known ⟨tv,tn⟩=true:=by unfold Sc.known;simp[h]);(have hn:num z.nums ⟨tv,tn⟩=tn:=by unfold num;rw[if_pos h]);unfold with1;rw[if_pos hk,hn]
theorem with1_kn{z:Way}{v:Nat}{tn a:Int}(h:z.known.getD v false=true):with1 z ⟨(v:Int),tn⟩ a=if z.nums.getD v 0=a then some z else none:=by(have hk:Sc.known z.known ⟨(v:Int),tn⟩=true:=by unfold Sc.known;dsimp only;rw[dI,h,gH]);(have hn:num z.nums ⟨(v:Int),tn⟩=z.nums.getD v 0:=by unfold num;rw[if_neg (show¬(v:Int)<0 by omega)];dsimp only;rw[dI]);unfold with1;rw[if_pos hk,hn]
theorem with1_nw{z:Way}{v:Nat}{tn a:Int}(h:z.known.getD v false=false):with1 z ⟨(v:Int),tn⟩ a=some ⟨z.nums.set v a,z.known.set v true⟩:=by(have hk:¬Sc.known z.known ⟨(v:Int),tn⟩=true:=by unfold Sc.known;dsimp only;rw[dI,h,Bool.or_false,decide_eq_true_iff];omega);unfold with1;rw[if_neg hk];dsimp only;rw[dI]
end Ru
structure FindI (FB:Nat) (vt vb vf:Value) (r:Sc.Rule) (s:Ru.Out) (q:List (List Int×Value)) (vo:Value) (w:World):Prop where
 hq:q.map (·.1)=s.1
 b:FindB w FB vt vb vf vo r s.2
 o:w.ownsRow (FB+1) 22 1 vo q.length (q.map (·.2))
 hr:∀p,p∈q→w.ownsRow (FB+1) 3 1 p.2 p.1.length (p.1.map (Value.int .i64))
theorem FindI.below{FB:Nat}{vt vb vf:Value}{r:Sc.Rule}{s:Ru.Out}{q:List (List Int×Value)}{vo:Value}{w w':World}(h:FindI FB vt vb vf r s q vo w)(hb:Below w.heap.size w w'):FindI FB vt vb vf r s q vo w':=
 ⟨h.hq,(hb.block _ (aY h.b)).trans h.b,aU h.o hb,fun p hp=>aU (h.hr p hp) hb⟩
theorem FindI.lt{FB:Nat}{vt vb vf:Value}{r:Sc.Rule}{s:Ru.Out}{q:List (List Int×Value)}{vo:Value}{w:World}(h:FindI FB vt vb vf r s q vo w):FB<w.heap.size:=aY h.b
theorem Rows2.keep{B n0 NB:Nat}{w w':World}{vn vs:Value}{m:Nat}{y:Ru.Way}(h:Rows2 B w vn vs m y)(hk:Kp n0 NB w w')(hB:NB<B):Rows2 B w' vn vs m y:=
 ⟨dY h.n (fun g hg=>by
  obtain⟨h1,h2⟩:=h.n;rcases h2 with⟨h2,_⟩|⟨g',cap,cur,hv,hb,hh,_⟩
  ·rw[h2]at hg;cases hg
  rw[hv]at hg;(have e:g'=g:=by simpa[Value.ownBlock]using hg);subst e;rw[hh]
  exact hk.keep g' cur 3 hh oM dE),
  dY h.s (fun g hg=>by
   obtain⟨h1,h2⟩:=h.s;rcases h2 with⟨h2,_⟩|⟨g',cap,cur,hv,hb,hh,_⟩
   ·rw[h2]at hg;cases hg
   rw[hv]at hg;(have e:g'=g:=by simpa[Value.ownBlock]using hg);subst e;rw[hh]
   exact hk.keep g' cur 4 hh oM dE),h.ok⟩
theorem Kp.setB{n0 NB o:Nat}{w:World}(h:n0≤NB)(v:Value):Kp n0 NB w (w.setCell ⟨NB,o,none⟩ v):=
 ⟨rfl,rfl,rfl,by simp,fun k hk=>bH oM,fun k c t hk hne _=>(bH hne).trans hk⟩
theorem FindI.other{FB:Nat}{vt vb vf:Value}{r:Sc.Rule}{s s':Ru.Out}{q:List (List Int×Value)}{vo vo':Value}{w:World}{o:Nat}{v:Value}(h:FindI FB vt vb vf r s q vo w)(hs:q.map (·.1)=s'.1)(hb:FindB (w.setCell ⟨FB,o,none⟩ v) FB vt vb vf vo' r s'.2)(hv:vo'=vo):FindI FB vt vb vf r s' q vo' (w.setCell ⟨FB,o,none⟩ v):=by subst hv;exact⟨hs,hb,dY h.o (fun g hg=>bH (fun e=>by have :=(h.o.lt g hg).1;omega)),fun p hp=>dY (h.hr p hp) (fun g hg=>bH (fun e=>by have :=((h.hr p hp).lt g hg).1;omega))⟩
theorem FindI.many{FB:Nat}{vt vb vf:Value}{r:Sc.Rule}{sl:List (List Int)}{q:List (List Int×Value)}{vo:Value}{w:World}(h:FindI FB vt vb vf r (sl,false) q vo w):FindI FB vt vb vf r (sl,true) q vo (w.setCell ⟨FB,7,none⟩ (.bool true)):=
 h.other h.hq (by unfold FindB;rw[bL h.b];rfl) rfl
theorem FindI.push{FB n0 B m:Nat}{vt vb vf vo v9 u:Value}{r:Sc.Rule}{sl:List (List Int)}{q:List (List Int×Value)}{w w9:World}{x:List Int}(h:FindI FB vt vb vf r (sl,false) q vo w)(hn0:n0≤FB)(hB:FB+1≤B)(hxm:x.length=m)(hu:w.ownsRow B 3 1 u m (x.map (Value.int .i64)))(ho:w9.ownsRow (FB+1) 22 1 v9 (q.length+1) (q.map (·.2)++[u]))(hg:w.grownBy w9 vo.ownBlock):
 FindI FB vt vb vf r (sl++[x],false) (q++[(x,u)]) v9 (w9.setCell ⟨FB,6,none⟩ v9)∧Kp n0 FB w (w9.setCell ⟨FB,6,none⟩ v9):=by
 have hown:∀kQ,vo.ownBlock=some kQ→FB+1≤kQ:=fun kQ hk=>(h.o.lt kQ hk).1;have hot:∀(k:Nat)(c:Array Value)(t:TypeId),w.heap[k]?=some (.cells c t)→t≠22→w9.heap[k]?=some (.cells c t):=fun k c t hk ht=>(hg.block k (aY hk) (fun e=>ht (jL h.o e.symm hk))).trans hk;have hF9:=hot _ _ _ h.b dE;have hoth:∀(k:Nat)(c:Array Value)(t:TypeId),w.heap[k]?=some (.cells c t)→k≠FB→t≠22→(w9.setCell ⟨FB,6,none⟩ v9).heap[k]?=some (.cells c t):=fun k c t hk hne ht=>(bH hne).trans (hot k c t hk ht);have h3:∀(B' n:Nat)(xs:List Value)(z:Value),w.ownsRow B' 3 1 z n xs→(w9.setCell ⟨FB,6,none⟩ v9).ownsRow B' 3 1 z n xs:=fun B' n xs z hz=>fF hz (fun k c hk=>hoth k c 3 hk (fun e=>by rw[e,h.b]at hk;injection hk with hk;injection hk with _ hk;cases hk) dE);refine⟨⟨by rw[bJ];show _++[x]=_;rw[h.hq],by unfold FindB;rw[bL hF9];rfl,?_,fun p hp=>?_⟩,hg.os,hg.tape,hg.output,by simpa using hg.size,fun k hk=>(bH oM).trans (hg.block k (by have :=h.lt;omega) (fun e=>by have :=hown k e.symm;omega)),hoth⟩
 ·rw[aN,bJ];exact dY ho (fun g hgq=>bH (fun e=>by have :=(ho.lt g hgq).1;omega))
 rcases bX.mp hp with hp|hp
 ·exact h3 _ _ _ _ (h.hr p hp)
 rcases bI.mp hp with rfl;show World.ownsRow _ (FB+1) 3 1 u x.length _;rw[hxm];exact dP (h3 _ _ _ _ hu) hB
theorem xK:(Tryz.prog.info? 4).map (fun i=>(i.zero,i.size,i.bytes))=some (some (.bool false),1,1):=kR
theorem nX{w:World}{ops:Array Oper}{rest:List Oper}{o:Oper}{a:Act}{Q:Exit→Act→World→Prop}(hgd:o.guard=none)(s x:Operand)(t e:TypeId)(i0:TypeInfo)(z:Value)(bytes:Nat)
 (ho:o.op=.call {callee:=.builtin .append,args:=#[s,x],argTypes:=#[t,t]}) (ht:Tryz.prog.underlying t=some (.slice e)) (hi:Tryz.prog.info? e=some i0) (hz0:i0.zero=some z) (hz1:i0.size=1) (hz2:i0.bytes=bytes) (hzc:z.cells.size=1) (hby:bytes≤8)
 (base B m:Nat) (v u:Value) (xs:List Value) (hs:a.eval s=v) (hx:a.eval x=u) (hown:w.ownsRow base e 1 v 0 []) (hsrc:w.ownsRow B e 1 u m xs) (h1:∀c,c∈xs→c.oneCell'=true) (hm:m≤1000) (hbase:base≤w.heap.size)
 (h:∀v' w',w'.ownsRow base e 1 v' m xs→w.grownBy w' v.ownBlock→wpList Tryz.prog ops Q rest (a.put o.dst v') w'):wpList Tryz.prog ops Q (o::rest) a w:=by
 rcases id hsrc.2 with⟨hu,h0⟩|⟨g,cap,cur,hu,_⟩
 ·have hxs:xs=[]:=cQ (by rw[hsrc.1,h0]);refine wpList_append_own_none hgd s x t ho base e i0 1 ht hi v 0 [] hs hown (by rw[hx,hu]) ?_;refine h v w (by rw[h0,hxs];exact hown) ⟨rfl,rfl,rfl,aF _,fun _ _ _=>rfl⟩
 subst hu;refine wpList_append_own w hgd s x t ho base e i0 z 1 bytes ht hi hz0 hz1 hz2 hzc dE v 0 [] hs hown ⟨g,0,none⟩ m cap xs hx (by rw[hsrc.1]) (fun j c hj=>?_) h1 (by unfold maxLen;omega) ?_ hbase ?_
 ·have hlt:j<m:=by
   have :=hsrc.1;rcases dF j xs.length with h9|h9
   ·omega
   rw[bR h9]at hj;cases hj
  rw[Addr.add_lit,cV,World.ownsRow.cellAt hsrc j oM];exact hj
 ·rw[cV];exact aX (Nat.mul_le_mul hm hby) dE
 intro v' w' ho9 hg9 _;rw[cV,eW]at ho9;exact h v' w' ho9 hg9

def harm(ops:Array Oper)(wr:Nat→Bool)(surv:Nat→Nat→Bool)(i j:Nat):Bool:=(wr i&&decide (i<ops.size))&& !decide (i=j)&& !reach ops 12 j i&& !(((ops[j]?).map fun o=>(o.dst.map (surv i)).getD true).getD true)
def okEdge(ops:Array Oper)(wr:Nat→Bool)(surv:Nat→Nat→Bool)(m j:Nat):Bool:=(List.range ops.size).all fun i=> !harm ops wr surv i j||(i==m||reach ops 12 i m)
def waitsForH(ops:Array Oper)(wr:Nat→Bool)(surv:Nat→Nat→Bool)(m:Nat)(o:Oper)(t:Nat):Bool:=o.after.toList.any fun e=>Region.binds .any e&&okEdge ops wr surv m e.on&&((ops[e.on]?).map fun o'=>o'.dst==some t).getD false
def unharmed(ops:Array Oper)(wr:Nat→Bool)(surv:Nat→Nat→Bool)(i:Nat):Bool:=(List.range ops.size).all fun k=> !harm ops wr surv k i
def preFine(ops:Array Oper)(wr:Nat→Bool)(m:Nat):Bool:=(List.range ops.size).all fun i=> !wr i||(i==m||reach ops 12 i m)
structure OpInW (R:World→World→Prop) (E:Nat→World→Prop) (ops:Array Oper) (wr:Nat→Bool) (surv:Nat→Nat→Bool) (T:Nat→Value→World→Prop) (a0:Act) (w0:World) (m:Nat) (o:Oper) (a:Act) (w:World):Prop where
 below:R w0 w
 still:∀t,t∉ops.toList.filterMap (·.dst)→a.tmps.getD t undef=a0.tmps.getD t undef
 has:∀e,e∈o.after→Region.binds .any e=true→okEdge ops wr surv m e.on=true→∀(o':Oper)(t:Nat),ops[e.on]?=some o'→o'.dst=some t→T t (a.tmps.getD t undef) w
 wrote:∀e,e∈o.after→Region.binds .any e=true→wr e.on=true→E e.on w
 pre:preFine ops wr m=true→Below w0.heap.size w0 w
theorem OpInW.of{R:World→World→Prop}{E:Nat→World→Prop}{ops:Array Oper}{wr:Nat→Bool}{surv:Nat→Nat→Bool}{T:Nat→Value→World→Prop}{a0:Act}{w0:World}{m:Nat}{o:Oper}{a:Act}{w:World}(h:OpInW R E ops wr surv T a0 w0 m o a w)(t:Nat)(hw:waitsForH ops wr surv m o t=true:=by kernel_rfl):T t (a.tmps.getD t undef) w:=by
 unfold waitsForH at hw;obtain⟨e,he,hb⟩:=gT.mp hw;rw[aW,aW]at hb
 cases ho:ops[e.on]? with
 |none=>rw[ho]at hb;simp at hb
 |some o'=>
  rw[ho,dG,dH]at hb;exact h.has e (by simpa using he) hb.1.1 hb.1.2 o' t ho (by simpa using hb.2)
theorem OpInW.old{R:World→World→Prop}{E:Nat→World→Prop}{ops:Array Oper}{wr:Nat→Bool}{surv:Nat→Nat→Bool}{T:Nat→Value→World→Prop}{a0:Act}{w0:World}{m:Nat}{o:Oper}{a:Act}{w:World}(h:OpInW R E ops wr surv T a0 w0 m o a w)(t:Nat)(hs:stays ops t=true:=by kernel_rfl):a.tmps.getD t undef=a0.tmps.getD t undef:=by refine h.still t fun hm=>?_;unfold stays at hs;simp[hm]at hs
structure TabbedW (R:World→World→Prop) (E:Nat→World→Prop) (ops:Array Oper) (wr:Nat→Bool) (surv:Nat→Nat→Bool) (T:Nat→Value→World→Prop) (a0:Act) (w0:World) (s:Array Bool) (a:Act) (w:World):Prop where
 below:R w0 w
 defers:a.defers=a0.defers
 size:a.tmps.size=a0.tmps.size
 still:∀t,t∉ops.toList.filterMap (·.dst)→a.tmps.getD t undef=a0.tmps.getD t undef
 done:∀(i:Nat)(o:Oper)(t:Nat),s[i]?=some true→ops[i]?=some o→o.dst=some t→(∀k,harm ops wr surv k i=true→s[k]?=some false)→T t (a.tmps.getD t undef) w
 wrote:∀i,s[i]?=some true→wr i=true→E i w
 pre:(∀i,wr i=true→¬s[i]?=some true)→Below w0.heap.size w0 w
structure OpInX (R:World→World→Prop) (E:Nat→World→Prop) (ops:Array Oper) (wr:Nat→Bool) (surv:Nat→Nat→Bool) (T:Nat→Value→World→Prop) (a0:Act) (w0:World) (L:Nat) (a:Act) (w:World):Prop where
 below:R w0 w
 defers:a.defers=a0.defers
 size:a.tmps.size=a0.tmps.size
 still:∀t,t∉ops.toList.filterMap (·.dst)→a.tmps.getD t undef=a0.tmps.getD t undef
 all:∀(i:Nat)(o:Oper)(t:Nat),i<L→ops[i]?=some o→o.dst=some t→(∀k,harm ops wr surv k i=false)→T t (a.tmps.getD t undef) w
 wrote:∀i,i<L→wr i=true→E i w
theorem OpInX.of{R:World→World→Prop}{E:Nat→World→Prop}{ops:Array Oper}{wr:Nat→Bool}{surv:Nat→Nat→Bool}{T:Nat→Value→World→Prop}{a0:Act}{w0:World}{L:Nat}{a:Act}{w:World}(h:OpInX R E ops wr surv T a0 w0 L a w)(i:Nat)(o:Oper)(t:Nat)(hi:i<L)(ho:ops[i]?=some o)(hd:o.dst=some t)(hu:unharmed ops wr surv i=true):T t (a.tmps.getD t undef) w:=by
 refine h.all i o t hi ho hd fun k=>?_
 cases hk:decide (k<ops.size)with
 |true=>
  have :=bE.mp hu k (cZ.mpr (of_decide_eq_true hk));simpa using this
 |false=>unfold harm;rw[hk];simp
section
variable {P:Program} {ops:Array Oper} {Q:Exit→Act→World→Prop}
theorem mA(R:World→World→Prop)(hRt:∀a b c,R a b→R b c→R a c)(hRb:∀w w',Below w.heap.size w w'→R w w')(T:Nat→Value→World→Prop)(E:Nat→World→Prop)(L:Nat)(wr:Nat→Bool)(surv:Nat→Nat→Bool){id:Nat}{a0:Act}{w0:World}(hL:L<ops.size)(htf:tailFine ops L=true)(hm:P.follows .mixedOrders=true)
 (hf:tabFineR ops a0.tmps.size=true)
 (hmono:∀t v w w',Below w.heap.size w w'→T t v w→T t v w')
 (hmonoE:∀i w w',Below w.heap.size w w'→E i w→E i w')
 (hmonoW:∀i t v w w',wr i=true→surv i t=true→R w w'→T t v w→T t v w')
 (hop:AllOpsI (fun i o=>∀a w,OpInW R E ops wr surv T a0 w0 i o a w→(∀t,t∉(ops.toList.take L).filterMap (·.dst)→a.tmps.getD t undef=a0.tmps.getD t undef)→if wr i=true then(Region.wanted o (yielded ops a.tmps)=true∧o.wp P a w (fun a' w'=>∃v,a'=a.put o.dst v∧(∀t,o.dst=some t→T t v w')∧R w w'∧(∀j,E j w→E j w')∧E i w') Q)else OpOk P ops Q T o a w) 0 (ops.toList.take L))
 (htail:∀a w,OpInX R E ops wr surv T a0 w0 L a w→(∀t,t∉(ops.toList.take L).filterMap (·.dst)→a.tmps.getD t undef=a0.tmps.getD t undef)→wpOps P ops Q (List.range' L (ops.size-L)) a w):
 (Code.region id ops true).wp P Q a0 w0:=by
 (have hkf':∀(m j:Nat),okEdge ops wr surv m j=true→∀i,harm ops wr surv i j=true→i=m∨reach ops 12 i m=true:=fun m j hw i hh=>by(have hi:i<ops.size:=Classical.byContradiction fun hc=>by unfold harm at hh;rw[aW,aW,aW]at hh;have h9:=hh.1.1.1;rw[aW]at h9;exact hc (of_decide_eq_true h9.2));have h3:=bE.mp hw i (cZ.mpr hi);rw[hh,Bool.not_true,Bool.false_or,eA,beq_iff_eq]at h3;exact h3);unfold tailFine at htf;rw[aW]at htf;have ht1:∀j,j<L→reach ops 12 L j=true:=fun j hj=>bE.mp htf.1 j (cZ.mpr hj);(have ht2:∀i,i<ops.size→L<i→reach ops 12 i (i-1)=true:=fun i hi hLi=>by have h:=bE.mp htf.2 i (cZ.mpr hi);rw[decide_eq_true hLi]at h;simpa using h);unfold tabFineR at hf;rw[aW,aW]at hf;obtain⟨⟨hnd,hlt⟩,hah⟩:=hf;have hnd:=of_decide_eq_true hnd;have hlt':∀t,t∈ops.toList.filterMap (·.dst)→t<a0.tmps.size:=fun t ht=>of_decide_eq_true (bE.mp hlt t ht);have hah':∀(i:Nat)(o:Oper),ops[i]?=some o→∀e,e∈o.after→Region.binds .any e=true→e.on<i:=fun i o ho e he hbe=>by have hi:i<ops.size:=(aJ.mp ho).1;have h:=bE.mp hah i (cZ.mpr hi);rw[ho,dG,dH]at h;have h9:=bE.mp h e (by simpa using he);rw[hbe]at h9;exact of_decide_eq_true (by simpa using h9)
 refine gO (fun s a w=>(s.size=ops.size∧Closed ops s)∧(((∀i,L≤i→i<ops.size→s[i]?=some false)∧(∀t,t∉(ops.toList.take L).filterMap (·.dst)→a.tmps.getD t undef=a0.tmps.getD t undef)∧TabbedW R E ops wr surv T a0 w0 s a w)∨
  (∃m,L≤m∧m≤ops.size∧(∀i,i<m→s[i]?=some true)∧(∀i,m≤i→i<ops.size→s[i]?=some false)∧wpOps P ops Q (List.range' m (ops.size-m)) a w))) hm ?_ ?_ ?_
 ·rintro s a w hr ⟨⟨hs,hC⟩,hI⟩;have hall:∀n:Nat,n≤ops.size→∀i:Nat,i<n→s[i]?=some true:=by
   intro n
   induction n with
   |zero=>intro _ i hi;exact absurd hi (fD _)
   |succ n ih=>
    intro hn i hi;have ih:=ih oM;by_cases hin:i<n
    ·exact ih i hin
    have hin:i=n:=oM;subst hin
    cases hsi:s[i]? with
    |none=>rw[dV]at hsi;omega
    |some b=>
     cases b with
     |true=>rfl
     |false=>
      exfalso;have hio:i<ops.size:=oM;have :i∈Region.ready .any ops s:=by
       unfold Region.ready;refine eX.mpr ⟨cZ.mpr hio,?_⟩;rw[aW];refine⟨by simp[Array.getD_eq_getD_getElem?,hsi],?_⟩;have ho:ops[i]?=some ops[i]:=cD hio;rw[ho,dG,dH,eI];intro e he
       cases hbe:Region.binds .any e with
       |false=>rfl
       |true=>
        have h1:=ih e.on (hah' i _ ho e he hbe);simp[Array.getD_eq_getD_getElem?,h1]
      rw[hr]at this;exact absurd this sI
  have hd:=hall ops.size (aF _);rcases hI with⟨hF,_,_⟩|⟨m,_,hm1,_,hF,hW⟩
  ·have h1:=hF L (aF _) hL;rw[hd L hL]at h1;cases h1
  by_cases hme:m=ops.size
  ·subst hme;rw[iU]at hW;exact hW
  have h1:=hF m (aF _) oM;rw[hd m oM]at h1;cases h1
 ·rintro s a w i hi ⟨⟨hs,hC⟩,hI⟩;obtain⟨hsi,o,ho,haf⟩:=iZ hi;have his:i<ops.size:=(aJ.mp ho).1;have hup:∀j,s[j]?=some true→(s.setIfInBounds i true)[j]?=some true:=fun j hj=>by
   rw[aQ];by_cases hij:i=j
   ·rw[if_pos hij,if_pos oM]
   rw[if_neg hij];exact hj
  have hss:(s.setIfInBounds i true).size=ops.size∧Closed ops (s.setIfInBounds i true):=by
   refine⟨by simp[hs],fun i' o' hi' ho' e he hb=>?_⟩;by_cases hii:i=i'
   ·subst hii;rw[ho]at ho';cases ho';exact hup _ (haf e he hb)
   rw[aQ,if_neg hii]at hi';exact hup _ (hC i' o' hi' ho' e he hb)
  have go:∀m,L≤m→m<ops.size→i=m→(∀j,j<m→s[j]?=some true)→(∀j,m≤j→j<ops.size→s[j]?=some false)→wpOps P ops Q (List.range' m (ops.size-m)) a w→
   wpOp P ops Q i (fun a' w'=>((s.setIfInBounds i true).size=ops.size∧Closed ops (s.setIfInBounds i true))∧(((∀j,L≤j→j<ops.size→(s.setIfInBounds i true)[j]?=some false)∧(∀t,t∉(ops.toList.take L).filterMap (·.dst)→a'.tmps.getD t undef=a0.tmps.getD t undef)∧TabbedW R E ops wr surv T a0 w0 (s.setIfInBounds i true) a' w')∨
    (∃m,L≤m∧m≤ops.size∧(∀j,j<m→(s.setIfInBounds i true)[j]?=some true)∧(∀j,m≤j→j<ops.size→(s.setIfInBounds i true)[j]?=some false)∧wpOps P ops Q (List.range' m (ops.size-m)) a' w'))) a w:=by
   intro m hLm hms him hT hF hW;subst him;obtain⟨d,hd⟩:∃d,ops.size-i=d+1:=⟨ops.size-i-1,oM⟩;rw[hd,List.range'_succ,wpOps_cons]at hW;refine wpOp_mono (fun a' w' h'=>⟨hss, .inr ⟨i+1,oM,oM,fun j hj=>?_,fun j hj hjs=>?_,?_⟩⟩) hW
   ·by_cases hji:j=i
    ·subst hji;rw[aQ,if_pos rfl,if_pos oM]
    exact hup j (hT j oM)
   ·rw[aQ,if_neg oM];exact hF j oM hjs
   rw[show ops.size-(i+1)=d by omega];exact h'
  rcases hI with⟨hF,hO,hI⟩|⟨m,hLm,hm1,hT,hF,hW⟩
  ·by_cases hiL:L≤i
   ·have hiL2:i=L:=by
     rcases dF L i with h|h
     ·have h1:=eG hC 12 i (i-1) o ho haf (ht2 i his h);rw[hF (i-1) oM oM]at h1;cases h1
     omega
    subst hiL2;have hdn:∀j,j<i→s[j]?=some true:=fun j hj=>eG hC 12 i j o ho haf (ht1 j hj);exact go i (aF _) his rfl hdn (fun j hj hjs=>hF j hj hjs) (htail a w ⟨hI.below,hI.defers,hI.size,hI.still,fun j oj t hj hoj hd hal=>hI.done j oj t (hdn j hj) hoj hd (fun k hk=>absurd hk (by rw[hal k];exact Bool.false_ne_true)),fun j hj hwj=>hI.wrote j (hdn j hj) hwj⟩ hO)
   (have hmo:o∈ops.toList.take L:=by rw[←bF]at ho;refine dL (i:=i) ?_;rw[dN,if_pos oM];exact ho);have hopI:=AllOpsI.get _ 0 hop i o (by
    rw[dN,if_pos oM,bF];exact ho) a w (by rw[cV];exact⟨hI.below,hI.still,fun e he hb hok o' t ho' hd=>hI.done e.on o' t (haf e he hb) ho' hd (fun k hk=>by
     have hks:k<s.size:=by rw[hs];unfold harm at hk;rw[aW,aW,aW]at hk;have h9:=hk.1.1.1;rw[aW]at h9;exact of_decide_eq_true h9.2
     cases hsk:s[k]? with
     |none=>rw[dV]at hsk;omega
     |some bk=>
      cases bk with
      |false=>rfl
      |true=>
       exfalso;rcases hkf' i e.on hok k hk with h|h
       ·rw[h,hsi]at hsk;cases hsk
       have hko:∃ok,ops[k]?=some ok:=⟨ops[k]'oM,cD oM⟩;obtain⟨ok,hok⟩:=hko;have h1:=eG hC 12 k i ok hok (fun e' he' hb'=>hC k ok hsk hok e' he' hb') h;rw[hsi]at h1
       cases h1),fun e he hb hwe=>hI.wrote e.on (haf e he hb) hwe,fun hpf=>hI.pre (fun k hwk hsk=>by
     have hks:k<ops.size:=by
      rcases dF k ops.size with h|h
      ·exact h
      rw[gM oM]at hsk;cases hsk
     have h1:=bE.mp hpf k (cZ.mpr hks);rw[hwk,Bool.not_true,Bool.false_or,eA,beq_iff_eq]at h1;rcases h1 with h|h
     ·rw[h,hsi]at hsk;cases hsk
     obtain⟨ok,hok⟩:∃ok,ops[k]?=some ok:=⟨ops[k]'hks,cD hks⟩;have h2:=eG hC 12 k i ok hok (fun e' he' hb'=>hC k ok hsk hok e' he' hb') h;rw[hsi]at h2
     cases h2)⟩) hO
   rw[cV]at hopI;have hOset:∀(v:Value) t,t∉(ops.toList.take L).filterMap (·.dst)→(a.put o.dst v).tmps.getD t undef=a0.tmps.getD t undef:=fun v t ht=>by
    cases hd:o.dst with
    |none=>exact hO t ht
    |some u=>
     have hne:t≠u:=fun h=>ht (h▸dM.mpr ⟨o,hmo,hd⟩);rw[cI hne];exact hO t ht
   have hset:∀{v:Value}{w':World},(∀t,o.dst=some t→T t v w')→R w w'→(∀j,E j w→E j w')→(wr i=true→E i w')→(¬wr i=true→Below w.heap.size w w')→(∀(j:Nat)(oj:Oper)(t:Nat),s[j]?=some true→ops[j]?=some oj→oj.dst=some t→harm ops wr surv i j=false→∀u,T t u w→T t u w')→TabbedW R E ops wr surv T a0 w0 (s.setIfInBounds i true) (a.put o.dst v) w':=by
    intro v w' hv hb hE1 hE2 hBw hmono;refine⟨hRt _ _ _ hI.below hb,by rw[jN];exact hI.defers,by rw[fI];exact hI.size,fun t ht=>?_,fun j oj t hj hoj hd hk=>?_,fun j hj hwj=>?_,fun hns=>?_⟩
    ·cases hd:o.dst with
     |none=>exact hI.still t ht
     |some u=>
      have hne:t≠u:=fun h=>ht (h▸iR ho hd);rw[cI hne];exact hI.still t ht
    ·by_cases hij:j=i
     ·subst hij;rw[ho]at hoj;cases hoj;rw[hd,dC (by rw[hI.size];exact hlt' t (iR ho hd))];exact hv t hd
     (have hj':s[j]?=some true:=by rw[aQ,if_neg (fun h=>hij h.symm)]at hj;exact hj);have hni:harm ops wr surv i j=false:=by
      cases hh:harm ops wr surv i j with
      |false=>rfl
      |true=>
       have h9:=hk i hh;rw[aQ,if_pos rfl,if_pos oM]at h9;cases h9
     have h1:=hmono j oj t hj' hoj hd hni _ (hI.done j oj t hj' hoj hd (fun k hh=>by
      have h9:=hk k hh;rw[aQ,if_neg (fun e=>by subst e;rw[hni]at hh;cases hh)]at h9
      exact h9))
     cases hd2:o.dst with
     |none=>exact h1
     |some u=>
      have hne:t≠u:=fun h=>hij (lW ops.toList hnd j i oj o t (by rw[bF];exact hoj) (by rw[bF];exact ho) hd (h▸hd2));rw[cI hne];exact h1
    ·by_cases hij:j=i
     ·subst hij;exact hE2 hwj
     rw[aQ,if_neg (fun h=>hij h.symm)]at hj;exact hE1 j (hI.wrote j hj hwj)
    have hiw:¬wr i=true:=fun h=>hns i h (by rw[aQ,if_pos rfl,if_pos oM]);have h1:=hI.pre (fun j hwj hsj=>hns j hwj (hup j hsj));exact h1.trans ((hBw hiw).mono h1.size)
   (have hF':∀j,L≤j→j<ops.size→(s.setIfInBounds i true)[j]?=some false:=fun j hj hjs=>by rw[aQ,if_neg oM];exact hF j hj hjs);by_cases hiW:wr i=true
   ·rw[if_pos hiW]at hopI;obtain⟨hw,hwp⟩:=hopI;unfold wpOp;rw[ho];dsimp only;rw[if_pos hw];refine .inl (Oper.wp_mono ?_ hwp);rintro a' w' ⟨v,rfl,hv,hb,hE1,hE2⟩;refine⟨hss, .inl ⟨hF',hOset v,hset hv hb hE1 (fun _=>hE2) (fun h=>absurd hiW h) (fun j oj t hj hoj hd hni u hu=>?_)⟩⟩;have hsv:surv i t=true:=by
     unfold harm at hni;rw[hiW,decide_eq_true his,hoj,dG,dH,hd,dG,dH]at hni;have hne:decide (i=j)=false:=decide_eq_false (fun e=>by subst e;rw[hsi]at hj;cases hj);have hr:reach ops 12 j i=false:=by
      cases hr:reach ops 12 j i with
      |false=>rfl
      |true=>
       have h1:=eG hC 12 j i oj hoj (fun e he hb=>hC j oj hj hoj e he hb) hr;rw[hsi]at h1;cases h1
     rw[hne,hr]at hni;simpa using hni
    exact hmonoW i t u w w' hiW hsv hb hu
   rw[if_neg hiW]at hopI;unfold OpOk at hopI;unfold wpOp;rw[ho];dsimp only;by_cases hw:Region.wanted o (yielded ops a.tmps)=true
   ·rw[if_pos hw]at hopI ⊢;refine hopI.imp (Oper.wp_mono ?_) (fun h=>h);rintro a' w' ⟨v,rfl,hv,hb⟩;exact⟨hss, .inl ⟨hF',hOset v,hset hv (hRb _ _ hb) (fun j hj=>hmonoE j w w' hb hj) (fun h=>absurd h hiW) (fun _=>hb) (fun _ _ t _ _ _ _ u hu=>hmono t u w w' hb hu)⟩⟩
   rw[if_neg hw]at hopI ⊢;exact⟨hss, .inl ⟨hF',hOset _,hset hopI (hRb _ _ (aH _ _)) (fun _ hj=>hj) (fun h=>absurd h hiW) (fun _=>aH _ _) (fun _ _ t _ _ _ _ u hu=>hu)⟩⟩
  have him:m≤i:=by
   rcases dF i m with h|h
   ·have h1:=hT i h;rw[hsi]at h1;cases h1
   exact h
  have him2:i=m:=by
   rcases dF m i with h|h
   ·have h1:=eG hC 12 i (i-1) o ho haf (ht2 i his oM);rw[hF (i-1) oM oM]at h1;cases h1
   omega
  exact go m hLm oM him2 hT hF hW
 refine⟨⟨by simp,fun i o h=>?_⟩, .inl ⟨fun i _ hi=>?_,fun _ _=>rfl,⟨hRb _ _ ⟨rfl,rfl,rfl,aF _,fun _ _=>rfl⟩,rfl,rfl,fun _ _=>rfl,fun i o t h _ _ _=>?_,fun i h _=>?_,fun _=>⟨rfl,rfl,rfl,aF _,fun _ _=>rfl⟩⟩⟩⟩
 ·rw[cO]at h;split at h<;>simp at h
 ·rw[cO,if_pos hi]
 ·rw[cO]at h;split at h<;>simp at h
 rw[cO]at h;split at h<;>simp at h
end
end Go.Proofs.YthenjegmigeieaaGreat
