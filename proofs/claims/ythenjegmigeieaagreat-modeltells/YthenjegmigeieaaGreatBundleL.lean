/- Own texts, one behind the other (part 12). -/
import Derived.Test.YthenjegmigeieaaGreatBundleK
import Derived.Test.YthenjegmigeieaaGreatRows
import Derived.ProofKit
import Derived.Deep.Slices
import Derived.Deep.Strs
import Derived.JoinedOf
set_option maxRecDepth 100000
set_option maxHeartbeats 8000000
namespace Go.Proofs.YthenjegmigeieaaGreat
open Go.RowKit
def pairsF:List Rl.Fc:=[⟨0,[1,2]⟩,⟨0,[2,3]⟩]
theorem lO:∀f,f∈pairsF→FFit f:=by intro f hf;simp only[pairsF,bE,eX,or_false]at hf;rcases hf with rfl|rfl<;>exact(by decide:(2:Nat)≤9223372036854775807)
namespace Md
theorem pairs_pre(o:List Rl.Fc)(h:chkF smallQ o=0):pre smallQ pairsF o=0:=by unfold pre;rw[h];kernel_rfl
theorem full_chk:chkF smallQ fullF=0:=by kernel_rfl
theorem full1_chk:chkF smallQ (fullF.drop 1)=0:=by kernel_rfl
def r0:Sc.Rule:=Sc.ruleD smallQ.rules 0
def r1:Sc.Rule:=Sc.ruleD smallQ.rules 1
theorem small_rules{r:Sc.Rule}(h:r∈smallQ.rules):r=r0∨r=r1:=by
 rcases bE.mp h with h|h
 ·exact .inl h
 rcases bE.mp h with h|h
 ·exact .inr h
 cases h
theorem r0_in:r0∈smallQ.rules:=bB
theorem r1_in:r1∈smallQ.rules:=aO _ bB
theorem lv_r0:lv smallQ r0.pred=0:=by kernel_rfl
theorem lv_r1:lv smallQ r1.pred=0:=by kernel_rfl
def halfF:List Rl.Fc:=[⟨0,[1,2]⟩,⟨0,[2,3]⟩,⟨1,[1,2]⟩,⟨1,[2,3]⟩]
theorem pairs_set:Rl.set pairsF=pairsF:=by kernel_rfl
theorem half_eq:Rl.union pairsF (Ru.hd pairsF r0)=halfF:=by kernel_rfl
theorem full_eq:Rl.union halfF (Ru.hd halfF r1)=fullF:=by kernel_rfl
theorem full_h0:Ru.hd fullF r0=[⟨1,[1,2]⟩,⟨1,[2,3]⟩]:=by kernel_rfl
theorem full_h1:Ru.hd fullF r1=[⟨1,[1,3]⟩]:=by kernel_rfl
theorem full_w0:(Ru.ways fullF r0).length=2:=by kernel_rfl
theorem full_w1:(Ru.ways fullF r1).length=1:=by kernel_rfl
theorem full_reach:Reach smallQ 0 pairsF fullF:=by have h1:=Reach.step Reach.refl (grows_union (p:=smallQ) (T:=pairsF) r0_in lv_r0);rw[half_eq]at h1;have h2:=Reach.step h1 (grows_union (p:=smallQ) (T:=halfF) r1_in lv_r1);rw[full_eq]at h2;exact h2
theorem full_model:IsModel smallQ pairsF (some fullF):=by
 have ha:smallQ.arity.length=2:=rfl;unfold IsModel;rw[ha,pairs_set];refine⟨some fullF,⟨some pairsF,rfl,?_⟩,?_⟩
 ·refine⟨full_reach,fun r hr _ f hf=>?_,by decide,fun r hr _=>?_⟩
  ·rcases small_rules hr with rfl|rfl
   ·rw[full_h0]at hf;rcases bE.mp hf with rfl|hf
    ·exact aO _ (aO _ bB)
    rcases bE.mp hf with rfl|hf
    ·exact aO _ (aO _ (aO _ (aO _ bB)))
    cases hf
   rw[full_h1]at hf;rcases bE.mp hf with rfl|hf
   ·exact aO _ (aO _ (aO _ bB))
   cases hf
  rcases small_rules hr with rfl|rfl
  ·rw[full_w0];decide
  rw[full_w1];decide
 refine⟨Reach.refl,fun r hr hk=>?_,by decide,fun r hr hk=>?_⟩
 ·rcases small_rules hr with rfl|rfl
  ·rw[lv_r0]at hk;cases hk
  rw[lv_r1]at hk;cases hk
 rcases small_rules hr with rfl|rfl
 ·rw[lv_r0]at hk;cases hk
 rw[lv_r1]at hk;cases hk
theorem small_res{o:List Rl.Fc}(h:chkF smallQ o=0):MRes smallQ pairsF o 0 fullF:=.inr ⟨pairs_pre o h,some fullF,full_model,rfl,rfl⟩
theorem full_set:Rl.set fullF=fullF:=by kernel_rfl
theorem full1_set:¬Rl.set (fullF.drop 1)=fullF:=fun h=>by have :=congrArg List.length h;(have e:(Rl.set (fullF.drop 1)).length=4:=by kernel_rfl);rw[e]at this;exact absurd this (by decide)
theorem full_ask:Rl.matchL fullF 1 [1,0] [true]=[⟨1,[1,2]⟩,⟨1,[1,3]⟩]:=by kernel_rfl
end Md
theorem aAW(w:World):Calls Tryz.prog 75 #[] w fun e w'=>∃v,e=.returned v∧FactsV w' v pairsF∧Below w.heap.size w w':=by
 have HFC:Hid (∀(p:Int)(a:Option Addr)(n c:Nat)(w:World),Calls Tryz.prog 65 #[.int .i64 p, .slice a n c] w fun e w'=>e=.returned (fcVal p (.slice a n c))∧Below w.heap.size w w'):=xW
 go_enter Tryz.func75,Tryz.ntmps75
 (go_wp2_with fail);have H1:Hid _:=iV w 1 2;have B1:Hid _:=cQ w (.cells #[.int .i64 1, .int .i64 2] 3);generalize hX1:w.heap.size=X1 at *;generalize w.alloc (.cells #[.int .i64 1, .int .i64 2] 3)=w1 at *;refine Calls.mono (HFC.out _ _ _ _ _) ?_;rintro _ y1 ⟨rfl,hb1⟩;have J1:Hid _:=aK H1.out hb1;have D1:Hid (Below X1 w y1):=B1.out.trans (hb1.mono (by rw[←hX1];rw[←hX1]at B1;exact B1.out.size));clear hb1 H1 B1;(go_wp2_with fail);have H2:Hid _:=iV y1 2 3;have K1:Hid _:=aK J1.out (cQ y1 (.cells #[.int .i64 2, .int .i64 3] 3));have D2:Hid (Below X1 w (y1.alloc (.cells #[.int .i64 2, .int .i64 3] 3))):=D1.out.trans ((cQ y1 _).mono (by have :=D1.out.size;omega));clear J1 D1;generalize hX2:y1.heap.size=X2 at *;generalize y1.alloc (.cells #[.int .i64 2, .int .i64 3] 3)=w2 at *;refine Calls.mono (HFC.out _ _ _ _ _) ?_;rintro _ y5 ⟨rfl,hb5⟩;have HR:Hid _:=aAe y5 ⟨0,[1,2]⟩ ⟨0,[2,3]⟩ _ _ (aK K1.out hb5) (aK H2.out hb5);have D9:Hid (Below X1 w y5):=D2.out.trans (hb5.mono (by have :=D2.out.size;omega));clear hb5 H2 K1 D2;(go_wp2_with fail);go_ret;exact⟨_,rfl,HR.out,by rw[hX1];exact D9.out.trans ((cQ y5 _).mono (by have :=D9.out.size;omega))⟩
theorem qQ{w:World}{b off n cap:Nat}{l:List Rl.Fc}(h:FactsV w (.slice (some ⟨b,off,none⟩) n cap) l)(i j c:Nat)(hij:i+j≤l.length)(hc:j≤c):FactsV w (.slice (some ⟨b,off+i*2,none⟩) j c) ((l.drop i).take j):=by obtain⟨ao,cp,hv,_,hA⟩:=h;injection hv with e1 e2 e3;subst e1;(have hl:((l.drop i).take j).length=j:=by rw[bA,fS];omega);refine⟨some ⟨b,off+i*2,none⟩,c,by rw[hl],⟨by rw[hl];exact hc,fun h=>by cases h⟩, .inr ⟨b,off+i*2,rfl,fun k hk=>?_⟩⟩;rw[hl]at hk;obtain⟨b',off',hb,hF⟩:=fG hA (i+k) (by omega);injection hb with hb;injection hb with e4 e5;subst e4 e5;(have e6:Rl.factD ((l.drop i).take j) k=Rl.factD l (i+k):=by unfold Rl.factD;rw[aC,dH,if_pos hk,List.getElem?_drop,aC]);rw[e6,show off+i*2+k*2=off+(i+k)*2 by omega];exact hF
theorem jH(w:World):Calls Tryz.prog 33 #[] w fun e w'=>e=.returned (.bool true)∧Below w.heap.size w w':=by
 have HS:Hid (∀w,Calls Tryz.prog 63 #[] w fun e w'=>∃ua un ur,e=.returned (progVal ua un ur)∧ProgV w' ua un ur smallQ∧RulesCap w' ur∧Below w.heap.size w w'):=aAL;have HFU:Hid (∀w,Calls Tryz.prog 64 #[] w fun e w'=>∃b off cap,e=.returned (.slice (some ⟨b,off,none⟩) 5 cap)∧5≤cap∧FactsV w' (.slice (some ⟨b,off,none⟩) 5 cap) fullF∧Below w.heap.size w w'):=fun w=>Calls.mono (aB5 w) (by
  rintro e w' ⟨v,rfl,hF,hb⟩;obtain⟨ao,cap,rfl,hc,hA⟩:=id hF;rcases hA with hA|⟨b,off,rfl,_⟩
  ·cases hA
  exact⟨b,off,cap,rfl,hc.1,hF,hb⟩)
 have HPA:Hid (∀w,Calls Tryz.prog 75 #[] w fun e w'=>∃v,e=.returned v∧FactsV w' v pairsF∧Below w.heap.size w w'):=aAW;(have HMO:Hid (∀w ua un ur uf,ProgV w ua un ur smallQ→RulesCap w ur→FactsV w uf pairsF→Calls Tryz.prog 27 #[progVal ua un ur,uf] w fun e w'=>∃ao cap,e=.returned (.tuple #[.slice ao 5 cap, .int .i64 0])∧FactsV w' (.slice ao 5 cap) fullF∧Below w.heap.size w w'):=by intro w ua un ur uf h1 h2 h3;refine(oS smallQ pairsF ua un ur uf w h1 lM h2 h3 (by decide) lO).mono ?_;rintro e w' ⟨v,c,S,rfl,hR,hF,hb⟩;obtain⟨rfl,rfl⟩:=Md.mres_one hR (Md.small_res rfl);obtain⟨ao,cap,rfl,_⟩:=id hF;exact⟨ao,cap,rfl,hF,hb⟩);(have HIS:Hid (∀w ua un ur uf uo,ProgV w ua un ur smallQ→RulesCap w ur→FactsV w uf pairsF→FactsV w uo fullF→Calls Tryz.prog 28 #[progVal ua un ur,uf,uo] w fun e w'=>e=.returned (.tuple #[.bool true, .int .i64 0])∧Below w.heap.size w w'):=by intro w ua un ur uf uo h1 h2 h3 h4;refine(aAt smallQ pairsF fullF ua un ur uf uo w h1 lM h2 h3 (by decide) lO h4 (by decide) mW).mono ?_;rintro e w' ⟨t,c,S,rfl,hR,ht,hb⟩;obtain⟨rfl,rfl⟩:=Md.mres_one hR (Md.small_res Md.full_chk);rw[ht.mpr ⟨rfl,Md.full_set⟩];exact⟨rfl,hb⟩);have HIN:Hid (∀w ua un ur uf uo,ProgV w ua un ur smallQ→RulesCap w ur→FactsV w uf pairsF→FactsV w uo (fullF.drop 1)→Calls Tryz.prog 28 #[progVal ua un ur,uf,uo] w fun e w'=>e=.returned (.tuple #[.bool false, .int .i64 0])∧Below w.heap.size w w'):=by
  intro w ua un ur uf uo h1 h2 h3 h4;refine(aAt smallQ pairsF (fullF.drop 1) ua un ur uf uo w h1 lM h2 h3 (by decide) lO h4 (by decide) (fun f hf=>mW f (fA hf))).mono ?_;rintro e w' ⟨t,c,S,rfl,hR,ht,hb⟩;obtain⟨rfl,rfl⟩:=Md.mres_one hR (Md.small_res Md.full1_chk);cases t
  ·exact⟨rfl,hb⟩
  exact absurd (ht.mp rfl).2 Md.full1_set
 have HAS:Hid (∀w ua un ur uf uy uz,ProgV w ua un ur smallQ→RulesCap w ur→FactsV w uf pairsF→IntsV w uy [1,0]→BoolsV w uz [true]→Calls Tryz.prog 29 #[progVal ua un ur,uf, .int .i64 1,uy,uz] w fun e w'=>∃ao cap,e=.returned (.tuple #[.slice ao 2 cap, .int .i64 0])∧FactsV w' (.slice ao 2 cap) ((fullF.drop 2).take 2)∧Below w.heap.size w w'):=by intro w ua un ur uf uy uz h1 h2 h3 h4 h5;refine(aAA smallQ pairsF 1 [1,0] [true] ua un ur uf uy uz w h1 lM h2 h3 (by decide) lO h4 (by decide) h5 (by decide)).mono ?_;rintro e w' ⟨v,c,S,rfl,hR,hF,hb⟩;obtain⟨rfl,rfl⟩:=Md.mres_one hR (Md.small_res rfl);rw[Md.full_ask]at hF;obtain⟨ao,cap,rfl,_⟩:=id hF;exact⟨ao,cap,rfl,hF,hb⟩
 go_enter Tryz.func33,Tryz.ntmps33
 (go_wp2_with fail);refine Calls.mono (HS.out _) ?_;rintro e w1 ⟨ua,un,ur,rfl,hP1,hC1,hb1⟩;have HP1:Hid _:=And.intro hP1 hC1;have HB1:Hid _:=hb1;clear hP1 hC1 hb1;(go_wp2_with fail);refine Calls.mono (HPA.out _) ?_;rintro e w2 ⟨uf,rfl,hF2,hb2⟩;have HP2:Hid _:=And.intro (HP1.out.1.below hb2) (HP1.out.2.below HP1.out.1.rl hb2);have HB2:Hid _:=HB1.out.trans (hb2.mono HB1.out.size);have HF2:Hid _:=hF2;clear HP1 HB1 hb2 hF2;(go_wp2_with fail);refine Calls.mono (HMO.out _ _ _ _ _ HP2.out.1 HP2.out.2 HF2.out) ?_;rintro e w3 ⟨ao,cap,rfl,hN3,hb3⟩;have HB3:Hid _:=HB2.out.trans (hb3.mono HB2.out.size);have HN3:Hid _:=hN3;clear HP2 HF2 HB2 hb3 hN3;(go_wp2_with fail);refine Calls.mono (HS.out _) ?_;rintro e w4 ⟨ua,un,ur,rfl,hP4,hC4,hb4⟩;have HP4:Hid _:=And.intro hP4 hC4;have HB4:Hid _:=HB3.out.trans (hb4.mono HB3.out.size);have HN4:Hid _:=aL HN3.out hb4;clear hP4 hC4 hb4 HB3 HN3;(go_wp2_with fail);refine Calls.mono (HPA.out _) ?_;rintro e w5 ⟨uf,rfl,hF5,hb5⟩;have HP5:Hid _:=And.intro (HP4.out.1.below hb5) (HP4.out.2.below HP4.out.1.rl hb5);have HB5:Hid _:=HB4.out.trans (hb5.mono HB4.out.size);have HN5:Hid _:=aL HN4.out hb5;have HF5:Hid _:=hF5;clear HP4 HB4 HN4 hb5 hF5;(go_wp2_with fail);refine Calls.mono (HFU.out _) ?_;rintro e w6 ⟨b6,o6,c6,rfl,hc6,hF6,hb6⟩;have HP6:Hid _:=And.intro (HP5.out.1.below hb6) (HP5.out.2.below HP5.out.1.rl hb6);have HB6:Hid _:=HB5.out.trans (hb6.mono HB5.out.size);have HN6:Hid _:=aL HN5.out hb6;have HL6:Hid _:=aL HF5.out hb6;have HF6:Hid _:=hF6;clear HP5 HB5 HN5 HF5 hb6 hF6;(go_wp2_with fail);refine Calls.mono (HIS.out _ _ _ _ _ _ HP6.out.1 HP6.out.2 HL6.out HF6.out) ?_;rintro e w7 ⟨rfl,hb7⟩;have HB7:Hid _:=HB6.out.trans (hb7.mono HB6.out.size);have HN7:Hid _:=aL HN6.out hb7;clear HP6 HB6 HN6 HL6 HF6 hb7 hc6;(go_wp2_with fail);refine Calls.mono (HS.out _) ?_;rintro e w8 ⟨ua,un,ur,rfl,hP8,hC8,hb8⟩;have HP8:Hid _:=And.intro hP8 hC8;have HB8:Hid _:=HB7.out.trans (hb8.mono HB7.out.size);have HN8:Hid _:=aL HN7.out hb8;clear hP8 hC8 hb8 HB7 HN7;(go_wp2_with fail);refine Calls.mono (HPA.out _) ?_;rintro e w9 ⟨uf,rfl,hF9,hb9⟩;have HP9:Hid _:=And.intro (HP8.out.1.below hb9) (HP8.out.2.below HP8.out.1.rl hb9);have HB9:Hid _:=HB8.out.trans (hb9.mono HB8.out.size);have HN9:Hid _:=aL HN8.out hb9;have HF9:Hid _:=hF9;clear HP8 HB8 HN8 hb9 hF9;(go_wp2_with fail);refine Calls.mono (HFU.out _) ?_;rintro e wA ⟨b6,o6,c6,rfl,hc6,hFA,hbA⟩;have HPA2:Hid _:=And.intro (HP9.out.1.below hbA) (HP9.out.2.below HP9.out.1.rl hbA);have HBA:Hid _:=HB9.out.trans (hbA.mono HB9.out.size);have HNA:Hid _:=aL HN9.out hbA;have HLA:Hid _:=aL HF9.out hbA;have HFA:Hid (FactsV wA (.slice (some ⟨b6,o6+2,none⟩) 4 (c6-1)) (fullF.drop 1)):=qQ hFA 1 4 (c6-1) (by decide) (by omega);clear HP9 HB9 HN9 HF9 hbA hFA;(go_wp2_with fail);refine Calls.mono (HIN.out _ _ _ _ _ _ HPA2.out.1 HPA2.out.2 HLA.out HFA.out) ?_;rintro e wB ⟨rfl,hbB⟩;have HBB:Hid _:=HBA.out.trans (hbB.mono HBA.out.size);have HNB:Hid _:=aL HNA.out hbB;clear HPA2 HBA HNA HLA HFA hbB hc6;(go_wp2_with fail);refine Calls.mono (HS.out _) ?_;rintro e wC ⟨ua,un,ur,rfl,hPC,hCC,hbC⟩;have HPC:Hid _:=And.intro hPC hCC;have HBC:Hid _:=HBB.out.trans (hbC.mono HBB.out.size);have HNC:Hid _:=aL HNB.out hbC;clear hPC hCC hbC HBB HNB;(go_wp2_with fail);refine Calls.mono (HPA.out _) ?_;rintro e wD ⟨uf,rfl,hFD,hbD⟩;have HPD:Hid _:=And.intro (HPC.out.1.below hbD) (HPC.out.2.below HPC.out.1.rl hbD);have HBD:Hid _:=HBC.out.trans (hbD.mono HBC.out.size);have HND:Hid _:=aL HNC.out hbD;have HFD:Hid _:=hFD;clear HPC HBC HNC hbD hFD;(go_wp2_with fail);have hx1:=cQ wD (.cells #[.int .i64 1, .int .i64 0] 3);have hx2:=cQ (wD.alloc (.cells #[.int .i64 1, .int .i64 0] 3)) (.cells #[.bool true] 4);(have hs1:(wD.alloc (.cells #[.int .i64 1, .int .i64 0] 3)).heap.size=wD.heap.size+1:=by simp);have hx:=hx1.trans (hx2.mono hx1.size);have HI:Hid _:=aK (iV wD 1 0) hx2;have HBO:Hid (BoolsV ((wD.alloc (.cells #[.int .i64 1, .int .i64 0] 3)).alloc (.cells #[.bool true] 4)) (.slice (some ⟨wD.heap.size+1,0,none⟩) 1 1) [true]):=by
  have hn:=heap_alloc_new (wD.alloc (.cells #[.int .i64 1, .int .i64 0] 3)) (.cells #[.bool true] 4);rw[hs1]at hn;refine⟨_,_,rfl,⟨aE _,fun h=>by cases h⟩, .inr ⟨_,0,rfl,fun i hi=>?_⟩⟩
  match i,hi with
  |0,_=>rw[aA hn];rfl
 have HPE:Hid _:=And.intro (HPD.out.1.below hx) (HPD.out.2.below HPD.out.1.rl hx);have HBE:Hid _:=HBD.out.trans (hx.mono HBD.out.size);have HNE:Hid _:=aL HND.out hx;have HFE:Hid _:=aL HFD.out hx;clear hx1 hx2 hs1 hx HPD HBD HND HFD;generalize (wD.alloc (.cells #[.int .i64 1, .int .i64 0] 3)).alloc (.cells #[.bool true] 4)=wE at *;generalize wD.heap.size=XD at *;refine Calls.mono (HAS.out _ _ _ _ _ _ _ HPE.out.1 HPE.out.2 HFE.out HI.out HBO.out) ?_;rintro e wF ⟨aF,cF,rfl,hFF,hbF⟩;have HBF:Hid _:=HBE.out.trans (hbF.mono HBE.out.size);have HNF:Hid _:=aL HNE.out hbF;have HAF:Hid _:=hFF;clear HPE HBE HNE HFE HI HBO hbF hFF;(go_wp2_with fail);refine Calls.mono (HFU.out _) ?_;rintro e wG ⟨b6,o6,c6,rfl,hc6,hFG,hbG⟩;have HBG:Hid _:=HBF.out.trans (hbG.mono HBF.out.size);have HNG:Hid _:=aL HNF.out hbG;have HAG:Hid _:=aL HAF.out hbG;have HFG:Hid _:=hFG;clear HBF HNF HAF hFG hbG;(go_wp2_with fail);refine Calls.mono (jJ fullF _ _ wG HNG.out HFG.out (by decide) mW) ?_;rintro e wH ⟨rfl,hbH⟩;have HBH:Hid _:=HBG.out.trans (hbH.mono HBG.out.size);have HAH:Hid _:=aL HAG.out hbH;clear HBG HNG HAG HFG hbH hc6;(go_wp2_with fail);refine Calls.mono (HFU.out _) ?_;rintro e wI ⟨b7,o7,c7,rfl,hc7,hFI,hbI⟩;have HBI:Hid _:=HBH.out.trans (hbI.mono HBH.out.size);have HAI:Hid _:=aL HAH.out hbI;have HFI:Hid (FactsV wI (.slice (some ⟨b7,o7+4,none⟩) 2 (c7-2)) ((fullF.drop 2).take 2)):=qQ hFI 2 2 (c7-2) (by decide) (by omega);clear HBH HAH hFI hbI;(go_wp2_with fail);refine Calls.mono (jJ ((fullF.drop 2).take 2) _ _ wI HAI.out HFI.out (by decide) (fun f hf=>mW f (fA (eJ hf)))) ?_;rintro e wJ ⟨rfl,hbJ⟩;have HBJ:Hid _:=HBI.out.trans (hbJ.mono HBI.out.size);clear HBI HAI HFI hbJ;(go_wp2_with fail);go_ret;exact⟨rfl,HBJ.out⟩
def ArgsP(B:Nat)(w:World)(q:List Fv):Prop:=∀p,p∈q→w.ownsRow B 3 1 p.2 p.1.args.length (p.1.args.map (Value.int .i64))
theorem ArgsP.below{B:Nat}{w w':World}{q:List Fv}(h:ArgsP B w q)(hb:Below w.heap.size w w'):ArgsP B w' q:=fun p hp=>aQ (h p hp) hb
theorem sQ{w:World}{ops:Array Oper}{rest:List Oper}{o:Oper}{a:Act}{Q:Exit→Act→World→Prop}(hgd:o.guard=none)(s x:Operand)
 (ho:o.op=.call {callee:=.builtin .append,args:=#[s,x],argTypes:=#[27,27]}) (B B2:Nat) (v:Value) (n:Nat) (q:List Fv) (hs:a.eval s=v) (hn:n=q.length) (hown:w.ownsRow B 55 2 v n (q.map fcCells).flatten) (hargs:ArgsP B w q)
 (u:Value) (q2:List Fv) (hx:a.eval x=u) (hown2:w.ownsRow B2 55 2 u q2.length (q2.map fcCells).flatten) (hargs2:ArgsP B2 w q2) (hB:B≤B2) (hBw:B≤w.heap.size) (hl:q.length+q2.length≤4194304)
 (h:∀v' w',w'.ownsRow B 55 2 v' (q++q2).length ((q++q2).map fcCells).flatten→ArgsP B w' (q++q2)→Below B w w'→wpList Tryz.prog ops Q rest (a.put o.dst v') w'):wpList Tryz.prog ops Q (o::rest) a w:=by
 obtain⟨i0,hi,hz0,hz1,hz2⟩:=info_parts gN;subst hn;rcases eT hown2 with⟨hu,h0⟩|⟨g,cap,hu⟩
 ·have hq2:q2=[]:=cI h0;subst hq2;refine wpList_append_own_none hgd s x 27 ho B 55 i0 2 Tryz.underlying27 hi v q.length _ hs hown (by rw[hx,hu]) ?_;exact h v w (by rw[fE];exact hown) (by rw[fE];exact hargs) (aG _ _)
 subst hu;refine wpList_append_own w hgd s x 27 ho B 55 i0 _ 2 32 Tryz.underlying27 hi hz0 hz1 hz2 rfl (by decide) v q.length _ hs hown ⟨g,0,none⟩ q2.length cap (q2.map fcCells).flatten hx (by rw[fJ]) (fun j c hj=>?_) (fun c hc=>?_) (by unfold maxLen;omega) (by omega) hBw ?_
 ·have hlt:j<q2.length*2:=by
   rcases dD j (q2.length*2)with h9|h9
   ·exact h9
   rw[bO (by rw[fJ];exact h9)]at hj;cases hj
  rw[Addr.add_lit,cM,World.ownsRow.cellAt hown2 j hlt];exact hj
 ·obtain⟨l9,hl9,hc9⟩:=List.mem_flatten.mp hc;obtain⟨p,hp,rfl⟩:=bM.mp hl9;obtain⟨a9,c9,hv9⟩:=aW (hargs2 p hp);simp only[fcCells,bE,eX,or_false]at hc9;rcases hc9 with rfl|rfl
  ·rfl
  rw[hv9];rfl
 intro v' w' ho9 hg9 _;have h3:∀(A:Nat)(l:List Int)(u:Value),w.ownsRow A 3 1 u l.length (l.map (Value.int .i64))→w'.ownsRow A 3 1 u l.length (l.map (Value.int .i64)):=fun A l u hu=>fF hu (fun k c hk=>(hg9.block k (aY hk) (fun e=>by have :=jG hown e.symm hk;cases this)).trans hk);refine h v' w' ?_ (fun p hp=>?_) ((aG B w).grown hg9 hBw (fun k hk=>(hown.lt k hk).1))
 ·rw[aJ,bF,dI];exact ho9
 rcases bP.mp hp with hp|hp
 ·exact h3 _ _ _ (hargs p hp)
 exact dM (h3 _ _ _ (hargs2 p hp)) hB
namespace Md
open Ru
end Md
end Go.Proofs.YthenjegmigeieaaGreat
namespace Go.Proofs.YthenjegmigeieaaGreat
namespace Md
open Ru
end Md
end Go.Proofs.YthenjegmigeieaaGreat
namespace Go.Proofs.YthenjegmigeieaaGreat
open Go.RowKit


theorem yJ(l m:List Rl.Fc)(v u:Value)(w:World)(hV:FactsV w v l)(hU:FactsV w u m)(hl:l.length≤1048576)(hm:m.length≤1048576)(hf:∀f,f∈l→FFit f)(hg:∀f,f∈m→FFit f):
 Calls Tryz.prog 48 #[v,u] w fun e w'=>∃v',e=.returned v'∧FactsV w' v' (Rl.minus l m)∧Below w.heap.size w w':=by
 obtain⟨i0,hi,hz0,hz1,hz2⟩:=info_parts gN;have HU:Hid (FactsV w u m):=hU;obtain⟨ao,cap,rfl,_,hA⟩:=hV;obtain⟨bo,cbp,rfl,_,_⟩:=id hU;have HA:Hid (FactsAt w ao l):=hA;have HF:Hid ((∀f,f∈l→FFit f)∧∀f,f∈m→FFit f):=⟨hf,hg⟩;obtain⟨P,hP⟩:∃P:Rl.Fc→Bool,P=fun x=> !Rl.has m x:=⟨_,rfl⟩;have HPE:Hid (P=fun x=> !Rl.has m x):=hP;clear hA hf hg hU hP;go_enter Tryz.func48,Tryz.ntmps48;(go_wp2_with fail);(go_loopw [5,6] (fun vs i wr=>∃(k:Nat)(q:List Fv),k≤l.length∧i=.int .i64 k∧wr.ownsRow w.heap.size 55 2 vs q.length (q.map fcCells).flatten∧q.map (·.1)=(l.take k).filter P∧(∀p,p∈q→FvOk w p)∧Below w.heap.size w wr∧q.length≤k) (fun _ i _=>l.length-(intOf i).toNat));case atStart=>exact⟨0,[],aR _,rfl,bY _ _ _ _,rfl,fun _ hp=>absurd hp (by simp),aG _ _,aE _⟩
 case round=>
  obtain⟨wo,hwo⟩:∃wo,wo=wr:=⟨_,rfl⟩;subst hwo;obtain⟨k,q,hk,rfl,hown,hqf,hqo,hb,hqk⟩:=hrel;have HQF:Hid _:=hqf;have HQO:Hid _:=hqo;clear hqf hqo;obtain⟨aos,caps,rfl⟩:=aW hown;by_cases hlt:k<l.length
  ·obtain⟨b,off,rfl,p0,fv,p1,hIv⟩:=fG HA.out k hlt;have hmem:=eW l k hlt;(have HTK:Hid ((l.take (k+1)).filter P=(l.take k).filter P++if P (Rl.factD l k)then [Rl.factD l k] else []):=by show _=_;rw[cO,iX l k hlt,fM];simp only[Option.toList_some,fT,List.filter_nil]);have HIV:Hid (IntsV w fv (Rl.factD l k).args):=hIv;have HFF:Hid (FFit (Rl.factD l k)):=HF.out.1 _ hmem;(have HPF:Hid (P (Rl.factD l k)= !Rl.has m (Rl.factD l k)):=by show _=_;rw[HPE.out]);obtain⟨af,cf,rfl,_⟩:=hIv;have a0:=aB hb p0;have a1:=aB hb p1;have HP0:Hid (w.cell? ⟨b,off+k*2,none⟩=some (.int .i64 (Rl.factD l k).pred)∧w.cell? ⟨b,off+k*2+1,none⟩=some (.slice af (Rl.factD l k).args.length cf)):=⟨p0,p1⟩;clear p0 p1 hmem;generalize Rl.factD l k=f at *;have HHF:Hid _:=mN m f _ _ wo (aL HU.out hb) (aK HIV.out hb) (by omega) HF.out.2 HFF.out;(go_wp2_with fail);refine Calls.mono HHF.out ?_;rintro e w1 ⟨rfl,hb1⟩;have hown1:=aQ hown hb1;have hbw1:=hb.trans (hb1.mono hb.size);clear hown hb hb1 HHF a0 a1;cases hh:Rl.has m f
   ·(have hp:P f=true:=by rw[HPF.out,hh];rfl);rw[hp,if_pos rfl]at HTK;(have HT2:Hid ((q++[(f,Value.slice af f.args.length cf)]).map (·.1)=(l.take (k+1)).filter P):=by show _=_;rw[HTK.out,←HQF.out];simp);have HO2:Hid (∀p,p∈q++[(f,Value.slice af f.args.length cf)]→FvOk w p):=by
     intro p hp;rcases bP.mp hp with hp|hp
     ·exact HQO.out p hp
     (obtain rfl:p=(f,Value.slice af f.args.length cf):=by simpa using hp);exact⟨HIV.out,HFF.out⟩
    clear HTK HQF HQO hp;have b0:=aB hbw1 HP0.out.1;have b1:=aB hbw1 HP0.out.2;have hbsz:=hbw1.size;(go_wp2_with(at_builtin;refine wpList_append_own _ rfl _ _ 27 rfl w.heap.size 55 i0 _ 2 32 Tryz.underlying27 hi hz0 hz1 hz2 rfl (by decide) _ _ _ rfl (hown1.alloc _) ⟨w1.heap.size,0,none⟩ 1 1 (fcCells (f, .slice af f.args.length cf)) rfl rfl ?c1 ?c2 ?c3 ?c4 ?c5 ?_));(case c1=>exact news2 w1 _ _ 55);(case c2=>intro u hu;simp[fcCells]at hu;rcases hu with rfl|rfl<;>rfl);(case c3=>unfold maxLen;omega);(case c4=>omega);(case c5=>simp;omega);intro vs2 w4 hown4 hgrow4 _;obtain⟨ao9,cap9,rfl⟩:=aW hown4;have hb5:Below w.heap.size w w4:=(hbw1.alloc hbw1.size _).grown hgrow4 (by simp;omega) (fun k hk=>(hown1.lt k hk).1);(have hown5:w4.ownsRow w.heap.size 55 2 (.slice ao9 (q.length+1) cap9) (q++[(f,Value.slice af f.args.length cf)]).length ((q++[(f,Value.slice af f.args.length cf)]).map fcCells).flatten:=by rw[aJ,bF,dI];simpa using hown4);clear hown4 hgrow4 hown1 hbw1 b0 b1;(go_wp2_with fail);go_roundw;(case rel=>exact⟨k+1,_,by omega,by go_num,hown5,HT2.out,HO2.out,hb5,by rw[aJ];simp;omega⟩);case measure=>simp[intOf];omega
   (have hp:P f=false:=by rw[HPF.out,hh];rfl);rw[hp,if_neg (by simp)]at HTK;(have HT2:Hid (q.map (·.1)=(l.take (k+1)).filter P):=by show _=_;rw[HTK.out,HQF.out];simp);clear HTK HQF hp;(go_wp2_with fail);go_roundw;(case rel=>exact⟨k+1,q,by omega,by go_num,hown1,HT2.out,HQO.out,hbw1,by omega⟩);case measure=>simp[intOf];omega
  (have HQF2:Hid (q.map (·.1)=l.filter P):=by show _=_;rw[HQF.out,bR (by omega)]);(have HFV:Hid (FactsV wo (.slice aos q.length caps) (l.filter P)∧(l.filter P).length≤2097152∧∀f,f∈l.filter P→FFit f):=by refine⟨?_,by have :=eN P l;omega,fun f hf=>HF.out.1 f (dX.mp hf).1⟩;rw[←HQF2.out];exact iN hown HQO.out hb);(have HM:Hid (Rl.set (l.filter P)=Rl.minus l m):=by show _=_;rw[HPE.out];rfl);clear HQF HQF2 hown HQO;(go_wp2_with fail);refine Calls.mono (lK (l.filter P) _ _ HFV.out.1 HFV.out.2.1 HFV.out.2.2) ?_;rintro e w3 ⟨v3,rfl,hS,hb3⟩;obtain⟨q3,_,hown3,_⟩:=id hS;obtain⟨a3,c3,rfl⟩:=aW hown3;(have HS:Hid (FactsV w3 (.slice a3 q3.length c3) (Rl.minus l m)):=by rw[←HM.out];exact hS.toV hb3);have hb4:=hb.trans (hb3.mono hb.size);clear hown3 hS hb3 HFV HM;(go_wp2_with fail);go_ret;exact⟨_,rfl,HS.out,hb4⟩
namespace Md
open Ru
theorem chkF_factsE{p:Sc.Prog}{l:List Rl.Fc}(hc:Sc.check p=0):chkF p l=factsE p l:=by
 unfold chkF factsE factsErr;split
 ·rfl
 refine first_congr fun f _=>?_;unfold Sc.fact Sc.thn;rw[if_pos hc]
theorem chkF_nil(p:Sc.Prog):chkF p []=0:=rfl
theorem thn_zero(a:Int):Sc.thn a 0=a:=by unfold Sc.thn;split<;>simp_all
theorem pre_nil(p:Sc.Prog)(l:List Rl.Fc):pre p l []=Sc.thn (St.levErr p) (chkF p l):=by unfold pre;rw[chkF_nil,thn_zero]
section
variable {p:Sc.Prog} {S:List Rl.Fc} {i:Nat}
theorem rule_nat(p:Sc.Prog)(i:Nat):rule p (i:Int)=Sc.ruleD p.rules i:=by unfold rule;rw[dB]
theorem in_of(hp:ProgOk p)(hS:Facts p S)(h6:S.length≤60)(hi:i<p.rules.length):In p (i:Int) S:=⟨hp,by omega,by omega,h6,hS.right⟩
theorem ref_ok(hp:ProgOk p)(hS:Facts p S)(h6:S.length≤60)(hi:i<p.rules.length):refOk S (Sc.ruleD p.rules i)=decide ((Ru.ways S (Sc.ruleD p.rules i)).length≤2000):=by have h:=(in_perm (in_of hp hS h6 hi)).length_eq;rw[rule_nat,set_up hS.up]at h;unfold refOk;rw[set_up hS.up,h]
theorem ref_heads(hp:ProgOk p)(hS:Facts p S)(h6:S.length≤60)(hi:i<p.rules.length)(ho:refOk S (Sc.ruleD p.rules i)=true):heads (Sc.ruleD p.rules i) (refOut S (Sc.ruleD p.rules i))=hd S (Sc.ruleD p.rules i):=by have h:=in_perm (in_of hp hS h6 hi);rw[rule_nat,set_up hS.up]at h;have hr:=hp.rule _ (ruleD_in hi);unfold refOut;rw[if_pos ho,set_up hS.up];exact(heads_perm _ (srt_perm (refWays_nodup (ruleIn_of hr hS.right) (up_nodup hS.up)))).trans (heads_perm _ h.symm)
end
def HeadsTo(p:Sc.Prog)(k:Int)(S:List Rl.Fc)(i:Nat)(H:List Rl.Fc):Prop:=∀f,f∈H↔∃j,j<i∧lv p (Sc.ruleD p.rules j).pred=k∧f∈hd S (Sc.ruleD p.rules j)
def FewTo(p:Sc.Prog)(k:Int)(S:List Rl.Fc)(i:Nat):Prop:=∀j,j<i→lv p (Sc.ruleD p.rules j).pred=k→(Ru.ways S (Sc.ruleD p.rules j)).length≤2000
theorem headsTo_nil(p:Sc.Prog)(k:Int)(S:List Rl.Fc):HeadsTo p k S 0 []:=fun _=>⟨fun h=>absurd h (by simp),fun⟨j,hj,_⟩=>absurd hj (fD j)⟩
theorem headsTo_yes{p:Sc.Prog}{k:Int}{S H:List Rl.Fc}{i:Nat}(h:HeadsTo p k S i H)(hk:lv p (Sc.ruleD p.rules i).pred=k):HeadsTo p k S (i+1) (H++hd S (Sc.ruleD p.rules i)):=fun f=>by
 rw[bP,h f];constructor
 ·rintro(⟨j,hj,h1,h2⟩|h1)
  ·exact⟨j,by omega,h1,h2⟩
  exact⟨i,by omega,hk,h1⟩
 rintro⟨j,hj,h1,h2⟩;by_cases hji:j<i
 ·exact .inl ⟨j,hji,h1,h2⟩
 (obtain rfl:j=i:=by omega);exact .inr h2
theorem headsTo_no{p:Sc.Prog}{k:Int}{S H:List Rl.Fc}{i:Nat}(h:HeadsTo p k S i H)(hk:¬lv p (Sc.ruleD p.rules i).pred=k):HeadsTo p k S (i+1) H:=fun f=>by
 rw[h f];constructor
 ·rintro⟨j,hj,h1,h2⟩;exact⟨j,by omega,h1,h2⟩
 rintro⟨j,hj,h1,h2⟩;by_cases hji:j<i
 ·exact⟨j,hji,h1,h2⟩
 (obtain rfl:j=i:=by omega);exact absurd h1 hk
theorem fewTo_yes{p:Sc.Prog}{k:Int}{S:List Rl.Fc}{i:Nat}(h:FewTo p k S i)(hw:(Ru.ways S (Sc.ruleD p.rules i)).length≤2000):FewTo p k S (i+1):=fun j hj hk=>by
 by_cases hji:j<i
 ·exact h j hji hk
 (obtain rfl:j=i:=by omega);exact hw
theorem fewTo_no{p:Sc.Prog}{k:Int}{S:List Rl.Fc}{i:Nat}(h:FewTo p k S i)(hn:¬lv p (Sc.ruleD p.rules i).pred=k):FewTo p k S (i+1):=fun j hj hk=>by
 by_cases hji:j<i
 ·exact h j hji hk
 (obtain rfl:j=i:=by omega);exact absurd hk hn
theorem mem_minus{l m:List Rl.Fc}{f:Rl.Fc}:f∈Rl.minus l m↔f∈l∧f∉m:=by
 unfold Rl.minus;rw[Rl.mem_set,dX];refine and_congr Iff.rfl ?_;cases h:Rl.has m f
 ·simp;intro hm;rw[Rl.has_iff.mpr hm]at h;cases h
 simp;exact Rl.has_iff.mp h
theorem set_nodup_len{L:List Rl.Fc}(h:L.Nodup):(Rl.set L).length=L.length:=((kH (up_nodup (Rl.set_isSet L).1) h).mpr fun _=>Rl.mem_set).length_eq
section
variable {p:Sc.Prog} {k:Int} {S H:List Rl.Fc}
theorem ref_grows(h:HeadsTo p k S p.rules.length H):Grows p k S (Rl.union S (Rl.minus H S)):=by
 refine⟨fun f hf=>mem_union.mpr (.inl hf),fun f hf=>?_,(Rl.set_isSet _).1⟩;rcases mem_union.mp hf with h1|h1
 ·exact .inl h1
 obtain⟨j,hj,hk,h2⟩:=(h f).mp (mem_minus.mp h1).1;exact .inr ⟨_,ruleD_in hj,hk,h2⟩
theorem ref_len(hS:Rl.Up S):(Rl.union S (Rl.minus H S)).length=S.length+(Rl.minus H S).length:=by unfold Rl.union;rw[set_nodup_len,aJ];rw[List.nodup_append];refine⟨up_nodup hS,up_nodup (Rl.set_isSet _).1,fun a ha b hb e=>?_⟩;subst e;exact(mem_minus.mp hb).2 ha
theorem ref_closed(hS:Rl.Up S){m:List Rl.Fc}(hr:Reach p k m S)(h6:S.length≤60)(h:HeadsTo p k S p.rules.length H)(hf:FewTo p k S p.rules.length)(hl:(Rl.union S (Rl.minus H S)).length=S.length):LevRes p k m (some (Rl.union S (Rl.minus H S))):=by
 have e:Rl.union S (Rl.minus H S)=S:=same_len hS (Rl.set_isSet _).1 (fun f hf=>mem_union.mpr (.inl hf)) (by omega);rw[e];refine⟨hr,fun r hrr hk f hf2=>?_,h6,fun r hrr hk=>?_⟩
 ·obtain⟨i,hi,rfl⟩:=mem_ruleD hrr;refine Classical.byContradiction fun hn=>hn ?_;rw[←e];exact mem_union.mpr (.inr (mem_minus.mpr ⟨(h f).mpr ⟨i,hi,hk,hf2⟩,hn⟩))
 obtain⟨i,hi,rfl⟩:=mem_ruleD hrr;exact hf i hi hk
end
end Md
theorem mO(p:Sc.Prog)(l:List Rl.Fc)(va vn vr vl:Value)(w:World)(hP:ProgV w va vn vr p)(hF:ProgFit p)(hV:FactsV w vl l)(hVl:l.length≤9223372036854775807)(hVF:∀f,f∈l→FFit f):
 Calls Tryz.prog 31 #[progVal va vn vr,vl] w fun e w'=>e=.returned (.int .i64 (Md.pre p l []))∧Below w.heap.size w w':=by
 obtain⟨a0,n0,rfl,_⟩:=id hP.ar;obtain⟨a1,n1,rfl,_⟩:=id hP.nm;obtain⟨a2,n2,rfl,_⟩:=id hP.rl;obtain⟨al,cl,rfl,_⟩:=id hV;have bT:=(aG w.heap.size w).alloc (aE _) (.cells #[.slice a0 p.arity.length n0, .slice a1 p.names.length n1, .slice a2 p.rules.length n2] 26);have HBX:Hid _:=heap_alloc_new w (.cells #[.slice a0 p.arity.length n0, .slice a1 p.names.length n1, .slice a2 p.rules.length n2] 26);have HB:Hid (Below w.heap.size w _):=bT;have HP:Hid (ProgV w (.slice a0 p.arity.length n0) (.slice a1 p.names.length n1) (.slice a2 p.rules.length n2) p∧ProgFit p):=⟨hP,hF⟩;have HV:Hid (FactsV w (.slice al l.length cl) l∧l.length≤9223372036854775807∧∀f,f∈l→FFit f):=⟨hV,hVl,hVF⟩;have HC:Hid _:=oT p _ _ _ _ (hP.below bT) hF;clear hP hF hV hVl hVF bT
 go_enter Tryz.func31,Tryz.ntmps31
 (go_upto_region 1 with fail);generalize w.alloc (.cells #[.slice a0 p.arity.length n0, .slice a1 p.names.length n1, .slice a2 p.rules.length n2] 26)=w1 at *;(have HXX:Hid (∀y,Below w1.heap.size w1 y→y.cell? ⟨w.heap.size,0,none⟩=some (.slice a0 p.arity.length n0)∧y.cell? ⟨w.heap.size,1,none⟩=some (.slice a1 p.names.length n1)∧y.cell? ⟨w.heap.size,2,none⟩=some (.slice a2 p.rules.length n2)):=fun y hy=>by have h:=(hy.block _ (aY HBX.out)).trans HBX.out;exact⟨by rw[aA h];rfl,by rw[aA h];rfl,by rw[aA h];rfl⟩);obtain⟨c0,c1,c2⟩:=HXX.out w1 (aG _ _);(go_wp2_with fail);refine Calls.mono HC.out ?_;rintro _ w2 ⟨rfl,hb2⟩;have HB2:Hid (Below w1.heap.size w1 w2):=hb2;have HW2:Hid (Below w.heap.size w w2):=HB.out.trans (hb2.mono HB.out.size);clear c0 c1 c2 hb2 HC;by_cases hc:Sc.check p=0
 ·have HC2:Hid _:=oG p _ _ _ w2 (HP.out.1.below HW2.out) hc;have HCK:Hid _:=hc;obtain⟨c0,c1,c2⟩:=HXX.out w2 HB2.out;rw[hc];clear hc;(go_wp2_with fail);refine Calls.mono HC2.out ?_;rintro _ w3 ⟨v3,l3,rfl,hI3,_,hb3⟩;have HB3:Hid (Below w1.heap.size w1 w3):=HB2.out.trans (hb3.mono HB2.out.size);have HW3:Hid (Below w.heap.size w w3):=HB.out.trans (HB3.out.mono HB.out.size);obtain⟨a3,c3,rfl,_⟩:=id hI3;clear c0 c1 c2 hb3 HC2 hI3;cases hfl:St.flat p
  ·(have HE:Hid (Md.pre p l []=4):=by show _=_;rw[Md.pre_nil];unfold St.levErr;rw[if_pos HCK.out,hfl];rfl);(go_wp2_with fail);go_ret;exact⟨by rw[HE.out];rfl,HW3.out⟩
  (have HE:Hid (Md.pre p l []=Ru.factsE p l):=by show _=_;rw[Md.pre_nil,Md.chkF_factsE HCK.out];unfold St.levErr;rw[if_pos HCK.out,hfl];rfl);have HC4:Hid _:=mP p l _ _ _ _ w3 (HP.out.1.below HW3.out) HP.out.2 (aL HV.out.1 HW3.out) HV.out.2.1 HV.out.2.2;obtain⟨c0,c1,c2⟩:=HXX.out w3 HB3.out;(go_wp2_with fail);refine Calls.mono HC4.out ?_;rintro _ w4 ⟨rfl,hb4⟩;have HW4:Hid (Below w.heap.size w w4):=HW3.out.trans (hb4.mono HW3.out.size);clear hb4 HC4 c0 c1 c2;(go_wp2_with fail);go_ret;exact⟨by rw[HE.out];rfl,HW4.out⟩
 (have HE:Hid (Md.pre p l []=Sc.check p):=by show _=_;rw[Md.pre_nil];unfold St.levErr Sc.thn;rw[if_neg hc,if_neg hc]);(have g:(Sc.check p != 0)=true:=by simpa using hc);clear hc;(go_wp2_with fail);go_ret;exact⟨by rw[HE.out];rfl,HW2.out⟩
theorem yI(p:Sc.Prog)(l:List Rl.Fc)(va vn vr vl:Value)(w:World)(hP:ProgV w va vn vr p)(hF:ProgFit p)(hV:FactsV w vl l)(hz:Md.pre p l []=0):
 Calls Tryz.prog 73 #[progVal va vn vr,vl] w fun e w'=>∃v x,e=.returned (.tuple #[v, .bool x.isSome])∧Md.IsModel p l x∧FactsV w' v (x.getD [])∧Below w.heap.size w w':=by
 obtain⟨hck,hfl,hcl,_⟩:=Md.pre_zero hz;have hfine:=Md.fine_of hck hfl;obtain⟨hl6,hlr⟩:=Md.chkF_zero hck hcl;have hsf:=Md.set_facts hlr;obtain⟨a0,n0,rfl,_⟩:=id hP.ar;obtain⟨a1,n1,rfl,_⟩:=id hP.nm;obtain⟨a2,n2,rfl,hRA⟩:=id hP.rl;obtain⟨al,cl,rfl,_⟩:=id hV;have bT:=(aG w.heap.size w).alloc (aE _) (.cells #[.slice a0 p.arity.length n0, .slice a1 p.names.length n1, .slice a2 p.rules.length n2] 26);have HBX:Hid _:=heap_alloc_new w (.cells #[.slice a0 p.arity.length n0, .slice a1 p.names.length n1, .slice a2 p.rules.length n2] 26);have HB:Hid (Below w.heap.size w _):=bT;have HP:Hid (ProgV w (.slice a0 p.arity.length n0) (.slice a1 p.names.length n1) (.slice a2 p.rules.length n2) p∧ProgFit p):=⟨hP,hF⟩;have HV:Hid (FactsV w (.slice al l.length cl) l∧l.length≤60∧∀f,f∈l→FFit f):=⟨hV,hl6,fun f hf=>by have :=Md.right_args hfine.ok (hlr f hf);unfold FFit;omega⟩;have HFN:Hid (Md.Fine p∧Md.Facts p (Rl.set l)):=⟨hfine,hsf⟩;have HRA:Hid _:=hRA;have HAR:Hid (p.arity.length≤10∧p.rules.length≤12):=⟨hfine.ok.a10,hfine.ok.r12⟩;have hrl12:p.rules.length≤12:=hfine.ok.r12;have hal10:p.arity.length≤10:=hfine.ok.a10;have HS6:Hid ((Rl.set l).length≤60):=aU (Md.set_length l) hl6;have HFLAT:Hid _:=hfl;have HC:Hid _:=oG p _ _ _ _ (hP.below bT) hck;clear hP hF hV bT hck hfl hcl hfine hlr hsf hRA hz hl6
 go_enter Tryz.func73,Tryz.ntmps73
 (go_upto_region 1 with fail);generalize w.alloc (.cells #[.slice a0 p.arity.length n0, .slice a1 p.names.length n1, .slice a2 p.rules.length n2] 26)=w1 at *;(have HXX:Hid (∀y,Below w1.heap.size w1 y→y.cell? ⟨w.heap.size,0,none⟩=some (.slice a0 p.arity.length n0)∧y.cell? ⟨w.heap.size,1,none⟩=some (.slice a1 p.names.length n1)∧y.cell? ⟨w.heap.size,2,none⟩=some (.slice a2 p.rules.length n2)):=fun y hy=>by have h:=(hy.block _ (aY HBX.out)).trans HBX.out;exact⟨by rw[aA h];rfl,by rw[aA h];rfl,by rw[aA h];rfl⟩);obtain⟨c0,c1,c2⟩:=HXX.out w1 (aG _ _);(go_wp2_with fail);refine Calls.mono HC.out ?_;rintro _ w2 ⟨v2,l2,rfl,hI2,hl2,hb2⟩;obtain rfl:=hl2 HFLAT.out;have HB2:Hid (Below w1.heap.size w1 w2):=hb2;have HW2:Hid (Below w.heap.size w w2):=HB.out.trans (hb2.mono HB.out.size);obtain⟨av,cv,rfl,hIA⟩:=id hI2;have HI2:Hid (IntsAt w2 av (St.level p)):=hIA;have HLL:Hid ((St.level p).length=p.arity.length):=St.level_length p;have HC3:Hid _:=lK l _ w2 (aL HV.out.1 HW2.out) (by have :=HV.out.2.1;omega) HV.out.2.2;clear c0 c1 c2 hb2 HC hI2 hl2 hIA;obtain⟨ll,hll⟩:∃ll,ll=(St.level p).length:=⟨_,rfl⟩;rw[←hll];have HLE:Hid (ll=(St.level p).length):=hll;clear hll;(go_wp2_with fail);refine Calls.mono HC3.out ?_;rintro _ w3 ⟨v3,rfl,hS3,hb3⟩;have HFS:Hid _:=hS3.toV hb3;obtain⟨a3,c3,rfl,_⟩:=id HFS.out;have HI3:Hid (IntsAt w3 av (St.level p)):=iH HI2.out hb3;have HB3:Hid (Below w1.heap.size w1 w3):=HB2.out.trans (hb3.mono HB2.out.size);clear hb3 HC3 hS3 HB2 HW2 HI2;have HXW:Hid (∀y,Below w3.heap.size w3 y→Below w.heap.size w y∧Below w1.heap.size w1 y):=fun y hy=>⟨HB.out.trans ((HB3.out.trans (hy.mono HB3.out.size)).mono HB.out.size),HB3.out.trans (hy.mono HB3.out.size)⟩;(go_wp2_with fail);(go_loopw [8,9] (fun m nv wr=>∃(n:Nat)(T:List Rl.Fc),n≤p.arity.length∧nv=.int .i64 n∧Hid (Md.Run p (Rl.set l) n (some T))∧T.length≤60∧Hid (FactsV wr m T)∧Hid (Below w3.heap.size w3 wr)) (fun _ nv _=>p.arity.length-(intOf nv).toNat));case atStart=>exact⟨0,Rl.set l,aR _,rfl,rfl,HS6.out,HFS.out,aG _ _⟩
 case round=>
  clear HFS;obtain⟨wo,hwo⟩:∃wo,wo=wr:=⟨_,rfl⟩;subst hwo;obtain⟨n,T,hn,rfl,HRN,hT6,HFT,HBo⟩:=hrel;obtain⟨aT,cT,rfl,_⟩:=id HFT.out;obtain⟨c0,c1,c2⟩:=HXX.out wo (HXW.out wo HBo.out).2;have HTF:Hid _:=Md.run_facts HFN.out.1 HFN.out.2 HRN.out;by_cases hlt:n<p.arity.length
  ·have hdn:decide (n<p.arity.length)=true:=decide_eq_true hlt;(go_wp2_with fail);clear c0 c1 c2;(go_loopw [8,10] (fun m mv wr=>∃(S:List Rl.Fc)(mz:Int),mv=.int .i64 mz∧ -1≤mz∧Hid (Md.Reach p n T S)∧S.length≤60∧Hid (mz= -1∨(mz≤S.length∧(mz=S.length→Md.LevRes p n T (some S))))∧Hid (FactsV wr m S)∧Hid (Below w3.heap.size w3 wr)) (fun _ mv _=>62-(intOf mv+1).toNat));case atStart=>exact⟨T, -1,rfl,by omega,Md.Reach.refl,hT6, .inl rfl,HFT.out,HBo.out⟩
   case round=>
    obtain⟨wx,hwx⟩:∃wx,wx=wr:=⟨_,rfl⟩;subst hwx;obtain⟨S,mz,rfl,hmz,HRS,hS6,HMZ,HFS,HBx⟩:=hrel;obtain⟨aS,cS,rfl,_⟩:=id HFS.out;have HSF:Hid _:=Md.reach_facts HFN.out.1 HTF.out HRS.out;by_cases hm:mz<S.length
    ·have hdm:decide (mz<(S.length:Int))=true:=decide_eq_true hm;obtain⟨c0,c1,c2⟩:=HXX.out wx (HXW.out wx HBx.out).2;(go_wp2_with fail);clear c0 c1 c2;(go_loopw [11,12] (fun hv iv wr=>∃(i:Nat)(q:List Fv),i≤p.rules.length∧iv=.int .i64 i∧Hid (wr.ownsRow wx.heap.size 55 2 hv q.length (q.map fcCells).flatten)∧Hid (ArgsP wx.heap.size wr q)∧q.length≤2000*i∧Hid (Md.HeadsTo p n S i (q.map (·.1)))∧Hid (Md.FewTo p n S i)∧Hid (Below wx.heap.size wx wr)) (fun _ iv _=>p.rules.length-(intOf iv).toNat));case atStart=>exact⟨0,[],aR _,rfl,bY _ _ _ _,fun _ hp=>absurd hp (by simp),aE _,Md.headsTo_nil _ _ _,fun j hj=>absurd hj (fD j),aG _ _⟩
     case round=>
      obtain⟨wy,hwy⟩:∃wy,wy=wr:=⟨_,rfl⟩;subst hwy;obtain⟨i,q,hi,rfl,HO,HAP,hql,HHT,HFW,HBy⟩:=hrel;obtain⟨ao,co,rfl⟩:=aW HO.out;have HBy3:Hid (Below w3.heap.size w3 wy):=HBx.out.trans (HBy.out.mono HBx.out.size);have HWy:Hid _:=HXW.out wy HBy3.out;obtain⟨c0,c1,c2⟩:=HXX.out wy HWy.out.2;have HFSy:Hid _:=aL HFS.out HBy.out;by_cases hil:i<p.rules.length
      ·have hdi:decide (i<p.rules.length)=true:=decide_eq_true hil;have HIN:Hid _:=Md.in_of HFN.out.1.ok HSF.out hS6 hil;obtain⟨b,off,rfl,p0,⟨vt,p1,hT⟩,p2,⟨vb,p3,hL⟩,p4⟩:=iA HRA.out i hil;have HWO:Hid (∀y,Below w.heap.size w y→FactsV y (.slice aS S.length cS) S→_):=fun y (hy:Below w.heap.size w y) hfy=>aBt p i S vt vb (.slice aS S.length cS) y HIN.out (by rw[Md.rule_nat];exact bK hT hy) (by rw[Md.rule_nat];exact fR hL hy) hfy;have HHE:Hid _:=fun(y:World) (hy:Below w.heap.size w y) (qq:List Nv) (vw:Value) (B:Nat) (hN:NumsP B y vw qq) hqq=>aAu p i S qq vt vb vw B y HIN.out (by rw[Md.rule_nat];exact bK hT hy) (by rw[Md.rule_nat];exact fR hL hy) hN hqq;rw[Md.rule_nat]at HWO HHE;obtain⟨at_,ct,rfl,_⟩:=id hT;obtain⟨ab,cb,rfl,_⟩:=id hL;have hr:Ru.RuleOk p.arity (Sc.ruleD p.rules i):=HFN.out.1.ok.rule _ (Md.ruleD_in hil);obtain⟨pr,hpr⟩:∃pr:Nat,(Sc.ruleD p.rules i).pred=pr:=⟨(Sc.ruleD p.rules i).pred.toNat,by have :=hr.p0;omega⟩;(have hprn:pr<(St.level p).length:=by have :=hr.p1;rw[HLL.out];omega);obtain⟨lb,loff,rfl,hlc⟩:=eP HI3.out pr hprn;have l0:=aB HBy3.out hlc;(have HLV:Hid (Md.lv p (Sc.ruleD p.rules i).pred=Sc.intD (St.level p) pr):=by show _=_;unfold Md.lv Sc.intD;rw[hpr,dB]);have HRO:Hid _:=Md.ref_ok HFN.out.1.ok HSF.out hS6 hil;have HRH:Hid _:=Md.ref_heads HFN.out.1.ok HSF.out hS6 hil;have HIM:Hid _:=Md.ruleD_in hil;have HQC:Hid (w.cell? ⟨b,off+i*5,none⟩=some (.int .i64 (pr:Int))∧w.cell? ⟨b,off+i*5+1,none⟩=some (.slice at_ (Sc.ruleD p.rules i).terms.length ct)∧w.cell? ⟨b,off+i*5+2,none⟩=some (.int .i64 (Sc.ruleD p.rules i).fold)∧w.cell? ⟨b,off+i*5+3,none⟩=some (.slice ab (Sc.ruleD p.rules i).body.length cb)∧w.cell? ⟨b,off+i*5+4,none⟩=some (.int .i64 (Sc.ruleD p.rules i).vars)):=⟨by rw[←hpr];exact p0,p1,p2,p3,p4⟩;have HPR:Hid _:=hpr;(have hprl:pr<ll:=by have :=hr.p1;have :=HLL.out;have :=HLE.out;omega);have q0:=aB HWy.out.1 HQC.out.1;clear p0 p1 p2 p3 p4 hT hL hr hpr hlc hprn;by_cases hk:Md.lv p (Sc.ruleD p.rules i).pred=n
       ·(have g1:(Sc.intD (St.level p) pr != (n:Int))=false:=by rw[←HLV.out];simpa using hk);have HK:Hid _:=hk;have q1:=aB HWy.out.1 HQC.out.2.1;have q2:=aB HWy.out.1 HQC.out.2.2.1;have q3:=aB HWy.out.1 HQC.out.2.2.2.1;have q4:=aB HWy.out.1 HQC.out.2.2.2.2;have HW5:Hid _:=HWO.out wy HWy.out.1 HFSy.out;unfold pruleVal at HW5;rw[HPR.out]at HW5;clear hk HWO;(go_wp2_with fail);refine Calls.mono HW5.out ?_;rintro _ w5 ⟨v5,q5,rfl,hN5,hq5,hb5⟩;obtain⟨a5,c5,rfl⟩:=aW hN5.1;have HNP5:Hid (NumsP wy.heap.size w5 (.slice a5 q5.length c5) q5):=hN5;have HQ5:Hid _:=hq5;have HB5:Hid (Below wx.heap.size wx w5):=HBy.out.trans (hb5.mono HBy.out.size);have HB53:Hid (Below w3.heap.size w3 w5):=HBx.out.trans (HB5.out.mono HBx.out.size);have HO5:Hid _:=aQ HO.out hb5;have HAP5:Hid (ArgsP wx.heap.size w5 q):=ArgsP.below HAP.out hb5;clear c0 c1 c2 q0 q1 q2 q3 q4 l0 hb5 HW5 hN5 hq5 HO HAP HBy HBy3 HWy HFSy;cases hok:Ru.refOk S (Sc.ruleD p.rules i)
        ·have HNO:Hid (Md.LevRes p n T none):=Md.lev_none HFN.out.1 HTF.out HRS.out (fun hs=>by
          have h1:=hs.way _ HIM.out HK.out;rw[HRO.out]at hok
          exact absurd h1 (of_decide_eq_false hok))
         have HMD:Hid (Md.IsModel p l none):=Md.run_none_le (n:=n+1) ⟨some T,HRN.out,HNO.out⟩ hlt;have HWW:Hid _:=(HXW.out w5 HB53.out).1;clear hok;(go_wp2_with fail);refine bodyPost_ret (results_tmp2 rfl _ _ _) rfl ?_;exact⟨_,none,rfl,HMD.out,⟨none,0,rfl,⟨aE _,fun _=>rfl⟩, .inl rfl⟩,HWW.out⟩
        have HHD:Hid _:=HRH.out hok;(have HWS:Hid ((Ru.ways S (Sc.ruleD p.rules i)).length≤2000):=by rw[HRO.out]at hok;show _≤_;exact of_decide_eq_true hok);have HW5:Hid _:=HXW.out w5 HB53.out;obtain⟨c0,c1,c2⟩:=HXX.out w5 HW5.out.2;have q0:=aB HW5.out.1 HQC.out.1;have q1:=aB HW5.out.1 HQC.out.2.1;have q2:=aB HW5.out.1 HQC.out.2.2.1;have q3:=aB HW5.out.1 HQC.out.2.2.2.1;have q4:=aB HW5.out.1 HQC.out.2.2.2.2;have HH5:Hid _:=HHE.out w5 HW5.out.1 q5 _ _ HNP5.out HQ5.out;unfold pruleVal at HH5;rw[HPR.out,HHD.out]at HH5;have hhd:(Ru.hd S (Sc.ruleD p.rules i)).length≤2000:=aU Md.hd_len HWS.out;clear hok HHE;(go_upto_region 17 with fail);(go_wp2_with fail);refine Calls.mono HH5.out ?_;rintro _ w6 ⟨v6,rfl,⟨q6,h61,h62,h63⟩,hb6⟩;(have hq6:q6.length≤2000:=by rw[←h61,aN]at hhd;exact hhd);obtain⟨a6,c6,rfl⟩:=aW h62;have HO6:Hid _:=aQ HO5.out hb6;have HAP6:Hid (ArgsP wx.heap.size w6 q):=ArgsP.below HAP5.out hb6;have HB6:Hid (Below wx.heap.size wx w6):=HB5.out.trans (hb6.mono HB5.out.size);have hsz6:wx.heap.size≤w6.heap.size:=HB6.out.size;have hsz5:wx.heap.size≤w5.heap.size:=HB5.out.size;(have hHT:Md.HeadsTo p n S (i+1) ((q++q6).map (·.1)):=by rw[bF,h61];exact Md.headsTo_yes HHT.out HK.out);have HHT6:Hid _:=hHT;have HFW6:Hid _:=Md.fewTo_yes HFW.out HWS.out;clear h61 hHT hb6 HH5 c0 c1 c2 q0 q1 q2 q3 q4;(go_wp2_with(at_builtin;refine sQ rfl (.tmp 65) (.tmp 72) rfl wx.heap.size w5.heap.size _ q.length q rfl rfl HO6.out HAP6.out _ q6 rfl h62 h63 hsz5 hsz6 ?c1 ?_));(case c1=>omega);intro v7 w7 ho7 hA7 hb7;obtain⟨a7,c7,rfl⟩:=aW ho7;(have HO7:Hid (w7.ownsRow wx.heap.size 55 2 (.slice a7 (q.length+q6.length) c7) (q++q6).length ((q++q6).map fcCells).flatten):=by show World.ownsRow _ _ _ _ _ _ _;rw[aJ,bF,dI];exact ho7);have HA7:Hid _:=hA7;have HB7:Hid (Below wx.heap.size wx w7):=HB6.out.trans hb7;(have hq7:(q++q6).length≤2000*(i+1):=by rw[aJ];omega);clear ho7 hA7 hb7 h62 h63 HO6 HAP6 HB6;(go_wp2_with fail);go_roundw;(case rel=>exact⟨i+1,q++q6,hil,by go_num,HO7.out,HA7.out,hq7,HHT6.out,HFW6.out,HB7.out⟩);case measure=>simp[intOf];omega
       (have g1:(Sc.intD (St.level p) pr != (n:Int))=true:=by rw[←HLV.out];simpa using hk);have HHT6:Hid _:=Md.headsTo_no HHT.out hk;have HFW6:Hid _:=Md.fewTo_no HFW.out hk;clear hk;(go_wp2_with fail);go_roundw;(case rel=>exact⟨i+1,q,hil,by go_num,HO.out,HAP.out,by omega,HHT6.out,HFW6.out,HBy.out⟩);case measure=>simp[intOf];omega
      have hdi:decide (i<p.rules.length)=false:=decide_eq_false hil;(obtain rfl:i=p.rules.length:=by omega);have hFP:FactsP wx.heap.size wy (.slice ao q.length co) (q.map (·.1)):=⟨q,rfl,HO.out,HAP.out⟩;(have HQA:Hid (∀f,f∈q.map (·.1)→FFit f):=fun f hf=>by obtain⟨j,hj,_,hfj⟩:=(HHT.out f).mp hf;have :=Md.right_args HFN.out.1.ok (Ru.hd_right (HFN.out.1.ok.rule _ (Md.ruleD_in hj)) HSF.out.right hfj);unfold FFit;omega);((have HSA:Hid (∀f,f∈S→FFit f):=fun f hf=>by have :=Md.right_args HFN.out.1.ok (HSF.out.right f hf);unfold FFit;omega);have HMI:Hid _:=yJ (q.map (·.1)) S _ _ wy hFP.toV HFSy.out (by rw[aN];omega) (by omega) HQA.out HSA.out;clear hFP;(go_wp2_with fail);refine Calls.mono HMI.out ?_;rintro _ w5 ⟨v5,rfl,hF5,hb5⟩;have HF5:Hid _:=hF5;obtain⟨a5,c5,rfl,_⟩:=id hF5;have HB5:Hid (Below w3.heap.size w3 w5):=HBy3.out.trans (hb5.mono HBy3.out.size);have HFS5:Hid _:=aL HFSy.out hb5;have HGR:Hid _:=Md.ref_grows HHT.out;have HLN:Hid _:=Md.ref_len (H:=q.map (·.1)) HSF.out.up;have HCL:Hid _:=Md.ref_closed HSF.out.up HRS.out hS6 HHT.out HFW.out;have HML:Hid (∀f,f∈Rl.minus (q.map (·.1)) S→FFit f):=fun f hf=>HQA.out f (Md.mem_minus.mp hf).1;have hmlen:(Rl.minus (q.map (·.1)) S).length≤24000:=by have h1:=iS (l₂:=q.map (·.1)) (Md.up_nodup (Rl.set_isSet ((q.map (·.1)).filter fun x=> !Rl.has S x)).1) fun f hf=>(Md.mem_minus.mp hf).1;rw[aN]at h1;show(Rl.set _).length≤_;omega);clear hF5 hb5 HMI HBy HBy3 HWy HFSy HO HAP HQA;generalize Rl.minus (q.map (·.1)) S=M at *;by_cases h60:60<S.length+M.length
      ·have g6:decide (60<S.length+M.length)=true:=decide_eq_true h60;have g7:decide ((60:Int)<(S.length:Int)+(M.length:Int))=true:=decide_eq_true (by omega);have HNO:Hid (Md.LevRes p n T none):=Md.lev_none HFN.out.1 HTF.out (Md.Reach.step HRS.out HGR.out) (fun hs=>by
        have h1:=hs.len;rw[HLN.out]at h1
        omega)
       have HMD:Hid (Md.IsModel p l none):=Md.run_none_le (n:=n+1) ⟨some T,HRN.out,HNO.out⟩ hlt;have HWW:Hid _:=(HXW.out w5 HB5.out).1;(go_wp2_with fail);refine bodyPost_ret (results_tmp2 rfl _ _ _) rfl ?_;exact⟨_,none,rfl,HMD.out,⟨none,0,rfl,⟨aE _,fun _=>rfl⟩, .inl rfl⟩,HWW.out⟩
      have g6:decide (60<S.length+M.length)=false:=decide_eq_false h60;have g7:decide ((60:Int)<(S.length:Int)+(M.length:Int))=false:=decide_eq_false (by omega);have HUN:Hid _:=yH S M _ _ w5 HFS5.out HF5.out (by omega) (by omega) HSA.out HML.out;(go_wp2_with fail);refine Calls.mono HUN.out ?_;rintro _ w6 ⟨v6,rfl,hF6,hb6⟩;have HF6:Hid _:=hF6;obtain⟨a6,c6,rfl,_⟩:=id hF6;have HB6:Hid (Below w3.heap.size w3 w6):=HB5.out.trans (hb6.mono HB5.out.size);(have hU6:(Rl.union S M).length≤60:=by rw[HLN.out];omega);(have hU7:S.length≤(Rl.union S M).length:=by rw[HLN.out];omega);have HMZ2:Hid ((S.length:Int)= -1∨((S.length:Int)≤(Rl.union S M).length∧((S.length:Int)=(Rl.union S M).length→Md.LevRes p n T (some (Rl.union S M))))):=.inr ⟨by omega,fun e=>HCL.out (by omega)⟩;have HRU:Hid _:=Md.Reach.step HRS.out HGR.out;clear hF6 hb6 HUN g6 g7;(go_wp2_with fail);go_roundw;(case rel=>exact⟨Rl.union S M,S.length,by go_num,by omega,HRU.out,hU6,HMZ2.out,HF6.out,HB6.out⟩);case measure=>simp[intOf];omega
    have hdm:decide (mz<(S.length:Int))=false:=decide_eq_false hm;have HLR:Hid (Md.LevRes p n T (some S)):=by
     rcases HMZ.out with h|⟨h1,h2⟩
     ·omega
     exact h2 (by omega)
    have HRN2:Hid (Md.Run p (Rl.set l) (n+1) (some S)):=⟨some T,HRN.out,HLR.out⟩;(go_wp2_with fail);go_roundw;(case rel=>exact⟨n+1,S,hlt,by go_num,HRN2.out,hS6,HFS.out,HBx.out⟩);case measure=>simp[intOf];omega
  have hdn:decide (n<p.arity.length)=false:=decide_eq_false hlt;(have HMD:Hid (Md.IsModel p l (some T)):=by(have e:n=p.arity.length:=by omega);show Md.Run _ _ _ _;rw[←e];exact HRN.out);have HWW:Hid _:=(HXW.out wo HBo.out).1;(go_wp2_with fail);refine bodyPost_ret (results_tmp2 rfl _ _ _) rfl ?_;exact⟨_,some T,rfl,HMD.out,HFT.out,HWW.out⟩
theorem rS(p:Sc.Prog)(l:List Rl.Fc)(va vn vr vl:Value)(w:World)(hP:ProgV w va vn vr p)(hF:ProgFit p)(hV:FactsV w vl l)(hVl:l.length≤9223372036854775807)(hVF:∀f,f∈l→FFit f):
 Calls Tryz.prog 30 #[progVal va vn vr,vl] w fun e w'=>∃v c S,e=.returned (.tuple #[v, .int .i64 c])∧Md.MRes p l [] c S∧FactsV w' v S∧Below w.heap.size w w':=by
 obtain⟨a0,n0,rfl,_⟩:=id hP.ar;obtain⟨a1,n1,rfl,_⟩:=id hP.nm;obtain⟨a2,n2,rfl,_⟩:=id hP.rl;obtain⟨al,cl,rfl,_⟩:=id hV;have bT:=(aG w.heap.size w).alloc (aE _) (.cells #[.slice a0 p.arity.length n0, .slice a1 p.names.length n1, .slice a2 p.rules.length n2] 26);have HBX:Hid _:=heap_alloc_new w (.cells #[.slice a0 p.arity.length n0, .slice a1 p.names.length n1, .slice a2 p.rules.length n2] 26);have HB:Hid (Below w.heap.size w _):=bT;have HP:Hid (ProgV w (.slice a0 p.arity.length n0) (.slice a1 p.names.length n1) (.slice a2 p.rules.length n2) p∧ProgFit p):=⟨hP,hF⟩;have HV:Hid (FactsV w (.slice al l.length cl) l):=hV;have HC:Hid _:=mO p l _ _ _ _ _ (hP.below bT) hF (aL hV bT) hVl hVF;clear hP hF hV hVF bT
 go_enter Tryz.func30,Tryz.ntmps30
 (go_upto_region 1 with fail);generalize w.alloc (.cells #[.slice a0 p.arity.length n0, .slice a1 p.names.length n1, .slice a2 p.rules.length n2] 26)=w1 at *;(have c0:w1.cell? ⟨w.heap.size,0,none⟩=some (.slice a0 p.arity.length n0):=by rw[aA HBX.out];rfl);(have c1:w1.cell? ⟨w.heap.size,1,none⟩=some (.slice a1 p.names.length n1):=by rw[aA HBX.out];rfl);(have c2:w1.cell? ⟨w.heap.size,2,none⟩=some (.slice a2 p.rules.length n2):=by rw[aA HBX.out];rfl);(go_wp2_with fail);refine Calls.mono HC.out ?_;rintro _ w2 ⟨rfl,hb2⟩;have HW2:Hid (Below w.heap.size w w2):=HB.out.trans (hb2.mono HB.out.size);have HBX2:Hid _:=(hb2.block _ (aY HBX.out)).trans HBX.out;clear c0 c1 c2 hb2 HC HB HBX;by_cases hz:Md.pre p l []=0
 ·have HZ:Hid _:=hz;have HC2:Hid _:=yI p l _ _ _ _ w2 (HP.out.1.below HW2.out) HP.out.2 (aL HV.out HW2.out) hz;(have c0:w2.cell? ⟨w.heap.size,0,none⟩=some (.slice a0 p.arity.length n0):=by rw[aA HBX2.out];rfl);(have c1:w2.cell? ⟨w.heap.size,1,none⟩=some (.slice a1 p.names.length n1):=by rw[aA HBX2.out];rfl);(have c2:w2.cell? ⟨w.heap.size,2,none⟩=some (.slice a2 p.rules.length n2):=by rw[aA HBX2.out];rfl);rw[hz];clear hz;(go_wp2_with fail);refine Calls.mono HC2.out ?_;rintro _ w3 ⟨v3,x,rfl,hM,hF3,hb3⟩;have HM:Hid _:=hM;have HF3:Hid _:=hF3;obtain⟨a3,c3,rfl,_⟩:=id hF3;have HW3:Hid (Below w.heap.size w w3):=HW2.out.trans (hb3.mono HW2.out.size);clear c0 c1 c2 hb3 HC2 hM hF3
  cases x with
  |some S=>
   have e:(some S).isSome=true:=rfl;rw[e];clear e;(go_wp2_with fail);refine bodyPost_ret (results_tmp2 rfl _ _ _) rfl ?_;exact⟨_,_,S,rfl, .inr ⟨HZ.out,some S,HM.out,rfl,rfl⟩,HF3.out,HW3.out⟩
  |none=>
   have e:(none:Option (List Rl.Fc)).isSome=false:=rfl;rw[e];clear e;(go_wp2_with fail);refine bodyPost_ret (results_tmp2 rfl _ _ _) rfl ?_;exact⟨_,_,[],rfl, .inr ⟨HZ.out,none,HM.out,rfl,rfl⟩,⟨none,0,rfl,⟨aE _,fun _=>rfl⟩, .inl rfl⟩,HW3.out⟩
 (have g:(Md.pre p l [] != 0)=true:=by simpa using hz);have HZ:Hid _:=hz;clear hz;(go_wp2_with fail);refine bodyPost_ret (results_tmp2 rfl _ _ _) rfl ?_;exact⟨_,_,[],rfl, .inl ⟨HZ.out,rfl,rfl⟩,⟨none,0,rfl,⟨aE _,fun _=>rfl⟩, .inl rfl⟩,HW2.out⟩
def MkI(f:Rl.Fc)(y:List Int)(z:List Bool)(Pf:Bool)(wo:World)(ok kv:Value)(wr:World):Prop:=
 ∃(c:Bool)(n:Nat),n≤y.length∧ok=.bool c∧kv=.int .i64 n∧(c&&Rl.agree (f.args.drop n) (y.drop n) (z.drop n))=Pf∧(c=true→f.args.length=y.length)∧Below wo.heap.size wo wr
theorem lA(l:List Rl.Fc)(pp:Int)(y:List Int)(z:List Bool)(v u t:Value)(w:World)(hV:FactsV w v l)(hU:IntsV w u y)(hT:BoolsV w t z)(hl:l.length≤1048576)(hf:∀f,f∈l→FFit f)(hy:y.length≤9223372036854775807):
 Calls Tryz.prog 36 #[v, .int .i64 pp,u,t] w fun e w'=>∃v',e=.returned v'∧FactsV w' v' (Rl.matchL l pp y z)∧Below w.heap.size w w':=by
 obtain⟨i0,hi,hz0,hz1,hz2⟩:=info_parts gN;obtain⟨ao,cap,rfl,_,hA⟩:=hV;obtain⟨bo,cbp,rfl,hB⟩:=hU;obtain⟨zo,czp,rfl,_,hZ⟩:=hT;have HA:Hid (FactsAt w ao l):=hA;have HB:Hid (IntsAt w bo y∧BoolsAt w zo z):=⟨hB,hZ⟩;have HF:Hid (∀f,f∈l→FFit f):=hf;obtain⟨P,hP⟩:∃P:Rl.Fc→Bool,P=Rl.fits pp y z:=⟨_,rfl⟩;have HPE:Hid (P=Rl.fits pp y z):=hP;clear hA hf hB hZ hP;go_enter Tryz.func36,Tryz.ntmps36;(go_wp2_with fail);(go_loopw [9,10] (fun vs i wr=>∃(k:Nat)(q:List Fv),k≤l.length∧i=.int .i64 k∧wr.ownsRow w.heap.size 55 2 vs q.length (q.map fcCells).flatten∧q.map (·.1)=(l.take k).filter P∧(∀p,p∈q→FvOk w p)∧Below w.heap.size w wr∧q.length≤k) (fun _ i _=>l.length-(intOf i).toNat));case atStart=>exact⟨0,[],aR _,rfl,bY _ _ _ _,rfl,fun _ hp=>absurd hp (by simp),aG _ _,aE _⟩
 case round=>
  obtain⟨wo,hwo⟩:∃wo,wo=wr:=⟨_,rfl⟩;subst hwo;obtain⟨k,q,hk,rfl,hown,hqf,hqo,hb,hqk⟩:=hrel;have HQF:Hid _:=hqf;have HQO:Hid _:=hqo;clear hqf hqo;obtain⟨aos,caps,rfl⟩:=aW hown;by_cases hlt:k<l.length
  ·obtain⟨b,off,rfl,p0,fv,p1,hIv⟩:=fG HA.out k hlt;have hmem:=eW l k hlt;(have HTK:Hid ((l.take (k+1)).filter P=(l.take k).filter P++if P (Rl.factD l k)then [Rl.factD l k] else []):=by show _=_;rw[cO,iX l k hlt,fM];simp only[Option.toList_some,fT,List.filter_nil]);have HIV:Hid (IntsV w fv (Rl.factD l k).args):=hIv;have HFF:Hid (FFit (Rl.factD l k)):=HF.out _ hmem;(have HPF:Hid (P (Rl.factD l k)=Rl.fits pp y z (Rl.factD l k)):=by show _=_;rw[HPE.out]);obtain⟨af,cf,rfl,_⟩:=hIv;have a0:=aB hb p0;have a1:=aB hb p1;have HP0:Hid (w.cell? ⟨b,off+k*2,none⟩=some (.int .i64 (Rl.factD l k).pred)∧w.cell? ⟨b,off+k*2+1,none⟩=some (.slice af (Rl.factD l k).args.length cf)):=⟨p0,p1⟩;clear p0 p1 hmem;generalize Rl.factD l k=f at *;by_cases hpq:f.pred=pp
   ·(have hpd:(f.pred==pp)=true:=by simp[hpq]);by_cases hxy:f.args.length=y.length
    ·(have hxd:((f.args.length:Int)==(y.length:Int))=true:=by simp[hxy]);have HX:Hid (f.args.length=y.length∧f.pred=pp):=⟨hxy,hpq⟩;clear hxy hpq;(go_wp2_with fail);(go_loopw [11,12] (fun ok kv wr=>MkI f y z (P f) wo ok kv wr) (fun _ kv _=>y.length-(intOf kv).toNat));case atStart=>exact⟨true,0,aR _,rfl,rfl,by rw[HPF.out];unfold Rl.fits;rw[HX.out.1,HX.out.2];simp,(fun _=>HX.out.1),aG _ _⟩
     case round=>
      obtain⟨w5,hw5⟩:∃w5,w5=wr:=⟨_,rfl⟩;subst hw5;obtain⟨c,n,hn,rfl,rfl,hc,hcx,hb5⟩:=hrel;have HC:Hid _:=hc;have HCX:Hid _:=hcx;clear hc hcx;have hbw1:=hb.trans (hb5.mono hb.size);cases c
      ·(have hp:P f=false:=by have h9:=HC.out;rw[mE]at h9;exact h9.symm);have hown1:=aQ hown hb5;clear hown hb hb5 HC HCX;by_cases hny:n<y.length
       ·clear hn;rw[hp,if_neg (by simp)]at HTK;(have HT2:Hid (q.map (·.1)=(l.take (k+1)).filter P):=by show _=_;rw[HTK.out,HQF.out];simp);clear HTK HQF hp;(go_wp2_with fail);go_roundw;(case rel=>exact⟨k+1,q,by omega,by go_num,hown1,HT2.out,HQO.out,hbw1,by omega⟩);case measure=>simp[intOf];omega
       clear hn;rw[hp,if_neg (by simp)]at HTK;(have HT2:Hid (q.map (·.1)=(l.take (k+1)).filter P):=by show _=_;rw[HTK.out,HQF.out];simp);clear HTK HQF hp;(go_wp2_with fail);go_roundw;(case rel=>exact⟨k+1,q,by omega,by go_num,hown1,HT2.out,HQO.out,hbw1,by omega⟩);case measure=>simp[intOf];omega
      by_cases hny:n<y.length
      ·(have hnx:n<f.args.length:=by rw[HCX.out rfl];exact hny);obtain⟨bx,ox,rfl,p1⟩:=eP (nZ HIV.out) n hnx;obtain⟨by2,oy,rfl,p2⟩:=eP HB.out.1 n hny;have b0:=aB hbw1 HP0.out.1;have b1:=aB hbw1 HP0.out.2;have b2:=aB hbw1 p1;have b3:=aB hbw1 p2;have hbd:Below wo.heap.size wo w5.drew:=⟨hb5.os,hb5.tape,hb5.output,hb5.size,hb5.block⟩;have hn1:n+1≤y.length:=hny;by_cases hnz:n<z.length
       ·obtain⟨bz,oz,rfl,p3⟩:=oF HB.out.2 n hnz;have b4:=aB hbw1 p3;have HD:=lU f.args y z n hnx hny hnz;(have HE:Hid (((!Rl.boolD z n||Sc.intD f.args n==Sc.intD y n)&&Rl.agree (f.args.drop (n+1)) (y.drop (n+1)) (z.drop (n+1)))=P f):=by have h9:=HC.out;rw[eZ,HD]at h9;exact h9);(have hzd:decide (z.length≤n)=false:=by simp;omega);clear HD p1 p2 p3 HC;generalize Sc.intD f.args n=a at *;generalize Sc.intD y n=b' at *;generalize Rl.boolD z n=c at *;cases c
        ·(go_upto_region 9 with fail);(go_region);(go_wp2_with fail);go_roundw;(case rel=>exact⟨true,n+1,hn1,rfl,by go_num,HE.out,HCX.out,hbd⟩);case measure=>simp[intOf];omega
        (go_upto_region 9 with fail);(go_region);(go_wp2_with fail);go_roundw;(case rel=>exact⟨a==b',n+1,hn1,rfl,by go_num,HE.out,fun _=>HCX.out rfl,hbd⟩);case measure=>simp[intOf];omega
       (have HE:Hid (Rl.agree (f.args.drop (n+1)) (y.drop (n+1)) (z.drop (n+1))=P f):=by have h9:=HC.out;rw[eZ,show z.drop n=[] from aH (by omega),jO]at h9;show _=_;rw[show z.drop (n+1)=[] from aH (by omega),jO];exact h9);(have hzd:decide (z.length≤n)=true:=by simp;omega);clear p1 p2 HC;(go_upto_region 9 with fail);(go_region);(go_wp2_with fail);go_roundw;(case rel=>exact⟨true,n+1,hn1,rfl,by go_num,by rw[eZ];exact HE.out,HCX.out,hbd⟩);case measure=>simp[intOf];omega
      (have hp:P f=true:=by have h9:=HC.out;rw[eZ,show f.args.drop n=[] from aH (by rw[HCX.out rfl];omega)]at h9;rw[←h9];rfl);have hown1:=aQ hown hb5;(have hny2:n=y.length:=by omega);subst hny2;clear hown hb hb5 HC HCX;rw[hp,if_pos rfl]at HTK;(have HT2:Hid ((q++[(f,Value.slice af f.args.length cf)]).map (·.1)=(l.take (k+1)).filter P):=by show _=_;rw[HTK.out,←HQF.out];simp);have HO2:Hid (∀p,p∈q++[(f,Value.slice af f.args.length cf)]→FvOk w p):=by
       intro p hp;rcases bP.mp hp with hp|hp
       ·exact HQO.out p hp
       (obtain rfl:p=(f,Value.slice af f.args.length cf):=by simpa using hp);exact⟨HIV.out,HFF.out⟩
      clear HTK HQF HQO hp;have b0:=aB hbw1 HP0.out.1;have b1:=aB hbw1 HP0.out.2;have hbsz:=hbw1.size;(go_wp2_with(at_builtin;refine wpList_append_own _ rfl _ _ 27 rfl w.heap.size 55 i0 _ 2 32 Tryz.underlying27 hi hz0 hz1 hz2 rfl (by decide) _ _ _ rfl (hown1.alloc _) ⟨w5.heap.size,0,none⟩ 1 1 (fcCells (f, .slice af f.args.length cf)) rfl rfl ?c1 ?c2 ?c3 ?c4 ?c5 ?_));(case c1=>exact news2 w5 _ _ 55);(case c2=>intro u hu;simp[fcCells]at hu;rcases hu with rfl|rfl<;>rfl);(case c3=>unfold maxLen;omega);(case c4=>omega);(case c5=>simp;omega);intro vs2 w4 hown4 hgrow4 _;obtain⟨ao9,cap9,rfl⟩:=aW hown4;have hb5:Below w.heap.size w w4:=(hbw1.alloc hbw1.size _).grown hgrow4 (by simp;omega) (fun k hk=>(hown1.lt k hk).1);(have hown5:w4.ownsRow w.heap.size 55 2 (.slice ao9 (q.length+1) cap9) (q++[(f,Value.slice af f.args.length cf)]).length ((q++[(f,Value.slice af f.args.length cf)]).map fcCells).flatten:=by rw[aJ,bF,dI];simpa using hown4);clear hown4 hgrow4 hown1 hbw1 b0 b1;(go_wp2_with fail);go_roundw;(case rel=>exact⟨k+1,_,by omega,by go_num,hown5,HT2.out,HO2.out,hb5,by rw[aJ];simp;omega⟩);case measure=>simp[intOf];omega
    (have hxd:((f.args.length:Int)==(y.length:Int))=false:=by simp;omega);have HX:Hid (¬f.args.length=y.length∧f.pred=pp):=⟨hxy,hpq⟩;clear hxy hpq;(go_wp2_with fail);(go_loopw [11,12] (fun ok kv wr=>MkI f y z (P f) wo ok kv wr) (fun _ kv _=>y.length-(intOf kv).toNat));case atStart=>exact⟨false,0,aR _,rfl,rfl,by rw[HPF.out];unfold Rl.fits;rw[beq_false_of_ne HX.out.1];simp,(fun h=>by cases h),aG _ _⟩
    case round=>
     obtain⟨w5,hw5⟩:∃w5,w5=wr:=⟨_,rfl⟩;subst hw5;obtain⟨c,n,hn,rfl,rfl,hc,hcx,hb5⟩:=hrel;have HC:Hid _:=hc;have HCX:Hid _:=hcx;clear hc hcx;have hbw1:=hb.trans (hb5.mono hb.size);cases c
     ·(have hp:P f=false:=by have h9:=HC.out;rw[mE]at h9;exact h9.symm);have hown1:=aQ hown hb5;clear hown hb hb5 HC HCX;by_cases hny:n<y.length
      ·clear hn;rw[hp,if_neg (by simp)]at HTK;(have HT2:Hid (q.map (·.1)=(l.take (k+1)).filter P):=by show _=_;rw[HTK.out,HQF.out];simp);clear HTK HQF hp;(go_wp2_with fail);go_roundw;(case rel=>exact⟨k+1,q,by omega,by go_num,hown1,HT2.out,HQO.out,hbw1,by omega⟩);case measure=>simp[intOf];omega
      clear hn;rw[hp,if_neg (by simp)]at HTK;(have HT2:Hid (q.map (·.1)=(l.take (k+1)).filter P):=by show _=_;rw[HTK.out,HQF.out];simp);clear HTK HQF hp;(go_wp2_with fail);go_roundw;(case rel=>exact⟨k+1,q,by omega,by go_num,hown1,HT2.out,HQO.out,hbw1,by omega⟩);case measure=>simp[intOf];omega
     by_cases hny:n<y.length
     ·(have hnx:n<f.args.length:=by rw[HCX.out rfl];exact hny);obtain⟨bx,ox,rfl,p1⟩:=eP (nZ HIV.out) n hnx;obtain⟨by2,oy,rfl,p2⟩:=eP HB.out.1 n hny;have b0:=aB hbw1 HP0.out.1;have b1:=aB hbw1 HP0.out.2;have b2:=aB hbw1 p1;have b3:=aB hbw1 p2;have hbd:Below wo.heap.size wo w5.drew:=⟨hb5.os,hb5.tape,hb5.output,hb5.size,hb5.block⟩;have hn1:n+1≤y.length:=hny;by_cases hnz:n<z.length
      ·obtain⟨bz,oz,rfl,p3⟩:=oF HB.out.2 n hnz;have b4:=aB hbw1 p3;have HD:=lU f.args y z n hnx hny hnz;(have HE:Hid (((!Rl.boolD z n||Sc.intD f.args n==Sc.intD y n)&&Rl.agree (f.args.drop (n+1)) (y.drop (n+1)) (z.drop (n+1)))=P f):=by have h9:=HC.out;rw[eZ,HD]at h9;exact h9);(have hzd:decide (z.length≤n)=false:=by simp;omega);clear HD p1 p2 p3 HC;generalize Sc.intD f.args n=a at *;generalize Sc.intD y n=b' at *;generalize Rl.boolD z n=c at *;cases c
       ·(go_upto_region 9 with fail);(go_region);(go_wp2_with fail);go_roundw;(case rel=>exact⟨true,n+1,hn1,rfl,by go_num,HE.out,HCX.out,hbd⟩);case measure=>simp[intOf];omega
       (go_upto_region 9 with fail);(go_region);(go_wp2_with fail);go_roundw;(case rel=>exact⟨a==b',n+1,hn1,rfl,by go_num,HE.out,fun _=>HCX.out rfl,hbd⟩);case measure=>simp[intOf];omega
      (have HE:Hid (Rl.agree (f.args.drop (n+1)) (y.drop (n+1)) (z.drop (n+1))=P f):=by have h9:=HC.out;rw[eZ,show z.drop n=[] from aH (by omega),jO]at h9;show _=_;rw[show z.drop (n+1)=[] from aH (by omega),jO];exact h9);(have hzd:decide (z.length≤n)=true:=by simp;omega);clear p1 p2 HC;(go_upto_region 9 with fail);(go_region);(go_wp2_with fail);go_roundw;(case rel=>exact⟨true,n+1,hn1,rfl,by go_num,by rw[eZ];exact HE.out,HCX.out,hbd⟩);case measure=>simp[intOf];omega
     (have hp:P f=true:=by have h9:=HC.out;rw[eZ,show f.args.drop n=[] from aH (by rw[HCX.out rfl];omega)]at h9;rw[←h9];rfl);have hown1:=aQ hown hb5;(have hny2:n=y.length:=by omega);subst hny2;clear hown hb hb5 HC HCX;rw[hp,if_pos rfl]at HTK;(have HT2:Hid ((q++[(f,Value.slice af f.args.length cf)]).map (·.1)=(l.take (k+1)).filter P):=by show _=_;rw[HTK.out,←HQF.out];simp);have HO2:Hid (∀p,p∈q++[(f,Value.slice af f.args.length cf)]→FvOk w p):=by
      intro p hp;rcases bP.mp hp with hp|hp
      ·exact HQO.out p hp
      (obtain rfl:p=(f,Value.slice af f.args.length cf):=by simpa using hp);exact⟨HIV.out,HFF.out⟩
     clear HTK HQF HQO hp;have b0:=aB hbw1 HP0.out.1;have b1:=aB hbw1 HP0.out.2;have hbsz:=hbw1.size;(go_wp2_with(at_builtin;refine wpList_append_own _ rfl _ _ 27 rfl w.heap.size 55 i0 _ 2 32 Tryz.underlying27 hi hz0 hz1 hz2 rfl (by decide) _ _ _ rfl (hown1.alloc _) ⟨w5.heap.size,0,none⟩ 1 1 (fcCells (f, .slice af f.args.length cf)) rfl rfl ?c1 ?c2 ?c3 ?c4 ?c5 ?_));(case c1=>exact news2 w5 _ _ 55);(case c2=>intro u hu;simp[fcCells]at hu;rcases hu with rfl|rfl<;>rfl);(case c3=>unfold maxLen;omega);(case c4=>omega);(case c5=>simp;omega);intro vs2 w4 hown4 hgrow4 _;obtain⟨ao9,cap9,rfl⟩:=aW hown4;have hb5:Below w.heap.size w w4:=(hbw1.alloc hbw1.size _).grown hgrow4 (by simp;omega) (fun k hk=>(hown1.lt k hk).1);(have hown5:w4.ownsRow w.heap.size 55 2 (.slice ao9 (q.length+1) cap9) (q++[(f,Value.slice af f.args.length cf)]).length ((q++[(f,Value.slice af f.args.length cf)]).map fcCells).flatten:=by rw[aJ,bF,dI];simpa using hown4);clear hown4 hgrow4 hown1 hbw1 b0 b1;(go_wp2_with fail);go_roundw;(case rel=>exact⟨k+1,_,by omega,by go_num,hown5,HT2.out,HO2.out,hb5,by rw[aJ];simp;omega⟩);case measure=>simp[intOf];omega
   (have hpd:(f.pred==pp)=false:=by simp[hpq]);have HX:Hid (¬f.pred=pp):=hpq;clear hpq;(go_wp2_with fail);(go_loopw [11,12] (fun ok kv wr=>MkI f y z (P f) wo ok kv wr) (fun _ kv _=>y.length-(intOf kv).toNat));case atStart=>exact⟨false,0,aR _,rfl,rfl,by rw[HPF.out];unfold Rl.fits;rw[beq_false_of_ne HX.out];simp,(fun h=>by cases h),aG _ _⟩
   case round=>
    obtain⟨w5,hw5⟩:∃w5,w5=wr:=⟨_,rfl⟩;subst hw5;obtain⟨c,n,hn,rfl,rfl,hc,hcx,hb5⟩:=hrel;have HC:Hid _:=hc;have HCX:Hid _:=hcx;clear hc hcx;have hbw1:=hb.trans (hb5.mono hb.size);cases c
    ·(have hp:P f=false:=by have h9:=HC.out;rw[mE]at h9;exact h9.symm);have hown1:=aQ hown hb5;clear hown hb hb5 HC HCX;by_cases hny:n<y.length
     ·clear hn;rw[hp,if_neg (by simp)]at HTK;(have HT2:Hid (q.map (·.1)=(l.take (k+1)).filter P):=by show _=_;rw[HTK.out,HQF.out];simp);clear HTK HQF hp;(go_wp2_with fail);go_roundw;(case rel=>exact⟨k+1,q,by omega,by go_num,hown1,HT2.out,HQO.out,hbw1,by omega⟩);case measure=>simp[intOf];omega
     clear hn;rw[hp,if_neg (by simp)]at HTK;(have HT2:Hid (q.map (·.1)=(l.take (k+1)).filter P):=by show _=_;rw[HTK.out,HQF.out];simp);clear HTK HQF hp;(go_wp2_with fail);go_roundw;(case rel=>exact⟨k+1,q,by omega,by go_num,hown1,HT2.out,HQO.out,hbw1,by omega⟩);case measure=>simp[intOf];omega
    by_cases hny:n<y.length
    ·(have hnx:n<f.args.length:=by rw[HCX.out rfl];exact hny);obtain⟨bx,ox,rfl,p1⟩:=eP (nZ HIV.out) n hnx;obtain⟨by2,oy,rfl,p2⟩:=eP HB.out.1 n hny;have b0:=aB hbw1 HP0.out.1;have b1:=aB hbw1 HP0.out.2;have b2:=aB hbw1 p1;have b3:=aB hbw1 p2;have hbd:Below wo.heap.size wo w5.drew:=⟨hb5.os,hb5.tape,hb5.output,hb5.size,hb5.block⟩;have hn1:n+1≤y.length:=hny;by_cases hnz:n<z.length
     ·obtain⟨bz,oz,rfl,p3⟩:=oF HB.out.2 n hnz;have b4:=aB hbw1 p3;have HD:=lU f.args y z n hnx hny hnz;(have HE:Hid (((!Rl.boolD z n||Sc.intD f.args n==Sc.intD y n)&&Rl.agree (f.args.drop (n+1)) (y.drop (n+1)) (z.drop (n+1)))=P f):=by have h9:=HC.out;rw[eZ,HD]at h9;exact h9);(have hzd:decide (z.length≤n)=false:=by simp;omega);clear HD p1 p2 p3 HC;generalize Sc.intD f.args n=a at *;generalize Sc.intD y n=b' at *;generalize Rl.boolD z n=c at *;cases c
      ·(go_upto_region 9 with fail);(go_region);(go_wp2_with fail);go_roundw;(case rel=>exact⟨true,n+1,hn1,rfl,by go_num,HE.out,HCX.out,hbd⟩);case measure=>simp[intOf];omega
      (go_upto_region 9 with fail);(go_region);(go_wp2_with fail);go_roundw;(case rel=>exact⟨a==b',n+1,hn1,rfl,by go_num,HE.out,fun _=>HCX.out rfl,hbd⟩);case measure=>simp[intOf];omega
     (have HE:Hid (Rl.agree (f.args.drop (n+1)) (y.drop (n+1)) (z.drop (n+1))=P f):=by have h9:=HC.out;rw[eZ,show z.drop n=[] from aH (by omega),jO]at h9;show _=_;rw[show z.drop (n+1)=[] from aH (by omega),jO];exact h9);(have hzd:decide (z.length≤n)=true:=by simp;omega);clear p1 p2 HC;(go_upto_region 9 with fail);(go_region);(go_wp2_with fail);go_roundw;(case rel=>exact⟨true,n+1,hn1,rfl,by go_num,by rw[eZ];exact HE.out,HCX.out,hbd⟩);case measure=>simp[intOf];omega
    (have hp:P f=true:=by have h9:=HC.out;rw[eZ,show f.args.drop n=[] from aH (by rw[HCX.out rfl];omega)]at h9;rw[←h9];rfl);have hown1:=aQ hown hb5;(have hny2:n=y.length:=by omega);subst hny2;clear hown hb hb5 HC HCX;rw[hp,if_pos rfl]at HTK;(have HT2:Hid ((q++[(f,Value.slice af f.args.length cf)]).map (·.1)=(l.take (k+1)).filter P):=by show _=_;rw[HTK.out,←HQF.out];simp);have HO2:Hid (∀p,p∈q++[(f,Value.slice af f.args.length cf)]→FvOk w p):=by
     intro p hp;rcases bP.mp hp with hp|hp
     ·exact HQO.out p hp
     (obtain rfl:p=(f,Value.slice af f.args.length cf):=by simpa using hp);exact⟨HIV.out,HFF.out⟩
    clear HTK HQF HQO hp;have b0:=aB hbw1 HP0.out.1;have b1:=aB hbw1 HP0.out.2;have hbsz:=hbw1.size;(go_wp2_with(at_builtin;refine wpList_append_own _ rfl _ _ 27 rfl w.heap.size 55 i0 _ 2 32 Tryz.underlying27 hi hz0 hz1 hz2 rfl (by decide) _ _ _ rfl (hown1.alloc _) ⟨w5.heap.size,0,none⟩ 1 1 (fcCells (f, .slice af f.args.length cf)) rfl rfl ?c1 ?c2 ?c3 ?c4 ?c5 ?_));(case c1=>exact news2 w5 _ _ 55);(case c2=>intro u hu;simp[fcCells]at hu;rcases hu with rfl|rfl<;>rfl);(case c3=>unfold maxLen;omega);(case c4=>omega);(case c5=>simp;omega);intro vs2 w4 hown4 hgrow4 _;obtain⟨ao9,cap9,rfl⟩:=aW hown4;have hb5:Below w.heap.size w w4:=(hbw1.alloc hbw1.size _).grown hgrow4 (by simp;omega) (fun k hk=>(hown1.lt k hk).1);(have hown5:w4.ownsRow w.heap.size 55 2 (.slice ao9 (q.length+1) cap9) (q++[(f,Value.slice af f.args.length cf)]).length ((q++[(f,Value.slice af f.args.length cf)]).map fcCells).flatten:=by rw[aJ,bF,dI];simpa using hown4);clear hown4 hgrow4 hown1 hbw1 b0 b1;(go_wp2_with fail);go_roundw;(case rel=>exact⟨k+1,_,by omega,by go_num,hown5,HT2.out,HO2.out,hb5,by rw[aJ];simp;omega⟩);case measure=>simp[intOf];omega
  (have HQF2:Hid (q.map (·.1)=l.filter P):=by show _=_;rw[HQF.out,bR (by omega)]);(have HFV:Hid (FactsV wo (.slice aos q.length caps) (l.filter P)∧(l.filter P).length≤2097152∧∀f,f∈l.filter P→FFit f):=by refine⟨?_,by have :=eN P l;omega,fun f hf=>HF.out f (dX.mp hf).1⟩;rw[←HQF2.out];exact iN hown HQO.out hb);(have HM:Hid (Rl.set (l.filter P)=Rl.matchL l pp y z):=by show _=_;rw[HPE.out];rfl);clear HQF HQF2 hown HQO;(go_wp2_with fail);refine Calls.mono (lK (l.filter P) _ _ HFV.out.1 HFV.out.2.1 HFV.out.2.2) ?_;rintro e w3 ⟨v3,rfl,hS,hb3⟩;obtain⟨q3,_,hown3,_⟩:=id hS;obtain⟨a3,c3,rfl⟩:=aW hown3;(have HS:Hid (FactsV w3 (.slice a3 q3.length c3) (Rl.matchL l pp y z)):=by rw[←HM.out];exact hS.toV hb3);have hb4:=hb.trans (hb3.mono hb.size);clear hown3 hS hb3 HFV HM;(go_wp2_with fail);go_ret;exact⟨_,rfl,HS.out,hb4⟩
namespace Md
theorem pre_split(p:Sc.Prog)(l o:List Rl.Fc):pre p l o=Sc.thn (pre p l []) (chkF p o):=by
 rw[pre_nil];unfold pre Sc.thn;by_cases h:St.levErr p=0
 ·rw[if_pos h,if_pos h]
 rw[if_neg h,if_neg h,if_neg h]
theorem mres_bad_pre{p:Sc.Prog}{l o S:List Rl.Fc}{c:Int}(h:MRes p l o c S)(hp:¬pre p l o=0):c=pre p l o:=by
 rcases h with⟨_,h,_⟩|⟨h,_⟩
 ·exact h
 exact absurd h hp
theorem mres_more{p:Sc.Prog}{l o S:List Rl.Fc}{c:Int}(h:MRes p l o c S)(hp:pre p l o=0):MRes p l [] c S:=by
 rcases h with⟨h,_⟩|⟨_,h⟩
 ·exact absurd hp h
 refine .inr ⟨?_,h⟩;rw[pre_split]at hp;exact(Ru.thn0 hp).1
end Md
theorem fY(S:List Rl.Fc)(v u:Value)(c:Int)(w:World)(hV:FactsV w v S)(hU:FactsV w u S)(hbad:¬c=0→S=[])(hf:(∀f,f∈S→FFit f)∧S.length≤60):
 Calls Tryz.prog 34 #[v, .int .i64 c, .int .i64 c,u] w fun e w'=>e=.returned (.bool true)∧Below w.heap.size w w':=by
 have HS:Hid _:=jJ S v u w hV hU (by omega) hf.1;(have HS0:Hid (¬c=0→Calls Tryz.prog 21 #[v, .slice none 0 0] w fun e w'=>e=.returned (.bool true)∧Below w.heap.size w w'):=fun h=>by rw[hbad h]at hV;exact jJ [] v (.slice none 0 0) w hV ⟨none,0,rfl,⟨aE _,fun _=>rfl⟩, .inl rfl⟩ (aR _) (fun f hf=>absurd hf (by simp)));obtain⟨ao,co,rfl,_⟩:=id hV;obtain⟨au,cu,rfl,_⟩:=id hU;clear hV hU hbad hf;by_cases h:c=0
 ·subst h
  go_enter Tryz.func34,Tryz.ntmps34
  (go_wp2_with fail);refine Calls.mono HS.out ?_;rintro _ w2 ⟨rfl,hb⟩;have HB:Hid _:=hb;clear hb;(go_wp2_with fail);go_ret;exact⟨rfl,HB.out⟩
 have HC:Hid _:=HS0.out h;(have g:(c != 0)=true:=by simpa using h);clear h
 go_enter Tryz.func34,Tryz.ntmps34
 (go_wp2_with fail);refine Calls.mono HC.out ?_;rintro _ w2 ⟨rfl,hb⟩;have HB:Hid _:=hb;clear hb;(go_wp2_with fail);go_ret;exact⟨rfl,HB.out⟩
theorem qF(p:Sc.Prog)(l m:List Rl.Fc)(pd:Int)(y:List Int)(z:List Bool)(va vn vr vl vm vy vz:Value)(w:World)(hP:ProgV w va vn vr p)(hF:ProgFit p)(hcap:RulesCap w vr)(hV:FactsV w vl l)(hVl:l.length≤9223372036854775807)(hVF:∀f,f∈l→FFit f)(hM:FactsV w vm m)(hMl:m.length≤9223372036854775807)(hMF:∀f,f∈m→FFit f)(hY:IntsV w vy y)(hYl:y.length≤9223372036854775807)(hZ:BoolsV w vz z)(hZl:z.length≤9223372036854775807):
 Calls Tryz.prog 6 #[progVal va vn vr,vl,vm, .int .i64 pd,vy,vz] w fun e w'=>e=.returned (.bool true)∧Below w.heap.size w w':=by
 obtain⟨a0,n0,rfl,_⟩:=id hP.ar;obtain⟨a1,n1,rfl,_⟩:=id hP.nm;obtain⟨a2,n2,rfl,_⟩:=id hP.rl;obtain⟨al,cl,rfl,_⟩:=id hV;obtain⟨am,cm,rfl,_⟩:=id hM;obtain⟨ay,cy,rfl,_⟩:=id hY;obtain⟨az,cz,rfl,_⟩:=id hZ;have bT:=(aG w.heap.size w).alloc (aE _) (.cells #[.slice a0 p.arity.length n0, .slice a1 p.names.length n1, .slice a2 p.rules.length n2] 26);have HBX:Hid _:=heap_alloc_new w (.cells #[.slice a0 p.arity.length n0, .slice a1 p.names.length n1, .slice a2 p.rules.length n2] 26);have HB:Hid (Below w.heap.size w _):=bT;have HP:Hid (ProgV w (.slice a0 p.arity.length n0) (.slice a1 p.names.length n1) (.slice a2 p.rules.length n2) p∧ProgFit p∧RulesCap w (.slice a2 p.rules.length n2)):=⟨hP,hF,hcap⟩;have HV:Hid (FactsV w (.slice al l.length cl) l∧l.length≤9223372036854775807∧∀f,f∈l→FFit f):=⟨hV,hVl,hVF⟩;have HMV:Hid (FactsV w (.slice am m.length cm) m∧m.length≤9223372036854775807∧∀f,f∈m→FFit f):=⟨hM,hMl,hMF⟩;have HY:Hid (IntsV w (.slice ay y.length cy) y∧y.length≤9223372036854775807):=⟨hY,hYl⟩;have HZ:Hid (BoolsV w (.slice az z.length cz) z∧z.length≤9223372036854775807):=⟨hZ,hZl⟩;clear hP hF hcap hV hVl hVF hM hMl hMF hY hYl hZ hZl bT
 go_enter Tryz.func6,Tryz.ntmps6
 (go_upto_region 1 with fail);generalize w.alloc (.cells #[.slice a0 p.arity.length n0, .slice a1 p.names.length n1, .slice a2 p.rules.length n2] 26)=w1 at *;(have HXX:Hid (∀y,Below w1.heap.size w1 y→y.cell? ⟨w.heap.size,0,none⟩=some (.slice a0 p.arity.length n0)∧y.cell? ⟨w.heap.size,1,none⟩=some (.slice a1 p.names.length n1)∧y.cell? ⟨w.heap.size,2,none⟩=some (.slice a2 p.rules.length n2)):=fun y hy=>by have h:=(hy.block _ (aY HBX.out)).trans HBX.out;exact⟨by rw[aA h];rfl,by rw[aA h];rfl,by rw[aA h];rfl⟩);have HC1:Hid _:=oS p l _ _ _ _ w1 (HP.out.1.below HB.out) HP.out.2.1 (HP.out.2.2.below HP.out.1.rl HB.out) (aL HV.out.1 HB.out) HV.out.2.1 HV.out.2.2;obtain⟨c0,c1,c2⟩:=HXX.out w1 (aG _ _);(go_wp2_with fail);refine Calls.mono HC1.out ?_;rintro _ w2 ⟨v2,cw,Sw,rfl,hR2,hF2,hb2⟩;have HR:Hid _:=hR2;have HX2:Hid _:=hF2;obtain⟨ax,cx,rfl,_⟩:=id hF2;have HB2:Hid (Below w1.heap.size w1 w2):=hb2;have HW2:Hid (Below w.heap.size w w2):=HB.out.trans (hb2.mono HB.out.size);clear c0 c1 c2 hb2 HC1 hR2 hF2;have HC2:Hid _:=aAt p l m _ _ _ _ _ w2 (HP.out.1.below HW2.out) HP.out.2.1 (HP.out.2.2.below HP.out.1.rl HW2.out) (aL HV.out.1 HW2.out) HV.out.2.1 HV.out.2.2 (aL HMV.out.1 HW2.out) HMV.out.2.1 HMV.out.2.2;obtain⟨c0,c1,c2⟩:=HXX.out w2 HB2.out;(go_wp2_with fail);refine Calls.mono HC2.out ?_;rintro _ w3 ⟨t,cf,Sf,rfl,hRf,htf,hb3⟩;have HRF:Hid _:=hRf;have HTF:Hid _:=htf;have HX3:Hid _:=aL HX2.out hb3;have HB3:Hid (Below w1.heap.size w1 w3):=HB2.out.trans (hb3.mono HB2.out.size);have HW3:Hid (Below w.heap.size w w3):=HB.out.trans (HB3.out.mono HB.out.size);clear c0 c1 c2 hb3 HC2 hRf htf HX2 HB2 HW2;have HC3:Hid _:=aAA p l pd y z _ _ _ _ _ _ w3 (HP.out.1.below HW3.out) HP.out.2.1 (HP.out.2.2.below HP.out.1.rl HW3.out) (aL HV.out.1 HW3.out) HV.out.2.1 HV.out.2.2 (aK HY.out.1 HW3.out) HY.out.2 (gJ HZ.out.1 HW3.out) HZ.out.2;obtain⟨c0,c1,c2⟩:=HXX.out w3 HB3.out;(go_wp2_with fail);refine Calls.mono HC3.out ?_;rintro _ w4 ⟨v4,cg,Sg,rfl,hRg,hFg,hb4⟩;obtain⟨e1,e2⟩:=Md.mres_one hRg HR.out;subst e1 e2;have HA4:Hid _:=hFg;obtain⟨ag,cag,rfl,_⟩:=id hFg;have HX4:Hid _:=aL HX3.out hb4;have HB4:Hid (Below w1.heap.size w1 w4):=HB3.out.trans (hb4.mono HB3.out.size);have HW4:Hid (Below w.heap.size w w4):=HB.out.trans (HB4.out.mono HB.out.size);clear c0 c1 c2 hb4 HC3 hRg hFg HX3 HB3 HW3;have HC4:Hid _:=rS p l _ _ _ _ w4 (HP.out.1.below HW4.out) HP.out.2.1 (aL HV.out.1 HW4.out) HV.out.2.1 HV.out.2.2;obtain⟨c0,c1,c2⟩:=HXX.out w4 HB4.out;(go_wp2_with fail);refine Calls.mono HC4.out ?_;rintro _ w5 ⟨v5,cw',Sw',rfl,hR5,hF5,hb5⟩;obtain⟨e1,e2⟩:=Md.mres_one hR5 HR.out;subst e1 e2;have HN5:Hid _:=hF5;obtain⟨an,can,rfl,_⟩:=id hF5;have HA5:Hid _:=aL HA4.out hb5;have HX5:Hid _:=aL HX4.out hb5;have HB5:Hid (Below w1.heap.size w1 w5):=HB4.out.trans (hb5.mono HB4.out.size);have HW5:Hid (Below w.heap.size w w5):=HB.out.trans (HB5.out.mono HB.out.size);clear c0 c1 c2 hb5 HC4 hR5 hF5 HX4 HA4 HB4 HW4;have HC5:Hid _:=mO p l _ _ _ _ w5 (HP.out.1.below HW5.out) HP.out.2.1 (aL HV.out.1 HW5.out) HV.out.2.1 HV.out.2.2;obtain⟨c0,c1,c2⟩:=HXX.out w5 HB5.out;(go_wp2_with fail);refine Calls.mono HC5.out ?_;rintro _ w6 ⟨rfl,hb6⟩;have HN6:Hid _:=aL HN5.out hb6;have HA6:Hid _:=aL HA5.out hb6;have HX6:Hid _:=aL HX5.out hb6;have HB6:Hid (Below w1.heap.size w1 w6):=HB5.out.trans (hb6.mono HB5.out.size);have HW6:Hid (Below w.heap.size w w6):=HB.out.trans (HB6.out.mono HB.out.size);clear c0 c1 c2 hb6 HC5 HX5 HA5 HN5 HB5 HW5;have HBAD:Hid (¬cw'=0→Sw'=[]):=fun h=>Md.mres_bad HR.out h;have HSF:Hid ((∀f,f∈Sw'→FFit f)∧Sw'.length≤60):=⟨Md.mres_fit HR.out,(Md.mres_facts HR.out).1⟩;obtain⟨cw,rfl⟩:∃cw,cw=cw':=⟨_,rfl⟩;obtain⟨Sw,rfl⟩:∃Sw,Sw=Sw':=⟨_,rfl⟩;by_cases hz:Md.pre p l []=0
 ·have HZ0:Hid _:=hz;obtain⟨hck,hfl,hcl,_⟩:=Md.pre_zero hz;have HCK:Hid _:=hck;have HC6:Hid _:=mP p m _ _ _ _ w6 (HP.out.1.below HW6.out) HP.out.2.1 (aL HMV.out.1 HW6.out) HMV.out.2.1 HMV.out.2.2;rw[←Md.chkF_factsE hck]at HC6;obtain⟨c0,c1,c2⟩:=HXX.out w6 HB6.out;rw[hz];clear hz hck hfl hcl;(go_wp2_with fail);refine Calls.mono HC6.out ?_;rintro _ w7 ⟨rfl,hb7⟩;have HN:Hid _:=aL HN6.out hb7;have HA:Hid _:=aL HA6.out hb7;have HX:Hid _:=aL HX6.out hb7;have HW:Hid (Below w.heap.size w w7):=HW6.out.trans (hb7.mono HW6.out.size);clear c0 c1 c2 hb7 HC6 HX6 HA6 HN6 HB6 HW6;by_cases hm:Md.chkF p m=0
  ·(have HP0:Hid (Md.pre p l m=0):=by show _=_;rw[Md.pre_split,HZ0.out,hm];rfl);obtain⟨e1,e2⟩:=Md.mres_one (Md.mres_more HRF.out HP0.out) HR.out;subst e1 e2;have HML:Hid _:=Md.chkF_zero HCK.out hm;rw[hm];clear hm;by_cases hc:cf=0
   ·subst hc;have HTT:Hid (t=true↔Rl.set m=Sf):=⟨fun h=>(HTF.out.mp h).2,fun h=>HTF.out.mpr ⟨rfl,h⟩⟩;obtain⟨cw,hcw⟩:∃cw:Int,cw=0:=⟨_,rfl⟩;obtain⟨Sw,rfl⟩:∃Sw,Sw=Sf:=⟨_,rfl⟩;(go_wp2_with fail);refine Calls.mono (jH w7) ?_;rintro _ b1 ⟨rfl,hbb⟩;have HX1:Hid _:=aL HX.out hbb;have HA1:Hid _:=aL HA.out hbb;have HN1:Hid _:=aL HN.out hbb;have HW1:Hid (Below w.heap.size w b1):=HW.out.trans (hbb.mono HW.out.size);clear hbb HX HA HN HW;(go_wp2_with fail);refine Calls.mono (fY Sw _ _ 0 b1 HX1.out HN1.out (fun h=>absurd rfl h) HSF.out) ?_;rintro _ b2 ⟨rfl,hbb⟩;have HA2:Hid _:=aL HA1.out hbb;have HN2:Hid _:=aL HN1.out hbb;have HW2:Hid (Below w.heap.size w b2):=HW1.out.trans (hbb.mono HW1.out.size);clear hbb HX1 HA1 HN1 HW1;have HSE:Hid _:=lK m _ b2 (aL HMV.out.1 HW2.out) (by have :=HML.out.1;omega) HMV.out.2.2;(go_wp2_with fail);refine Calls.mono HSE.out ?_;rintro _ b3 ⟨v3,rfl,hS3,hbb⟩;have HF3:Hid _:=hS3.toV hbb;obtain⟨a3,c3,rfl,_⟩:=id HF3.out;have HA3:Hid _:=aL HA2.out hbb;have HN3:Hid _:=aL HN2.out hbb;have HW3:Hid (Below w.heap.size w b3):=HW2.out.trans (hbb.mono HW2.out.size);have HSM:Hid _:=rQ (Rl.set m) Sw _ _ b3 HF3.out HN3.out (aU (Md.set_length m) (by have :=HML.out.1;omega)) (fun f hf=>HMV.out.2.2 f (Rl.mem_set.mp hf)) HSF.out.1;clear hbb HSE hS3 HA2 HN2 HW2;(go_wp2_with fail);refine Calls.mono HSM.out ?_;rintro _ b4 ⟨t2,rfl,ht2,hbb⟩;have HA4:Hid _:=aL HA3.out hbb;have HN4:Hid _:=aL HN3.out hbb;have HW4:Hid (Below w.heap.size w b4):=HW3.out.trans (hbb.mono HW3.out.size);(obtain rfl:t=t2:=by have h1:t=true↔t2=true:=HTT.out.trans ht2.symm;cases t<;>cases t2<;>simp_all);clear hbb HSM HF3 HA3 HN3 HW3 ht2 HTT;(have htt:(t==t)=true:=by cases t<;>rfl);have HMA:Hid _:=lA Sw pd y z _ _ _ b4 HN4.out (aK HY.out.1 HW4.out) (gJ HZ.out.1 HW4.out) (by have :=HSF.out.2;omega) HSF.out.1 HY.out.2;(go_wp2_with fail);refine Calls.mono HMA.out ?_;rintro _ b5 ⟨v5,rfl,hF5,hbb⟩;have HA5:Hid _:=aL HA4.out hbb;have HF5:Hid _:=hF5;obtain⟨a5,c5,rfl,_⟩:=id hF5;have HW5:Hid (Below w.heap.size w b5):=HW4.out.trans (hbb.mono HW4.out.size);clear hbb hF5 HMA HA4 HN4 HW4;(go_wp2_with fail);refine Calls.mono (fY (Rl.matchL Sw pd y z) _ _ 0 b5 HA5.out HF5.out (fun h=>absurd rfl h) ⟨fun f hf=>HSF.out.1 f (dX.mp (Rl.mem_set.mp hf)).1,aU (aU (Md.set_length _) (eN _ _)) HSF.out.2⟩) ?_;rintro _ b6 ⟨rfl,hbb⟩;have HW6:Hid (Below w.heap.size w b6):=HW5.out.trans (hbb.mono HW5.out.size);clear hbb HA5 HF5 HW5;(go_wp2_with fail);go_ret;exact⟨rfl,HW6.out⟩
   (have hcz:(cf==0)=false:=by simpa using hc);obtain rfl:t=false:=by
    cases t
    ·rfl
    exact absurd (HTF.out.mp rfl).1 hc
   obtain⟨cw,rfl⟩:∃cw,cw=cf:=⟨_,rfl⟩;obtain⟨Sw,rfl⟩:∃Sw,Sw=Sf:=⟨_,rfl⟩;clear hc;(go_wp2_with fail);refine Calls.mono (jH w7) ?_;rintro _ b1 ⟨rfl,hbb⟩;have HX1:Hid _:=aL HX.out hbb;have HA1:Hid _:=aL HA.out hbb;have HN1:Hid _:=aL HN.out hbb;have HW1:Hid (Below w.heap.size w b1):=HW.out.trans (hbb.mono HW.out.size);clear hbb HX HA HN HW;(go_wp2_with fail);refine Calls.mono (fY Sw _ _ cw b1 HX1.out HN1.out HBAD.out HSF.out) ?_;rintro _ b2 ⟨rfl,hbb⟩;have HA2:Hid _:=aL HA1.out hbb;have HN2:Hid _:=aL HN1.out hbb;have HW2:Hid (Below w.heap.size w b2):=HW1.out.trans (hbb.mono HW1.out.size);clear hbb HX1 HA1 HN1 HW1;have HMA:Hid _:=lA Sw pd y z _ _ _ b2 HN2.out (aK HY.out.1 HW2.out) (gJ HZ.out.1 HW2.out) (by have :=HSF.out.2;omega) HSF.out.1 HY.out.2;(go_wp2_with fail);refine Calls.mono HMA.out ?_;rintro _ b5 ⟨v5,rfl,hF5,hbb⟩;have HA5:Hid _:=aL HA2.out hbb;have HF5:Hid _:=hF5;obtain⟨a5,c5,rfl,_⟩:=id hF5;have HW5:Hid (Below w.heap.size w b5):=HW2.out.trans (hbb.mono HW2.out.size);clear hbb hF5 HMA HA2 HN2 HW2;(go_wp2_with fail);refine Calls.mono (fY (Rl.matchL Sw pd y z) _ _ cw b5 HA5.out HF5.out (fun h=>by rw[HBAD.out h];rfl) ⟨fun f hf=>HSF.out.1 f (dX.mp (Rl.mem_set.mp hf)).1,aU (aU (Md.set_length _) (eN _ _)) HSF.out.2⟩) ?_;rintro _ b6 ⟨rfl,hbb⟩;have HW6:Hid (Below w.heap.size w b6):=HW5.out.trans (hbb.mono HW5.out.size);clear hbb HA5 HF5 HW5;(go_wp2_with fail);go_ret;exact⟨rfl,HW6.out⟩
  have HPN:Hid (Md.pre p l m=Md.chkF p m∧¬Md.chkF p m=0):=⟨by rw[Md.pre_split,HZ0.out];rfl,hm⟩;(obtain rfl:cf=Md.chkF p m:=by rw[←HPN.out.1];exact Md.mres_bad_pre HRF.out (by rw[HPN.out.1];exact hm));(have hcz:(Md.chkF p m==0)=false:=by simpa using hm);obtain rfl:t=false:=by
   cases t
   ·rfl
   exact absurd (HTF.out.mp rfl).1 hm
  clear hm;clear HTF HRF HPN;generalize Md.chkF p m=cf at *;(go_wp2_with fail);refine Calls.mono (jH w7) ?_;rintro _ b1 ⟨rfl,hbb⟩;have HX1:Hid _:=aL HX.out hbb;have HA1:Hid _:=aL HA.out hbb;have HN1:Hid _:=aL HN.out hbb;have HW1:Hid (Below w.heap.size w b1):=HW.out.trans (hbb.mono HW.out.size);clear hbb HX HA HN HW;(go_wp2_with fail);refine Calls.mono (fY Sw _ _ cw b1 HX1.out HN1.out HBAD.out HSF.out) ?_;rintro _ b2 ⟨rfl,hbb⟩;have HA2:Hid _:=aL HA1.out hbb;have HN2:Hid _:=aL HN1.out hbb;have HW2:Hid (Below w.heap.size w b2):=HW1.out.trans (hbb.mono HW1.out.size);clear hbb HX1 HA1 HN1 HW1;have HMA:Hid _:=lA Sw pd y z _ _ _ b2 HN2.out (aK HY.out.1 HW2.out) (gJ HZ.out.1 HW2.out) (by have :=HSF.out.2;omega) HSF.out.1 HY.out.2;(go_wp2_with fail);refine Calls.mono HMA.out ?_;rintro _ b5 ⟨v5,rfl,hF5,hbb⟩;have HA5:Hid _:=aL HA2.out hbb;have HF5:Hid _:=hF5;obtain⟨a5,c5,rfl,_⟩:=id hF5;have HW5:Hid (Below w.heap.size w b5):=HW2.out.trans (hbb.mono HW2.out.size);clear hbb hF5 HMA HA2 HN2 HW2;(go_wp2_with fail);refine Calls.mono (fY (Rl.matchL Sw pd y z) _ _ cw b5 HA5.out HF5.out (fun h=>by rw[HBAD.out h];rfl) ⟨fun f hf=>HSF.out.1 f (dX.mp (Rl.mem_set.mp hf)).1,aU (aU (Md.set_length _) (eN _ _)) HSF.out.2⟩) ?_;rintro _ b6 ⟨rfl,hbb⟩;have HW6:Hid (Below w.heap.size w b6):=HW5.out.trans (hbb.mono HW5.out.size);clear hbb HA5 HF5 HW5;(go_wp2_with fail);go_ret;exact⟨rfl,HW6.out⟩
 (have HPN:Hid (Md.pre p l m=Md.pre p l []):=by show _=_;rw[Md.pre_split];unfold Sc.thn;rw[if_neg hz]);(obtain rfl:cf=Md.pre p l []:=by rw[←HPN.out];exact Md.mres_bad_pre HRF.out (by rw[HPN.out];exact hz));(have hcz:(Md.pre p l []==0)=false:=by simpa using hz);obtain rfl:t=false:=by
  cases t
  ·rfl
  exact absurd (HTF.out.mp rfl).1 hz
 have HN:Hid _:=HN6.out;have HA:Hid _:=HA6.out;have HX:Hid _:=HX6.out;have HW:Hid (Below w.heap.size w w6):=HW6.out;clear hz HTF HRF HPN HN6 HA6 HX6 HW6;generalize Md.pre p l []=cf at *;(go_wp2_with fail);refine Calls.mono (jH w6) ?_;rintro _ b1 ⟨rfl,hbb⟩;have HX1:Hid _:=aL HX.out hbb;have HA1:Hid _:=aL HA.out hbb;have HN1:Hid _:=aL HN.out hbb;have HW1:Hid (Below w.heap.size w b1):=HW.out.trans (hbb.mono HW.out.size);clear hbb HX HA HN HW;(go_wp2_with fail);refine Calls.mono (fY Sw _ _ cw b1 HX1.out HN1.out HBAD.out HSF.out) ?_;rintro _ b2 ⟨rfl,hbb⟩;have HA2:Hid _:=aL HA1.out hbb;have HN2:Hid _:=aL HN1.out hbb;have HW2:Hid (Below w.heap.size w b2):=HW1.out.trans (hbb.mono HW1.out.size);clear hbb HX1 HA1 HN1 HW1;have HMA:Hid _:=lA Sw pd y z _ _ _ b2 HN2.out (aK HY.out.1 HW2.out) (gJ HZ.out.1 HW2.out) (by have :=HSF.out.2;omega) HSF.out.1 HY.out.2;(go_wp2_with fail);refine Calls.mono HMA.out ?_;rintro _ b5 ⟨v5,rfl,hF5,hbb⟩;have HA5:Hid _:=aL HA2.out hbb;have HF5:Hid _:=hF5;obtain⟨a5,c5,rfl,_⟩:=id hF5;have HW5:Hid (Below w.heap.size w b5):=HW2.out.trans (hbb.mono HW2.out.size);clear hbb hF5 HMA HA2 HN2 HW2;(go_wp2_with fail);refine Calls.mono (fY (Rl.matchL Sw pd y z) _ _ cw b5 HA5.out HF5.out (fun h=>by rw[HBAD.out h];rfl) ⟨fun f hf=>HSF.out.1 f (dX.mp (Rl.mem_set.mp hf)).1,aU (aU (Md.set_length _) (eN _ _)) HSF.out.2⟩) ?_;rintro _ b6 ⟨rfl,hbb⟩;have HW6:Hid (Below w.heap.size w b6):=HW5.out.trans (hbb.mono HW5.out.size);clear hbb HA5 HF5 HW5;(go_wp2_with fail);go_ret;exact⟨rfl,HW6.out⟩
theorem mQ:Tryz.prog.cellsOf 3=1:=by kernel_rfl
theorem aCm:Tryz.prog.cellsOf 9=1:=by kernel_rfl
theorem list2{l:List Value}(h:l.length=2):∃a b,l=[a,b]:=by
 match l,h with
 |[a,b],_=>exact⟨a,b,rfl⟩
theorem list5{l:List Value}(h:l.length=5):∃a b c d e,l=[a,b,c,d,e]:=by
 match l,h with
 |[a,b,c,d,e],_=>exact⟨a,b,c,d,e,rfl⟩
section
variable {H:Type} {enc:TypeId×Value→H} {w:World} {base:Nat} {spare:Nat→Bool} {held:Bool}
theorem aBS{α:Type}{st e:TypeId}{k:Nat}(ht:Tryz.prog.underlying st=some (.slice e))(hk:Tryz.prog.cellsOf e=k)(hk0:0<k)(d:α)(In:Nat→Nat→α→Prop)
 (el:∀n cs' y b off,cs'.length=k→(∀j,j<k→w.cell? ⟨b,off+j,none⟩=cs'[j]?)→DataW.trod enc Tryz.prog w base spare held n e cs'=some y→∃a,In b off a)
 {fuel:Nat} {v:Value} {x:DataW H×List MemPlace} (h:DataW.trod enc Tryz.prog w base spare held fuel st [v]=some x):
 ∃(ao:Option Addr)(l:List α)(cap:Nat),v=.slice ao l.length cap∧l.length≤9223372036854775807∧(l=[]∨∃b off,ao=some ⟨b,off,none⟩∧∀i,i<l.length→In b (off+i*k) (l.getD i d)):=by
 haveI:Inhabited α:=⟨d⟩
 rcases Deep.open_slice ht h with⟨hv,_⟩|⟨a,len,cap,m,n,D,Pl,hv,hb,hl,hm,hmm,hx,hel⟩
 ·(have hv':v=.slice none 0 0:=by simpa using hv);exact⟨none,[],0,hv',by simp, .inl rfl⟩
 (have hv':v=.slice (some a) len cap:=by simpa using hv);(have hlm:len≤m:=by rw[hmm];split<;>omega);by_cases h0:len=0
 ·subst h0;exact⟨some a,[],cap,hv',by simp, .inl rfl⟩
 obtain⟨b,off,spot⟩:=a;have hspot:spot=none:=by
  obtain⟨cs',h1,_⟩:=hel 0 (by omega);rw[hk]at h1;obtain⟨_,hlen,hcell⟩:=World.cells?_some h1;have hc:=hcell 0 hk0
  cases hcs:cs'[0]? with
  |none=>rw[List.getElem?_eq_none_iff]at hcs;omega
  |some u=>
   rw[hcs]at hc;simpa[Addr.add]using World.cell?_spot hc
 subst hspot;(have each:∀i,i<len→∃q:α,In b (off+i*k) q:=by intro i hi;obtain⟨cs',h1,h2⟩:=hel i (by omega);rw[hk]at h1;obtain⟨_,hlen,hcell⟩:=World.cells?_some h1;refine el n cs' _ b (off+i*k) hlen (fun j hj=>?_) h2;have :=hcell j hj;rw[Deep.add_add,WideShapes.add_plain]at this;rw[←this,kC]);(obtain⟨q,hq⟩:=Deep.choose_lt each;refine⟨some ⟨b,off,none⟩,(List.range len).map q,cap,by rw[hv'];simp,by unfold maxLen at hm;simp;omega, .inr ⟨b,off,rfl,fun i hi=>?_⟩⟩;(have hi':i<len:=by simpa using hi);have ht:((List.range len).map q).getD i d=q i:=by rw[aC,bI,kT hi'];rfl);rw[ht];exact hq i hi'
theorem nU{t:TypeId}{f0 f1:Field}{fuel:Nat}{cs:List Value}{x:DataW H×List MemPlace}(ht:Tryz.prog.underlying t=some (.struct #[f0,f1]))(h:DataW.trod enc Tryz.prog w base spare held fuel t cs=some x):
 ∃y0 y1 n,cs.length=Tryz.prog.cellsOf t∧DataW.trod enc Tryz.prog w base spare held n f0.type ((cs.drop f0.offset).take (Tryz.prog.cellsOf f0.type))=some y0∧
  DataW.trod enc Tryz.prog w base spare held n f1.type ((cs.drop f1.offset).take (Tryz.prog.cellsOf f1.type))=some y1:=by
 obtain⟨xs,n,_,rfl,hl,hlen,hf⟩:=DataW.trod_struct ht h
 match xs,hlen with
 |[y0,y1],_=>exact⟨y0,y1,n,hl,by simpa using hf 0 f0 rfl,by simpa using hf 1 f1 rfl⟩
theorem sS{t:TypeId}{f0 f1 f2 f3 f4:Field}{fuel:Nat}{cs:List Value}{x:DataW H×List MemPlace}(ht:Tryz.prog.underlying t=some (.struct #[f0,f1,f2,f3,f4]))(h:DataW.trod enc Tryz.prog w base spare held fuel t cs=some x):
 ∃y0 y1 y2 y3 y4 n,cs.length=Tryz.prog.cellsOf t∧DataW.trod enc Tryz.prog w base spare held n f0.type ((cs.drop f0.offset).take (Tryz.prog.cellsOf f0.type))=some y0∧
  DataW.trod enc Tryz.prog w base spare held n f1.type ((cs.drop f1.offset).take (Tryz.prog.cellsOf f1.type))=some y1∧DataW.trod enc Tryz.prog w base spare held n f2.type ((cs.drop f2.offset).take (Tryz.prog.cellsOf f2.type))=some y2∧
  DataW.trod enc Tryz.prog w base spare held n f3.type ((cs.drop f3.offset).take (Tryz.prog.cellsOf f3.type))=some y3∧DataW.trod enc Tryz.prog w base spare held n f4.type ((cs.drop f4.offset).take (Tryz.prog.cellsOf f4.type))=some y4:=by
 obtain⟨xs,n,_,rfl,hl,hlen,hf⟩:=DataW.trod_struct ht h
 match xs,hlen with
 |[y0,y1,y2,y3,y4],_=>exact⟨y0,y1,y2,y3,y4,n,hl,by simpa using hf 0 f0 rfl,by simpa using hf 1 f1 rfl,by simpa using hf 2 f2 rfl,by simpa using hf 3 f3 rfl,by simpa using hf 4 f4 rfl⟩
end
theorem aBz:Tryz.prog.cellsOf 55=2:=by kernel_rfl
theorem sP:Tryz.prog.cellsOf 22=1:=by kernel_rfl
theorem aBB:Tryz.prog.cellsOf 23=1:=by kernel_rfl
theorem aBA:Tryz.prog.cellsOf 24=1:=by kernel_rfl
theorem sO:Tryz.prog.cellsOf 37=1:=by kernel_rfl
theorem aBy:Tryz.prog.cellsOf 38=1:=by kernel_rfl
theorem aBx:Tryz.prog.cellsOf 40=5:=by kernel_rfl
theorem aBw:Tryz.prog.cellsOf 49=4:=by kernel_rfl
theorem aAq:Tryz.prog.cellsOf 147=2:=by kernel_rfl
theorem list4{l:List Value}(h:l.length=4):∃a b c d,l=[a,b,c,d]:=by
 match l,h with
 |[a,b,c,d],_=>exact⟨a,b,c,d,rfl⟩
section
variable {H:Type} {enc:TypeId×Value→H} {w:World} {base:Nat} {spare:Nat→Bool} {held:Bool}
theorem jM{α:Type}{st e:TypeId}{k:Nat}(ht:Tryz.prog.underlying st=some (.slice e))(hk:Tryz.prog.cellsOf e=k)(hk0:0<k)(d:α)(In:Nat→Nat→α→Prop)
 (el:∀n cs' y b off,cs'.length=k→(∀j,j<k→w.cell? ⟨b,off+j,none⟩=cs'[j]?)→DataW.trod enc Tryz.prog w base spare held n e cs'=some y→∃a,In b off a)
 {fuel:Nat} {v:Value} {x:DataW H×List MemPlace} (h:DataW.trod enc Tryz.prog w base spare held fuel st [v]=some x):
 ∃(ao:Option Addr)(l:List α)(cap:Nat),v=.slice ao l.length cap∧l.length≤cap∧l.length≤9223372036854775807∧(l=[]∨∃b off,ao=some ⟨b,off,none⟩∧∀i,i<l.length→In b (off+i*k) (l.getD i d)):=by
 obtain⟨ao,l,cap,hv,hm,hl⟩:=aBS ht hk hk0 d In el h;refine⟨ao,l,cap,hv,?_,hm,hl⟩;rcases Deep.open_slice ht h with⟨hv2,_⟩|⟨a,len,cap2,m,n,D,Pl,hv2,hb,hl2,_⟩
 ·(have hv':v=.slice none 0 0:=by simpa using hv2);rw[hv]at hv';injection hv' with _ h1 h2;omega
 (have hv':v=.slice (some a) len cap2:=by simpa using hv2);rw[hv]at hv';injection hv' with _ h1 h2;omega
theorem sV{t:TypeId}{f0 f1 f2:Field}{fuel:Nat}{cs:List Value}{x:DataW H×List MemPlace}(ht:Tryz.prog.underlying t=some (.struct #[f0,f1,f2]))(h:DataW.trod enc Tryz.prog w base spare held fuel t cs=some x):
 ∃y0 y1 y2 n,cs.length=Tryz.prog.cellsOf t∧DataW.trod enc Tryz.prog w base spare held n f0.type ((cs.drop f0.offset).take (Tryz.prog.cellsOf f0.type))=some y0∧
  DataW.trod enc Tryz.prog w base spare held n f1.type ((cs.drop f1.offset).take (Tryz.prog.cellsOf f1.type))=some y1∧DataW.trod enc Tryz.prog w base spare held n f2.type ((cs.drop f2.offset).take (Tryz.prog.cellsOf f2.type))=some y2:=by
 obtain⟨xs,n,_,rfl,hl,hlen,hf⟩:=DataW.trod_struct ht h
 match xs,hlen with
 |[y0,y1,y2],_=>exact⟨y0,y1,y2,n,hl,by simpa using hf 0 f0 rfl,by simpa using hf 1 f1 rfl,by simpa using hf 2 f2 rfl⟩
theorem sT{t:TypeId}{f0 f1 f2 f3:Field}{fuel:Nat}{cs:List Value}{x:DataW H×List MemPlace}(ht:Tryz.prog.underlying t=some (.struct #[f0,f1,f2,f3]))(h:DataW.trod enc Tryz.prog w base spare held fuel t cs=some x):
 ∃y0 y1 y2 y3 n,cs.length=Tryz.prog.cellsOf t∧DataW.trod enc Tryz.prog w base spare held n f0.type ((cs.drop f0.offset).take (Tryz.prog.cellsOf f0.type))=some y0∧
  DataW.trod enc Tryz.prog w base spare held n f1.type ((cs.drop f1.offset).take (Tryz.prog.cellsOf f1.type))=some y1∧DataW.trod enc Tryz.prog w base spare held n f2.type ((cs.drop f2.offset).take (Tryz.prog.cellsOf f2.type))=some y2∧
  DataW.trod enc Tryz.prog w base spare held n f3.type ((cs.drop f3.offset).take (Tryz.prog.cellsOf f3.type))=some y3:=by
 obtain⟨xs,n,_,rfl,hl,hlen,hf⟩:=DataW.trod_struct ht h
 match xs,hlen with
 |[y0,y1,y2,y3],_=>exact⟨y0,y1,y2,y3,n,hl,by simpa using hf 0 f0 rfl,by simpa using hf 1 f1 rfl,by simpa using hf 2 f2 rfl,by simpa using hf 3 f3 rfl⟩
theorem oK{fuel:Nat}{v:Value}{x:DataW H×List MemPlace}(h:DataW.trod enc Tryz.prog w base spare held fuel 22 [v]=some x):∃l,IntsV w v l∧l.length≤9223372036854775807:=by
 obtain⟨ao,l,cap,hv,_,hmx,hl⟩:=jM Tryz.underlying22 mQ (by decide) (0:Int) (fun b off a=>w.cell? ⟨b,off,none⟩=some (.int .i64 a)) (fun n cs' y b off hlen hc h2=>by
  match cs',hlen with
  |[v0],_=>
   obtain⟨k0,e0,_,_⟩:=DataW.trod_int Tryz.underlying3 h2;simp at e0;subst e0
   exact⟨k0,hc 0 (by decide)⟩) h
 refine⟨l,⟨ao,cap,hv,?_⟩,hmx⟩;rcases hl with h|⟨b,off,he,hc⟩
 ·exact .inl h
 exact .inr ⟨b,off,he,fun i hi=>by have :=hc i hi;rw[Nat.mul_one]at this;exact this⟩
theorem aAZ{fuel:Nat}{v:Value}{x:DataW H×List MemPlace}(h:DataW.trod enc Tryz.prog w base spare held fuel 23 [v]=some x):∃l,StrsV w v l∧l.length≤9223372036854775807:=by
 obtain⟨ao,l,cap,hv,_,hmx,hl⟩:=jM Tryz.underlying23 aCm (by decide) ([]:List UInt8) (fun b off a=>w.cell? ⟨b,off,none⟩=some (.string ⟨a.toArray⟩)) (fun n cs' y b off hlen hc h2=>by
  match cs',hlen with
  |[v0],_=>
   obtain⟨k0,e0,_,_⟩:=DataW.trod_string Tryz.underlying9 h2;simp at e0;subst e0
   exact⟨k0.data.toList,hc 0 (by decide)⟩) h
 refine⟨l,⟨ao,cap,hv,?_⟩,hmx⟩;rcases hl with h|⟨b,off,he,hc⟩
 ·exact .inl h
 exact .inr ⟨b,off,he,fun i hi=>by have :=hc i hi;rw[Nat.mul_one]at this;exact this⟩
theorem pA{fuel:Nat}{v:Value}{x:DataW H×List MemPlace}(h:DataW.trod enc Tryz.prog w base spare held fuel 37 [v]=some x):∃l,PTermsV w v l∧l.length≤9223372036854775807:=by
 obtain⟨ao,l,cap,hv,hcap,hmx,hl⟩:=jM Tryz.underlying37 aAq (by decide) (⟨0,0⟩:Sc.Term) (PTermIn w) (fun n cs' y b off hlen hc h2=>by
  obtain⟨y0,y1,k,_,g0,g1⟩:=nU Tryz.underlying147 h2;obtain⟨v0,v1,rfl⟩:=list2 hlen;simp[mQ]at g0 g1;obtain⟨k0,e0,_,_⟩:=DataW.trod_int Tryz.underlying3 g0;obtain⟨k1,e1,_,_⟩:=DataW.trod_int Tryz.underlying3 g1;simp at e0 e1;subst e0 e1
  exact⟨⟨k0,k1⟩,hc 0 (by decide),hc 1 (by decide)⟩) h
 exact⟨l,⟨ao,cap,hv,hcap,hl⟩,hmx⟩
theorem aA0{fuel:Nat}{v0 v1:Value}{x:DataW H×List MemPlace}(h:DataW.trod enc Tryz.prog w base spare held fuel 55 [v0,v1]=some x):∃pred args,v0=.int .i64 pred∧IntsV w v1 args∧args.length≤9223372036854775807:=by obtain⟨y0,y1,n,_,g0,g1⟩:=nU Tryz.underlying55 h;simp[mQ,sP]at g0 g1;obtain⟨k0,e0,_,_⟩:=DataW.trod_int Tryz.underlying3 g0;obtain⟨l1,hl1,hm1⟩:=oK g1;simp at e0;exact⟨k0,l1,e0,hl1,hm1⟩
end
theorem aCh:Tryz.prog.cellsOf 4=1:=by kernel_rfl
section
variable {H:Type} {enc:TypeId×Value→H} {w:World} {base:Nat} {spare:Nat→Bool} {held:Bool}
theorem wS{fuel:Nat}{v:Value}{x:DataW H×List MemPlace}(h:DataW.trod enc Tryz.prog w base spare held fuel 38 [v]=some x):∃l,PLitsV w v l∧l.length≤9223372036854775807∧(∀i,i<l.length→LitFit (Sc.litD l i))∧CapOk v:=by
 obtain⟨ao,l,cap,hv,hcp,hmx,hl⟩:=jM Tryz.underlying38 aBw (by decide) (⟨0,0,0,[]⟩:Sc.Lit) (fun b off x=>PLitIn w b off x∧LitFit x) (fun n cs' y b off hlen hc h2=>by
  obtain⟨y0,y1,y2,y3,k,_,g0,g1,g2,g3⟩:=sT Tryz.underlying49 h2;obtain⟨v0,v1,v2,v3,rfl⟩:=list4 hlen;simp[mQ,sO]at g0 g1 g2 g3;obtain⟨k0,e0,_,_⟩:=DataW.trod_int Tryz.underlying3 g0;obtain⟨k1,e1,_,_⟩:=DataW.trod_int Tryz.underlying3 g1;obtain⟨k2,e2,_,_⟩:=DataW.trod_int Tryz.underlying3 g2;obtain⟨l3,hl3,hm3⟩:=pA g3;simp at e0 e1 e2;subst e0 e1 e2
  exact⟨⟨k0,k1,k2,l3⟩,⟨hc 0 (by decide),hc 1 (by decide),hc 2 (by decide),v3,hc 3 (by decide),hl3⟩,hm3⟩) h
 refine⟨l,⟨ao,cap,hv,?_⟩,hmx,?_,fun ao2 n2 c2 h2=>by rw[hv]at h2;injection h2 with _ e1 e2;subst e1 e2;exact hcp⟩
 ·rcases hl with h|⟨b,off,he,hc⟩
  ·exact .inl h
  exact .inr ⟨b,off,he,fun i hi=>(hc i hi).1⟩
 intro i hi;rcases hl with h|⟨b,off,he,hc⟩
 ·rw[h]at hi;simp at hi
 exact(hc i hi).2
theorem tO{fuel:Nat}{v:Value}{x:DataW H×List MemPlace}(h:DataW.trod enc Tryz.prog w base spare held fuel 24 [v]=some x):∃l,PRulesV w v l∧l.length≤9223372036854775807∧(∀i,i<l.length→RuleFit (Sc.ruleD l i))∧RulesCap w v:=by
 obtain⟨ao,l,cap,hv,_,hmx,hl⟩:=jM Tryz.underlying24 aBx (by decide) (⟨0,[],0,[],0⟩:Sc.Rule) (fun b off x=>PRuleIn w b off x∧RuleFit x∧∃u,w.cell? ⟨b,off+3,none⟩=some u∧CapOk u) (fun n cs' y b off hlen hc h2=>by
  obtain⟨y0,y1,y2,y3,y4,k,_,g0,g1,g2,g3,g4⟩:=sS Tryz.underlying40 h2;obtain⟨v0,v1,v2,v3,v4,rfl⟩:=list5 hlen;simp[mQ,sO,aBy]at g0 g1 g2 g3 g4;obtain⟨k0,e0,_,_⟩:=DataW.trod_int Tryz.underlying3 g0;obtain⟨l1,hl1,hm1⟩:=pA g1;obtain⟨k2,e2,_,_⟩:=DataW.trod_int Tryz.underlying3 g2;obtain⟨l3,hl3,hm3,hf3,hcp3⟩:=wS g3;obtain⟨k4,e4,_,_⟩:=DataW.trod_int Tryz.underlying3 g4;simp at e0 e2 e4;subst e0 e2 e4
  exact⟨⟨k0,l1,k2,l3,k4⟩,⟨hc 0 (by decide),⟨v1,hc 1 (by decide),hl1⟩,hc 2 (by decide),⟨v3,hc 3 (by decide),hl3⟩,hc 4 (by decide)⟩,⟨hm1,hm3,hf3⟩,v3,hc 3 (by decide),hcp3⟩) h
 refine⟨l,⟨ao,cap,hv,?_⟩,hmx,?_,?_⟩
 ·rcases hl with h|⟨b,off,he,hc⟩
  ·exact .inl h
  exact .inr ⟨b,off,he,fun i hi=>(hc i hi).1⟩
 ·intro i hi;rcases hl with h|⟨b,off,he,hc⟩
  ·rw[h]at hi;simp at hi
  exact(hc i hi).2.1
 intro b off n cap2 hv2 k hk u hu;rw[hv]at hv2;injection hv2 with e1 e2 e3;subst e1 e2 e3;rcases hl with h|⟨b2,off2,he,hc⟩
 ·rw[h]at hk;simp at hk
 injection he with he;injection he with e1 e2;subst e1 e2;obtain⟨u2,hu2,hok⟩:=(hc k hk).2.2;rw[hu2]at hu;injection hu with hu;subst hu;exact hok
theorem zG{fuel:Nat}{va vn vr:Value}{x:DataW H×List MemPlace}(h:DataW.trod enc Tryz.prog w base spare held fuel 26 [va,vn,vr]=some x):∃p,ProgV w va vn vr p∧ProgFit p∧RulesCap w vr:=by obtain⟨y0,y1,y2,n,_,g0,g1,g2⟩:=sV Tryz.underlying26 h;simp[sP,aBB,aBA]at g0 g1 g2;obtain⟨l0,hl0,hm0⟩:=oK g0;obtain⟨l1,hl1,hm1⟩:=aAZ g1;obtain⟨l2,hl2,hm2,hf2,hcp2⟩:=tO g2;exact⟨⟨l0,l1,l2⟩,⟨hl0,hl1,hl2⟩,⟨hm0,hm1,hm2,hf2⟩,hcp2⟩
theorem pB{fuel:Nat}{v:Value}{x:DataW H×List MemPlace}(h:DataW.trod enc Tryz.prog w base spare held fuel 27 [v]=some x):∃l,FactsV w v l∧l.length≤9223372036854775807∧∀f,f∈l→FFit f:=by
 obtain⟨ao,l,cap,hv,hcp,hmx,hl⟩:=jM Tryz.underlying27 aBz (by decide) (⟨0,[]⟩:Rl.Fc) (fun b off f=>FactIn w b off f∧FFit f) (fun n cs' y b off hlen hc h2=>by
  match cs',hlen with
  |[v0,v1],_=>
   obtain⟨pr,ar,e0,hI,hm⟩:=aA0 h2
   exact⟨⟨pr,ar⟩,⟨by rw[←e0];exact hc 0 (by decide),v1,hc 1 (by decide),hI⟩,hm⟩) h
 refine⟨l,⟨ao,cap,hv,⟨hcp,fun e=>?_⟩,?_⟩,hmx,fun f hf=>?_⟩
 ·subst e;rcases Deep.open_slice Tryz.underlying27 h with⟨hv2,_⟩|⟨a,len,cap2,m,n,D,Pl,hv2,_⟩
  ·(have hv':v=.slice none 0 0:=by simpa using hv2);rw[hv]at hv';injection hv' with _ _ h2
  (have hv':v=.slice (some a) len cap2:=by simpa using hv2);rw[hv]at hv';injection hv' with h1;cases h1
 ·rcases hl with h|⟨b,off,he,hc⟩
  ·exact .inl h
  exact .inr ⟨b,off,he,fun i hi=>(hc i hi).1⟩
 obtain⟨i,hi,rfl⟩:=nP hf;rcases hl with h|⟨b,off,he,hc⟩
 ·rw[h]at hi;simp at hi
 have :=(hc i hi).2;rwa[aC,aD hi]at this
end
section
variable {H:Type} {enc:TypeId×Value→H} {w:World} {base:Nat} {spare:Nat→Bool} {held:Bool}
theorem zH{fuel:Nat}{v:Value}{x:DataW H×List MemPlace}(h:DataW.trod enc Tryz.prog w base spare held fuel 57 [v]=some x):∃l,BoolsV w v l∧l.length≤9223372036854775807:=by
 obtain⟨ao,l,cap,hv,hcp,hmx,hl⟩:=jM Tryz.underlying57 aCh (by decide) false (fun b off a=>w.cell? ⟨b,off,none⟩=some (.bool a)) (fun n cs' y b off hlen hc h2=>by
  match cs',hlen with
  |[v0],_=>
   obtain⟨k0,e0,_⟩:=DataW.trod_bool Tryz.underlying4 h2;simp at e0;subst e0
   exact⟨k0,hc 0 (by decide)⟩) h
 refine⟨l,⟨ao,cap,hv,⟨hcp,fun e=>?_⟩,?_⟩,hmx⟩
 ·subst e;rcases Deep.open_slice Tryz.underlying57 h with⟨hv2,_⟩|⟨a,len,cap2,m,n,D,Pl,hv2,_⟩
  ·(have hv':v=.slice none 0 0:=by simpa using hv2);rw[hv]at hv';injection hv' with _ _ h2
  (have hv':v=.slice (some a) len cap2:=by simpa using hv2);rw[hv]at hv';injection hv' with h1;cases h1
 rcases hl with h|⟨b,off,he,hc⟩
 ·exact .inl h
 exact .inr ⟨b,off,he,fun i hi=>by have :=hc i hi;rw[Nat.mul_one]at this;exact this⟩
end
end Go.Proofs.YthenjegmigeieaaGreat

namespace Go.Proofs.YthenjegmigeieaaGreat
open Go.ChangeShapes Go.WideShapes Go.ChangeAt Go.RowKit
theorem cJ{a b:Bool}(ha:a=true)(hb:b=true):(a&&b)=true:=by rw[ha,hb];rfl
theorem xE:Rows.modelTellsRow.wf (OpenSpec.ofChange Rows.modelTellsSpec)=true:=by kernel_rfl
theorem xD:laidOutB Tryz.prog=true:=by kernel_rfl
theorem xC:mapsRowed Tryz.prog=true:=by kernel_rfl
theorem xB:Tryz.f6.params.all (Tryz.prog.readableRec ·)=true:=by kernel_rfl
theorem xA:namedTie Tryz.prog Rows.modelTellsRow.named Rows.modelTellsSpec.vars=true:=by kernel_rfl
theorem wZ:(Rows.modelTellsRow.stops==[])=true:=by kernel_rfl
theorem wY:(Tryz.prog.stops==[])=true:=by kernel_rfl
theorem wX:(Rows.modelTellsRow.knobs==[])=true:=by kernel_rfl
theorem wW:(Tryz.prog.stopKnobs==[])=true:=by kernel_rfl
theorem uO:(Rows.modelTellsRow.inPlace==Tryz.prog.inPlace 6)=true:=by kernel_rfl
theorem uN:(Rows.modelTellsRow.unfollowed==Tryz.prog.unfollowed 6)=true:=by kernel_rfl
theorem uM:(Rows.modelTellsRow.recurses==Tryz.prog.recurses 6)=true:=by kernel_rfl
theorem uL:(Rows.modelTellsRow.named==Tryz.prog.varsNamed 6)=true:=by kernel_rfl
theorem uK:(Rows.modelTellsRow.maps==(Tryz.f6.params.toList++Rows.modelTellsSpec.plain.varTypes Tryz.prog).any (Tryz.prog.mapsRec ·))=true:=by kernel_rfl
theorem uJ:(Rows.modelTellsRow.ifaces==(Tryz.f6.params.toList++Rows.modelTellsSpec.plain.varTypes Tryz.prog).any (Tryz.prog.ifacesRec ·))=true:=by kernel_rfl
theorem uI:(Rows.modelTellsRow.mapsOut==Tryz.prog.mapsAmong Tryz.f6.resultTypes.toList)=true:=by kernel_rfl
theorem uH:(Rows.modelTellsRow.loops==(Tryz.f6.params.toList++Rows.modelTellsSpec.plain.varTypes Tryz.prog).any (Tryz.prog.loopsFrom ·))=true:=by kernel_rfl
theorem uG:(Rows.modelTellsRow.wideKeys==(Tryz.f6.params.toList++Rows.modelTellsSpec.plain.varTypes Tryz.prog++Tryz.f6.resultTypes.toList).any (Tryz.prog.wideKeysFrom ·))=true:=by kernel_rfl
theorem uF:Rows.modelTellsSpec.vars.all (Tryz.prog.varReadable ·)=true:=by kernel_rfl
theorem uE:Tryz.f6.resultTypes.all (fun t=>Tryz.prog.readableRec t&&decide (t<Tryz.prog.types.size))=true:=by kernel_rfl
theorem uD:(Rows.modelTellsRow.ifacesOut==Tryz.f6.resultTypes.toList.any (Tryz.prog.ifacesRec ·))=true:=by kernel_rfl
theorem uC:(Rows.modelTellsRow.loopsOut==Tryz.f6.resultTypes.toList.any (Tryz.prog.loopsFrom ·))=true:=by kernel_rfl
theorem uB:(Rows.modelTellsRow.plainKeys==Tryz.prog.plainKeys)=true:=by kernel_rfl
theorem uA:Rows.modelTellsRow.shortTexts.isNone=true:=by kernel_rfl
theorem tZ:Tryz.prog.stopsHeard=true:=by kernel_rfl
theorem tY:Tryz.prog.mayEnter=true:=by kernel_rfl
theorem tX:(Rows.modelTellsRow.lifted==Tryz.prog.liftsFinal)=true:=by kernel_rfl
theorem tW:(Tryz.prog.make==some Rows.modelTellsRow.make)=true:=by kernel_rfl
theorem tV:(Rows.modelTellsRow.kinds==(if Rows.modelTellsRow.domain.isEmpty then [] else Tryz.f6.params.toList.map fun t=>match Tryz.prog.underlying t with |some (.int k)=>some k|_=>none))=true:=by kernel_rfl
theorem tU:(Rows.modelTellsRow.pinned==Rows.modelTellsRow.pinnedBy)=true:=by kernel_rfl
theorem tT:(Rows.modelTellsRow.veiled==(Tryz.f6.params.toList++Rows.modelTellsSpec.plain.varTypes Tryz.prog++Tryz.f6.resultTypes.toList).any (Tryz.prog.veiledRec ·))=true:=by kernel_rfl
theorem tS:Rows.modelTellsRow.veiledFits Tryz.prog Tryz.f6.params.toList (Tryz.f6.params.toList++Rows.modelTellsSpec.plain.varTypes Tryz.prog++Tryz.f6.resultTypes.toList)=true:=by kernel_rfl
theorem qG:joinedFacts Tryz.prog 6 Tryz.f6 (Rows.modelTellsSpec) Rows.modelTellsRow=true:=by unfold joinedFacts;exact cJ (cJ (cJ (cJ (cJ (cJ (cJ (cJ (cJ (cJ (cJ (cJ (cJ (cJ (cJ (cJ (cJ (cJ (cJ (cJ (cJ (cJ (cJ (cJ (cJ (cJ (cJ (cJ (cJ (cJ (cJ xE xD) xC) xB) xA) wZ) wY) wX) wW) uO) uN) uM) uL) uK) uJ) uI) uH) uG) uF) uE) uD) uC) uB) uA) tZ) tY) tX) tW) tV) tU) tT) tS
end Go.Proofs.YthenjegmigeieaaGreat
