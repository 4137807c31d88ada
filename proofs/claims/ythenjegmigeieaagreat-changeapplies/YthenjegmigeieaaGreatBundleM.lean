/- Own texts, one behind the other (part 13). -/
import Derived.Test.YthenjegmigeieaaGreatBundleL
import Derived.Test.YthenjegmigeieaaGreatRows
import Derived.SizedLaws
import Derived.Deep.Slices
import Derived.ProofKit
import Derived.JoinedOf
set_option maxRecDepth 100000
set_option maxHeartbeats 8000000
namespace Go.Proofs.YthenjegmigeieaaGreat
open Go.RowKit
section
variable {H:Type} {enc:TypeId×Value→H} {w:World} {base:Nat} {spare:Nat→Bool} {held:Bool}
theorem yE{fuel:Nat}{v:Value}{x:DataW H×List MemPlace}(h:DataW.trod enc Tryz.prog w base spare held fuel 38 [v]=some x):∃l,PLitsV w v l∧l.length≤9223372036854775807∧(∀i,i<l.length→LitFit (Sc.litD l i))∧CapOk v:=by
 obtain⟨ao,l,cap,hv,hcp,hmx,hl⟩:=kN Tryz.underlying38 aBW dE (⟨0,0,0,[]⟩:Sc.Lit) (fun b off x=>PLitIn w b off x∧LitFit x) (fun n cs' y b off hlen hc h2=>by
  obtain⟨y0,y1,y2,y3,k,_,g0,g1,g2,g3⟩:=vD Tryz.underlying49 h2;obtain⟨v0,v1,v2,v3,rfl⟩:=list4 hlen;simp[lP,uU]at g0 g1 g2 g3;obtain⟨k0,e0,_,_⟩:=DataW.trod_int Tryz.underlying3 g0;obtain⟨k1,e1,_,_⟩:=DataW.trod_int Tryz.underlying3 g1;obtain⟨k2,e2,_,_⟩:=DataW.trod_int Tryz.underlying3 g2;obtain⟨l3,hl3,hm3⟩:=pG g3;simp at e0 e1 e2;subst e0 e1 e2
  exact⟨⟨k0,k1,k2,l3⟩,⟨hc 0 dE,hc 1 dE,hc 2 dE,v3,hc 3 dE,hl3⟩,hm3⟩) h
 refine⟨l,⟨ao,cap,hv,?_⟩,hmx,?_,fun ao2 n2 c2 h2=>by rw[hv]at h2;injection h2 with _ e1 e2;subst e1 e2;exact hcp⟩
 ·rcases hl with h|⟨b,off,he,hc⟩
  ·exact .inl h
  exact .inr ⟨b,off,he,fun i hi=>(hc i hi).1⟩
 intro i hi;rcases hl with h|⟨b,off,he,hc⟩
 ·rw[h]at hi;simp at hi
 exact(hc i hi).2
theorem vY{fuel:Nat}{v:Value}{x:DataW H×List MemPlace}(h:DataW.trod enc Tryz.prog w base spare held fuel 24 [v]=some x):∃l,PRulesV w v l∧l.length≤9223372036854775807∧(∀i,i<l.length→RuleFit (Sc.ruleD l i))∧RulesCap w v:=by
 obtain⟨ao,l,cap,hv,_,hmx,hl⟩:=kN Tryz.underlying24 aBX dE (⟨0,[],0,[],0⟩:Sc.Rule) (fun b off x=>PRuleIn w b off x∧RuleFit x∧∃u,w.cell? ⟨b,off+3,none⟩=some u∧CapOk u) (fun n cs' y b off hlen hc h2=>by
  obtain⟨y0,y1,y2,y3,y4,k,_,g0,g1,g2,g3,g4⟩:=vC Tryz.underlying40 h2;obtain⟨v0,v1,v2,v3,v4,rfl⟩:=list5 hlen;simp[lP,uU,aBY]at g0 g1 g2 g3 g4;obtain⟨k0,e0,_,_⟩:=DataW.trod_int Tryz.underlying3 g0;obtain⟨l1,hl1,hm1⟩:=pG g1;obtain⟨k2,e2,_,_⟩:=DataW.trod_int Tryz.underlying3 g2;obtain⟨l3,hl3,hm3,hf3,hcp3⟩:=yE g3;obtain⟨k4,e4,_,_⟩:=DataW.trod_int Tryz.underlying3 g4;simp at e0 e2 e4;subst e0 e2 e4
  exact⟨⟨k0,l1,k2,l3,k4⟩,⟨hc 0 dE,⟨v1,hc 1 dE,hl1⟩,hc 2 dE,⟨v3,hc 3 dE,hl3⟩,hc 4 dE⟩,⟨hm1,hm3,hf3⟩,v3,hc 3 dE,hcp3⟩) h
 refine⟨l,⟨ao,cap,hv,?_⟩,hmx,?_,?_⟩
 ·rcases hl with h|⟨b,off,he,hc⟩
  ·exact .inl h
  exact .inr ⟨b,off,he,fun i hi=>(hc i hi).1⟩
 ·intro i hi;rcases hl with h|⟨b,off,he,hc⟩
  ·rw[h]at hi;simp at hi
  exact(hc i hi).2.1
 intro b off n cap2 hv2 k hk u hu;rw[hv]at hv2;injection hv2 with e1 e2 e3;subst e1 e2 e3;rcases hl with h|⟨b2,off2,he,hc⟩
 ·rw[h]at hk;simp at hk
 injection he with he;injection he with e1 e2;subst e1 e2;obtain⟨u2,hu2,hok⟩:=(hc k hk).2.2;rw[hu2]at hu;injection hu with hu;subst hu;exact hok
theorem aAm{fuel:Nat}{va vn vr:Value}{x:DataW H×List MemPlace}(h:DataW.trod enc Tryz.prog w base spare held fuel 26 [va,vn,vr]=some x):∃p,ProgV w va vn vr p∧ProgFit p∧RulesCap w vr:=by obtain⟨y0,y1,y2,n,_,g0,g1,g2⟩:=vE Tryz.underlying26 h;simp[oY,aB0,aBZ]at g0 g1 g2;obtain⟨l0,hl0,hm0⟩:=uB g0;obtain⟨l1,hl1,hm1⟩:=aBp g1;obtain⟨l2,hl2,hm2,hf2,hcp2⟩:=vY g2;exact⟨⟨l0,l1,l2⟩,⟨hl0,hl1,hl2⟩,⟨hm0,hm1,hm2,hf2⟩,hcp2⟩
theorem yF{fuel:Nat}{v:Value}{x:DataW H×List MemPlace}(h:DataW.trod enc Tryz.prog w base spare held fuel 27 [v]=some x):∃l,FactsV w v l∧l.length≤9223372036854775807∧∀f,f∈l→FFit f:=by
 obtain⟨ao,l,cap,hv,hcp,hmx,hl⟩:=kN Tryz.underlying27 uV dE (⟨0,[]⟩:Rl.Fc) (fun b off f=>FactIn w b off f∧FFit f) (fun n cs' y b off hlen hc h2=>by
  match cs',hlen with
  |[v0,v1],_=>
   obtain⟨pr,ar,e0,hI,hm⟩:=aBq h2
   exact⟨⟨pr,ar⟩,⟨by rw[←e0];exact hc 0 dE,v1,hc 1 dE,hI⟩,hm⟩) h
 refine⟨l,⟨ao,cap,hv,⟨hcp,fun e=>?_⟩,?_⟩,hmx,fun f hf=>?_⟩
 ·subst e;rcases Deep.open_slice Tryz.underlying27 h with⟨hv2,_⟩|⟨a,len,cap2,m,n,D,Pl,hv2,_⟩
  ·(have hv':v=.slice none 0 0:=by simpa using hv2);rw[hv]at hv';injection hv' with _ _ h2
  (have hv':v=.slice (some a) len cap2:=by simpa using hv2);rw[hv]at hv';injection hv' with h1;cases h1
 ·rcases hl with h|⟨b,off,he,hc⟩
  ·exact .inl h
  exact .inr ⟨b,off,he,fun i hi=>(hc i hi).1⟩
 obtain⟨i,hi,rfl⟩:=jF hf;rcases hl with h|⟨b,off,he,hc⟩
 ·rw[h]at hi;simp at hi
 have :=(hc i hi).2;rwa[aE,aG hi]at this
end
section
variable {H:Type} {enc:TypeId×Value→H} {w:World} {base:Nat} {spare:Nat→Bool} {held:Bool}
theorem tW{st e:TypeId}(ht:Tryz.prog.underlying st=some (.slice e)){fuel:Nat}{a:Option Addr}{n c:Nat}{x:DataW H×List MemPlace}(h:DataW.trod enc Tryz.prog w base spare held fuel st [.slice a n c]=some x)
 (hw:∀m,m∈x.1.weights Tryz.prog st→m≤reachBytes):n*Tryz.prog.bytesOf e≤140737488351232:=by
 rcases Deep.open_slice ht h with⟨hv,_⟩|⟨a',len,cap,m,n',D,Pl,hv,hb,hl,hm,hmm,hx,hel⟩
 ·(have hv':(.slice a n c:Value)=.slice none 0 0:=by simpa using hv);injection hv' with _ h1 _;rw[h1];simp
 (have hv':(.slice a n c:Value)=.slice (some a') len cap:=by simpa using hv);injection hv' with _ h1 _;have h2:=hw ((((List.range len).map D).length+((List.range (m-len)).map fun j=>D (len+j)).length)*Tryz.prog.bytesOf e) (by rw[hx];simp[DataW.weights,ht]);rw[aO,List.length_range,aO,List.length_range]at h2;have h3:len*Tryz.prog.bytesOf e≤(len+(m-len))*Tryz.prog.bytesOf e:=Nat.mul_le_mul_right _ (Nat.le_add_right _ _);have h4:reachBytes=140737488351232:=dE;rw[h1];omega
theorem sN{t:TypeId}{f0 f1:Field}{fuel:Nat}{cs:List Value}{x:DataW H×List MemPlace}(ht:Tryz.prog.underlying t=some (.struct #[f0,f1]))(h:DataW.trod enc Tryz.prog w base spare held fuel t cs=some x):
 ∃y0 y1 n,DataW.trod enc Tryz.prog w base spare held n f0.type ((cs.drop f0.offset).take (Tryz.prog.cellsOf f0.type))=some y0∧(∀m,m∈y0.1.weights Tryz.prog f0.type→m∈x.1.weights Tryz.prog t)∧
  DataW.trod enc Tryz.prog w base spare held n f1.type ((cs.drop f1.offset).take (Tryz.prog.cellsOf f1.type))=some y1∧(∀m,m∈y1.1.weights Tryz.prog f1.type→m∈x.1.weights Tryz.prog t):=by
 obtain⟨xs,n,_,rfl,hl,hlen,hf⟩:=DataW.trod_struct ht h
 match xs,hlen with
 |[y0,y1],_=>exact⟨y0,y1,n,by simpa using hf 0 f0 rfl,(fun m hm=>by simp[DataW.weights,ht,DataW.weightsEach,hm]),by simpa using hf 1 f1 rfl,(fun m hm=>by simp[DataW.weights,ht,DataW.weightsEach,hm])⟩
theorem mH{P:Program}{e:TypeId}{m:Nat}:∀{l:List (DataW H)}{d:DataW H},d∈l→m∈d.weights P e→m∈DataW.weightsAll P e l
 |x::l,d,hd,hm=>by
  rw[DataW.weightsAll,bX];rcases bD.mp hd with rfl|hd
  ·exact .inl hm
  exact .inr (mH hd hm)
theorem lC{fuel:Nat}{v:Value}{x:DataW H×List MemPlace}(h:DataW.trod enc Tryz.prog w base spare held fuel 27 [v]=some x)(hw:∀m,m∈x.1.weights Tryz.prog 27→m≤reachBytes):
 ∃l,FactsV w v l∧l.length≤4398046511103∧∀f,f∈l→f.args.length≤17592186044416:=by
 obtain⟨l,hV,_,_⟩:=yF h;obtain⟨ao,cap,rfl,hc2,hA⟩:=id hV;refine⟨l,hV,?_,fun f hf=>?_⟩
 ·have h1:=tW Tryz.underlying27 h hw;(have h2:Tryz.prog.bytesOf 55=32:=by decide+kernel);rw[h2]at h1;omega
 rcases hA with h0|⟨b,off,rfl,hc⟩
 ·rw[h0]at hf;cases hf
 obtain⟨i,hi,rfl⟩:=jF hf;rcases Deep.open_slice Tryz.underlying27 h with⟨hv,_⟩|⟨a',len,cap',m,n',D,Pl,hv,hb,hl,hm,hmm,hx,hel⟩
 ·simp at hv
 (have hv':(.slice (some ⟨b,off,none⟩) l.length cap:Value)=.slice (some a') len cap':=by simpa using hv);injection hv' with e1 e2 e3;injection e1 with e1;subst e1 e2 e3;(have hlm:l.length≤m:=by rw[hmm];split<;>omega);obtain⟨cs',h1,h2⟩:=hel i oM;rw[uV]at h1;obtain⟨_,hlen,hcell⟩:=World.cells?_some h1
 match cs',hlen with
 |[v0,v1],_=>
  obtain⟨g0,u,g1,hI⟩:=hc i hi;have g2:=hcell 1 dE;rw[Deep.add_add,WideShapes.add_plain,←jD]at g2;have g3:w.cell? ⟨b,off+i*2+1,none⟩=some v1:=g2;rw[g1]at g3;injection g3 with g3;subst g3;obtain⟨y0,y1,n2,k0,b0,k1,b1⟩:=sN Tryz.underlying55 h2;simp[lP,oY]at k0 k1;obtain⟨af,cf,rfl,_⟩:=id hI;have h5:=tW Tryz.underlying22 k1 (fun m hm=>hw m (by
   rw[hx];show m∈DataW.weights Tryz.prog 27 (.slice _ _);rw[DataW.weights,Tryz.underlying27]
   refine aP _ (bX.mpr (.inl (mH (bO.mpr ⟨i,cZ.mpr hi,rfl⟩) (b1 m hm))))))
  (have h6:Tryz.prog.bytesOf 3=8:=by decide+kernel);rw[h6]at h5;(have h7:Rl.factD l i=l[i]:=by simp[Rl.factD,hi]);rw[h7]at h5;omega
end
end Go.Proofs.YthenjegmigeieaaGreat
namespace Go.Proofs.YthenjegmigeieaaGreat
open Go.ChangeShapes Go.WideShapes Go.ChangeAt Go.RowKit
theorem cC{a b:Bool}(ha:a=true)(hb:b=true):(a&&b)=true:=by rw[ha,hb];rfl
theorem tI:Rows.changeAppliesRow.wf (OpenSpec.ofChange Rows.changeAppliesSpec)=true:=by kernel_rfl
theorem tH:laidOutB Tryz.prog=true:=by kernel_rfl
theorem tG:mapsRowed Tryz.prog=true:=by kernel_rfl
theorem tF:Tryz.f12.params.all (Tryz.prog.readableRec ·)=true:=by kernel_rfl
theorem tE:namedTie Tryz.prog Rows.changeAppliesRow.named Rows.changeAppliesSpec.vars=true:=by kernel_rfl
theorem tD:(Rows.changeAppliesRow.stops==[])=true:=by kernel_rfl
theorem tC:(Tryz.prog.stops==[])=true:=by kernel_rfl
theorem tB:(Rows.changeAppliesRow.knobs==[])=true:=by kernel_rfl
theorem tA:(Tryz.prog.stopKnobs==[])=true:=by kernel_rfl
theorem sA:(Rows.changeAppliesRow.inPlace==Tryz.prog.inPlace 12)=true:=by kernel_rfl
theorem rZ:(Rows.changeAppliesRow.unfollowed==Tryz.prog.unfollowed 12)=true:=by kernel_rfl
theorem rY:(Rows.changeAppliesRow.recurses==Tryz.prog.recurses 12)=true:=by kernel_rfl
theorem rX:(Rows.changeAppliesRow.named==Tryz.prog.varsNamed 12)=true:=by kernel_rfl
theorem rW:(Rows.changeAppliesRow.maps==(Tryz.f12.params.toList++Rows.changeAppliesSpec.plain.varTypes Tryz.prog).any (Tryz.prog.mapsRec ·))=true:=by kernel_rfl
theorem rU:(Rows.changeAppliesRow.ifaces==(Tryz.f12.params.toList++Rows.changeAppliesSpec.plain.varTypes Tryz.prog).any (Tryz.prog.ifacesRec ·))=true:=by kernel_rfl
theorem rT:(Rows.changeAppliesRow.mapsOut==Tryz.prog.mapsAmong Tryz.f12.resultTypes.toList)=true:=by kernel_rfl
theorem rS:(Rows.changeAppliesRow.loops==(Tryz.f12.params.toList++Rows.changeAppliesSpec.plain.varTypes Tryz.prog).any (Tryz.prog.loopsFrom ·))=true:=by kernel_rfl
theorem rR:(Rows.changeAppliesRow.wideKeys==(Tryz.f12.params.toList++Rows.changeAppliesSpec.plain.varTypes Tryz.prog++Tryz.f12.resultTypes.toList).any (Tryz.prog.wideKeysFrom ·))=true:=by kernel_rfl
theorem rQ:Rows.changeAppliesSpec.vars.all (Tryz.prog.varReadable ·)=true:=by kernel_rfl
theorem rP:Tryz.f12.resultTypes.all (fun t=>Tryz.prog.readableRec t&&decide (t<Tryz.prog.types.size))=true:=by kernel_rfl
theorem rO:(Rows.changeAppliesRow.ifacesOut==Tryz.f12.resultTypes.toList.any (Tryz.prog.ifacesRec ·))=true:=by kernel_rfl
theorem rN:(Rows.changeAppliesRow.loopsOut==Tryz.f12.resultTypes.toList.any (Tryz.prog.loopsFrom ·))=true:=by kernel_rfl
theorem rM:(Rows.changeAppliesRow.plainKeys==Tryz.prog.plainKeys)=true:=by kernel_rfl
theorem rL:Rows.changeAppliesRow.shortTexts.isNone=true:=by kernel_rfl
theorem rK:Tryz.prog.stopsHeard=true:=by kernel_rfl
theorem rJ:Tryz.prog.mayEnter=true:=by kernel_rfl
theorem rI:(Rows.changeAppliesRow.lifted==Tryz.prog.liftsFinal)=true:=by kernel_rfl
theorem rH:(Tryz.prog.make==some Rows.changeAppliesRow.make)=true:=by kernel_rfl
theorem rG:(Rows.changeAppliesRow.kinds==(if Rows.changeAppliesRow.domain.isEmpty then [] else Tryz.f12.params.toList.map fun t=>match Tryz.prog.underlying t with |some (.int k)=>some k|_=>none))=true:=by kernel_rfl
theorem rE:(Rows.changeAppliesRow.pinned==Rows.changeAppliesRow.pinnedBy)=true:=by kernel_rfl
theorem rD:(Rows.changeAppliesRow.veiled==(Tryz.f12.params.toList++Rows.changeAppliesSpec.plain.varTypes Tryz.prog++Tryz.f12.resultTypes.toList).any (Tryz.prog.veiledRec ·))=true:=by kernel_rfl
theorem rC:Rows.changeAppliesRow.veiledFits Tryz.prog Tryz.f12.params.toList (Tryz.f12.params.toList++Rows.changeAppliesSpec.plain.varTypes Tryz.prog++Tryz.f12.resultTypes.toList)=true:=by kernel_rfl
theorem oS:joinedFacts Tryz.prog 12 Tryz.f12 (Rows.changeAppliesSpec) Rows.changeAppliesRow=true:=by unfold joinedFacts;exact cC (cC (cC (cC (cC (cC (cC (cC (cC (cC (cC (cC (cC (cC (cC (cC (cC (cC (cC (cC (cC (cC (cC (cC (cC (cC (cC (cC (cC (cC (cC tI tH) tG) tF) tE) tD) tC) tB) tA) sA) rZ) rY) rX) rW) rU) rT) rS) rR) rQ) rP) rO) rN) rM) rL) rK) rJ) rI) rH) rG) rE) rD) rC
end Go.Proofs.YthenjegmigeieaaGreat
