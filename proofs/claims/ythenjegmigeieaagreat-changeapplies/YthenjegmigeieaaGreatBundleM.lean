/- Own texts, one behind the other (part 13). -/
import Derived.Test.YthenjegmigeieaaGreatBundleL
import Derived.Test.YthenjegmigeieaaGreatRows
import Derived.ProofKit
import Derived.Deep.Slices
import Derived.SizedLaws
import Derived.JoinedOf
set_option maxRecDepth 100000
set_option maxHeartbeats 8000000
namespace Go.Proofs.YthenjegmigeieaaGreat
open Go.RowKit
theorem uN:Tryz.prog.cellsOf 55=2:=by kernel_rfl
theorem oV:Tryz.prog.cellsOf 22=1:=by kernel_rfl
theorem aBO:Tryz.prog.cellsOf 23=1:=by kernel_rfl
theorem aBN:Tryz.prog.cellsOf 24=1:=by kernel_rfl
theorem uM:Tryz.prog.cellsOf 37=1:=by kernel_rfl
theorem aBM:Tryz.prog.cellsOf 38=1:=by kernel_rfl
theorem aBL:Tryz.prog.cellsOf 40=5:=by kernel_rfl
theorem aBK:Tryz.prog.cellsOf 49=4:=by kernel_rfl
theorem aAI:Tryz.prog.cellsOf 147=2:=by kernel_rfl
theorem list4{l:List Value}(h:l.length=4):∃a b c d,l=[a,b,c,d]:=by
 match l,h with
 |[a,b,c,d],_=>exact⟨a,b,c,d,rfl⟩
section
variable {H:Type} {enc:TypeId×Value→H} {w:World} {base:Nat} {spare:Nat→Bool} {held:Bool}
theorem kL{α:Type}{st e:TypeId}{k:Nat}(ht:Tryz.prog.underlying st=some (.slice e))(hk:Tryz.prog.cellsOf e=k)(hk0:0<k)(d:α)(In:Nat→Nat→α→Prop)
 (el:∀n cs' y b off,cs'.length=k→(∀j,j<k→w.cell? ⟨b,off+j,none⟩=cs'[j]?)→DataW.trod enc Tryz.prog w base spare held n e cs'=some y→∃a,In b off a)
 {fuel:Nat} {v:Value} {x:DataW H×List MemPlace} (h:DataW.trod enc Tryz.prog w base spare held fuel st [v]=some x):
 ∃(ao:Option Addr)(l:List α)(cap:Nat),v=.slice ao l.length cap∧l.length≤cap∧l.length≤9223372036854775807∧(l=[]∨∃b off,ao=some ⟨b,off,none⟩∧∀i,i<l.length→In b (off+i*k) (l.getD i d)):=by
 obtain⟨ao,l,cap,hv,hm,hl⟩:=aB7 ht hk hk0 d In el h;refine⟨ao,l,cap,hv,?_,hm,hl⟩;rcases Deep.open_slice ht h with⟨hv2,_⟩|⟨a,len,cap2,m,n,D,Pl,hv2,hb,hl2,_⟩
 ·(have hv':v=.slice none 0 0:=by simpa using hv2);rw[hv]at hv';injection hv' with _ h1 h2;omega
 (have hv':v=.slice (some a) len cap2:=by simpa using hv2);rw[hv]at hv';injection hv' with _ h1 h2;omega
theorem uU{t:TypeId}{f0 f1 f2:Field}{fuel:Nat}{cs:List Value}{x:DataW H×List MemPlace}(ht:Tryz.prog.underlying t=some (.struct #[f0,f1,f2]))(h:DataW.trod enc Tryz.prog w base spare held fuel t cs=some x):
 ∃y0 y1 y2 n,cs.length=Tryz.prog.cellsOf t∧DataW.trod enc Tryz.prog w base spare held n f0.type ((cs.drop f0.offset).take (Tryz.prog.cellsOf f0.type))=some y0∧
  DataW.trod enc Tryz.prog w base spare held n f1.type ((cs.drop f1.offset).take (Tryz.prog.cellsOf f1.type))=some y1∧DataW.trod enc Tryz.prog w base spare held n f2.type ((cs.drop f2.offset).take (Tryz.prog.cellsOf f2.type))=some y2:=by
 obtain⟨xs,n,_,rfl,hl,hlen,hf⟩:=DataW.trod_struct ht h
 match xs,hlen with
 |[y0,y1,y2],_=>exact⟨y0,y1,y2,n,hl,by simpa using hf 0 f0 rfl,by simpa using hf 1 f1 rfl,by simpa using hf 2 f2 rfl⟩
theorem uT{t:TypeId}{f0 f1 f2 f3:Field}{fuel:Nat}{cs:List Value}{x:DataW H×List MemPlace}(ht:Tryz.prog.underlying t=some (.struct #[f0,f1,f2,f3]))(h:DataW.trod enc Tryz.prog w base spare held fuel t cs=some x):
 ∃y0 y1 y2 y3 n,cs.length=Tryz.prog.cellsOf t∧DataW.trod enc Tryz.prog w base spare held n f0.type ((cs.drop f0.offset).take (Tryz.prog.cellsOf f0.type))=some y0∧
  DataW.trod enc Tryz.prog w base spare held n f1.type ((cs.drop f1.offset).take (Tryz.prog.cellsOf f1.type))=some y1∧DataW.trod enc Tryz.prog w base spare held n f2.type ((cs.drop f2.offset).take (Tryz.prog.cellsOf f2.type))=some y2∧
  DataW.trod enc Tryz.prog w base spare held n f3.type ((cs.drop f3.offset).take (Tryz.prog.cellsOf f3.type))=some y3:=by
 obtain⟨xs,n,_,rfl,hl,hlen,hf⟩:=DataW.trod_struct ht h
 match xs,hlen with
 |[y0,y1,y2,y3],_=>exact⟨y0,y1,y2,y3,n,hl,by simpa using hf 0 f0 rfl,by simpa using hf 1 f1 rfl,by simpa using hf 2 f2 rfl,by simpa using hf 3 f3 rfl⟩
theorem tU{fuel:Nat}{v:Value}{x:DataW H×List MemPlace}(h:DataW.trod enc Tryz.prog w base spare held fuel 22 [v]=some x):∃l,IntsV w v l∧l.length≤9223372036854775807:=by
 obtain⟨ao,l,cap,hv,_,hmx,hl⟩:=kL Tryz.underlying22 lL (by decide) (0:Int) (fun b off a=>w.cell? ⟨b,off,none⟩=some (.int .i64 a)) (fun n cs' y b off hlen hc h2=>by
  match cs',hlen with
  |[v0],_=>
   obtain⟨k0,e0,_,_⟩:=DataW.trod_int Tryz.underlying3 h2;simp at e0;subst e0
   exact⟨k0,hc 0 (by decide)⟩) h
 refine⟨l,⟨ao,cap,hv,?_⟩,hmx⟩;rcases hl with h|⟨b,off,he,hc⟩
 ·exact .inl h
 exact .inr ⟨b,off,he,fun i hi=>by have :=hc i hi;rw[Nat.mul_one]at this;exact this⟩
theorem aBe{fuel:Nat}{v:Value}{x:DataW H×List MemPlace}(h:DataW.trod enc Tryz.prog w base spare held fuel 23 [v]=some x):∃l,StrsV w v l∧l.length≤9223372036854775807:=by
 obtain⟨ao,l,cap,hv,_,hmx,hl⟩:=kL Tryz.underlying23 aCC (by decide) ([]:List UInt8) (fun b off a=>w.cell? ⟨b,off,none⟩=some (.string ⟨a.toArray⟩)) (fun n cs' y b off hlen hc h2=>by
  match cs',hlen with
  |[v0],_=>
   obtain⟨k0,e0,_,_⟩:=DataW.trod_string Tryz.underlying9 h2;simp at e0;subst e0
   exact⟨k0.data.toList,hc 0 (by decide)⟩) h
 refine⟨l,⟨ao,cap,hv,?_⟩,hmx⟩;rcases hl with h|⟨b,off,he,hc⟩
 ·exact .inl h
 exact .inr ⟨b,off,he,fun i hi=>by have :=hc i hi;rw[Nat.mul_one]at this;exact this⟩
theorem pD{fuel:Nat}{v:Value}{x:DataW H×List MemPlace}(h:DataW.trod enc Tryz.prog w base spare held fuel 37 [v]=some x):∃l,PTermsV w v l∧l.length≤9223372036854775807:=by
 obtain⟨ao,l,cap,hv,hcap,hmx,hl⟩:=kL Tryz.underlying37 aAI (by decide) (⟨0,0⟩:Sc.Term) (PTermIn w) (fun n cs' y b off hlen hc h2=>by
  obtain⟨y0,y1,k,_,g0,g1⟩:=nU Tryz.underlying147 h2;obtain⟨v0,v1,rfl⟩:=list2 hlen;simp[lL]at g0 g1;obtain⟨k0,e0,_,_⟩:=DataW.trod_int Tryz.underlying3 g0;obtain⟨k1,e1,_,_⟩:=DataW.trod_int Tryz.underlying3 g1;simp at e0 e1;subst e0 e1
  exact⟨⟨k0,k1⟩,hc 0 (by decide),hc 1 (by decide)⟩) h
 exact⟨l,⟨ao,cap,hv,hcap,hl⟩,hmx⟩
theorem aBf{fuel:Nat}{v0 v1:Value}{x:DataW H×List MemPlace}(h:DataW.trod enc Tryz.prog w base spare held fuel 55 [v0,v1]=some x):∃pred args,v0=.int .i64 pred∧IntsV w v1 args∧args.length≤9223372036854775807:=by obtain⟨y0,y1,n,_,g0,g1⟩:=nU Tryz.underlying55 h;simp[lL,oV]at g0 g1;obtain⟨k0,e0,_,_⟩:=DataW.trod_int Tryz.underlying3 g0;obtain⟨l1,hl1,hm1⟩:=tU g1;simp at e0;exact⟨k0,l1,e0,hl1,hm1⟩
end

section
variable {H:Type} {enc:TypeId×Value→H} {w:World} {base:Nat} {spare:Nat→Bool} {held:Bool}
theorem xU{fuel:Nat}{v:Value}{x:DataW H×List MemPlace}(h:DataW.trod enc Tryz.prog w base spare held fuel 38 [v]=some x):∃l,PLitsV w v l∧l.length≤9223372036854775807∧(∀i,i<l.length→LitFit (Sc.litD l i))∧CapOk v:=by
 obtain⟨ao,l,cap,hv,hcp,hmx,hl⟩:=kL Tryz.underlying38 aBK (by decide) (⟨0,0,0,[]⟩:Sc.Lit) (fun b off x=>PLitIn w b off x∧LitFit x) (fun n cs' y b off hlen hc h2=>by
  obtain⟨y0,y1,y2,y3,k,_,g0,g1,g2,g3⟩:=uT Tryz.underlying49 h2;obtain⟨v0,v1,v2,v3,rfl⟩:=list4 hlen;simp[lL,uM]at g0 g1 g2 g3;obtain⟨k0,e0,_,_⟩:=DataW.trod_int Tryz.underlying3 g0;obtain⟨k1,e1,_,_⟩:=DataW.trod_int Tryz.underlying3 g1;obtain⟨k2,e2,_,_⟩:=DataW.trod_int Tryz.underlying3 g2;obtain⟨l3,hl3,hm3⟩:=pD g3;simp at e0 e1 e2;subst e0 e1 e2
  exact⟨⟨k0,k1,k2,l3⟩,⟨hc 0 (by decide),hc 1 (by decide),hc 2 (by decide),v3,hc 3 (by decide),hl3⟩,hm3⟩) h
 refine⟨l,⟨ao,cap,hv,?_⟩,hmx,?_,fun ao2 n2 c2 h2=>by rw[hv]at h2;injection h2 with _ e1 e2;subst e1 e2;exact hcp⟩
 ·rcases hl with h|⟨b,off,he,hc⟩
  ·exact .inl h
  exact .inr ⟨b,off,he,fun i hi=>(hc i hi).1⟩
 intro i hi;rcases hl with h|⟨b,off,he,hc⟩
 ·rw[h]at hi;simp at hi
 exact(hc i hi).2
theorem vP{fuel:Nat}{v:Value}{x:DataW H×List MemPlace}(h:DataW.trod enc Tryz.prog w base spare held fuel 24 [v]=some x):∃l,PRulesV w v l∧l.length≤9223372036854775807∧(∀i,i<l.length→RuleFit (Sc.ruleD l i))∧RulesCap w v:=by
 obtain⟨ao,l,cap,hv,_,hmx,hl⟩:=kL Tryz.underlying24 aBL (by decide) (⟨0,[],0,[],0⟩:Sc.Rule) (fun b off x=>PRuleIn w b off x∧RuleFit x∧∃u,w.cell? ⟨b,off+3,none⟩=some u∧CapOk u) (fun n cs' y b off hlen hc h2=>by
  obtain⟨y0,y1,y2,y3,y4,k,_,g0,g1,g2,g3,g4⟩:=uS Tryz.underlying40 h2;obtain⟨v0,v1,v2,v3,v4,rfl⟩:=list5 hlen;simp[lL,uM,aBM]at g0 g1 g2 g3 g4;obtain⟨k0,e0,_,_⟩:=DataW.trod_int Tryz.underlying3 g0;obtain⟨l1,hl1,hm1⟩:=pD g1;obtain⟨k2,e2,_,_⟩:=DataW.trod_int Tryz.underlying3 g2;obtain⟨l3,hl3,hm3,hf3,hcp3⟩:=xU g3;obtain⟨k4,e4,_,_⟩:=DataW.trod_int Tryz.underlying3 g4;simp at e0 e2 e4;subst e0 e2 e4
  exact⟨⟨k0,l1,k2,l3,k4⟩,⟨hc 0 (by decide),⟨v1,hc 1 (by decide),hl1⟩,hc 2 (by decide),⟨v3,hc 3 (by decide),hl3⟩,hc 4 (by decide)⟩,⟨hm1,hm3,hf3⟩,v3,hc 3 (by decide),hcp3⟩) h
 refine⟨l,⟨ao,cap,hv,?_⟩,hmx,?_,?_⟩
 ·rcases hl with h|⟨b,off,he,hc⟩
  ·exact .inl h
  exact .inr ⟨b,off,he,fun i hi=>(hc i hi).1⟩
 ·intro i hi;rcases hl with h|⟨b,off,he,hc⟩
  ·rw[h]at hi;simp at hi
  exact(hc i hi).2.1
 intro b off n cap2 hv2 k hk u hu;rw[hv]at hv2;injection hv2 with e1 e2 e3;subst e1 e2 e3;rcases hl with h|⟨b2,off2,he,hc⟩
 ·rw[h]at hk;simp at hk
 injection he with he;injection he with e1 e2;subst e1 e2;obtain⟨u2,hu2,hok⟩:=(hc k hk).2.2;rw[hu2]at hu;injection hu with hu;subst hu;exact hok
theorem aAb{fuel:Nat}{va vn vr:Value}{x:DataW H×List MemPlace}(h:DataW.trod enc Tryz.prog w base spare held fuel 26 [va,vn,vr]=some x):∃p,ProgV w va vn vr p∧ProgFit p∧RulesCap w vr:=by obtain⟨y0,y1,y2,n,_,g0,g1,g2⟩:=uU Tryz.underlying26 h;simp[oV,aBO,aBN]at g0 g1 g2;obtain⟨l0,hl0,hm0⟩:=tU g0;obtain⟨l1,hl1,hm1⟩:=aBe g1;obtain⟨l2,hl2,hm2,hf2,hcp2⟩:=vP g2;exact⟨⟨l0,l1,l2⟩,⟨hl0,hl1,hl2⟩,⟨hm0,hm1,hm2,hf2⟩,hcp2⟩
theorem xV{fuel:Nat}{v:Value}{x:DataW H×List MemPlace}(h:DataW.trod enc Tryz.prog w base spare held fuel 27 [v]=some x):∃l,FactsV w v l∧l.length≤9223372036854775807∧∀f,f∈l→FFit f:=by
 obtain⟨ao,l,cap,hv,hcp,hmx,hl⟩:=kL Tryz.underlying27 uN (by decide) (⟨0,[]⟩:Rl.Fc) (fun b off f=>FactIn w b off f∧FFit f) (fun n cs' y b off hlen hc h2=>by
  match cs',hlen with
  |[v0,v1],_=>
   obtain⟨pr,ar,e0,hI,hm⟩:=aBf h2
   exact⟨⟨pr,ar⟩,⟨by rw[←e0];exact hc 0 (by decide),v1,hc 1 (by decide),hI⟩,hm⟩) h
 refine⟨l,⟨ao,cap,hv,⟨hcp,fun e=>?_⟩,?_⟩,hmx,fun f hf=>?_⟩
 ·subst e;rcases Deep.open_slice Tryz.underlying27 h with⟨hv2,_⟩|⟨a,len,cap2,m,n,D,Pl,hv2,_⟩
  ·(have hv':v=.slice none 0 0:=by simpa using hv2);rw[hv]at hv';injection hv' with _ _ h2
  (have hv':v=.slice (some a) len cap2:=by simpa using hv2);rw[hv]at hv';injection hv' with h1;cases h1
 ·rcases hl with h|⟨b,off,he,hc⟩
  ·exact .inl h
  exact .inr ⟨b,off,he,fun i hi=>(hc i hi).1⟩
 obtain⟨i,hi,rfl⟩:=jE hf;rcases hl with h|⟨b,off,he,hc⟩
 ·rw[h]at hi;simp at hi
 have :=(hc i hi).2;rwa[aE,aG hi]at this
end
section
variable {H:Type} {enc:TypeId×Value→H} {w:World} {base:Nat} {spare:Nat→Bool} {held:Bool}
theorem tO{st e:TypeId}(ht:Tryz.prog.underlying st=some (.slice e)){fuel:Nat}{a:Option Addr}{n c:Nat}{x:DataW H×List MemPlace}(h:DataW.trod enc Tryz.prog w base spare held fuel st [.slice a n c]=some x)
 (hw:∀m,m∈x.1.weights Tryz.prog st→m≤reachBytes):n*Tryz.prog.bytesOf e≤140737488351232:=by
 rcases Deep.open_slice ht h with⟨hv,_⟩|⟨a',len,cap,m,n',D,Pl,hv,hb,hl,hm,hmm,hx,hel⟩
 ·(have hv':(.slice a n c:Value)=.slice none 0 0:=by simpa using hv);injection hv' with _ h1 _;rw[h1];simp
 (have hv':(.slice a n c:Value)=.slice (some a') len cap:=by simpa using hv);injection hv' with _ h1 _;have h2:=hw ((((List.range len).map D).length+((List.range (m-len)).map fun j=>D (len+j)).length)*Tryz.prog.bytesOf e) (by rw[hx];simp[DataW.weights,ht]);rw[aO,List.length_range,aO,List.length_range]at h2;have h3:len*Tryz.prog.bytesOf e≤(len+(m-len))*Tryz.prog.bytesOf e:=Nat.mul_le_mul_right _ (Nat.le_add_right _ _);(have h4:reachBytes=140737488351232:=by decide);rw[h1];omega
theorem sI{t:TypeId}{f0 f1:Field}{fuel:Nat}{cs:List Value}{x:DataW H×List MemPlace}(ht:Tryz.prog.underlying t=some (.struct #[f0,f1]))(h:DataW.trod enc Tryz.prog w base spare held fuel t cs=some x):
 ∃y0 y1 n,DataW.trod enc Tryz.prog w base spare held n f0.type ((cs.drop f0.offset).take (Tryz.prog.cellsOf f0.type))=some y0∧(∀m,m∈y0.1.weights Tryz.prog f0.type→m∈x.1.weights Tryz.prog t)∧
  DataW.trod enc Tryz.prog w base spare held n f1.type ((cs.drop f1.offset).take (Tryz.prog.cellsOf f1.type))=some y1∧(∀m,m∈y1.1.weights Tryz.prog f1.type→m∈x.1.weights Tryz.prog t):=by
 obtain⟨xs,n,_,rfl,hl,hlen,hf⟩:=DataW.trod_struct ht h
 match xs,hlen with
 |[y0,y1],_=>exact⟨y0,y1,n,by simpa using hf 0 f0 rfl,(fun m hm=>by simp[DataW.weights,ht,DataW.weightsEach,hm]),by simpa using hf 1 f1 rfl,(fun m hm=>by simp[DataW.weights,ht,DataW.weightsEach,hm])⟩
theorem mD{P:Program}{e:TypeId}{m:Nat}:∀{l:List (DataW H)}{d:DataW H},d∈l→m∈d.weights P e→m∈DataW.weightsAll P e l
 |x::l,d,hd,hm=>by
  rw[DataW.weightsAll,bY];rcases bD.mp hd with rfl|hd
  ·exact .inl hm
  exact .inr (mD hd hm)
theorem kZ{fuel:Nat}{v:Value}{x:DataW H×List MemPlace}(h:DataW.trod enc Tryz.prog w base spare held fuel 27 [v]=some x)(hw:∀m,m∈x.1.weights Tryz.prog 27→m≤reachBytes):
 ∃l,FactsV w v l∧l.length≤4398046511103∧∀f,f∈l→f.args.length≤17592186044416:=by
 obtain⟨l,hV,_,_⟩:=xV h;obtain⟨ao,cap,rfl,hc2,hA⟩:=id hV;refine⟨l,hV,?_,fun f hf=>?_⟩
 ·have h1:=tO Tryz.underlying27 h hw;(have h2:Tryz.prog.bytesOf 55=32:=by decide+kernel);rw[h2]at h1;omega
 rcases hA with h0|⟨b,off,rfl,hc⟩
 ·rw[h0]at hf;cases hf
 obtain⟨i,hi,rfl⟩:=jE hf;rcases Deep.open_slice Tryz.underlying27 h with⟨hv,_⟩|⟨a',len,cap',m,n',D,Pl,hv,hb,hl,hm,hmm,hx,hel⟩
 ·simp at hv
 (have hv':(.slice (some ⟨b,off,none⟩) l.length cap:Value)=.slice (some a') len cap':=by simpa using hv);injection hv' with e1 e2 e3;injection e1 with e1;subst e1 e2 e3;(have hlm:l.length≤m:=by rw[hmm];split<;>omega);obtain⟨cs',h1,h2⟩:=hel i (by omega);rw[uN]at h1;obtain⟨_,hlen,hcell⟩:=World.cells?_some h1
 match cs',hlen with
 |[v0,v1],_=>
  obtain⟨g0,u,g1,hI⟩:=hc i hi;have g2:=hcell 1 (by decide);rw[Deep.add_add,WideShapes.add_plain,←jC]at g2;have g3:w.cell? ⟨b,off+i*2+1,none⟩=some v1:=g2;rw[g1]at g3;injection g3 with g3;subst g3;obtain⟨y0,y1,n2,k0,b0,k1,b1⟩:=sI Tryz.underlying55 h2;simp[lL,oV]at k0 k1;obtain⟨af,cf,rfl,_⟩:=id hI;have h5:=tO Tryz.underlying22 k1 (fun m hm=>hw m (by
   rw[hx];show m∈DataW.weights Tryz.prog 27 (.slice _ _);rw[DataW.weights,Tryz.underlying27]
   refine aP _ (bY.mpr (.inl (mD (bO.mpr ⟨i,dA.mpr hi,rfl⟩) (b1 m hm))))))
  (have h6:Tryz.prog.bytesOf 3=8:=by decide+kernel);rw[h6]at h5;(have h7:Rl.factD l i=l[i]:=by simp[Rl.factD,hi]);rw[h7]at h5;omega
end
end Go.Proofs.YthenjegmigeieaaGreat
namespace Go.Proofs.YthenjegmigeieaaGreat
open Go.ChangeShapes Go.WideShapes Go.ChangeAt Go.RowKit
theorem cD{a b:Bool}(ha:a=true)(hb:b=true):(a&&b)=true:=by rw[ha,hb];rfl
theorem tC:Rows.changeAppliesRow.wf (OpenSpec.ofChange Rows.changeAppliesSpec)=true:=by kernel_rfl
theorem tB:laidOutB Tryz.prog=true:=by kernel_rfl
theorem tA:mapsRowed Tryz.prog=true:=by kernel_rfl
theorem sZ:Tryz.f12.params.all (Tryz.prog.readableRec ·)=true:=by kernel_rfl
theorem sY:namedTie Tryz.prog Rows.changeAppliesRow.named Rows.changeAppliesSpec.vars=true:=by kernel_rfl
theorem sX:(Rows.changeAppliesRow.stops==[])=true:=by kernel_rfl
theorem sW:(Tryz.prog.stops==[])=true:=by kernel_rfl
theorem sV:(Rows.changeAppliesRow.knobs==[])=true:=by kernel_rfl
theorem sT:(Tryz.prog.stopKnobs==[])=true:=by kernel_rfl
theorem rW:(Rows.changeAppliesRow.inPlace==Tryz.prog.inPlace 12)=true:=by kernel_rfl
theorem rV:(Rows.changeAppliesRow.unfollowed==Tryz.prog.unfollowed 12)=true:=by kernel_rfl
theorem rU:(Rows.changeAppliesRow.recurses==Tryz.prog.recurses 12)=true:=by kernel_rfl
theorem rT:(Rows.changeAppliesRow.named==Tryz.prog.varsNamed 12)=true:=by kernel_rfl
theorem rS:(Rows.changeAppliesRow.maps==(Tryz.f12.params.toList++Rows.changeAppliesSpec.plain.varTypes Tryz.prog).any (Tryz.prog.mapsRec ·))=true:=by kernel_rfl
theorem rR:(Rows.changeAppliesRow.ifaces==(Tryz.f12.params.toList++Rows.changeAppliesSpec.plain.varTypes Tryz.prog).any (Tryz.prog.ifacesRec ·))=true:=by kernel_rfl
theorem rQ:(Rows.changeAppliesRow.mapsOut==Tryz.prog.mapsAmong Tryz.f12.resultTypes.toList)=true:=by kernel_rfl
theorem rP:(Rows.changeAppliesRow.loops==(Tryz.f12.params.toList++Rows.changeAppliesSpec.plain.varTypes Tryz.prog).any (Tryz.prog.loopsFrom ·))=true:=by kernel_rfl
theorem rO:(Rows.changeAppliesRow.wideKeys==(Tryz.f12.params.toList++Rows.changeAppliesSpec.plain.varTypes Tryz.prog++Tryz.f12.resultTypes.toList).any (Tryz.prog.wideKeysFrom ·))=true:=by kernel_rfl
theorem rN:Rows.changeAppliesSpec.vars.all (Tryz.prog.varReadable ·)=true:=by kernel_rfl
theorem rM:Tryz.f12.resultTypes.all (fun t=>Tryz.prog.readableRec t&&decide (t<Tryz.prog.types.size))=true:=by kernel_rfl
theorem rL:(Rows.changeAppliesRow.ifacesOut==Tryz.f12.resultTypes.toList.any (Tryz.prog.ifacesRec ·))=true:=by kernel_rfl
theorem rK:(Rows.changeAppliesRow.loopsOut==Tryz.f12.resultTypes.toList.any (Tryz.prog.loopsFrom ·))=true:=by kernel_rfl
theorem rJ:(Rows.changeAppliesRow.plainKeys==Tryz.prog.plainKeys)=true:=by kernel_rfl
theorem rI:Rows.changeAppliesRow.shortTexts.isNone=true:=by kernel_rfl
theorem rH:Tryz.prog.stopsHeard=true:=by kernel_rfl
theorem rG:Tryz.prog.mayEnter=true:=by kernel_rfl
theorem rF:(Rows.changeAppliesRow.lifted==Tryz.prog.liftsFinal)=true:=by kernel_rfl
theorem rE:(Tryz.prog.make==some Rows.changeAppliesRow.make)=true:=by kernel_rfl
theorem rD:(Rows.changeAppliesRow.kinds==(if Rows.changeAppliesRow.domain.isEmpty then [] else Tryz.f12.params.toList.map fun t=>match Tryz.prog.underlying t with |some (.int k)=>some k|_=>none))=true:=by kernel_rfl
theorem rC:(Rows.changeAppliesRow.pinned==Rows.changeAppliesRow.pinnedBy)=true:=by kernel_rfl
theorem rB:(Rows.changeAppliesRow.veiled==(Tryz.f12.params.toList++Rows.changeAppliesSpec.plain.varTypes Tryz.prog++Tryz.f12.resultTypes.toList).any (Tryz.prog.veiledRec ·))=true:=by kernel_rfl
theorem rA:Rows.changeAppliesRow.veiledFits Tryz.prog Tryz.f12.params.toList (Tryz.f12.params.toList++Rows.changeAppliesSpec.plain.varTypes Tryz.prog++Tryz.f12.resultTypes.toList)=true:=by kernel_rfl
theorem oP:joinedFacts Tryz.prog 12 Tryz.f12 (Rows.changeAppliesSpec) Rows.changeAppliesRow=true:=by unfold joinedFacts;exact cD (cD (cD (cD (cD (cD (cD (cD (cD (cD (cD (cD (cD (cD (cD (cD (cD (cD (cD (cD (cD (cD (cD (cD (cD (cD (cD (cD (cD (cD (cD tC tB) tA) sZ) sY) sX) sW) sV) sT) rW) rV) rU) rT) rS) rR) rQ) rP) rO) rN) rM) rL) rK) rJ) rI) rH) rG) rF) rE) rD) rC) rB) rA
end Go.Proofs.YthenjegmigeieaaGreat
