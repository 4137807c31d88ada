/- ChangeApplies: whatever program and facts it is handed, it returns true, and what it was handed reads as it did. -/
import Derived.Test.YthenjegmigeieaaGreatBundleM
import Derived.Test.YthenjegmigeieaaGreatRows
import Derived.ProofKit
import Derived.OpenShut
import Derived.ShutString
import Derived.ChangeOld
import Derived.Below
import Derived.Carry
import Derived.SizedLaws
set_option maxRecDepth 100000
set_option maxHeartbeats 8000000
namespace Go.Proofs.YthenjegmigeieaaGreat
open Go.ChangeShapes Go.WideShapes Go.ChangeAt Go.RowKit
theorem rB:ownKnob Tryz.prog.godebug=none:=kR
theorem fV:laidOutB Tryz.prog=true:=kR
theorem pU{cs:Array Value}(h:cs.size=3):∃a0 a1 a2,cs=#[a0,a1,a2]:=by
 obtain⟨l⟩:=cs
 match l,h with
 |[a0,a1,a2],_=>exact⟨a0,a1,a2,rfl⟩
theorem nP:Tryz.prog.cellsOf 26=3:=kR
theorem mY(H:Type)(enc:TypeId×Value→H)(W:World)(base:Nat)(args:Array Value)(ds gs:List (DataW H))(before:List MemPlace)
 (hval:∀(j:Nat) t v,Tryz.f12.params[j]?=some t→args[j]?=some v→Value.okWide Tryz.prog W .any base t v)
 (hW:DataW.Whole enc Tryz.prog Tryz.f12.params.toList Rows.changeAppliesSpec.vars false W args.toList ds gs before) (hsz:(DataW.weightsEach Tryz.prog (Tryz.f12.params.toList++Rows.changeAppliesSpec.plain.varTypes Tryz.prog) (ds++gs)).all (·≤reachBytes)=true):
 Calls Tryz.prog 12 args W fun e W'=>∃v,e=.returned v∧Rows.changeAppliesSpec.post enc Tryz.prog Tryz.f12 false true false false W args v W':=by
 have hW':=hW;obtain⟨p,q,hA0,hV,rfl,hfz,hnd⟩:=hW;have hA:DataW.TrodAll enc Tryz.prog W 0 (fun _=>true) true Tryz.f12.params.toList args.toList ds p:=hA0;rw[Tryz.params12]at hA hval hsz;obtain⟨v0,vs0,d0,ds0,p0,q0,hargs,rfl,rfl,h0,r0⟩:=trodAll_cons hA;obtain⟨v1,vs1,d1,ds1,p1,q1,hargs1,rfl,rfl,h1,r1⟩:=trodAll_cons r0;obtain⟨v2,vs2,d2,ds2,p2,q2,hargs2,rfl,rfl,h2,r2⟩:=trodAll_cons r1;obtain⟨v3,vs3,d3,ds3,p3,q3,hargs3,rfl,rfl,h3,r3⟩:=trodAll_cons r2;obtain⟨v4,vs4,d4,ds4,p4,q4,hargs4,rfl,rfl,h4,r4⟩:=trodAll_cons r3;obtain⟨rfl,rfl,rfl⟩:=trodAll_nil r4;(obtain rfl:args=#[v0,v1,v2,v3,v4]:=by cases args;simp_all);obtain⟨rfl,rfl⟩:=trodVars_none hV;(have Z_0:∀m,m∈DataW.weights Tryz.prog 26 d0→m≤reachBytes:=fun m hm=>by have h9:=bE.1 hsz m (DataW.weights_mem_each (j:=0) rfl rfl m hm);simpa using h9);(have Z_1:∀m,m∈DataW.weights Tryz.prog 27 d1→m≤reachBytes:=fun m hm=>by have h9:=bE.1 hsz m (DataW.weights_mem_each (j:=1) rfl rfl m hm);simpa using h9);(have Z_2:∀m,m∈DataW.weights Tryz.prog 27 d2→m≤reachBytes:=fun m hm=>by have h9:=bE.1 hsz m (DataW.weights_mem_each (j:=2) rfl rfl m hm);simpa using h9);(have Z_3:∀m,m∈DataW.weights Tryz.prog 27 d3→m≤reachBytes:=fun m hm=>by have h9:=bE.1 hsz m (DataW.weights_mem_each (j:=3) rfl rfl m hm);simpa using h9);(have Z_4:∀m,m∈DataW.weights Tryz.prog 27 d4→m≤reachBytes:=fun m hm=>by have h9:=bE.1 hsz m (DataW.weights_mem_each (j:=4) rfl rfl m hm);simpa using h9);have k0:=h0;(have lt0:∀x∈p0,x.block<W.heap.size:=by obtain⟨m,hm⟩:=k0;exact DataW.trod_lt m _ _ _ hm);obtain⟨fuel0,hf0⟩:=h0;obtain⟨cs0,rfl,hcs0⟩:=okWide_struct Tryz.underlying26 (hval 0 26 v0 rfl rfl);rw[nP]at hcs0;obtain⟨ua_0,un_0,ur_0,rfl⟩:=pU hcs0;obtain⟨P_0,hP_0,hF_0,hC_0⟩:=aAm (va:=ua_0) (vn:=un_0) (vr:=ur_0) (by simpa[Value.cells]using hf0);have k1:=h1;(have lt1:∀x∈p1,x.block<W.heap.size:=by obtain⟨m,hm⟩:=k1;exact DataW.trod_lt m _ _ _ hm);obtain⟨fuel1,hf1⟩:=h1;obtain⟨xa1,xn1,xc1,rfl,_⟩:=okWide_slice Tryz.underlying27 (hval 1 27 v1 rfl rfl);obtain⟨L_1,hL_1,hM_1,hN_1⟩:=lC (v:=Value.slice xa1 xn1 xc1) (by simpa[Value.cells]using hf1) Z_1;have k2:=h2;(have lt2:∀x∈p2,x.block<W.heap.size:=by obtain⟨m,hm⟩:=k2;exact DataW.trod_lt m _ _ _ hm);obtain⟨fuel2,hf2⟩:=h2;obtain⟨xa2,xn2,xc2,rfl,_⟩:=okWide_slice Tryz.underlying27 (hval 2 27 v2 rfl rfl);obtain⟨L_2,hL_2,hM_2,hN_2⟩:=lC (v:=Value.slice xa2 xn2 xc2) (by simpa[Value.cells]using hf2) Z_2;have k3:=h3;(have lt3:∀x∈p3,x.block<W.heap.size:=by obtain⟨m,hm⟩:=k3;exact DataW.trod_lt m _ _ _ hm);obtain⟨fuel3,hf3⟩:=h3;obtain⟨xa3,xn3,xc3,rfl,_⟩:=okWide_slice Tryz.underlying27 (hval 3 27 v3 rfl rfl);obtain⟨L_3,hL_3,hM_3,hN_3⟩:=lC (v:=Value.slice xa3 xn3 xc3) (by simpa[Value.cells]using hf3) Z_3;have k4:=h4;(have lt4:∀x∈p4,x.block<W.heap.size:=by obtain⟨m,hm⟩:=k4;exact DataW.trod_lt m _ _ _ hm);obtain⟨fuel4,hf4⟩:=h4;obtain⟨xa4,xn4,xc4,rfl,_⟩:=okWide_slice Tryz.underlying27 (hval 4 27 v4 rfl rfl);obtain⟨L_4,hL_4,hM_4,hN_4⟩:=lC (v:=Value.slice xa4 xn4 xc4) (by simpa[Value.cells]using hf4) Z_4;clear hA0;refine(oH P_0 L_1 L_2 L_3 L_4 ua_0 un_0 ur_0 (Value.slice xa1 xn1 xc1) (Value.slice xa2 xn2 xc2) (Value.slice xa3 xn3 xc3) (Value.slice xa4 xn4 xc4) W hP_0 hF_0 hC_0 hL_1 oM (fun f hf=>by have :=hN_1 f hf;unfold FFit;omega) hL_2 hM_2 hN_2 hL_3 oM (fun f hf=>by have :=hN_3 f hf;unfold FFit;omega) hL_4 oM (fun f hf=>by have :=hN_4 f hf;unfold FFit;omega)).mono fun e W' ⟨he,bel⟩=>?_;subst he;exact⟨_,rfl,_,_,_,[],_,[],hW',trodAll_mk1 (shut_bool Tryz.underlying4 _),trodAll_cons_mk (Below.trod fV kR (of_decide_eq_true kR) k0 bel lt0) (trodAll_cons_mk (Below.trod fV kR (of_decide_eq_true kR) k1 bel lt1) (trodAll_cons_mk (Below.trod fV kR (of_decide_eq_true kR) k2 bel lt2) (trodAll_cons_mk (Below.trod fV kR (of_decide_eq_true kR) k3 bel lt3) (trodAll_cons_mk (Below.trod fV kR (of_decide_eq_true kR) k4 bel lt4) trodAll_mk0)))),rfl,bel.frame _,fun h=>by cases h⟩
theorem oG(os:Os)(started:os.Started)(H:Type)(enc:TypeId×Value→H):
 ReturnsInHanded {} Tryz.checked os 12 .any (Rows.changeAppliesSpec.pre6 enc Tryz.prog Tryz.f12 Rows.changeAppliesRow.domain false) (Rows.changeAppliesSpec.post enc Tryz.prog Tryz.f12 false true false false):=by
 refine returnsInHanded_of_change_sized (C:=Tryz.checked) rB started kR Tryz.func12
  (ChangeSpec.witness6 (enc:=enc) (C:=Tryz.checked) false ⟨#[],#[.agg #[.slice none 0 0, .slice none 0 0, .slice none 0 0], .slice none 0 0, .slice none 0 0, .slice none 0 0, .slice none 0 0],[]⟩ 8 kR kR kR kR) ?_
 intro W base args ds gs before hval hW _ hsz _;exact mY H enc W base args ds gs before hval hW hsz
theorem chgApplies_said:Rows.ChangeAppliesSaid:=
 OpenClaim.holds_of_wide 12 Tryz.f12 rfl rfl rfl rfl rfl rfl rfl ⟨rfl,rfl,rfl,rfl,rfl⟩ rfl rfl rfl rfl rfl kR Tryz.func12 oS
  (of_decide_eq_true kR) (by unfold Func.isWrapper;first|(rw[if_pos (by decide+kernel)];kernel_rfl)|(rw[if_neg (by decide+kernel)];exact⟨rfl,rfl⟩))
  (fun os started H enc _=>oG os started H enc)
#print axioms chgApplies_said
end Go.Proofs.YthenjegmigeieaaGreat
