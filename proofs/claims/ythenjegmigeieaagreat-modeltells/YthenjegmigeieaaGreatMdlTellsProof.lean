/- ModelTells: whatever program, facts, number, numbers and truths it is handed, it returns true, and what it was handed reads as it did. -/
import Derived.Test.YthenjegmigeieaaGreatBundleL
import Derived.Test.YthenjegmigeieaaGreatRows
import Derived.ProofKit
import Derived.OpenShut
import Derived.ChangeOld
import Derived.Below
import Derived.Carry
set_option maxRecDepth 100000
set_option maxHeartbeats 8000000
namespace Go.Proofs.YthenjegmigeieaaGreat
open Go.ChangeShapes Go.WideShapes Go.ChangeAt Go.RowKit
theorem tR:ownKnob Tryz.prog.godebug=none:=by kernel_rfl
theorem gD:laidOutB Tryz.prog=true:=by kernel_rfl
theorem rF{cs:Array Value}(h:cs.size=3):∃a0 a1 a2,cs=#[a0,a1,a2]:=by
 obtain⟨l⟩:=cs
 match l,h with
 |[a0,a1,a2],_=>exact⟨a0,a1,a2,rfl⟩
theorem oM:Tryz.prog.cellsOf 26=3:=by kernel_rfl
theorem nV(H:Type)(enc:TypeId×Value→H)(W:World)(base:Nat)(args:Array Value)(ds gs:List (DataW H))(before:List MemPlace)
 (hval:∀(j:Nat) t v,Tryz.f6.params[j]?=some t→args[j]?=some v→Value.okWide Tryz.prog W .any base t v)
 (hW:DataW.Whole enc Tryz.prog Tryz.f6.params.toList Rows.modelTellsSpec.vars false W args.toList ds gs before):
 Calls Tryz.prog 6 args W fun e W'=>∃v,e=.returned v∧Rows.modelTellsSpec.post enc Tryz.prog Tryz.f6 false true false false W args v W':=by
 have hW':=hW;obtain⟨p,q,hA0,hV,rfl,hfz,hnd⟩:=hW;have hA:DataW.TrodAll enc Tryz.prog W 0 (fun _=>true) true Tryz.f6.params.toList args.toList ds p:=hA0;rw[Tryz.params6]at hA hval;obtain⟨v0,vs0,d0,ds0,p0,q0,hargs,rfl,rfl,h0,r0⟩:=trodAll_cons hA;obtain⟨v1,vs1,d1,ds1,p1,q1,hargs1,rfl,rfl,h1,r1⟩:=trodAll_cons r0;obtain⟨v2,vs2,d2,ds2,p2,q2,hargs2,rfl,rfl,h2,r2⟩:=trodAll_cons r1;obtain⟨v3,vs3,d3,ds3,p3,q3,hargs3,rfl,rfl,h3,r3⟩:=trodAll_cons r2;obtain⟨v4,vs4,d4,ds4,p4,q4,hargs4,rfl,rfl,h4,r4⟩:=trodAll_cons r3;obtain⟨v5,vs5,d5,ds5,p5,q5,hargs5,rfl,rfl,h5,r5⟩:=trodAll_cons r4;obtain⟨rfl,rfl,rfl⟩:=trodAll_nil r5;(obtain rfl:args=#[v0,v1,v2,v3,v4,v5]:=by cases args;simp_all);obtain⟨rfl,rfl⟩:=trodVars_none hV;have k0:=h0;(have lt0:∀x∈p0,x.block<W.heap.size:=by obtain⟨m,hm⟩:=k0;exact DataW.trod_lt m _ _ _ hm);obtain⟨fuel0,hf0⟩:=h0;obtain⟨cs0,rfl,hcs0⟩:=okWide_struct Tryz.underlying26 (hval 0 26 v0 rfl rfl);rw[oM]at hcs0;obtain⟨ua_0,un_0,ur_0,rfl⟩:=rF hcs0;obtain⟨P_0,hP_0,hF_0,hC_0⟩:=zG (va:=ua_0) (vn:=un_0) (vr:=ur_0) (by simpa[Value.cells]using hf0);have k1:=h1;(have lt1:∀x∈p1,x.block<W.heap.size:=by obtain⟨m,hm⟩:=k1;exact DataW.trod_lt m _ _ _ hm);obtain⟨fuel1,hf1⟩:=h1;obtain⟨xa1,xn1,xc1,rfl,_⟩:=okWide_slice Tryz.underlying27 (hval 1 27 v1 rfl rfl);obtain⟨L_1,hL_1,hM_1,hN_1⟩:=pB (v:=Value.slice xa1 xn1 xc1) (by simpa[Value.cells]using hf1);have k2:=h2;(have lt2:∀x∈p2,x.block<W.heap.size:=by obtain⟨m,hm⟩:=k2;exact DataW.trod_lt m _ _ _ hm);obtain⟨fuel2,hf2⟩:=h2;obtain⟨xa2,xn2,xc2,rfl,_⟩:=okWide_slice Tryz.underlying27 (hval 2 27 v2 rfl rfl);obtain⟨L_2,hL_2,hM_2,hN_2⟩:=pB (v:=Value.slice xa2 xn2 xc2) (by simpa[Value.cells]using hf2);obtain⟨k_3,rfl,rfl,rfl,w3⟩:=open_int Tryz.underlying3 (hval 3 3 v3 rfl rfl) h3;have k4:=h4;(have lt4:∀x∈p4,x.block<W.heap.size:=by obtain⟨m,hm⟩:=k4;exact DataW.trod_lt m _ _ _ hm);obtain⟨fuel4,hf4⟩:=h4;obtain⟨xa4,xn4,xc4,rfl,_⟩:=okWide_slice Tryz.underlying22 (hval 4 22 v4 rfl rfl);obtain⟨L_4,hI_4,hM_4⟩:=oK (v:=Value.slice xa4 xn4 xc4) (by simpa[Value.cells]using hf4);have k5:=h5;(have lt5:∀x∈p5,x.block<W.heap.size:=by obtain⟨m,hm⟩:=k5;exact DataW.trod_lt m _ _ _ hm);obtain⟨fuel5,hf5⟩:=h5;obtain⟨xa5,xn5,xc5,rfl,_⟩:=okWide_slice Tryz.underlying57 (hval 5 57 v5 rfl rfl);obtain⟨L_5,hB_5,hM_5⟩:=zH (v:=Value.slice xa5 xn5 xc5) (by simpa[Value.cells]using hf5);clear hA0;refine(qF P_0 L_1 L_2 k_3 L_4 L_5 ua_0 un_0 ur_0 (Value.slice xa1 xn1 xc1) (Value.slice xa2 xn2 xc2) (Value.slice xa4 xn4 xc4) (Value.slice xa5 xn5 xc5) W hP_0 hF_0 hC_0 hL_1 hM_1 hN_1 hL_2 hM_2 hN_2 hI_4 hM_4 hB_5 hM_5).mono fun e W' ⟨he,bel⟩=>?_;subst he;exact⟨_,rfl,_,_,_,[],_,[],hW',trodAll_mk1 (shut_bool Tryz.underlying4 _),trodAll_cons_mk (Below.trod gD (by kernel_rfl) (of_decide_eq_true (by kernel_rfl)) k0 bel lt0) (trodAll_cons_mk (Below.trod gD (by kernel_rfl) (of_decide_eq_true (by kernel_rfl)) k1 bel lt1) (trodAll_cons_mk (Below.trod gD (by kernel_rfl) (of_decide_eq_true (by kernel_rfl)) k2 bel lt2) (trodAll_cons_mk (shut_int Tryz.underlying3 w3) (trodAll_cons_mk (Below.trod gD (by kernel_rfl) (of_decide_eq_true (by kernel_rfl)) k4 bel lt4) (trodAll_cons_mk (Below.trod gD (by kernel_rfl) (of_decide_eq_true (by kernel_rfl)) k5 bel lt5) trodAll_mk0))))),rfl,bel.frame _,fun h=>by cases h⟩
theorem pM(os:Os)(started:os.Started)(H:Type)(enc:TypeId×Value→H):
 ReturnsInHanded {} Tryz.checked os 6 .any (Rows.modelTellsSpec.pre6 enc Tryz.prog Tryz.f6 Rows.modelTellsRow.domain false) (Rows.modelTellsSpec.post enc Tryz.prog Tryz.f6 false true false false):=by
 refine returnsInHanded_of_change (C:=Tryz.checked) tR started (by kernel_rfl) Tryz.func6
  (ChangeSpec.witness6 (enc:=enc) (C:=Tryz.checked) false ⟨#[],#[.agg #[.slice none 0 0, .slice none 0 0, .slice none 0 0], .slice none 0 0, .slice none 0 0, .int .i64 0, .slice none 0 0, .slice none 0 0],[]⟩ 8 (by kernel_rfl) (by kernel_rfl) (by kernel_rfl) (by kernel_rfl)) ?_
 intro W base args ds gs before hval hW _ _;exact nV H enc W base args ds gs before hval hW
theorem mdlTells_said:Rows.ModelTellsSaid:=
 OpenClaim.holds_of_wide 6 Tryz.f6 rfl rfl rfl rfl rfl rfl rfl ⟨rfl,rfl,rfl,rfl,rfl⟩ rfl rfl rfl rfl rfl (by kernel_rfl) Tryz.func6 qG
  (of_decide_eq_true (by kernel_rfl)) (by unfold Func.isWrapper;first|(rw[if_pos (by decide+kernel)];kernel_rfl)|(rw[if_neg (by decide+kernel)];exact⟨rfl,rfl⟩))
  (fun os started H enc _=>pM os started H enc)
#print axioms mdlTells_said
end Go.Proofs.YthenjegmigeieaaGreat
