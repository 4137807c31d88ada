/- WhySound: whatever program, facts and steps it is handed, it returns true, and what it was handed reads as it did. -/
import Derived.Test.YthenjegmigeieaaGreatBundleJ
import Derived.Test.YthenjegmigeieaaGreatRows
import Derived.ProofKit
import Derived.OpenShut
import Derived.ShutString
import Derived.ChangeOld
import Derived.Below
import Derived.Carry
set_option maxRecDepth 100000
set_option maxHeartbeats 8000000
namespace Go.Proofs.YthenjegmigeieaaGreat
open Go.ChangeShapes Go.WideShapes Go.ChangeAt Go.RowKit
theorem whySound_own:ownKnob Tryz.prog.godebug=none:=kR
theorem whySound_laidOut:laidOutB Tryz.prog=true:=kR
theorem whySound_arr3{cs:Array Value}(h:cs.size=3):∃a0 a1 a2,cs=#[a0,a1,a2]:=by
 obtain⟨l⟩:=cs
 match l,h with
 |[a0,a1,a2],_=>exact⟨a0,a1,a2,rfl⟩
theorem whySound_cells26:Tryz.prog.cellsOf 26=3:=kR
theorem whySound_contract(H:Type)(enc:TypeId×Value→H)(W:World)(base:Nat)(args:Array Value)(ds gs:List (DataW H))(before:List MemPlace)
 (hval:∀(j:Nat) t v,Tryz.f11.params[j]?=some t→args[j]?=some v→Value.okWide Tryz.prog W .any base t v)
 (hW:DataW.Whole enc Tryz.prog Tryz.f11.params.toList Rows.whySoundSpec.vars false W args.toList ds gs before):
 Calls Tryz.prog 11 args W fun e W'=>∃v,e=.returned v∧Rows.whySoundSpec.post enc Tryz.prog Tryz.f11 false true false false W args v W':=by
 have hW':=hW;obtain⟨p,q,hA0,hV,rfl,hfz,hnd⟩:=hW;have hA:DataW.TrodAll enc Tryz.prog W 0 (fun _=>true) true Tryz.f11.params.toList args.toList ds p:=hA0;rw[Tryz.params11]at hA hval;obtain⟨v0,vs0,d0,ds0,p0,q0,hargs,rfl,rfl,h0,r0⟩:=trodAll_cons hA;obtain⟨v1,vs1,d1,ds1,p1,q1,hargs1,rfl,rfl,h1,r1⟩:=trodAll_cons r0;obtain⟨v2,vs2,d2,ds2,p2,q2,hargs2,rfl,rfl,h2,r2⟩:=trodAll_cons r1;obtain⟨rfl,rfl,rfl⟩:=trodAll_nil r2;(obtain rfl:args=#[v0,v1,v2]:=by cases args;simp_all);obtain⟨rfl,rfl⟩:=trodVars_none hV;have k0:=h0;(have lt0:∀x∈p0,x.block<W.heap.size:=by obtain⟨m,hm⟩:=k0;exact DataW.trod_lt m _ _ _ hm);obtain⟨fuel0,hf0⟩:=h0;obtain⟨cs0,rfl,hcs0⟩:=okWide_struct Tryz.underlying26 (hval 0 26 v0 rfl rfl);rw[whySound_cells26]at hcs0;obtain⟨ua_0,un_0,ur_0,rfl⟩:=whySound_arr3 hcs0;obtain⟨P_0,hP_0,hF_0,hC_0⟩:=open_progC (va:=ua_0) (vn:=un_0) (vr:=ur_0) (by simpa[Value.cells]using hf0);have k1:=h1;(have lt1:∀x∈p1,x.block<W.heap.size:=by obtain⟨m,hm⟩:=k1;exact DataW.trod_lt m _ _ _ hm);obtain⟨fuel1,hf1⟩:=h1;obtain⟨xa1,xn1,xc1,rfl,_⟩:=okWide_slice Tryz.underlying27 (hval 1 27 v1 rfl rfl);obtain⟨L_1,hL_1,hM_1,hN_1⟩:=open_factsC (v:=Value.slice xa1 xn1 xc1) (by simpa[Value.cells]using hf1);have k2:=h2;(have lt2:∀x∈p2,x.block<W.heap.size:=by obtain⟨m,hm⟩:=k2;exact DataW.trod_lt m _ _ _ hm);obtain⟨fuel2,hf2⟩:=h2;obtain⟨xa2,xn2,xc2,rfl,_⟩:=okWide_slice Tryz.underlying71 (hval 2 71 v2 rfl rfl);obtain⟨L_2,hL_2,hM_2,hN_2⟩:=open_stepsC (v:=Value.slice xa2 xn2 xc2) (by simpa[Value.cells]using hf2);clear hA0;refine(whySound_any P_0 L_1 L_2 ua_0 un_0 ur_0 (Value.slice xa1 xn1 xc1) (Value.slice xa2 xn2 xc2) W hP_0 hF_0 hC_0 hL_1 hM_1 hN_1 hL_2 hM_2 hN_2).mono fun e W' ⟨he,bel⟩=>?_;subst he;exact⟨_,rfl,_,_,_,[],_,[],hW',trodAll_mk1 (shut_bool Tryz.underlying4 _),trodAll_cons_mk (Below.trod whySound_laidOut kR (of_decide_eq_true kR) k0 bel lt0) (trodAll_cons_mk (Below.trod whySound_laidOut kR (of_decide_eq_true kR) k1 bel lt1) (trodAll_cons_mk (Below.trod whySound_laidOut kR (of_decide_eq_true kR) k2 bel lt2) trodAll_mk0)),rfl,bel.frame _,fun h=>by cases h⟩
theorem whySound_lifted(os:Os)(started:os.Started)(H:Type)(enc:TypeId×Value→H):
 ReturnsInHanded {} Tryz.checked os 11 .any (Rows.whySoundSpec.pre6 enc Tryz.prog Tryz.f11 Rows.whySoundRow.domain false) (Rows.whySoundSpec.post enc Tryz.prog Tryz.f11 false true false false):=by
 refine returnsInHanded_of_change (C:=Tryz.checked) whySound_own started kR Tryz.func11
  (ChangeSpec.witness6 (enc:=enc) (C:=Tryz.checked) false ⟨#[],#[.agg #[.slice none 0 0, .slice none 0 0, .slice none 0 0], .slice none 0 0, .slice none 0 0],[]⟩ 8 kR kR kR kR) ?_
 intro W base args ds gs before hval hW _ _;exact whySound_contract H enc W base args ds gs before hval hW
theorem whySound_said:Rows.WhySoundSaid:=
 OpenClaim.holds_of_wide 11 Tryz.f11 rfl rfl rfl rfl rfl rfl rfl ⟨rfl,rfl,rfl,rfl,rfl⟩ rfl rfl rfl rfl rfl kR Tryz.func11 whySound_facts
  (of_decide_eq_true kR) (by unfold Func.isWrapper;first|(rw[if_pos (by decide+kernel)];kernel_rfl)|(rw[if_neg (by decide+kernel)];exact⟨rfl,rfl⟩))
  (fun os started H enc _=>whySound_lifted os started H enc)
#print axioms whySound_said
end Go.Proofs.YthenjegmigeieaaGreat
