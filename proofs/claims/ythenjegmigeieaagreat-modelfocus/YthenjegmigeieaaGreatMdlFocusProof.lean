/- ModelFocus: whatever program, facts, number, numbers and truths it is handed, it returns true, and what it was handed reads as it did. -/
import Derived.Test.YthenjegmigeieaaGreatBundleK
import Derived.Test.YthenjegmigeieaaGreatRows
import Derived.ProofKit
import Derived.OpenShut
import Derived.ChangeOld
import Derived.Below
import Derived.Carry
set_option maxRecDepth 100000
set_option maxHeartbeats 8000000
namespace Go.Proofs.YthenjegmigeieaaGreat
open Go.ChangeShapes Go.WideShapes Go.ChangeAt Go.RowKit
theorem mdlFocus_own:ownKnob Tryz.prog.godebug=none:=by kernel_rfl
theorem mdlFocus_laidOut:laidOutB Tryz.prog=true:=by kernel_rfl
theorem mdlFocus_arr3 {cs:Array Value} (h:cs.size=3):∃ a0 a1 a2,cs=#[a0,a1,a2]:=by
 obtain ⟨l⟩:=cs
 match l,h with
 | [a0,a1,a2],_=>exact ⟨a0,a1,a2,rfl⟩
theorem mdlFocus_cells26:Tryz.prog.cellsOf 26=3:=by kernel_rfl
theorem mdlFocus_contract (H:Type) (enc:TypeId × Value→H) (W:World) (base:Nat) (args:Array Value) (ds gs:List (DataW H)) (before:List MemPlace)
 (hval:∀ (j:Nat) t v,Tryz.f8.params[j]?=some t→args[j]?=some v→Value.okWide Tryz.prog W .any base t v)
 (hW:DataW.Whole enc Tryz.prog Tryz.f8.params.toList Rows.modelFocusSpec.vars false W args.toList ds gs before) :
 Calls Tryz.prog 8 args W fun e W'=>∃ v,e=.returned v∧Rows.modelFocusSpec.post enc Tryz.prog Tryz.f8 false true false false W args v W':=by
 have hW':=hW
 obtain ⟨p,q,hA0,hV,rfl,hfz,hnd⟩:=hW
 have hA:DataW.TrodAll enc Tryz.prog W 0 (fun _=>true) true Tryz.f8.params.toList args.toList ds p:=hA0
 rw [Tryz.params8] at hA hval
 obtain ⟨v0,vs0,d0,ds0,p0,q0,hargs,rfl,rfl,h0,r0⟩:=trodAll_cons hA
 obtain ⟨v1,vs1,d1,ds1,p1,q1,hargs1,rfl,rfl,h1,r1⟩:=trodAll_cons r0
 obtain ⟨v2,vs2,d2,ds2,p2,q2,hargs2,rfl,rfl,h2,r2⟩:=trodAll_cons r1
 obtain ⟨v3,vs3,d3,ds3,p3,q3,hargs3,rfl,rfl,h3,r3⟩:=trodAll_cons r2
 obtain ⟨v4,vs4,d4,ds4,p4,q4,hargs4,rfl,rfl,h4,r4⟩:=trodAll_cons r3
 obtain ⟨rfl,rfl,rfl⟩:=trodAll_nil r4
 obtain rfl:args=#[v0,v1,v2,v3,v4]:=by cases args; simp_all
 obtain ⟨rfl,rfl⟩:=trodVars_none hV
 have k0:=h0
 have lt0:∀ x∈p0,x.block<W.heap.size:=by obtain ⟨m,hm⟩:=k0; exact DataW.trod_lt m _ _ _ hm
 obtain ⟨fuel0,hf0⟩:=h0
 obtain ⟨cs0,rfl,hcs0⟩:=okWide_struct Tryz.underlying26 (hval 0 26 v0 rfl rfl)
 rw [mdlFocus_cells26] at hcs0
 obtain ⟨ua_0,un_0,ur_0,rfl⟩:=mdlFocus_arr3 hcs0
 obtain ⟨P_0,hP_0,hF_0,hC_0⟩:=open_progC (va:=ua_0) (vn:=un_0) (vr:=ur_0) (by simpa [Value.cells] using hf0)
 have k1:=h1
 have lt1:∀ x∈p1,x.block<W.heap.size:=by obtain ⟨m,hm⟩:=k1; exact DataW.trod_lt m _ _ _ hm
 obtain ⟨fuel1,hf1⟩:=h1
 obtain ⟨xa1,xn1,xc1,rfl,_⟩:=okWide_slice Tryz.underlying27 (hval 1 27 v1 rfl rfl)
 obtain ⟨L_1,hL_1,hM_1,hN_1⟩:=open_factsC (v:=Value.slice xa1 xn1 xc1) (by simpa [Value.cells] using hf1)
 obtain ⟨k_2,rfl,rfl,rfl,w2⟩:=open_int Tryz.underlying3 (hval 2 3 v2 rfl rfl) h2
 have k3:=h3
 have lt3:∀ x∈p3,x.block<W.heap.size:=by obtain ⟨m,hm⟩:=k3; exact DataW.trod_lt m _ _ _ hm
 obtain ⟨fuel3,hf3⟩:=h3
 obtain ⟨xa3,xn3,xc3,rfl,_⟩:=okWide_slice Tryz.underlying22 (hval 3 22 v3 rfl rfl)
 obtain ⟨L_3,hI_3,hM_3⟩:=open_ints (v:=Value.slice xa3 xn3 xc3) (by simpa [Value.cells] using hf3)
 have k4:=h4
 have lt4:∀ x∈p4,x.block<W.heap.size:=by obtain ⟨m,hm⟩:=k4; exact DataW.trod_lt m _ _ _ hm
 obtain ⟨fuel4,hf4⟩:=h4
 obtain ⟨xa4,xn4,xc4,rfl,_⟩:=okWide_slice Tryz.underlying57 (hval 4 57 v4 rfl rfl)
 obtain ⟨L_4,hB_4,hM_4⟩:=open_bools (v:=Value.slice xa4 xn4 xc4) (by simpa [Value.cells] using hf4)
 clear hA0
 refine (modelFocus_any P_0 L_1 k_2 L_3 L_4 ua_0 un_0 ur_0 (Value.slice xa1 xn1 xc1) (Value.slice xa3 xn3 xc3) (Value.slice xa4 xn4 xc4) W hP_0 hF_0 hC_0 hL_1 hM_1 hN_1 hI_3 hM_3 hB_4 hM_4).mono fun e W' ⟨he,bel⟩=>?_
 subst he
 exact ⟨_,rfl,_,_,_,[],_,[],hW',trodAll_mk1 (shut_bool Tryz.underlying4 _),trodAll_cons_mk (Below.trod mdlFocus_laidOut (by kernel_rfl) (of_decide_eq_true (by kernel_rfl)) k0 bel lt0) (trodAll_cons_mk (Below.trod mdlFocus_laidOut (by kernel_rfl) (of_decide_eq_true (by kernel_rfl)) k1 bel lt1) (trodAll_cons_mk (shut_int Tryz.underlying3 w2) (trodAll_cons_mk (Below.trod mdlFocus_laidOut (by kernel_rfl) (of_decide_eq_true (by kernel_rfl)) k3 bel lt3) (trodAll_cons_mk (Below.trod mdlFocus_laidOut (by kernel_rfl) (of_decide_eq_true (by kernel_rfl)) k4 bel lt4) trodAll_mk0)))),rfl,bel.frame _,fun h=>by cases h⟩
theorem mdlFocus_lifted (os:Os) (started:os.Started) (H:Type) (enc:TypeId × Value→H) :
 ReturnsInHanded {} Tryz.checked os 8 .any (Rows.modelFocusSpec.pre6 enc Tryz.prog Tryz.f8 Rows.modelFocusRow.domain false) (Rows.modelFocusSpec.post enc Tryz.prog Tryz.f8 false true false false):=by
 refine returnsInHanded_of_change (C:=Tryz.checked) mdlFocus_own started (by kernel_rfl) Tryz.func8
  (ChangeSpec.witness6 (enc:=enc) (C:=Tryz.checked) false ⟨#[],#[.agg #[.slice none 0 0,.slice none 0 0,.slice none 0 0],.slice none 0 0,.int .i64 0,.slice none 0 0,.slice none 0 0],[]⟩ 8 (by kernel_rfl) (by kernel_rfl) (by kernel_rfl) (by kernel_rfl)) ?_
 intro W base args ds gs before hval hW _ _
 exact mdlFocus_contract H enc W base args ds gs before hval hW
theorem mdlFocus_said:Rows.ModelFocusSaid :=
 OpenClaim.holds_of_wide 8 Tryz.f8 rfl rfl rfl rfl rfl rfl rfl ⟨rfl,rfl,rfl,rfl,rfl⟩ rfl rfl rfl rfl rfl (by kernel_rfl) Tryz.func8 mdlFocus_facts
  (of_decide_eq_true (by kernel_rfl)) (by unfold Func.isWrapper; first | (rw [if_pos (by decide +kernel)]; kernel_rfl) | (rw [if_neg (by decide +kernel)]; exact ⟨rfl,rfl⟩))
  (fun os started H enc _=>mdlFocus_lifted os started H enc)
#print axioms mdlFocus_said
end Go.Proofs.YthenjegmigeieaaGreat
