/- ChangePlays, of arguments whose elements together are at most 1048576: whatever program, facts and change it is handed, it returns true, and what it was handed reads as it did. -/
import Derived.Test.YthenjegmigeieaaGreatBundleJ
import Derived.Test.YthenjegmigeieaaGreatRows
import Derived.ProofKit
import Derived.OpenShut
import Derived.ChangeOld
import Derived.Below
import Derived.Carry
import Derived.JoinedCond
set_option maxRecDepth 100000
set_option maxHeartbeats 8000000
namespace Go.Proofs.YthenjegmigeieaaGreat
open Go.ChangeShapes Go.WideShapes Go.ChangeAt Go.RowKit
theorem chgPlays_own:ownKnob Tryz.prog.godebug=none:=by kernel_rfl
theorem chgPlays_laidOut:laidOutB Tryz.prog=true:=by kernel_rfl
theorem chgPlays_arr2 {cs:Array Value} (h:cs.size=2):∃ a0 a1,cs=#[a0,a1]:=by
 obtain ⟨l⟩:=cs
 match l,h with
 | [a0,a1],_=>exact ⟨a0,a1,rfl⟩
theorem chgPlays_arr3 {cs:Array Value} (h:cs.size=3):∃ a0 a1 a2,cs=#[a0,a1,a2]:=by
 obtain ⟨l⟩:=cs
 match l,h with
 | [a0,a1,a2],_=>exact ⟨a0,a1,a2,rfl⟩
theorem chgPlays_cells26:Tryz.prog.cellsOf 26=3:=by kernel_rfl
theorem chgPlays_cells84:Tryz.prog.cellsOf 84=2:=by kernel_rfl
theorem chgPlays_contract (H:Type) (enc:TypeId × Value→H) (W:World) (base:Nat) (args:Array Value) (ds gs:List (DataW H)) (before:List MemPlace)
 (hval:∀ (j:Nat) t v,Tryz.f13.params[j]?=some t→args[j]?=some v→Value.okWide Tryz.prog W .any base t v)
 (hW:DataW.Whole enc Tryz.prog Tryz.f13.params.toList Rows.changePlaysSpec.vars false W args.toList ds gs before) (hk:Rows.uptoSmall H (ds++gs)=true) :
 Calls Tryz.prog 13 args W fun e W'=>∃ v,e=.returned v∧Rows.changePlaysSpec.post enc Tryz.prog Tryz.f13 false true false false W args v W':=by
 have hW':=hW
 obtain ⟨p,q,hA0,hV,rfl,hfz,hnd⟩:=hW
 have hA:DataW.TrodAll enc Tryz.prog W 0 (fun _=>true) true Tryz.f13.params.toList args.toList ds p:=hA0
 rw [Tryz.params13] at hA hval
 obtain ⟨v0,vs0,d0,ds0,p0,q0,hargs,rfl,rfl,h0,r0⟩:=trodAll_cons hA
 obtain ⟨v1,vs1,d1,ds1,p1,q1,hargs1,rfl,rfl,h1,r1⟩:=trodAll_cons r0
 obtain ⟨v2,vs2,d2,ds2,p2,q2,hargs2,rfl,rfl,h2,r2⟩:=trodAll_cons r1
 obtain ⟨v3,vs3,d3,ds3,p3,q3,hargs3,rfl,rfl,h3,r3⟩:=trodAll_cons r2
 obtain ⟨v4,vs4,d4,ds4,p4,q4,hargs4,rfl,rfl,h4,r4⟩:=trodAll_cons r3
 obtain ⟨v5,vs5,d5,ds5,p5,q5,hargs5,rfl,rfl,h5,r5⟩:=trodAll_cons r4
 obtain ⟨rfl,rfl,rfl⟩:=trodAll_nil r5
 obtain rfl:args=#[v0,v1,v2,v3,v4,v5]:=by cases args; simp_all
 obtain ⟨rfl,rfl⟩:=trodVars_none hV
 have BA:Rows.uptoBulkAll [d0,d1,d2,d3,d4,d5]≤1048576:=of_decide_eq_true (by rw [List.append_nil] at hk; exact hk)
 clear hk
 have k0:=h0
 have lt0:∀ x∈p0,x.block<W.heap.size:=by obtain ⟨m,hm⟩:=k0; exact DataW.trod_lt m _ _ _ hm
 obtain ⟨fuel0,hf0⟩:=h0
 obtain ⟨cs0,rfl,hcs0⟩:=okWide_struct Tryz.underlying26 (hval 0 26 v0 rfl rfl)
 rw [chgPlays_cells26] at hcs0
 obtain ⟨ua_0,un_0,ur_0,rfl⟩:=chgPlays_arr3 hcs0
 obtain ⟨P_0,hP_0,hF_0,hC_0⟩:=open_progC (va:=ua_0) (vn:=un_0) (vr:=ur_0) (by simpa [Value.cells] using hf0)
 have k1:=h1
 have lt1:∀ x∈p1,x.block<W.heap.size:=by obtain ⟨m,hm⟩:=k1; exact DataW.trod_lt m _ _ _ hm
 obtain ⟨fuel1,hf1⟩:=h1
 obtain ⟨xa1,xn1,xc1,rfl,_⟩:=okWide_slice Tryz.underlying27 (hval 1 27 v1 rfl rfl)
 obtain ⟨L_1,hL_1,hM_1,hN_1⟩:=open_factsB (v:=Value.slice xa1 xn1 xc1) (by simpa [Value.cells] using hf1)
 have k2:=h2
 have lt2:∀ x∈p2,x.block<W.heap.size:=by obtain ⟨m,hm⟩:=k2; exact DataW.trod_lt m _ _ _ hm
 obtain ⟨fuel2,hf2⟩:=h2
 obtain ⟨xa2,xn2,xc2,rfl,_⟩:=okWide_slice Tryz.underlying27 (hval 2 27 v2 rfl rfl)
 obtain ⟨L_2,hL_2,hM_2,hN_2⟩:=open_factsB (v:=Value.slice xa2 xn2 xc2) (by simpa [Value.cells] using hf2)
 have k3:=h3
 have lt3:∀ x∈p3,x.block<W.heap.size:=by obtain ⟨m,hm⟩:=k3; exact DataW.trod_lt m _ _ _ hm
 obtain ⟨fuel3,hf3⟩:=h3
 obtain ⟨xa3,xn3,xc3,rfl,_⟩:=okWide_slice Tryz.underlying27 (hval 3 27 v3 rfl rfl)
 obtain ⟨L_3,hL_3,hM_3,hN_3⟩:=open_factsB (v:=Value.slice xa3 xn3 xc3) (by simpa [Value.cells] using hf3)
 have k4:=h4
 have lt4:∀ x∈p4,x.block<W.heap.size:=by obtain ⟨m,hm⟩:=k4; exact DataW.trod_lt m _ _ _ hm
 obtain ⟨fuel4,hf4⟩:=h4
 obtain ⟨xa4,xn4,xc4,rfl,_⟩:=okWide_slice Tryz.underlying27 (hval 4 27 v4 rfl rfl)
 obtain ⟨L_4,hL_4,hM_4,hN_4⟩:=open_factsB (v:=Value.slice xa4 xn4 xc4) (by simpa [Value.cells] using hf4)
 have k5:=h5
 have lt5:∀ x∈p5,x.block<W.heap.size:=by obtain ⟨m,hm⟩:=k5; exact DataW.trod_lt m _ _ _ hm
 obtain ⟨fuel5,hf5⟩:=h5
 obtain ⟨cs5,rfl,hcs5⟩:=okWide_struct Tryz.underlying84 (hval 5 84 v5 rfl rfl)
 rw [chgPlays_cells84] at hcs5
 obtain ⟨uc_5,ud_5,rfl⟩:=chgPlays_arr2 hcs5
 obtain ⟨Lc_5,Ld_5,hLc_5,hLd_5,hMc_5,hNc_5,hMd_5,hNd_5⟩:=open_changeB (v0:=uc_5) (v1:=ud_5) (by simpa [Value.cells] using hf5)
 clear hA0
 have B_1:Rows.uptoBulk d1≤1048576:=by simp only [Rows.uptoBulkAll] at BA; omega
 have B_2:Rows.uptoBulk d2≤1048576:=by simp only [Rows.uptoBulkAll] at BA; omega
 have B_3:Rows.uptoBulk d3≤1048576:=by simp only [Rows.uptoBulkAll] at BA; omega
 have B_4:Rows.uptoBulk d4≤1048576:=by simp only [Rows.uptoBulkAll] at BA; omega
 have B_5:Rows.uptoBulk d5≤1048576:=by simp only [Rows.uptoBulkAll] at BA; omega
 dsimp only at hM_1 hN_1 hM_2 hN_2 hM_3 hN_3 hM_4 hN_4 hMc_5 hNc_5 hMd_5 hNd_5
 refine (changePlays_any P_0 L_1 L_2 L_3 L_4 Lc_5 Ld_5 ua_0 un_0 ur_0 (Value.slice xa1 xn1 xc1) (Value.slice xa2 xn2 xc2) (Value.slice xa3 xn3 xc3) (Value.slice xa4 xn4 xc4) uc_5 ud_5 W hP_0 hF_0 hC_0 hL_1 (by omega) (fun f hf=>by have:=hN_1 f hf; unfold FFit; omega) hL_2 (by omega) (fun f hf=>by have:=hN_2 f hf; unfold FFit; omega) hL_3 (by omega) (fun f hf=>by have:=hN_3 f hf; unfold FFit; omega) hL_4 (by omega) (fun f hf=>by have:=hN_4 f hf; omega) hLc_5 (by omega) (fun f hf=>by have:=hNc_5 f hf; omega) hLd_5 (by omega) (fun f hf=>by have:=hNd_5 f hf; omega)).mono fun e W' ⟨he,bel⟩=>?_
 subst he
 exact ⟨_,rfl,_,_,_,[],_,[],hW',trodAll_mk1 (shut_bool Tryz.underlying4 _),trodAll_cons_mk (Below.trod chgPlays_laidOut (by kernel_rfl) (of_decide_eq_true (by kernel_rfl)) k0 bel lt0) (trodAll_cons_mk (Below.trod chgPlays_laidOut (by kernel_rfl) (of_decide_eq_true (by kernel_rfl)) k1 bel lt1) (trodAll_cons_mk (Below.trod chgPlays_laidOut (by kernel_rfl) (of_decide_eq_true (by kernel_rfl)) k2 bel lt2) (trodAll_cons_mk (Below.trod chgPlays_laidOut (by kernel_rfl) (of_decide_eq_true (by kernel_rfl)) k3 bel lt3) (trodAll_cons_mk (Below.trod chgPlays_laidOut (by kernel_rfl) (of_decide_eq_true (by kernel_rfl)) k4 bel lt4) (trodAll_cons_mk (Below.trod chgPlays_laidOut (by kernel_rfl) (of_decide_eq_true (by kernel_rfl)) k5 bel lt5) trodAll_mk0))))),rfl,bel.frame _,fun h=>by cases h⟩
theorem chgPlays_lifted (os:Os) (started:os.Started) (H:Type) (enc:TypeId × Value→H) (F:Stop.Interp) :
 ReturnsInHanded {} Tryz.checked os 13 .any ((Rows.OpenSpec.upto Rows.changePlaysSpec).pre6 enc Tryz.prog Tryz.f13 Rows.changePlaysUptoRow.domain false) (((Rows.OpenSpec.upto Rows.changePlaysSpec).at F).post enc Tryz.prog Tryz.f13 false true false false):=by
 refine returnsInHanded_of_cond (C:=Tryz.checked) (s:=Rows.OpenSpec.upto Rows.changePlaysSpec) (k:=Rows.uptoSmall) rfl chgPlays_own started (by kernel_rfl) Tryz.func13
  (OpenSpec.witness (enc:=enc) (C:=Tryz.checked) (s:=Rows.OpenSpec.upto Rows.changePlaysSpec) (k:=Rows.uptoSmall) rfl false ⟨#[],#[.agg #[.slice none 0 0,.slice none 0 0,.slice none 0 0],.slice none 0 0,.slice none 0 0,.slice none 0 0,.slice none 0 0,.agg #[.slice none 0 0,.slice none 0 0]],[]⟩ 8 (by kernel_rfl) (by kernel_rfl) (by kernel_rfl)
   (x:=([.agg [.nil,.nil,.nil],.nil,.nil,.nil,.nil,.agg [.nil,.nil]],[],[])) (by kernel_rfl) rfl (by kernel_rfl)) ?_
 intro W base args ds gs before hval hW _ hk _
 exact chgPlays_contract H enc W base args ds gs before hval hW hk
theorem chgPlays_said:Rows.ChangePlaysUptoSaid :=
 OpenClaim.holds_of_cond 13 Tryz.f13 rfl rfl rfl rfl rfl rfl rfl ⟨rfl,rfl,rfl,rfl,rfl⟩ rfl rfl rfl rfl rfl (by kernel_rfl) Tryz.func13 chgPlays_facts
  (of_decide_eq_true (by kernel_rfl)) (by unfold Func.isWrapper; first | (rw [if_pos (by decide +kernel)]; kernel_rfl) | (rw [if_neg (by decide +kernel)]; exact ⟨rfl,rfl⟩))
  (fun os started H enc _ F=>chgPlays_lifted os started H enc F)
#print axioms chgPlays_said
end Go.Proofs.YthenjegmigeieaaGreat
