/- WhyProves: whatever program, facts and fact it is handed, it returns true, and what it was handed reads as it did. -/
import Derived.Test.YthenjegmigeieaaGreatBundleL
import Derived.Test.YthenjegmigeieaaGreatRows
import Derived.ProofKit
import Derived.OpenShut
import Derived.ShutString
import Derived.ChangeOld
import Derived.Below
import Derived.Carry
set_option maxRecDepth 100000
set_option maxHeartbeats 8000000
namespace Go.Proofs.YthenjegmigeieaaGreat
open Go.ChangeShapes Go.WideShapes Go.ChangeAt Go.RowKit
theorem whyProves_own:ownKnob Tryz.prog.godebug=none:=kR
theorem whyProves_laidOut:laidOutB Tryz.prog=true:=kR
theorem whyProves_arr2{e:Array Value}(h:e.size=2):∃b d,e=#[b,d]:=by
 obtain⟨l⟩:=e
 match l,h with
 |[b,d],_=>exact⟨b,d,rfl⟩
theorem whyProves_arr3{f:Array Value}(h:f.size=3):∃b d e,f=#[b,d,e]:=by
 obtain⟨l⟩:=f
 match l,h with
 |[b,d,e],_=>exact⟨b,d,e,rfl⟩
theorem whyProves_cells26:Tryz.prog.cellsOf 26=3:=kR
theorem whyProves_cells55:Tryz.prog.cellsOf 55=2:=kR
theorem whyProves_contract(H:Type)(enc:TypeId×Value->H)(W:World)(base:Nat)(args:Array Value)(i T:List (DataW H))(S:List MemPlace)
 (f:∀(j:Nat) t v,Tryz.f10.params[j]?=some t->args[j]?=some v->Value.okWide Tryz.prog W .any base t v)
 (w:DataW.Whole enc Tryz.prog Tryz.f10.params.toList Rows.whyProvesSpec.vars false W args.toList i T S):
 Calls Tryz.prog 10 args W fun e g=>∃v,e=.returned v/\Rows.whyProvesSpec.post enc Tryz.prog Tryz.f10 false true false false W args v g:=by
 have a3:=w;obtain⟨p,q,s,hV,rfl,an,ao⟩:=w;have r:DataW.TrodAll enc Tryz.prog W 0 (fun _=>true) true Tryz.f10.params.toList args.toList i p:=s;rw[Tryz.params10]at r f;obtain⟨I,ap,d0,ae,p0,q0,ak,rfl,rfl,k,r0⟩:=trodAll_cons r;obtain⟨J,aq,d1,af,p1,q1,al,rfl,rfl,l,r1⟩:=trodAll_cons r0;obtain⟨K,ar,d2,ag,p2,q2,am,rfl,rfl,n,r2⟩:=trodAll_cons r1;obtain⟨rfl,rfl,rfl⟩:=trodAll_nil r2;(obtain rfl:args=#[I,J,K]:=by cases args;simp_all);obtain⟨rfl,rfl⟩:=trodVars_none hV;have A:=k;(have a7:∀x∈p0,x.block<W.heap.size:=by obtain⟨m,b⟩:=A;exact DataW.trod_lt m _ _ _ b);obtain⟨ah,a4⟩:=k;obtain⟨ac,rfl,y⟩:=okWide_struct Tryz.underlying26 (f 0 26 I rfl rfl);rw[whyProves_cells26]at y;obtain⟨D,E,F,rfl⟩:=whyProves_arr3 y;obtain⟨Q,a2,V,U⟩:=Kj (va:=D) (vn:=E) (vr:=F) (by simpa[Value.cells]using a4);have B:=l;(have a8:∀x∈p1,x.block<W.heap.size:=by obtain⟨m,b⟩:=B;exact DataW.trod_lt m _ _ _ b);obtain⟨ai,a5⟩:=l;obtain⟨L,N,M,rfl,_⟩:=okWide_slice Tryz.underlying27 (f 1 27 J rfl rfl);obtain⟨P,Y,Z,a1⟩:=Az (v:=Value.slice L N M) (by simpa[Value.cells]using a5);have C:=n;(have a9:∀x∈p2,x.block<W.heap.size:=by obtain⟨m,b⟩:=C;exact DataW.trod_lt m _ _ _ b);obtain⟨aj,a6⟩:=n;obtain⟨ad,rfl,z⟩:=okWide_struct Tryz.underlying55 (f 2 55 K rfl rfl);rw[whyProves_cells55]at z;obtain⟨ab,G,rfl⟩:=whyProves_arr2 z;obtain⟨aa,R,rfl,X,a0⟩:=YO (v0:=ab) (v1:=G) (by simpa[Value.cells]using a6);clear s;refine(Rm Q P ⟨aa,R⟩ D E F (Value.slice L N M) G W a2 V U Y Z a1 X a0).mono fun e g ⟨he,d⟩=>?_;subst he;exact⟨_,rfl,_,_,_,[],_,[],a3,trodAll_mk1 (shut_bool Tryz.underlying4 _),IJ (Below.trod whyProves_laidOut kR (eL kR) A d a7) (IJ (Below.trod whyProves_laidOut kR (eL kR) B d a8) (IJ (Below.trod whyProves_laidOut kR (eL kR) C d a9) trodAll_mk0)),rfl,d.frame _,fun h=>by cases h⟩
theorem whyProves_lifted(b:Os)(l:b.Started)(H:Type)(enc:TypeId×Value->H):
 ReturnsInHanded {} Tryz.checked b 10 .any (Rows.whyProvesSpec.pre6 enc Tryz.prog Tryz.f10 Rows.whyProvesRow.domain false) (Rows.whyProvesSpec.post enc Tryz.prog Tryz.f10 false true false false):=by
 refine returnsInHanded_of_change (C:=Tryz.checked) whyProves_own l kR Tryz.func10
  (ChangeSpec.witness6 (enc:=enc) (C:=Tryz.checked) false ⟨#[],#[.agg #[.slice none 0 0, .slice none 0 0, .slice none 0 0], .slice none 0 0, .agg #[.int .i64 0, .slice none 0 0]],[]⟩ 8 kR kR kR kR) ?_
 intro W e d g i f k j _ _;exact whyProves_contract H enc W e d g i f k j
theorem whyProves_said:Rows.WhyProvesSaid:=
 OpenClaim.holds_of_wide 10 Tryz.f10 rfl rfl rfl rfl rfl rfl rfl ⟨rfl,rfl,rfl,rfl,rfl⟩ rfl rfl rfl rfl rfl kR Tryz.func10 Db
  (eL kR) (by unfold Func.isWrapper;first|(rw[if_pos (by decide+kernel)];kernel_rfl)|(rw[if_neg (by decide+kernel)];exact⟨rfl,rfl⟩))
  (fun d e H b _=>whyProves_lifted d e H b)
#print axioms whyProves_said
end Go.Proofs.YthenjegmigeieaaGreat
