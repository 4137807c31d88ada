/- WhyChecks: whatever program, facts and steps it is handed, it returns true, and what it was handed reads as it did. -/
import Derived.Test.YthenjegmigeieaaGreatBundleL
import Derived.Test.YthenjegmigeieaaGreatRows
import Derived.ProofKit
import Derived.OpenShut
import Derived.ShutString
import Derived.ChangeOld
import Derived.Below
import Derived.Carry
set_option maxRecDepth 100000
set_option maxHeartbeats 8000000
namespace Go.Proofs.YthenjegmigeieaaGreat
open Go.ChangeShapes Go.WideShapes Go.ChangeAt Go.RowKit
theorem whyChecks_own:ownKnob Tryz.prog.godebug=none:=kR
theorem whyChecks_laidOut:laidOutB Tryz.prog=true:=kR
theorem whyChecks_arr3{f:Array Value}(h:f.size=3):∃b d e,f=#[b,d,e]:=by
 obtain⟨l⟩:=f
 match l,h with
 |[b,d,e],_=>exact⟨b,d,e,rfl⟩
theorem whyChecks_cells26:Tryz.prog.cellsOf 26=3:=kR
theorem whyChecks_contract(H:Type)(enc:TypeId×Value->H)(W:World)(base:Nat)(args:Array Value)(i U:List (DataW H))(T:List MemPlace)
 (f:∀(j:Nat) t v,Tryz.f9.params[j]?=some t->args[j]?=some v->Value.okWide Tryz.prog W .any base t v)
 (w:DataW.Whole enc Tryz.prog Tryz.f9.params.toList Rows.whyChecksSpec.vars false W args.toList i U T):
 Calls Tryz.prog 9 args W fun e g=>∃v,e=.returned v/\Rows.whyChecksSpec.post enc Tryz.prog Tryz.f9 false true false false W args v g:=by
 have a5:=w;obtain⟨p,q,s,hV,rfl,am,an⟩:=w;have r:DataW.TrodAll enc Tryz.prog W 0 (fun _=>true) true Tryz.f9.params.toList args.toList i p:=s;rw[Tryz.params9]at r f;obtain⟨F,ao,d0,ad,p0,q0,aj,rfl,rfl,k,r0⟩:=trodAll_cons r;obtain⟨G,ap,d1,ae,p1,q1,ak,rfl,rfl,l,r1⟩:=trodAll_cons r0;obtain⟨I,aq,d2,af,p2,q2,al,rfl,rfl,n,r2⟩:=trodAll_cons r1;obtain⟨rfl,rfl,rfl⟩:=trodAll_nil r2;(obtain rfl:args=#[F,G,I]:=by cases args;simp_all);obtain⟨rfl,rfl⟩:=trodVars_none hV;have z:=k;(have a9:∀x∈p0,x.block<W.heap.size:=by obtain⟨m,b⟩:=z;exact DataW.trod_lt m _ _ _ b);obtain⟨ag,a6⟩:=k;obtain⟨ac,rfl,y⟩:=okWide_struct Tryz.underlying26 (f 0 26 F rfl rfl);rw[whyChecks_cells26]at y;obtain⟨C,D,E,rfl⟩:=whyChecks_arr3 y;obtain⟨S,a4,X,V⟩:=Kj (va:=C) (vn:=D) (vr:=E) (by simpa[Value.cells]using a6);have A:=l;(have aa:∀x∈p1,x.block<W.heap.size:=by obtain⟨m,b⟩:=A;exact DataW.trod_lt m _ _ _ b);obtain⟨ah,a7⟩:=l;obtain⟨J,N,L,rfl,_⟩:=okWide_slice Tryz.underlying27 (f 1 27 G rfl rfl);obtain⟨Q,Y,a0,a2⟩:=Az (v:=Value.slice J N L) (by simpa[Value.cells]using a7);have B:=n;(have ab:∀x∈p2,x.block<W.heap.size:=by obtain⟨m,b⟩:=B;exact DataW.trod_lt m _ _ _ b);obtain⟨ai,a8⟩:=n;obtain⟨K,P,M,rfl,_⟩:=okWide_slice Tryz.underlying71 (f 2 71 I rfl rfl);obtain⟨R,Z,a1,a3⟩:=Bb (v:=Value.slice K P M) (by simpa[Value.cells]using a8);clear s;refine(Py S Q R C D E (Value.slice J N L) (Value.slice K P M) W a4 X V Y a0 a2 Z a1 a3).mono fun e g ⟨he,d⟩=>?_;subst he;exact⟨_,rfl,_,_,_,[],_,[],a5,trodAll_mk1 (shut_bool Tryz.underlying4 _),IJ (Below.trod whyChecks_laidOut kR (eL kR) z d a9) (IJ (Below.trod whyChecks_laidOut kR (eL kR) A d aa) (IJ (Below.trod whyChecks_laidOut kR (eL kR) B d ab) trodAll_mk0)),rfl,d.frame _,fun h=>by cases h⟩
theorem whyChecks_lifted(b:Os)(l:b.Started)(H:Type)(enc:TypeId×Value->H):
 ReturnsInHanded {} Tryz.checked b 9 .any (Rows.whyChecksSpec.pre6 enc Tryz.prog Tryz.f9 Rows.whyChecksRow.domain false) (Rows.whyChecksSpec.post enc Tryz.prog Tryz.f9 false true false false):=by
 refine returnsInHanded_of_change (C:=Tryz.checked) whyChecks_own l kR Tryz.func9
  (ChangeSpec.witness6 (enc:=enc) (C:=Tryz.checked) false ⟨#[],#[.agg #[.slice none 0 0, .slice none 0 0, .slice none 0 0], .slice none 0 0, .slice none 0 0],[]⟩ 8 kR kR kR kR) ?_
 intro W e d g i f k j _ _;exact whyChecks_contract H enc W e d g i f k j
theorem whyChecks_said:Rows.WhyChecksSaid:=
 OpenClaim.holds_of_wide 9 Tryz.f9 rfl rfl rfl rfl rfl rfl rfl ⟨rfl,rfl,rfl,rfl,rfl⟩ rfl rfl rfl rfl rfl kR Tryz.func9 Cz
  (eL kR) (by unfold Func.isWrapper;first|(rw[if_pos (by decide+kernel)];kernel_rfl)|(rw[if_neg (by decide+kernel)];exact⟨rfl,rfl⟩))
  (fun d e H b _=>whyChecks_lifted d e H b)
#print axioms whyChecks_said
end Go.Proofs.YthenjegmigeieaaGreat
