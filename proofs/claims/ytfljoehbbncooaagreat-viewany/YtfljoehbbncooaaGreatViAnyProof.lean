/- ViewAny: whatever program and updates it is handed, it returns true, and what it was handed reads as it did. -/
import Derived.Test.YtfljoehbbncooaaGreatBundleM
import Derived.Test.YtfljoehbbncooaaGreatRows
import Derived.ProofKit
import Derived.OpenShut
import Derived.ShutString
import Derived.ChangeOld
import Derived.Below
import Derived.Carry
import Derived.SizedLaws
set_option maxRecDepth 100000
set_option maxHeartbeats 8000000
namespace Go.Proofs.YtfljoehbbncooaaGreat
open Go.ChangeShapes Go.WideShapes Go.ChangeAt Go.RowKit
theorem viAny_own:ownKnob Tryz.prog.godebug=none:=kR
theorem viAny_laidOut:laidOutB Tryz.prog=true:=kR
theorem viAny_arr3{e:Array Value}(h:e.size=3):∃b c d,e=#[b,c,d]:=by
 obtain⟨l⟩:=e
 match l,h with
 |[b,c,d],_=>exact⟨b,c,d,rfl⟩
theorem viAny_cells26:Tryz.prog.cellsOf 26=3:=kR
theorem viAny_contract(H:Type)(enc:TypeId×Value->H)(W:World)(base:Nat)(args:Array Value)(d l:List (DataW H))(L:List MemPlace)
 (i:∀(j:Nat) t v,Tryz.f5.params[j]?=some t->args[j]?=some v->Value.okWide Tryz.prog W .any base t v)
 (w:DataW.Whole enc Tryz.prog Tryz.f5.params.toList Rows.viewAnySpec.vars false W args.toList d l L) (g:(DataW.weightsEach Tryz.prog (Tryz.f5.params.toList++Rows.viewAnySpec.plain.varTypes Tryz.prog) (d++l)).all (·<=reachBytes)=true):
 Calls Tryz.prog 5 args W fun e k=>∃v,e=.returned v/\Rows.viewAnySpec.post enc Tryz.prog Tryz.f5 false true false false W args v k:=by
 have X:=w;obtain⟨p,q,u,V,rfl,ah,ai⟩:=w;have s:DataW.TrodAll enc Tryz.prog W 0 (fun _=>true) true Tryz.f5.params.toList args.toList d p:=u;rw[Tryz.params5]at s i g;obtain⟨F,aj,M,ab,p0,q0,af,rfl,rfl,n,r0⟩:=trodAll_cons s;obtain⟨G,ak,N,ac,p1,q1,ag,rfl,rfl,r,r1⟩:=trodAll_cons r0;obtain⟨rfl,rfl,rfl⟩:=trodAll_nil r1;(obtain rfl:args=#[F,G]:=by cases args;simp_all);obtain⟨rfl,rfl⟩:=trodVars_none V;(have a9:∀m,m∈DataW.weights Tryz.prog 26 M->m<=reachBytes:=fun m b=>by have f:=fA.1 g m (DataW.weights_mem_each (j:=0) rfl rfl m b);simpa using f);(have K:∀m,m∈DataW.weights Tryz.prog 27 N->m<=reachBytes:=fun m b=>by have f:=fA.1 g m (DataW.weights_mem_each (j:=1) rfl rfl m b);simpa using f);have D:=n;(have a1:∀x∈p0,x.block<W.heap.size:=by obtain⟨m,b⟩:=D;exact DataW.trod_lt m _ _ _ b);obtain⟨ad,Z⟩:=n;obtain⟨aa,rfl,C⟩:=okWide_struct Tryz.underlying26 (i 0 26 F rfl rfl);rw[viAny_cells26]at C;obtain⟨a3,a4,a5,rfl⟩:=viAny_arr3 C;obtain⟨J,T,Q,P⟩:=aAA (va:=a3) (vn:=a4) (vr:=a5) (by simpa[Value.cells]using Z);have E:=r;(have a2:∀x∈p1,x.block<W.heap.size:=by obtain⟨m,b⟩:=E;exact DataW.trod_lt m _ _ _ b);obtain⟨ae,a0⟩:=r;obtain⟨a6,a8,a7,rfl,_⟩:=okWide_slice Tryz.underlying27 (i 1 27 G rfl rfl);obtain⟨I,R,S,U⟩:=aXE (v:=Value.slice a6 a8 a7) (by simpa[Value.cells]using a0) K;clear u;refine(aOH J I _ _ _ _ W T Q P R S U).mono fun e k ⟨Y,c⟩=>?_;subst Y;exact⟨_,rfl,_,_,_,[],_,[],X,trodAll_mk1 (shut_bool Tryz.underlying4 _),YJ (Below.trod viAny_laidOut kR (fJ kR) D c a1) (YJ (Below.trod viAny_laidOut kR (fJ kR) E c a2) trodAll_mk0),rfl,c.frame _,fun h=>by cases h⟩
theorem viAny_lifted(b:Os)(k:b.Started)(H:Type)(enc:TypeId×Value->H):
 ReturnsInHanded {} Tryz.checked b 5 .any (Rows.viewAnySpec.pre6 enc Tryz.prog Tryz.f5 Rows.viewAnyRow.domain false) (Rows.viewAnySpec.post enc Tryz.prog Tryz.f5 false true false false):=by
 refine returnsInHanded_of_change_sized (C:=Tryz.checked) viAny_own k kR Tryz.func5
  (ChangeSpec.witness6 (enc:=enc) (C:=Tryz.checked) false ⟨#[],#[.agg #[.slice none 0 0, .slice none 0 0, .slice none 0 0], .slice none 0 0],[]⟩ 8 kR kR kR kR) ?_
 intro W c args e f d j g _ i _;exact viAny_contract H enc W c args e f d j g i
theorem viAny_said:Rows.ViewAnySaid:=
 OpenClaim.holds_of_wide 5 Tryz.f5 rfl rfl rfl rfl rfl rfl rfl ⟨rfl,rfl,rfl,rfl,rfl⟩ rfl rfl rfl rfl rfl kR Tryz.func5 aNT
  (fJ kR) (by unfold Func.isWrapper;first|(rw[if_pos (by decide+kernel)];kernel_rfl)|(rw[if_neg (by decide+kernel)];exact⟨rfl,rfl⟩))
  (fun c d H b _=>viAny_lifted c d H b)
#print axioms viAny_said
end Go.Proofs.YtfljoehbbncooaaGreat
