/- ViewPlays: whatever program, replica and updates it is handed, it returns true, and what it was handed reads as it did. -/
import Derived.Test.YtfljoehbbncooaaGreatBundleM
import Derived.Test.YtfljoehbbncooaaGreatRows
import Derived.ProofKit
import Derived.OpenShut
import Derived.ShutString
import Derived.ChangeOld
import Derived.Below
import Derived.Carry
import Derived.SizedLaws
set_option maxRecDepth 100000
set_option maxHeartbeats 8000000
namespace Go.Proofs.YtfljoehbbncooaaGreat
open Go.ChangeShapes Go.WideShapes Go.ChangeAt Go.RowKit
theorem viPlays_own:ownKnob Tryz.prog.godebug=none:=kR
theorem viPlays_laidOut:laidOutB Tryz.prog=true:=kR
theorem viPlays_arr2{d:Array Value}(h:d.size=2):∃b c,d=#[b,c]:=by
 obtain⟨l⟩:=d
 match l,h with
 |[b,c],_=>exact⟨b,c,rfl⟩
theorem viPlays_arr3{e:Array Value}(h:e.size=3):∃b c d,e=#[b,c,d]:=by
 obtain⟨l⟩:=e
 match l,h with
 |[b,c,d],_=>exact⟨b,c,d,rfl⟩
theorem viPlays_cells26:Tryz.prog.cellsOf 26=3:=kR
theorem viPlays_cells29:Tryz.prog.cellsOf 29=2:=kR
theorem viPlays_contract(H:Type)(enc:TypeId×Value->H)(W:World)(base:Nat)(args:Array Value)(i l:List (DataW H))(U:List MemPlace)
 (g:∀(j:Nat) t v,Tryz.f4.params[j]?=some t->args[j]?=some v->Value.okWide Tryz.prog W .any base t v)
 (D:DataW.Whole enc Tryz.prog Tryz.f4.params.toList Rows.viewPlaysSpec.vars false W args.toList i l U) (f:(DataW.weightsEach Tryz.prog (Tryz.f4.params.toList++Rows.viewPlaysSpec.plain.varTypes Tryz.prog) (i++l)).all (·<=reachBytes)=true):
 Calls Tryz.prog 4 args W fun e k=>∃v,e=.returned v/\Rows.viewPlaysSpec.post enc Tryz.prog Tryz.f4 false true false false W args v k:=by
 have a7:=D;obtain⟨p,q,w,hV,rfl,aJ,aL⟩:=D;have u:DataW.TrodAll enc Tryz.prog W 0 (fun _=>true) true Tryz.f4.params.toList args.toList i p:=w;rw[Tryz.params4]at u g f;obtain⟨K,aN,V,aq,p0,q0,az,rfl,rfl,n,r0⟩:=trodAll_cons u;obtain⟨L,aO,X,ar,p1,q1,aC,rfl,rfl,r,r1⟩:=trodAll_cons r0;obtain⟨M,aR,Y,au,p2,q2,aD,rfl,rfl,s,r2⟩:=trodAll_cons r1;obtain⟨rfl,rfl,rfl⟩:=trodAll_nil r2;(obtain rfl:args=#[K,L,M]:=by cases args;simp_all);obtain⟨rfl,rfl⟩:=trodVars_none hV;(have am:∀m,m∈DataW.weights Tryz.prog 26 V->m<=reachBytes:=fun m b=>by have c:=fA.1 f m (DataW.weights_mem_each (j:=0) rfl rfl m b);simpa using c);(have S:∀m,m∈DataW.weights Tryz.prog 29 X->m<=reachBytes:=fun m b=>by have c:=fA.1 f m (DataW.weights_mem_each (j:=1) rfl rfl m b);simpa using c);(have T:∀m,m∈DataW.weights Tryz.prog 27 Y->m<=reachBytes:=fun m b=>by have c:=fA.1 f m (DataW.weights_mem_each (j:=2) rfl rfl m b);simpa using c);have G:=n;(have ab:∀x∈p0,x.block<W.heap.size:=by obtain⟨m,b⟩:=G;exact DataW.trod_lt m _ _ _ b);obtain⟨av,a8⟩:=n;obtain⟨an,rfl,E⟩:=okWide_struct Tryz.underlying26 (g 0 26 K rfl rfl);rw[viPlays_cells26]at E;obtain⟨ag,ah,ai,rfl⟩:=viPlays_arr3 E;obtain⟨P,a2,a0,Z⟩:=aAA (va:=ag) (vn:=ah) (vr:=ai) (by simpa[Value.cells]using a8);have I:=r;(have ac:∀x∈p1,x.block<W.heap.size:=by obtain⟨m,b⟩:=I;exact DataW.trod_lt m _ _ _ b);obtain⟨aw,a9⟩:=r;obtain⟨ao,rfl,F⟩:=okWide_struct Tryz.underlying29 (g 1 29 L rfl rfl);rw[viPlays_cells29]at F;obtain⟨ae,af,rfl⟩:=viPlays_arr2 F;obtain⟨Q,R,a3,a4,C,a5⟩:=aXC (v0:=ae) (v1:=af) (by simpa[Value.cells]using a9) S;have J:=s;(have ad:∀x∈p2,x.block<W.heap.size:=by obtain⟨m,b⟩:=J;exact DataW.trod_lt m _ _ _ b);obtain⟨ax,aa⟩:=s;obtain⟨aj,al,ak,rfl,_⟩:=okWide_slice Tryz.underlying27 (g 2 27 M rfl rfl);obtain⟨N,a1,ay,a6⟩:=Mh (v:=Value.slice aj al ak) (by simpa[Value.cells]using aa) T;clear w;refine(aC4 P Q R N _ _ _ _ _ _ W a2 a0 Z a3 a4 a1 ⟨by have :=C.1;omega,by have :=C.2;omega⟩ oM a5 a6).mono fun e k ⟨he,d⟩=>?_;subst he;exact⟨_,rfl,_,_,_,[],_,[],a7,trodAll_mk1 (shut_bool Tryz.underlying4 _),YJ (Below.trod viPlays_laidOut kR (fJ kR) G d ab) (YJ (Below.trod viPlays_laidOut kR (fJ kR) I d ac) (YJ (Below.trod viPlays_laidOut kR (fJ kR) J d ad) trodAll_mk0)),rfl,d.frame _,fun h=>by cases h⟩
theorem viPlays_lifted(b:Os)(k:b.Started)(H:Type)(enc:TypeId×Value->H):
 ReturnsInHanded {} Tryz.checked b 4 .any (Rows.viewPlaysSpec.pre6 enc Tryz.prog Tryz.f4 Rows.viewPlaysRow.domain false) (Rows.viewPlaysSpec.post enc Tryz.prog Tryz.f4 false true false false):=by
 refine returnsInHanded_of_change_sized (C:=Tryz.checked) viPlays_own k kR Tryz.func4
  (ChangeSpec.witness6 (enc:=enc) (C:=Tryz.checked) false ⟨#[],#[.agg #[.slice none 0 0, .slice none 0 0, .slice none 0 0], .agg #[.slice none 0 0, .slice none 0 0], .slice none 0 0],[]⟩ 8 kR kR kR kR) ?_
 intro W c args e f d j g _ i _;exact viPlays_contract H enc W c args e f d j g i
theorem viPlays_said:Rows.ViewPlaysSaid:=
 OpenClaim.holds_of_wide 4 Tryz.f4 rfl rfl rfl rfl rfl rfl rfl ⟨rfl,rfl,rfl,rfl,rfl⟩ rfl rfl rfl rfl rfl kR Tryz.func4 aC3
  (fJ kR) (by unfold Func.isWrapper;first|(rw[if_pos (by decide+kernel)];kernel_rfl)|(rw[if_neg (by decide+kernel)];exact⟨rfl,rfl⟩))
  (fun c d H b _=>viPlays_lifted c d H b)
#print axioms viPlays_said
end Go.Proofs.YtfljoehbbncooaaGreat
