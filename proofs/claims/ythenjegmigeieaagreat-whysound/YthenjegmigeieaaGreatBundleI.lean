/- Own texts, one behind the other (part 9). -/
import Derived.Test.YthenjegmigeieaaGreatBundleH
import Derived.Test.YthenjegmigeieaaGreatRows
import Derived.Laws.AppendOwnNone
import Derived.RangeFuncNested
import Derived.RangeFuncBound
import Derived.RangeFuncCalls
import Derived.RangeFuncLeaves
import Derived.Shelf.SlicesQ.Reverse
import Derived.Ground.SlgnProg
import Derived.Test.YthenjegmigeieaaGreatProg
set_option maxRecDepth 100000
set_option maxHeartbeats 8000000
namespace Go.Proofs.YthenjegmigeieaaGreat
open Go.RowKit
theorem StepsP.below{B:Nat}{w w':World}{v:Value}{q:List Sv}(h:StepsP B w v q)(hb:Below w.heap.size w w'):StepsP B w' v q:=⟨ownsRow_below h.1 hb,fun x hx=>(h.2 x hx).below hb⟩
theorem wp_append_sp{w:World}{ops:Array Oper}{rest:List Oper}{o:Oper}{a:Act}{Q:Exit→Act→World→Prop}(hgd:o.guard=none)(s x:Operand)
 (ho:o.op=.call {callee:=.builtin .append,args:=#[s,x],argTypes:=#[71,71]}) (A B B2:Nat) (v:Value) (n:Nat) (q:List Sv) (hs:a.eval s=v) (hn:n=q.length) (hown:w.ownsRow B 80 4 v n (q.map svCells).flatten) (hargs:∀x,x∈q→SvOwn A w x)
 (u:Value) (q2:List Sv) (hx:a.eval x=u) (hown2:StepsP B2 w u q2) (hB:A≤B2) (hBw:B≤w.heap.size) (hl:q.length+q2.length≤4194304)
 (h:∀v' w',w'.ownsRow B 80 4 v' (q++q2).length ((q++q2).map svCells).flatten→(∀x,x∈q++q2→SvOwn A w' x)→Below B w w'→wpList Tryz.prog ops Q rest (a.put o.dst v') w'):wpList Tryz.prog ops Q (o::rest) a w:=by
 obtain⟨i0,hi,hz0,hz1,hz2⟩:=info_parts step_info;subst hn;rcases ownsRow_forms9 hown2.1 with⟨hu,h0⟩|⟨g,cap,hu⟩
 ·have hq2:q2=[]:=List.eq_nil_of_length_eq_zero h0;subst hq2;refine wpList_append_own_none hgd s x 71 ho B 80 i0 4 Tryz.underlying71 hi v q.length _ hs hown (by rw[hx,hu]) ?_;exact h v w (by rw[List.append_nil];exact hown) (by rw[List.append_nil];exact hargs) (Below.refl _ _)
 subst hu;refine wpList_append_own w hgd s x 71 ho B 80 i0 _ 4 64 Tryz.underlying71 hi hz0 hz1 hz2 rfl dE v q.length _ hs hown ⟨g,0,none⟩ q2.length cap (q2.map svCells).flatten hx (by rw[sv_length]) (fun j c hj=>?_) (sv_one fun x hx=>(hown2.2 x hx).ok) (by unfold maxLen;omega) oM hBw ?_
 ·have hlt:j<q2.length*4:=by
   rcases Nat.lt_or_ge j (q2.length*4)with h9|h9
   ·exact h9
   rw[List.getElem?_eq_none (by rw[sv_length];exact h9)]at hj;cases hj
  rw[Addr.add_lit,Nat.zero_add,World.ownsRow.cellAt hown2.1 j hlt];exact hj
 intro v' w' ho9 hg9 _;have h3:∀(A:Nat)(l:List Int)(u:Value),w.ownsRow A 3 1 u l.length (l.map (Value.int .i64))→w'.ownsRow A 3 1 u l.length (l.map (Value.int .i64)):=fun A l u hu=>own_type hu (fun k c hk=>(hg9.block k (heap_lt hk) (fun e=>by have :=own_ty hown e.symm hk;cases this)).trans hk);refine h v' w' ?_ (fun p hp=>?_) ((Below.refl B w).grown hg9 hBw (fun k hk=>(hown.lt k hk).1))
 ·rw[List.length_append,List.map_append,List.flatten_append];exact ho9
 rcases List.mem_append.mp hp with hp|hp
 ·have h9:=hargs p hp;exact⟨h3 _ _ _ h9.f,h3 _ _ _ h9.v,h9.fl,h9.vl⟩
 have h9:=(hown2.2 p hp).le hB;exact⟨h3 _ _ _ h9.f,h3 _ _ _ h9.v,h9.fl,h9.vl⟩
def Wy.upTo(p:Sc.Prog)(l M:List Rl.Fc)(i:Nat):List Wy.Step:=(Rl.set l).map (fun f=>⟨f, -1,[]⟩)++(List.range i).flatMap (Wy.stepsBy p M)
theorem Wy.upTo_succ(p:Sc.Prog)(l M:List Rl.Fc)(i:Nat):Wy.upTo p l M (i+1)=Wy.upTo p l M i++Wy.stepsBy p M i:=by unfold Wy.upTo;rw[List.range_succ,List.flatMap_append,←List.append_assoc];simp
theorem Wy.stepsBy_length{p:Sc.Prog}{M:List Rl.Fc}{i:Nat}(h:(Ru.srt (Ru.ways M (Sc.ruleD p.rules i))).length≤2000):(Wy.stepsBy p M i).length≤2000:=Nat.le_trans (List.length_filterMap_le _ _) h
theorem rightSteps_any(p:Sc.Prog)(l:List Rl.Fc)(va vn vr vl:Value)(w:World)(hP:ProgV w va vn vr p)(hF:ProgFit p)(hcap:RulesCap w vr)(hV:FactsV w vl l)(hVl:l.length≤9223372036854775807)(hVF:∀f,f∈l→FFit f):
 Calls Tryz.prog 81 #[progVal va vn vr,vl] w fun e w'=>∃v c q M,e=.returned (.tuple #[v, .int .i64 c])∧Md.MRes p l [] c M∧(c=0→q.map (·.s)=Wy.right p l M)∧q.length≤24060∧StepsP w.heap.size w' v q∧Below w.heap.size w w':=by
 obtain⟨i0,hi0,hz0,hz1,hz2⟩:=info_parts step_info;obtain⟨a0,n0,rfl,_⟩:=id hP.ar;obtain⟨a1,n1,rfl,_⟩:=id hP.nm;obtain⟨a2,n2,rfl,hRA⟩:=id hP.rl;obtain⟨al,cl,rfl,_⟩:=id hV;have bT:=new_below w (.cells #[.slice a0 p.arity.length n0, .slice a1 p.names.length n1, .slice a2 p.rules.length n2] 26);have HBX:Hid _:=heap_alloc_new w (.cells #[.slice a0 p.arity.length n0, .slice a1 p.names.length n1, .slice a2 p.rules.length n2] 26);have HB:Hid (Below w.heap.size w _):=bT;have HP:Hid (ProgV w (.slice a0 p.arity.length n0) (.slice a1 p.names.length n1) (.slice a2 p.rules.length n2) p∧ProgFit p∧RulesCap w (.slice a2 p.rules.length n2)):=⟨hP,hF,hcap⟩;have HV:Hid (FactsV w (.slice al l.length cl) l):=hV;have HC:Hid _:=Model_any p l _ _ _ _ _ (hP.below bT) hF (hcap.below hP.rl bT) (factsV_below hV bT) hVl hVF;clear hP hF hcap hV hVF hRA bT
 go_enter Tryz.func81,Tryz.ntmps81
 go_upto_region 1 with fail;generalize w.alloc (.cells #[.slice a0 p.arity.length n0, .slice a1 p.names.length n1, .slice a2 p.rules.length n2] 26)=w1 at *;(have HXX:Hid (∀y,Below w1.heap.size w1 y→y.cell? ⟨w.heap.size,0,none⟩=some (.slice a0 p.arity.length n0)∧y.cell? ⟨w.heap.size,1,none⟩=some (.slice a1 p.names.length n1)∧y.cell? ⟨w.heap.size,2,none⟩=some (.slice a2 p.rules.length n2)):=fun y hy=>by have h:=(hy.block _ (heap_lt HBX.out)).trans HBX.out;exact⟨by rw[Lib.cell_of_heap h];rfl,by rw[Lib.cell_of_heap h];rfl,by rw[Lib.cell_of_heap h];rfl⟩);have HWW:Hid (∀y,Below w1.heap.size w1 y→Below w.heap.size w y):=fun y hy=>HB.out.trans (hy.mono HB.out.size);have HLE:Hid (w.heap.size≤w1.heap.size):=HB.out.size;obtain⟨c0,c1,c2⟩:=HXX.out w1 (Below.refl _ _);go_wp2_with fail;refine Calls.mono HC.out ?_;rintro _ w2 ⟨vm,c,M,rfl,hR,hFS,hb2⟩;have HR:Hid (Md.MRes p l [] c M):=hR;have HFS:Hid (FactsV w2 vm M):=hFS;obtain⟨am,cm,rfl,_⟩:=id hFS;have HW2:Hid (Below w1.heap.size w1 w2):=hb2;clear c0 c1 c2 hR hFS hb2 HC HBX HB;by_cases hc:c=0
 ·subst hc;have hz:=Md.pre_zero (Md.mres_zero HR.out rfl).1;have hlr:=Md.chkF_zero hz.1 hz.2.2.1;have hfn:=Md.fine_of hz.1 hz.2.1;have HAR:Hid (∀f,f∈l→f.args.length≤3):=fun f hf=>Md.right_args hfn.ok (hlr.2 f hf);have HFIT:Hid (∀i,i<p.rules.length→Wy.ByFit p M i):=fun i hi=>Wy.by_fit HR.out hi;have HMF:Hid (M.length≤60∧∀f,f∈M→FFit f):=⟨(Md.mres_facts HR.out).1,fun f hf=>by have :=(Md.mres_facts HR.out).2 f hf;unfold FFit;omega⟩;have hl60:=hlr.1;have hr12:=hfn.ok.r12;have hsl:(Rl.set l).length≤60:=Nat.le_trans (set_length l) hl60;have HSA:Hid (∀f,f∈Rl.set l→f.args.length≤3):=fun f hf=>HAR.out f (Rl.mem_set.mp hf);have HC2:Hid _:=Set_any l _ w2 (factsV_below HV.out (HWW.out w2 HW2.out)) oM (fun f hf=>Nat.le_trans (HAR.out f hf) dE);clear hz hlr hfn;go_wp2_with fail;refine Calls.mono HC2.out ?_;rintro _ w3 ⟨vs,rfl,hFP,hb3⟩;have HS3:Hid (FactsP w2.heap.size w3 vs (Rl.set l)):=hFP;obtain⟨qh,hqh,hoh,_⟩:=id hFP;obtain⟨ah,ch,hvh⟩:=own_slice hoh;(have hqhl:qh.length=(Rl.set l).length:=by rw[←hqh,List.length_map]);rw[hqhl]at hvh;subst hvh;have HW3:Hid (Below w1.heap.size w1 w3):=HW2.out.trans (hb3.mono HW2.out.size);have HM3:Hid (FactsV w3 (.slice am M.length cm) M):=factsV_below HFS.out hb3;have HGE:Hid (w1.heap.size≤w2.heap.size):=HW2.out.size;(have HUP:Hid (Wy.upTo p l M 0=((Rl.set l).map (fun f=>(⟨f, -1,[]⟩:Wy.Step)))):=by show _=_;unfold Wy.upTo;simp);clear hFP hqh hoh hqhl hb3 HC2;go_wp2_with fail;go_loopw [24,8] (fun kv sv wr=>∃(k:Nat)(qs:List Sv),k≤(Rl.set l).length∧kv=.int .i64 k∧Hid (qs.length=k)∧Hid (wr.ownsRow w3.heap.size 80 4 sv qs.length (qs.map svCells).flatten)∧Hid (∀x,x∈qs→SvOwn w1.heap.size w3 x)∧Hid (qs.map (·.s)=((Rl.set l).take k).map (fun f=>(⟨f, -1,[]⟩:Wy.Step)))∧Hid (Below w3.heap.size w3 wr)) (fun kv _ _=>(Rl.set l).length-(intOf kv).toNat);case atStart=>exact⟨0,[],Nat.zero_le _,rfl,rfl,World.ownsRow_nil _ _ _ _,fun _ hx=>absurd hx sI,rfl,Below.refl _ _⟩
  case round=>
   obtain⟨k,qs,hk,rfl,HQL,HO,HS,HQ,HBk⟩:=hrel;(have hq60:qs.length≤60:=by have :=HQL.out;omega);obtain⟨ao,co,rfl⟩:=own_slice HO.out;by_cases hlt:k<(Rl.set l).length
   ·obtain⟨ah2,ch2,hva,hcc⟩:=factsP_heads (m:=0) HS3.out (fun _ _=>Nat.zero_le _);injection hva with ea1 _ ea3;subst ea1 ea3;obtain⟨hb_,ho_,rfl,hcd⟩:=hcc.resolve_left (fun h=>by rw[h]at hlt;cases hlt);obtain⟨p0,xa,xc,p1,hI1,hx1,_⟩:=hcd k hlt;have HNEW:Hid (w3.ownsRow w2.heap.size 3 1 (.slice xa (Rl.factD (Rl.set l) k).args.length xc) (Rl.factD (Rl.set l) k).args.length ((Rl.factD (Rl.set l) k).args.map (Value.int .i64))):=factsP_at HS3.out hlt p1;(have HTK:Hid (((Rl.set l).take (k+1)).map (fun f=>(⟨f, -1,[]⟩:Wy.Step))=((Rl.set l).take k).map (fun f=>(⟨f, -1,[]⟩:Wy.Step))++[⟨Rl.factD (Rl.set l) k, -1,[]⟩]):=by show _=_;(have hg:(Rl.set l)[k]?=some (Rl.factD (Rl.set l) k):=by simp[Rl.factD,hlt]);rw[List.take_add_one,hg,List.map_append];rfl);(have HA3:Hid ((Rl.factD (Rl.set l) k).args.length≤3):=HSA.out _ (factD_mem _ k hlt);have q0:=cell_below HBk.out p0;have q1:=cell_below HBk.out p1;clear hcc hcd p0 p1 hI1 hx1;generalize Rl.factD (Rl.set l) k=f at *;go_upto_region 8 with fail;have hba:=new_below wr (.cells #[.int .i64 f.pred, .slice xa f.args.length xc] 55);have hfx:=heap_alloc_new wr (.cells #[.int .i64 f.pred, .slice xa f.args.length xc] 55);have HBa:Hid (Below w3.heap.size w3 _):=HBk.out.trans (hba.mono HBk.out.size);have HOa:Hid ((wr.alloc (.cells #[.int .i64 f.pred, .slice xa f.args.length xc] 55)).ownsRow w3.heap.size 80 4 (.slice ao qs.length co) qs.length (qs.map svCells).flatten):=ownsRow_below HO.out hba;clear q0 q1 hba;generalize hfb:wr.heap.size=FB at *;generalize wr.alloc (.cells #[.int .i64 f.pred, .slice xa f.args.length xc] 55)=wa at *;(have q0:wa.cell? ⟨FB,0,none⟩=some (.int .i64 f.pred):=by rw[Lib.cell_of_heap hfx];rfl);(have q1:wa.cell? ⟨FB,1,none⟩=some (.slice xa f.args.length xc):=by rw[Lib.cell_of_heap hfx];rfl);clear hfx hfb;go_wp2_with(at_builtin;refine wpList_append_own _ rfl (.tmp 28) (.tmp 31) 71 rfl w3.heap.size 80 i0 _ 4 64 Tryz.underlying71 hi0 hz0 hz1 hz2 rfl dE _ _ _ rfl (HOa.out.alloc _) ⟨wa.heap.size,0,none⟩ 1 1 [.int .i64 f.pred, .slice xa f.args.length xc, .int .i64 (-1), .slice none 0 0] rfl rfl ?c1 ?c2 ?c3 ?c4 ?c5 ?_);(case c2=>exact⟨rfl,rfl,rfl,rfl⟩);(case c3=>unfold maxLen;omega);(case c4=>omega);(case c5=>have :=HBa.out.size;omega);intro vs2 w6 hown6 hgrow6 _;obtain⟨ao9,cap9,rfl⟩:=own_slice hown6;have HB6:Hid (Below w3.heap.size w3 w6):=(HBa.out.alloc HBa.out.size _).grown hgrow6 (by have :=HBa.out.size;simp;omega) (fun k hk=>(HOa.out.lt k hk).1);have HO6:Hid (w6.ownsRow w3.heap.size 80 4 (.slice ao9 (qs.length+1) cap9) (qs++[(⟨⟨f, -1,[]⟩, .slice xa f.args.length xc, .slice none 0 0⟩:Sv)]).length ((qs++[(⟨⟨f, -1,[]⟩, .slice xa f.args.length xc, .slice none 0 0⟩:Sv)]).map svCells).flatten):=by show World.ownsRow _ _ _ _ _ _ _;rw[List.length_append,List.map_append,List.flatten_append];simpa[svCells]using hown6);have HS6:Hid (∀x,x∈qs++[(⟨⟨f, -1,[]⟩, .slice xa f.args.length xc, .slice none 0 0⟩:Sv)]→SvOwn w1.heap.size w3 x):=fun x hx=>by
     rcases List.mem_append.mp hx with hx|hx
     ·exact HS.out x hx
     rcases List.mem_singleton.mp hx with rfl;exact⟨rl_own_le HNEW.out HGE.out,World.ownsRow_nil _ _ _ _,HA3.out,Nat.zero_le _⟩
    (have HQ6:Hid ((qs++[(⟨⟨f, -1,[]⟩, .slice xa f.args.length xc, .slice none 0 0⟩:Sv)]).map (·.s)=((Rl.set l).take (k+1)).map (fun f=>(⟨f, -1,[]⟩:Wy.Step))):=by show _=_;rw[HTK.out,←HQ.out,List.map_append];rfl);clear hown6 hgrow6 q0 q1;go_wp2_with fail;go_roundw;(case rel=>exact⟨k+1,_,hlt,gN,by show _=_;rw[List.length_append,HQL.out];rfl,HO6.out,HS6.out,HQ6.out,HB6.out⟩);case measure=>exact mI
   obtain⟨q0,hq0⟩:∃q0,q0=qs:=⟨_,rfl⟩;have HQ0:Hid (q0.map (·.s)=Wy.upTo p l M 0∧q0.length≤60):=⟨by rw[hq0,HUP.out,HQ.out,List.take_of_length_le oM],by rw[hq0];omega⟩;(have HO0:Hid (wr.ownsRow w3.heap.size 80 4 (.slice ao qs.length co) q0.length (q0.map svCells).flatten):=by rw[hq0];exact HO.out);have HS0:Hid (∀x,x∈q0→SvOwn w1.heap.size wr x):=fun x hx=>(HS.out x (by rw[←hq0];exact hx)).below HBk.out;have HB0:Hid (Below w3.heap.size w3 wr):=HBk.out;obtain⟨c0,c1,c2⟩:=HXX.out wr (HW3.out.trans (HBk.out.mono HW3.out.size));clear hq0 HO HS HQ HBk HS3 HQL;go_wp2_with fail;clear c0 c1 c2 hlt;go_loopw [37,8] (fun iv sv wz=>∃(i:Nat)(qs:List Sv),i≤p.rules.length∧iv=.int .i64 i∧Hid (wz.ownsRow w3.heap.size 80 4 sv qs.length (qs.map svCells).flatten)∧Hid (∀x,x∈qs→SvOwn w1.heap.size wz x)∧Hid (qs.map (·.s)=Wy.upTo p l M i)∧qs.length≤60+i*2000∧Hid (Below w3.heap.size w3 wz)) (fun iv _ _=>p.rules.length-(intOf iv).toNat);case atStart=>exact⟨0,q0,Nat.zero_le _,rfl,HO0.out,HS0.out,HQ0.out.1,by have :=HQ0.out.2;omega,HB0.out⟩
   case round=>
    clear HO0 HS0 HQ0 HB0;obtain⟨i,qz,hi,rfl,HO,HS,HQ,hqn,HBk⟩:=hrel;obtain⟨az,cz,rfl⟩:=own_slice HO.out;have HBw:Hid (Below w1.heap.size w1 wr):=HW3.out.trans (HBk.out.mono HW3.out.size);by_cases hlt:i<p.rules.length
    ·have hf:=HFIT.out i hlt;have HCS:Hid _:=stepsBy_any p i M _ _ _ _ wr (HP.out.1.below (HWW.out wr HBw.out)) HP.out.2.1 (HP.out.2.2.below HP.out.1.rl (HWW.out wr HBw.out)) (factsV_below HM3.out HBk.out) HMF.out.1 HMF.out.2 hlt hf.err hf.out hf.hds hf.hl hf.wl hf.ht hf.tl hf.tin hf.fo;have HL5:Hid ((Wy.stepsBy p M i).length≤2000):=Wy.stepsBy_length hf.wl;clear hf;obtain⟨c0,c1,c2⟩:=HXX.out wr HBw.out;go_wp2_with fail;refine Calls.mono HCS.out ?_;rintro _ w5 ⟨v5,q5,rfl,hq5,hP5,hb5⟩;(have HQ5:Hid ((qz++q5).map (·.s)=Wy.upTo p l M (i+1)):=by show _=_;rw[List.map_append,HQ.out,hq5,Wy.upTo_succ]);(have hl5:q5.length≤2000:=by have h9:=congrArg List.length hq5;rw[List.length_map]at h9;have :=HL5.out;omega);obtain⟨a5,c5,hv5⟩:=own_slice hP5.1;subst hv5;have HP5:Hid (StepsP wr.heap.size w5 (.slice a5 q5.length c5) q5):=hP5;have HO5:Hid (w5.ownsRow w3.heap.size 80 4 (.slice az qz.length cz) qz.length (qz.map svCells).flatten):=ownsRow_below HO.out hb5;have HS5:Hid (∀x,x∈qz→SvOwn w1.heap.size w5 x):=fun x hx=>(HS.out x hx).below hb5;have HB5:Hid (Below w3.heap.size w3 w5):=HBk.out.trans (hb5.mono HBk.out.size);have hs5:w3.heap.size≤w5.heap.size:=HB5.out.size;have hs6:w1.heap.size≤wr.heap.size:=HBw.out.size;have h24:qz.length+q5.length≤4194304:=oM;clear hq5 hP5 hb5 HCS c0 c1 c2 HO HS HQ HBk HBw;go_wp2_with(at_builtin;refine wp_append_sp rfl (.tmp 40) (.tmp 44) rfl w1.heap.size w3.heap.size wr.heap.size _ qz.length qz rfl rfl HO5.out HS5.out _ q5 rfl HP5.out hs6 hs5 h24 ?_);intro v7 w7 ho7 hA7 hb7;obtain⟨a7,c7,rfl⟩:=own_slice ho7;(have HO7:Hid (w7.ownsRow w3.heap.size 80 4 (.slice a7 (qz.length+q5.length) c7) (qz++q5).length ((qz++q5).map svCells).flatten):=by show World.ownsRow _ _ _ _ _ _ _;rw[List.length_append,List.map_append,List.flatten_append];exact ho7);have HA7:Hid (∀x,x∈qz++q5→SvOwn w1.heap.size w7 x):=fun x hx=>hA7 x (List.mem_append.mp hx);have HB7:Hid (Below w3.heap.size w3 w7):=HB5.out.trans hb7;(have hq7:(qz++q5).length≤60+(i+1)*2000:=by rw[List.length_append];omega);clear ho7 hA7 hb7;go_wp2_with fail;go_roundw;(case rel=>exact⟨i+1,qz++q5,hlt,gN,HO7.out,HA7.out,HQ5.out,hq7,HB7.out⟩);case measure=>exact mI
    obtain rfl:i=p.rules.length:=oM;have HFI:Hid (StepsP w.heap.size wr (.slice az qz.length cz) qz):=⟨rl_own_le HO.out (Nat.le_trans HLE.out HW3.out.size),fun x hx=>(HS.out x hx).le HLE.out⟩;have HBF:Hid _:=HWW.out wr HBw.out;have hq24:qz.length≤24060:=oM;clear HO HS HBk HBw;go_wp2_with fail;refine bodyPost_ret (results_tmp2 rfl _ _ _) rfl ?_;exact⟨_,0,qz,M,rfl,HR.out,fun _=>HQ.out,hq24,HFI.out,HBF.out⟩
 (have hcn:((c:Int) != 0)=true:=by simpa using hc);go_wp2_with fail;refine bodyPost_ret (results_tmp2 rfl _ _ _) rfl ?_;exact⟨_,c,[],M,rfl,HR.out,fun h=>absurd h hc,Nat.zero_le _,⟨World.ownsRow_nil _ _ _ _,fun _ hx=>absurd hx sI⟩,HWW.out w2 HW2.out⟩
section
variable {F:Fence} {n:Nat} {P:Program}
def SeqRd{α:Type}(F:Fence)(n:Nat)(P:Program)(g:Nat)(lb:Array Value)(encs:α→Array Value)(Kp:World→World→Prop)(Rd:α→World→Prop)(S Sp:List α→Prop)(N:Nat)(w:World):Prop:=
 ∀(l:Nat)(J Jx:List α→World→Prop)(W:World),Below w.heap.size w W→AbidesFrom W.heap.size J→AbidesFrom W.heap.size Jx→
  (∀pre x W1,J pre W1→Rd x W1→pre.length<N→YieldAt F (n-1) P l (encs x) W1 fun e W'=>(e=.returned (.bool true)∧J (pre++[x]) W'∧Kp W1 W')∨(e=.returned (.bool false)∧Jx (pre++[x]) W'))→
  J [] W→CallsIn F n P g (#[.func (.yield l) #[] #[]]++lb) W fun e W'=>(∃v,e=.returned v)∧((∃xs,S xs∧J xs W')∨(∃pre,Sp pre∧Jx pre W'))
theorem range_rd{α:Type}{g:Operand}{ps:Array Tmp}{assign body:Code}{Q:Exit→Act→World→Prop}{a:Act}{w:World}
 (hro:F.round=none) (h1:1≤n) {gf:Nat} {lb:Array Value} (hg:a.eval g=.func (.func gf) #[] lb) (hFg:F.fn gf) (eg:∀args w,(callFunc gf args).run P w=.ok (.enter gf args) w)
 {encs:α→Array Value} {Kp:World→World→Prop} {Rd:α→World→Prop} {S Sp:List α→Prop} {N:Nat} {w0:World} (hseq:SeqRd F (n-1) P gf lb encs Kp Rd S Sp N w0)
 (hKt:∀{A B C:World},Kp A B→Kp B C→Kp A C) (hKb:∀(W:World)(l:Nat)(o o':Obj),w.heap.size≤l→W.heap[l]?=some o→o.isCells=false→o.isWalk=false→Kp W (W.putObj l o')) (hb0:Below w0.heap.size w0 w) (hps:∀x,(encs x).size=ps.size)
 (I:List α→World→Prop) (Ix:Code→List α→World→Prop) (hI:OwnFrom w.heap.size I) (hIx:∀c,OwnFrom w.heap.size (Ix c)) (h0:I [] w) (Ax:α→Act→World→Prop) (hAx:∀x a',OwnFrom w.heap.size (fun(_:Unit) W=>Ax x a' W))
 (hassign:∀(l:Nat)(pre:List α)(x:α)(W:World)(K:Act→World→Prop),I pre W→Rd x W→(∀a' W',KeepsFrom w.heap.size W W'→Kp W W'→I pre W'→Ax x a' W'→K a' W')→
  assign.wpIn (F.inRound l) (n-1-1) P (Exit.then K (fun _ _ _=>False)) {tmps:=(ps.zip (encs x)).foldl (fun t (p,v)=>t.setIfInBounds p v) a.tmps,defers:=[]} W)
 (hbody:∀(l:Nat)(pre:List α)(x:α)(a':Act)(W:World),(∃r,W.heap[l]?=some (.loop r))→I pre W→Ax x a' W→pre.length<N→body.wpIn (F.inRound l) (n-1-1) P (ownPostG w.heap.size Kp I Ix (pre++[x]) W) a' W)
 (hdone:∀(D:Nat)(xs:List α)(W:World),w.heap.size≤D→S xs→I xs W→W.heap[D]?=some (.deferred (some []))→Q .normal {a with defers:={target:=.collected D,args:=#[]}::a.defers} W)
 (hstop:∀(D:Nat)(c:Code)(pre:List α)(W:World),w.heap.size≤D→Sp pre→Ix c pre W→W.heap[D]?=some (.deferred (some []))→c.wpIn F n P Q {a with defers:={target:=.collected D,args:=#[]}::a.defers} W):
 (Code.rangeFunc g ps assign body).wpIn F n P Q a w:=by
 refine wpIn_rangeFunc fun fn hfn=>?_;rw[hro];obtain⟨rec,hrec⟩:∃rec:LoopState→Option Code→Loop,rec=fun st pe=>{state:=st,pending:=pe,fn,tmps:=a.tmps,params:=ps,assign,body,defers:=w.heap.size}:=⟨_,rfl⟩;obtain⟨D,hD⟩:∃D,D=w.heap.size:=⟨_,rfl⟩;obtain⟨V,hV⟩:∃V,V=(w.alloc (.deferred (some []))).alloc (.loop (rec .ready none)):=⟨_,rfl⟩;(have vl:V.heap[D+1]?=some (.loop (rec .ready none)):=by have :=World.alloc_heap_new (w.alloc (.deferred (some []))) (.loop (rec .ready none));rw[World.size_alloc]at this;rw[hV,hD];exact this);(have vd:V.heap[D]?=some (.deferred (some [])):=by rw[hV,hD];exact(Below.heap_alloc _ _ _ sI).trans (World.alloc_heap_new w _));(have vs:V.heap.size=D+2:=by rw[hV,hD];simp);(have vI:I [] V:=by rw[hV];exact hI.alloc _ (hI.alloc _ h0));(have vb:Below w0.heap.size w0 V:=by rw[hV];exact hb0.trans ((((Below.refl _ w).alloc (Nat.le_refl _) _).alloc sI _).mono hb0.size));have go1:=run_enterLoop_outer (P:=P) (w:=w) fn a.tmps ps assign body;refine⟨w.heap.size+1,[{target:=.collected w.heap.size,args:=#[]}],V,{target:=.fn (.func gf) lb,args:=#[.func (.yield (w.heap.size+1)) #[] #[]]},V,gf,#[.func (.yield (w.heap.size+1)) #[] #[]]++lb,V,?_,?_,?_,?_,fun _=>h1,?_⟩
 ·rw[hV,hrec];exact go1
 ·simp only[resolve,hg];simp[go_sem]
 ·intro f' hf';simp[Target.leads]at hf';subst hf';exact hFg
 ·simp[invoke,go_sem,eg]
 rw[←hD];rw[←hD]at hI hIx hAx hKb hassign hbody hdone hstop;(have own:∀{A:World}{row:Option Nat},(∀r,row=some r→V.heap.size≤r∧∃o:Obj,A.heap[r]?=some o∧o.isWalk=true)→(∀r,row=some r→D≤r∧∃o:Obj,A.heap[r]?=some o∧o.isCells=false):=fun hr r e=>by obtain⟨hB,o,ho,hw⟩:=hr r e;exact⟨oM,o,ho,Obj.not_cells_of_walk hw⟩);have keep:∀{A B:World}{row:Option Nat}{k:Nat}{o:Obj},A.grownBy B row→(∀r,row=some r→V.heap.size≤r∧∃o:Obj,A.heap[r]?=some o∧o.isWalk=true)→A.heap[k]?=some o→o.isWalk=false→B.heap[k]?=some o:=fun hg' hr hA ho=>(grownBy_keeps hg' (fun r e=>(hr r e).2) hA ho).trans hA
 refine(hseq (D+1) (fun pre W=>I pre W∧W.heap[D+1]?=some (.loop (rec .ready none))∧W.heap[D]?=some (.deferred (some [])))
  (fun pre W=>∃c,Ix c pre W∧W.heap[D+1]?=some (.loop (rec .done (some c)))∧W.heap[D]?=some (.deferred (some []))) V vb
  (fun s A B row hs hg' hr=>⟨hI s A B row hs.1 hg' (own hr),keep hg' hr hs.2.1 rfl,keep hg' hr hs.2.2 rfl⟩)
  (fun s A B row ⟨c,hc,hl,hk⟩ hg' hr=>⟨c,hIx c s A B row hc hg' (own hr),keep hg' hr hl rfl,keep hg' hr hk rfl⟩)
  (fun pre x W0 hJ hRd hlen=>?_) ⟨vI,vl,vd⟩).mono ?_
 ·obtain⟨hi0,hl0,hk0⟩:=hJ;have hy:=run_yield (P:=P) (args:=encs x) hl0 (by rw[hrec];exact hps x);rw[hrec]at hy;refine⟨fn,_,assign,body,hy,roundIn_of_wpIn hfn (hassign _ pre x W0 _ hi0 hRd fun a' W hkf hkp hi hax=>?_)⟩;have hl:=hkf.same _ _ oM hl0 rfl;have hk:=hkf.same _ _ (Nat.le_refl _) hk0 rfl;have hlt:D+1<W.heap.size:=(Array.getElem?_eq_some_iff.1 hl).1;refine⟨_,run_beginRound hl (by rw[hrec]),?_⟩;obtain⟨U,hU⟩:∃U,U=W.putObj (D+1) (.loop {rec .ready none with state:=.busy}):=⟨_,rfl⟩;rw[←hU];(have ul:U.heap[D+1]?=some (.loop {rec .ready none with state:=.busy}):=by rw[hU];exact World.putObj_heap_same hlt);(have ud:U.heap[D]?=some (.deferred (some [])):=by rw[hU];exact(World.putObj_heap_other oM).trans hk);have hkU:Kp W0 U:=hKt hkp (by rw[hU];exact hKb _ _ _ _ oM hl rfl rfl);(have hiU:I pre U:=by rw[hU];exact hI.putObj _ hi oM hl rfl);have haU:Ax x a' U:=by rw[hU];exact(hAx x a').putObj (s:=()) _ hax oM hl rfl
  have fin:∀(j:Option Code)(Z:World),KeepsFrom D U Z→
   (Instr.endRound (D+1) j).run P Z=.ok (.bool j.isNone) (Z.putObj (D+1) (.loop (rec (if j.isNone then .ready else .done) j)))∧Z.heap[D+1]?=some (.loop {rec .ready none with state:=.busy})∧
   (Z.putObj (D+1) (.loop (rec (if j.isNone then .ready else .done) j))).heap[D+1]?=some (.loop (rec (if j.isNone then .ready else .done) j))∧(Z.putObj (D+1) (.loop (rec (if j.isNone then .ready else .done) j))).heap[D]?=some (.deferred (some [])):=fun j Z hz=>by
   have zl:=hz.same _ _ oM ul rfl;have :=run_endRound (P:=P) j zl;rw[hrec]at this ⊢;exact⟨this,by rw[hrec]at zl;exact zl,World.putObj_heap_same (Array.getElem?_eq_some_iff.1 zl).1,(World.putObj_heap_other oM).trans (hz.same _ _ (Nat.le_refl _) ud rfl)⟩
  have left:∀(c:Code)(Z:World),KeepsFrom D U Z→Ix c (pre++[x]) Z→∃v Z',(Instr.endRound (D+1) (some c)).run P Z=.ok v Z'∧((Ending.returned v=.returned (.bool true)∧(I (pre++[x]) Z'∧Z'.heap[D+1]?=some (.loop (rec .ready none))∧Z'.heap[D]?=some (.deferred (some [])))∧Kp W0 Z')∨
   (Ending.returned v=.returned (.bool false)∧∃c,Ix c (pre++[x]) Z'∧Z'.heap[D+1]?=some (.loop (rec .done (some c)))∧Z'.heap[D]?=some (.deferred (some [])))):=fun c Z hz hx=>by
   obtain⟨hr,zl,zl2,zd⟩:=fin (some c) Z hz;exact⟨_,_,hr, .inr ⟨rfl,c,(hIx c).putObj _ hx oM zl rfl,zl2,zd⟩⟩
  refine wpIn_mono (hbody _ pre x a' U ⟨_,ul⟩ hiU haU hlen) ?_;rintro e a3 Z hp
  cases e with
  |normal=>
   obtain⟨hz,hkp3,hi3⟩:=hp;obtain⟨hr,zl,zl2,zd⟩:=fin none Z hz;exact⟨_,_,hr, .inl ⟨rfl,⟨hI.putObj _ hi3 oM zl rfl,zl2,zd⟩,hKt (hKt hkU hkp3) (hKb _ _ _ _ oM zl rfl rfl)⟩⟩
  |ret=>exact left .ret Z hp.1 hp.2
  |exit id=>exact left (.exit id) Z hp.1 hp.2
  |goto t=>exact left (.goto t) Z hp.1 hp.2
  |panic ch=>exact hp.elim
  |outgrown=>exact hp.elim
 rintro e W2 ⟨⟨v,rfl⟩,(⟨xs,hS,hi,hl,hk⟩|⟨pre,hSp,c,hi,hl,hk⟩)⟩
 ·exact⟨none,_,by have :=run_endLoop (P:=P) hl (by rw[hrec];simp);rw[hrec]at this;exact this,hdone _ xs _ (Nat.le_refl _) hS (hI.putObj _ hi oM hl rfl) ((World.putObj_heap_other oM).trans hk)⟩
 exact⟨some c,_,by have :=run_endLoop (P:=P) hl (by rw[hrec];simp);rw[hrec]at this;exact this,hstop _ c pre _ (Nat.le_refl _) hSp ((hIx c).putObj _ hi oM hl rfl) ((World.putObj_heap_other oM).trans hk)⟩
theorem range_rdN{α:Type}{g:Operand}{ps:Array Tmp}{assign body:Code}{Q:Exit→Act→World→Prop}{a:Act}{w:World}
 {l₀:Nat} {r₀:Loop} (hro:F.round=some l₀) (hl₀:w.heap[l₀]?=some (.loop r₀)) (h1:1≤n) {gf:Nat} {lb:Array Value} (hg:a.eval g=.func (.func gf) #[] lb) (hFg:F.fn gf) (eg:∀args w,(callFunc gf args).run P w=.ok (.enter gf args) w)
 {encs:α→Array Value} {Kp:World→World→Prop} {Rd:α→World→Prop} {S Sp:List α→Prop} {N:Nat} {w0:World} (hseq:SeqRd F (n-1) P gf lb encs Kp Rd S Sp N w0)
 (hKt:∀{A B C:World},Kp A B→Kp B C→Kp A C) (hKb:∀(W:World)(l:Nat)(o o':Obj),w.heap.size≤l→W.heap[l]?=some o→o.isCells=false→o.isWalk=false→Kp W (W.putObj l o')) (hb0:Below w0.heap.size w0 w) (hps:∀x,(encs x).size=ps.size)
 (I:List α→World→Prop) (Ix:Code→List α→World→Prop) (hI:OwnFrom w.heap.size I) (hIx:∀c,OwnFrom w.heap.size (Ix c)) (h0:I [] w) (Ax:α→Act→World→Prop) (hAx:∀x a',OwnFrom w.heap.size (fun(_:Unit) W=>Ax x a' W))
 (hassign:∀(l:Nat)(pre:List α)(x:α)(W:World)(K:Act→World→Prop),I pre W→Rd x W→(∀a' W',KeepsFrom w.heap.size W W'→Kp W W'→I pre W'→Ax x a' W'→K a' W')→
  assign.wpIn (F.inRound l) (n-1-1) P (Exit.then K (fun _ _ _=>False)) {tmps:=(ps.zip (encs x)).foldl (fun t (p,v)=>t.setIfInBounds p v) a.tmps,defers:=[]} W)
 (hbody:∀(l:Nat)(pre:List α)(x:α)(a':Act)(W:World),I pre W→Ax x a' W→pre.length<N→body.wpIn (F.inRound l) (n-1-1) P (ownPostG w.heap.size Kp I Ix (pre++[x]) W) a' W)
 (hdone:∀(xs:List α)(W:World),S xs→I xs W→Q .normal a W)
 (hstop:∀(c:Code)(pre:List α)(W:World),Sp pre→Ix c pre W→c.wpIn F n P Q a W):
 (Code.rangeFunc g ps assign body).wpIn F n P Q a w:=by
 refine wpIn_rangeFunc fun fn hfn=>?_;rw[hro];obtain⟨rec,hrec⟩:∃rec:LoopState→Option Code→Loop,rec=fun st pe=>{state:=st,pending:=pe,fn,tmps:=a.tmps,params:=ps,assign,body,defers:=r₀.defers}:=⟨_,rfl⟩;obtain⟨D,hD⟩:∃D,D=w.heap.size:=⟨_,rfl⟩;obtain⟨V,hV⟩:∃V,V=w.alloc (.loop (rec .ready none)):=⟨_,rfl⟩;(have vl:V.heap[D]?=some (.loop (rec .ready none)):=by rw[hV,hD];exact World.alloc_heap_new w _);(have vs:V.heap.size=D+1:=by rw[hV,hD];simp);(have vI:I [] V:=by rw[hV];exact hI.alloc _ h0);(have vb:Below w0.heap.size w0 V:=by rw[hV];exact hb0.trans (((Below.refl _ w).alloc (Nat.le_refl _) _).mono hb0.size));have go1:=run_enterLoop_inner (P:=P) hl₀ fn a.tmps ps assign body;refine⟨w.heap.size,[],V,{target:=.fn (.func gf) lb,args:=#[.func (.yield w.heap.size) #[] #[]]},V,gf,#[.func (.yield w.heap.size) #[] #[]]++lb,V,?_,?_,?_,?_,fun _=>h1,?_⟩
 ·rw[hV,hrec];exact go1
 ·simp only[resolve,hg];simp[go_sem]
 ·intro f' hf';simp[Target.leads]at hf';subst hf';exact hFg
 ·simp[invoke,go_sem,eg]
 rw[←hD];rw[←hD]at hI hIx hAx hKb hassign hbody;(have own:∀{A:World}{row:Option Nat},(∀r,row=some r→V.heap.size≤r∧∃o:Obj,A.heap[r]?=some o∧o.isWalk=true)→(∀r,row=some r→D≤r∧∃o:Obj,A.heap[r]?=some o∧o.isCells=false):=fun hr r e=>by obtain⟨hB,o,ho,hw⟩:=hr r e;exact⟨oM,o,ho,Obj.not_cells_of_walk hw⟩);have keep:∀{A B:World}{row:Option Nat}{k:Nat}{o:Obj},A.grownBy B row→(∀r,row=some r→V.heap.size≤r∧∃o:Obj,A.heap[r]?=some o∧o.isWalk=true)→A.heap[k]?=some o→o.isWalk=false→B.heap[k]?=some o:=fun hg' hr hA ho=>(grownBy_keeps hg' (fun r e=>(hr r e).2) hA ho).trans hA
 refine(hseq D (fun pre W=>I pre W∧W.heap[D]?=some (.loop (rec .ready none)))
  (fun pre W=>∃c,Ix c pre W∧W.heap[D]?=some (.loop (rec .done (some c)))) V vb
  (fun s A B row hs hg' hr=>⟨hI s A B row hs.1 hg' (own hr),keep hg' hr hs.2 rfl⟩)
  (fun s A B row ⟨c,hc,hl⟩ hg' hr=>⟨c,hIx c s A B row hc hg' (own hr),keep hg' hr hl rfl⟩)
  (fun pre x W0 hJ hRd hlen=>?_) ⟨vI,vl⟩).mono ?_
 ·obtain⟨hi0,hl0⟩:=hJ;have hy:=run_yield (P:=P) (args:=encs x) hl0 (by rw[hrec];exact hps x);rw[hrec]at hy;refine⟨fn,_,assign,body,hy,roundIn_of_wpIn hfn (hassign _ pre x W0 _ hi0 hRd fun a' W hkf hkp hi hax=>?_)⟩;have hl:=hkf.same _ _ (Nat.le_refl _) hl0 rfl;have hlt:D<W.heap.size:=(Array.getElem?_eq_some_iff.1 hl).1;refine⟨_,run_beginRound hl (by rw[hrec]),?_⟩;obtain⟨U,hU⟩:∃U,U=W.putObj D (.loop {rec .ready none with state:=.busy}):=⟨_,rfl⟩;rw[←hU];(have ul:U.heap[D]?=some (.loop {rec .ready none with state:=.busy}):=by rw[hU];exact World.putObj_heap_same hlt);have hkU:Kp W0 U:=hKt hkp (by rw[hU];exact hKb _ _ _ _ (Nat.le_refl _) hl rfl rfl);(have hiU:I pre U:=by rw[hU];exact hI.putObj _ hi (Nat.le_refl _) hl rfl);have haU:Ax x a' U:=by rw[hU];exact(hAx x a').putObj (s:=()) _ hax (Nat.le_refl _) hl rfl
  have fin:∀(j:Option Code)(Z:World),KeepsFrom D U Z→
   (Instr.endRound D j).run P Z=.ok (.bool j.isNone) (Z.putObj D (.loop (rec (if j.isNone then .ready else .done) j)))∧Z.heap[D]?=some (.loop {rec .ready none with state:=.busy})∧
   (Z.putObj D (.loop (rec (if j.isNone then .ready else .done) j))).heap[D]?=some (.loop (rec (if j.isNone then .ready else .done) j)):=fun j Z hz=>by
   have zl:=hz.same _ _ (Nat.le_refl _) ul rfl;have :=run_endRound (P:=P) j zl;rw[hrec]at this ⊢;exact⟨this,by rw[hrec]at zl;exact zl,World.putObj_heap_same (Array.getElem?_eq_some_iff.1 zl).1⟩
  have left:∀(c:Code)(Z:World),KeepsFrom D U Z→Ix c (pre++[x]) Z→∃v Z',(Instr.endRound D (some c)).run P Z=.ok v Z'∧((Ending.returned v=.returned (.bool true)∧(I (pre++[x]) Z'∧Z'.heap[D]?=some (.loop (rec .ready none)))∧Kp W0 Z')∨
   (Ending.returned v=.returned (.bool false)∧∃c,Ix c (pre++[x]) Z'∧Z'.heap[D]?=some (.loop (rec .done (some c))))):=fun c Z hz hx=>by
   obtain⟨hr,zl,zl2⟩:=fin (some c) Z hz;exact⟨_,_,hr, .inr ⟨rfl,c,(hIx c).putObj _ hx (Nat.le_refl _) zl rfl,zl2⟩⟩
  refine wpIn_mono (hbody _ pre x a' U hiU haU hlen) ?_;rintro e a3 Z hp
  cases e with
  |normal=>
   obtain⟨hz,hkp3,hi3⟩:=hp;obtain⟨hr,zl,zl2⟩:=fin none Z hz;exact⟨_,_,hr, .inl ⟨rfl,⟨hI.putObj _ hi3 (Nat.le_refl _) zl rfl,zl2⟩,hKt (hKt hkU hkp3) (hKb _ _ _ _ (Nat.le_refl _) zl rfl rfl)⟩⟩
  |ret=>exact left .ret Z hp.1 hp.2
  |exit id=>exact left (.exit id) Z hp.1 hp.2
  |goto t=>exact left (.goto t) Z hp.1 hp.2
  |panic ch=>exact hp.elim
  |outgrown=>exact hp.elim
 rintro e W2 ⟨⟨v,rfl⟩,(⟨xs,hS,hi,hl⟩|⟨pre,hSp,c,hi,hl⟩)⟩
 ·exact⟨none,_,by have :=run_endLoop (P:=P) hl (by rw[hrec];simp);rw[hrec]at this;exact this,hdone xs _ hS (hI.putObj _ hi (Nat.le_refl _) hl rfl)⟩
 exact⟨some c,_,by have :=run_endLoop (P:=P) hl (by rw[hrec];simp);rw[hrec]at this;exact this,hstop c pre _ hSp ((hIx c).putObj _ hi (Nat.le_refl _) hl rfl)⟩
end
def Wy.idx(P:Wy.Step→Bool)(q:List Sv):Int:=match q.findIdx? (fun x=>P x.s)with |some i=>i|none=> -1
theorem Wy.idx_none{P:Wy.Step→Bool}{q:List Sv}(h:q.findIdx? (fun x=>P x.s)=none):Wy.idx P q= -1:=by unfold Wy.idx;rw[h]
theorem Wy.idx_some{P:Wy.Step→Bool}{q:List Sv}{i:Nat}(h:q.findIdx? (fun x=>P x.s)=some i):Wy.idx P q=i:=by unfold Wy.idx;rw[h]
def Wy.NoneOf(P:Wy.Step→Bool)(q:List Sv)(k:Nat):Prop:=∀i x,i<k→q[i]?=some x→P x.s=false
theorem Wy.idx_at{P:Wy.Step→Bool}{q:List Sv}{k:Nat}(h:Wy.NoneOf P q k)(hk:k<q.length)(hp:P (svD q k).s=true):Wy.idx P q=k:=by
 refine Wy.idx_some (List.findIdx?_eq_some_iff_getElem.mpr ⟨hk,?_,fun j hj=>?_⟩)
 ·have :=svD_get q k hk;rw[List.getElem?_eq_getElem hk,Option.some.injEq]at this;rw[this];exact hp
 rw[h j _ hj (List.getElem?_eq_getElem (Nat.lt_trans hj hk))];decide
theorem Wy.idx_no{P:Wy.Step→Bool}{q:List Sv}{k:Nat}(h:Wy.NoneOf P q k)(hk:q.length≤k):Wy.idx P q= -1:=by refine Wy.idx_none (List.findIdx?_eq_none_iff.mpr fun x hx=>?_);obtain⟨i,hi,rfl⟩:=List.getElem_of_mem hx;exact h i _ oM (List.getElem?_eq_getElem hi)
theorem Wy.idx_any{P:Wy.Step→Bool}{q:List Sv}:decide (0≤Wy.idx P q)=(q.map (·.s)).any P:=by
 cases h:q.findIdx? (fun x=>P x.s)with
 |none=>
  rw[Wy.idx_none h];have h2:=List.findIdx?_eq_none_iff.mp h;(have :(q.map (·.s)).any P=false:=by rw[List.any_eq_false];intro s hs;obtain⟨x,hx,rfl⟩:=List.mem_map.mp hs;rw[h2 x hx];decide);rw[this];rfl
 |some i=>
  rw[Wy.idx_some h];obtain⟨hi,h1,_⟩:=List.findIdx?_eq_some_iff_getElem.mp h;have :(q.map (·.s)).any P=true:=List.any_eq_true.mpr ⟨_,List.mem_map.mpr ⟨_,List.getElem_mem hi,rfl⟩,h1⟩;rw[this];simp
theorem indexS_any(q:List Sv)(ao:Option Addr)(cap:Nat)(w:World)(h:Nat)(cb:Array Value)(C:Wy.Step→Prop)(P:Wy.Step→Bool)(hA:StepsAt w ao q)(hl:q.length≤9223372036854775807)(hf:∀x,x∈q→SvOk w x)(he:∀args w,(callFunc h args).run Tryz.prog w=.ok (.enter h args) w)(hC:∀x,x∈q→C x.s)(hK:Keeps2 h cb w C P):
 Calls Tryz.prog 89 #[.slice ao q.length cap, .func (.func h) #[] cb] w fun e w'=>e=.returned (.int .i64 (Wy.idx P q))∧Below w.heap.size w w':=by
 have HA:Hid (StepsAt w ao q):=hA;have HF:Hid (∀x,x∈q→SvOk w x):=hf;have HK:Hid (Keeps2 h cb w C P):=hK;have HCC:Hid (∀x,x∈q→C x.s):=hC;clear hA hf hK hC
 go_enter Tryz.func89,Tryz.ntmps89
 go_wp2_with fail;go_loopw [8] (fun i wr=>∃k:Nat,k≤q.length∧i=.int .i64 k∧Hid (Wy.NoneOf P q k)∧Below w.heap.size w wr) (fun i _=>q.length-(intOf i).toNat);case atStart=>exact⟨0,Nat.zero_le _,rfl,fun i _ hi=>absurd hi oM,Below.refl _ _⟩
 case round=>
  obtain⟨k,hk,rfl,HAL,hbel⟩:=hrel;by_cases hlt:k<q.length
  ·obtain⟨b,off,rfl,p0,p1,p2,p3⟩:=steps_at HA.out k hlt;have HX:Hid (SvOk wr (svD q k)):=(HF.out _ (svD_mem q k hlt)).below hbel;have HCX:Hid (C (svD q k).s):=HCC.out _ (svD_mem q k hlt);have HGT:Hid (q[k]?=some (svD q k)):=svD_get q k hlt;have HY:Hid (P (svD q k).s=true→Wy.idx P q=k):=Wy.idx_at HAL.out hlt;have a0:=cell_below hbel p0;have a1:=cell_below hbel p1;have a2:=cell_below hbel p2;have a3:=cell_below hbel p3;clear p0 p1 p2 p3;generalize svD q k=x at *;obtain⟨⟨⟨p,as_⟩,rl,vs⟩,fv,vv⟩:=x;dsimp only at a0 a1 a2 a3;have HXX:Hid _:=HX.out;obtain⟨⟨⟨af,cf,hfv,_⟩,_⟩,⟨av,cv,hvv,_⟩,_⟩:=HX.out;dsimp only at hfv hvv;subst hfv hvv;clear HX;go_wp2_with fail;refine Calls.mono (HK.out wr p as_ rl vs af cf av cv hbel HXX.out HCX.out) ?_;rintro e w1 ⟨he1,hb1⟩;subst he1;dsimp only;have hb2:=hbel.trans (hb1.mono hbel.size);cases hx:P ⟨⟨p,as_⟩,rl,vs⟩
   ·have HV:Hid (Wy.NoneOf P q (k+1)):=fun i y hi hy=>by
     by_cases e:i=k
     ·subst e;rw[HGT.out]at hy;injection hy with hy;rw[←hy];exact hx
     exact HAL.out i y oM hy
    clear HGT HY;go_wp2_with fail;go_roundw;(case rel=>exact⟨k+1,oM,gN,HV.out,hb2⟩);case measure=>exact mI
   have HV:Hid (Wy.idx P q=k):=HY.out hx;clear HGT HY;go_wp2_with fail;go_ret;exact⟨rV,hb2⟩
  have HV:Hid (Wy.idx P q= -1):=Wy.idx_no HAL.out oM;go_wp2_with fail;go_ret;exact⟨rV,hbel⟩
theorem containsS_any(q:List Sv)(v:Value)(w:World)(h:Nat)(cb:Array Value)(C:Wy.Step→Prop)(P:Wy.Step→Bool)(hV:StepsV w v q)(hl:q.length≤9223372036854775807)(hf:∀x,x∈q→SvOk w x)(he:∀args w,(callFunc h args).run Tryz.prog w=.ok (.enter h args) w)(hC:∀x,x∈q→C x.s)(hK:Keeps2 h cb w C P):
 Calls Tryz.prog 82 #[v, .func (.func h) #[] cb] w fun e w'=>e=.returned (.bool ((q.map (·.s)).any P))∧Below w.heap.size w w':=by
 obtain⟨ao,cap,rfl,_,hA⟩:=hV;have HI:Hid _:=indexS_any q ao cap w h cb C P hA hl hf he hC hK;have HR:Hid _:=@Wy.idx_any P q;clear hA hf hK hC
 go_enter Tryz.func82,Tryz.ntmps82
 go_wp2_with fail;refine Calls.mono HI.out ?_;rintro e w1 ⟨rfl,hb⟩;generalize Wy.idx P q=r at *;go_wp2_with fail;go_ret;exact⟨by rw[←HR.out];rfl,hb⟩
theorem ofFact_any(n:Nat)(hn:n=171∨n=90)(w:World)(FB:Nat)(f:Rl.Fc)(a:Option Addr)(c:Nat)(hB:w.heap[FB]?=some (.cells #[.int .i64 f.pred, .slice a f.args.length c] 55))(hI:IntsV w (.slice a f.args.length c) f.args)(hF:FFit f):Keeps2 n #[.pointer (some ⟨FB,0,none⟩)] w (fun _=>True) (fun s=>Wy.isOf s f):=by
 intro z p as_ rl vs af cf av cv hz hx _;show Calls Tryz.prog n #[.agg #[.int .i64 p, .slice af as_.length cf, .int .i64 rl, .slice av vs.length cv], .pointer (some ⟨FB,0,none⟩)] z _;have HX:Hid (SvOk z ⟨⟨⟨p,as_⟩,rl,vs⟩, .slice af as_.length cf, .slice av vs.length cv⟩):=hx;clear hx;have hBz:=(hz.block FB (heap_lt hB)).trans hB;have hba:=new_below z (.cells #[.int .i64 p, .slice af as_.length cf, .int .i64 rl, .slice av vs.length cv] 80);have hBa:=(hba.block FB (heap_lt hBz)).trans hBz;have hGa:=heap_alloc_new z (.cells #[.int .i64 p, .slice af as_.length cf, .int .i64 rl, .slice av vs.length cv] 80);have HC:Hid _:=isOf_any _ f _ _ (HX.out.below hba) (intsV_below (intsV_below hI hz) hba) hF;have HB:Hid _:=hba;clear hBz hz hba;generalize hz1:z.alloc (.cells #[.int .i64 p, .slice af as_.length cf, .int .i64 rl, .slice av vs.length cv] 80)=z1 at *;(have c0:z1.cell? ⟨FB,0,none⟩=some (.int .i64 f.pred):=by rw[Lib.cell_of_heap hBa];rfl);(have c1:z1.cell? ⟨FB,1,none⟩=some (.slice a f.args.length c):=by rw[Lib.cell_of_heap hBa];rfl);(have d0:z1.cell? ⟨z.heap.size,0,none⟩=some (.int .i64 p):=by rw[Lib.cell_of_heap hGa];rfl);(have d1:z1.cell? ⟨z.heap.size,1,none⟩=some (.slice af as_.length cf):=by rw[Lib.cell_of_heap hGa];rfl);(have d2:z1.cell? ⟨z.heap.size,2,none⟩=some (.int .i64 rl):=by rw[Lib.cell_of_heap hGa];rfl);(have d3:z1.cell? ⟨z.heap.size,3,none⟩=some (.slice av vs.length cv):=by rw[Lib.cell_of_heap hGa];rfl);clear hBa hGa;rcases hn with rfl|rfl
 ·go_enter Tryz.func171,Tryz.ntmps171
  go_upto_region 1 with fail;clear hz1;go_wp2_with fail;refine Calls.mono HC.out ?_;rintro e w1 ⟨rfl,hg⟩;have HB2:Hid (Below z.heap.size z w1):=HB.out.trans (hg.mono HB.out.size);clear HC c0 c1 d0 d1 d2 d3 hg;go_wp2_with fail;go_ret;exact⟨rfl,HB2.out⟩
 go_enter Tryz.func90,Tryz.ntmps90
 go_upto_region 1 with fail;clear hz1;go_wp2_with fail;refine Calls.mono HC.out ?_;rintro e w1 ⟨rfl,hg⟩;have HB2:Hid (Below z.heap.size z w1):=HB.out.trans (hg.mono HB.out.size);clear HC c0 c1 d0 d1 d2 d3 hg;go_wp2_with fail;go_ret;exact⟨rfl,HB2.out⟩
theorem wy_e171:∀args w,(callFunc 171 args).run Tryz.prog w=.ok (.enter 171 args) w:=enters_of Tryz.func171 kR rfl
theorem wy_e90:∀args w,(callFunc 90 args).run Tryz.prog w=.ok (.enter 90 args) w:=enters_of Tryz.func90 kR rfl
theorem proven_any(q:List Sv)(f:Rl.Fc)(v u:Value)(w:World)(hV:StepsV w v q)(hl:q.length≤9223372036854775807)(hf:∀x,x∈q→SvOk w x)(hU:IntsV w u f.args)(hF:FFit f):
 Calls Tryz.prog 125 #[v,fcVal f.pred u] w fun e w'=>e=.returned (.bool (Wy.proven (q.map (·.s)) f))∧Below w.heap.size w w':=by
 obtain⟨a,c,rfl,_⟩:=id hU;have hmf:∀(fn:Fn)(first cap:Array Value)(w:World),(Instr.makeFunc fn first cap).run Tryz.prog w=.ok (.func fn first cap) w:=fun _ _ _ _=>rfl;have b1:=new_below w (.cells #[.int .i64 f.pred, .slice a f.args.length c] 55);have h1:=heap_alloc_new w (.cells #[.int .i64 f.pred, .slice a f.args.length c] 55);obtain⟨pv,hpv⟩:∃pv,pv=Wy.proven (q.map (·.s)) f:=⟨_,rfl⟩;(have HC:Hid (Calls Tryz.prog 82 #[v, .func (.func 171) #[] #[.pointer (some ⟨w.heap.size,0,none⟩)]] (w.alloc (.cells #[.int .i64 f.pred, .slice a f.args.length c] 55)) fun e w'=>e=.returned (.bool pv)∧Below (w.alloc (.cells #[.int .i64 f.pred, .slice a f.args.length c] 55)).heap.size (w.alloc (.cells #[.int .i64 f.pred, .slice a f.args.length c] 55)) w'):=by rw[hpv];exact containsS_any q v _ 171 _ _ _ (hV.below b1) hl (fun x hx=>(hf x hx).below b1) wy_e171 (fun _ _=>trivial) (ofFact_any 171 (.inl rfl) _ w.heap.size f a c h1 (intsV_below hU b1) hF));rw[←hpv];clear hpv;have HB:Hid _:=b1;obtain⟨aq,cq,rfl,_⟩:=hV;clear hU hf hF b1 h1
 go_enter Tryz.func125,Tryz.ntmps125
 go_upto_region 1 with fail;generalize w.alloc (.cells #[.int .i64 f.pred, .slice a f.args.length c] 55)=w1 at *;go_wp2_with fail;refine Calls.mono HC.out ?_;rintro e w2 ⟨rfl,hb⟩;have HB2:Hid (Below w.heap.size w w2):=HB.out.trans (hb.mono HB.out.size);clear HC hb;go_wp2_with fail;go_ret;exact⟨rfl,HB2.out⟩
def Wy.same(a b:Wy.Step):Bool:=a.rule==b.rule&&(decide (a.vars=b.vars)&&Wy.isOf a b.fact)
theorem Wy.same_iff{a b:Wy.Step}:Wy.same a b=true↔a=b:=by
 unfold Wy.same;rw[Bool.and_eq_true,Bool.and_eq_true,Wy.isOf_iff,decide_eq_true_eq,beq_iff_eq];constructor
 ·rintro⟨h1,h2,h3⟩;cases a;cases b;simp only at h1 h2 h3;rw[h1,h2,h3]
 rintro rfl;exact⟨rfl,rfl,rfl⟩
theorem sameS_any(p:Int)(as_:List Int)(rl:Int)(vs:List Int)(af:Option Addr)(cf:Nat)(av:Option Addr)(cv:Nat)(p':Int)(as':List Int)(rl':Int)(vs':List Int)(bf:Option Addr)(df:Nat)(bv:Option Addr)(dv:Nat)(w:World)
 (hx:SvOk w ⟨⟨⟨p,as_⟩,rl,vs⟩, .slice af as_.length cf, .slice av vs.length cv⟩) (hy:SvOk w ⟨⟨⟨p',as'⟩,rl',vs'⟩, .slice bf as'.length df, .slice bv vs'.length dv⟩) (hl:vs.length≤1000000):
 Calls Tryz.prog 84 #[.agg #[.int .i64 p, .slice af as_.length cf, .int .i64 rl, .slice av vs.length cv], .agg #[.int .i64 p', .slice bf as'.length df, .int .i64 rl', .slice bv vs'.length dv]] w
  fun e w'=>e=.returned (.bool (Wy.same ⟨⟨p,as_⟩,rl,vs⟩ ⟨⟨p',as'⟩,rl',vs'⟩))∧Below w.heap.size w w':=by
 have b1:=(Below.refl w.heap.size w).alloc (Nat.le_refl _) (.cells #[.int .i64 p, .slice af as_.length cf, .int .i64 rl, .slice av vs.length cv] 80);have b2:=b1.alloc b1.size (.cells #[.int .i64 p', .slice bf as'.length df, .int .i64 rl', .slice bv vs'.length dv] 80);have h1:=heap_alloc_new w (.cells #[.int .i64 p, .slice af as_.length cf, .int .i64 rl, .slice av vs.length cv] 80);have h2:=heap_alloc_new (w.alloc (.cells #[.int .i64 p, .slice af as_.length cf, .int .i64 rl, .slice av vs.length cv] 80)) (.cells #[.int .i64 p', .slice bf as'.length df, .int .i64 rl', .slice bv vs'.length dv] 80);have b3:=new_below (w.alloc (.cells #[.int .i64 p, .slice af as_.length cf, .int .i64 rl, .slice av vs.length cv] 80)) (.cells #[.int .i64 p', .slice bf as'.length df, .int .i64 rl', .slice bv vs'.length dv] 80);have h1':=(b3.block _ (heap_lt h1)).trans h1;(have s1:(w.alloc (.cells #[.int .i64 p, .slice af as_.length cf, .int .i64 rl, .slice av vs.length cv] 80)).heap.size=w.heap.size+1:=by simp);rw[s1]at h2;have HX:Hid (SvOk _ ⟨⟨⟨p,as_⟩,rl,vs⟩, .slice af as_.length cf, .slice av vs.length cv⟩):=hx.below b2;have HY:Hid (SvOk _ ⟨⟨⟨p',as'⟩,rl',vs'⟩, .slice bf as'.length df, .slice bv vs'.length dv⟩):=hy.below b2;have hB:Hid (Below w.heap.size w _):=b2;clear hx hy b1 b2 b3 h1 s1
 go_enter Tryz.func84,Tryz.ntmps84
 go_upto_region 1 with fail;generalize (w.alloc (.cells #[.int .i64 p, .slice af as_.length cf, .int .i64 rl, .slice av vs.length cv] 80)).alloc (.cells #[.int .i64 p', .slice bf as'.length df, .int .i64 rl', .slice bv vs'.length dv] 80)=w1 at *;(have c0:w1.cell? ⟨w.heap.size,0,none⟩=some (.int .i64 p):=by rw[Lib.cell_of_heap h1'];rfl);(have c1:w1.cell? ⟨w.heap.size,1,none⟩=some (.slice af as_.length cf):=by rw[Lib.cell_of_heap h1'];rfl);(have c2:w1.cell? ⟨w.heap.size,2,none⟩=some (.int .i64 rl):=by rw[Lib.cell_of_heap h1'];rfl);(have c3:w1.cell? ⟨w.heap.size,3,none⟩=some (.slice av vs.length cv):=by rw[Lib.cell_of_heap h1'];rfl);(have d0:w1.cell? ⟨w.heap.size+1,0,none⟩=some (.int .i64 p'):=by rw[Lib.cell_of_heap h2];rfl);(have d1:w1.cell? ⟨w.heap.size+1,1,none⟩=some (.slice bf as'.length df):=by rw[Lib.cell_of_heap h2];rfl);(have d2:w1.cell? ⟨w.heap.size+1,2,none⟩=some (.int .i64 rl'):=by rw[Lib.cell_of_heap h2];rfl);(have d3:w1.cell? ⟨w.heap.size+1,3,none⟩=some (.slice bv vs'.length dv):=by rw[Lib.cell_of_heap h2];rfl);have HC:Hid _:=EqualI_any vs vs' _ _ w1 HX.out.2.1 HY.out.2.1 hl;clear h1' h2;by_cases hr:rl=rl'
 ·(have g:(rl==rl')=true:=by simpa using hr);(have HV:Hid (Wy.same ⟨⟨p,as_⟩,rl,vs⟩ ⟨⟨p',as'⟩,rl',vs'⟩=(decide (vs=vs')&&Wy.isOf ⟨⟨p,as_⟩,rl,vs⟩ ⟨p',as'⟩)):=by show _=_;unfold Wy.same;rw[show((⟨⟨p,as_⟩,rl,vs⟩:Wy.Step).rule==(⟨⟨p',as'⟩,rl',vs'⟩:Wy.Step).rule)=true from g];rfl);clear hr;go_wp2_with fail;refine Calls.mono HC.out ?_;rintro _ w2 ⟨rfl,hb2⟩;have hb2':=hb2;have e0:=cell_below hb2 c0;have e1:=cell_below hb2 c1;have e2:=cell_below hb2 c2;have e3:=cell_below hb2 c3;have f0:=cell_below hb2 d0;have f1:=cell_below hb2 d1;have HC2:Hid _:=isOf_any _ ⟨p',as'⟩ _ w2 (HX.out.below hb2) (intsV_below HY.out.1.1 hb2) HY.out.1.2;have HB2:Hid (Below w.heap.size w w2):=hB.out.trans (hb2.mono hB.out.size);clear hb2 hb2' HC c0 c1 c2 c3 d0 d1 d2 d3;by_cases hv:vs=vs'
  ·have g2:decide (vs=vs')=true:=decide_eq_true hv;rw[g2];(have HV2:Hid (Wy.same ⟨⟨p,as_⟩,rl,vs⟩ ⟨⟨p',as'⟩,rl',vs'⟩=Wy.isOf ⟨⟨p,as_⟩,rl,vs⟩ ⟨p',as'⟩):=by show _=_;rw[HV.out,g2];rfl);clear hv HV;go_wp2_with fail;refine Calls.mono HC2.out ?_;rintro _ w3 ⟨rfl,hb3⟩;have HB3:Hid (Below w.heap.size w w3):=HB2.out.trans (hb3.mono HB2.out.size);dsimp only;generalize Wy.isOf ⟨⟨p,as_⟩,rl,vs⟩ ⟨p',as'⟩=t at *;clear hb3 HC2 e0 e1 e2 e3 f0 f1;go_wp2_with fail;go_ret;exact⟨by rw[HV2.out];rfl,HB3.out⟩
  have g2:decide (vs=vs')=false:=decide_eq_false hv;rw[g2];(have HV2:Hid (Wy.same ⟨⟨p,as_⟩,rl,vs⟩ ⟨⟨p',as'⟩,rl',vs'⟩=false):=by show _=_;rw[HV.out,g2];rfl);clear hv HV;go_wp2_with fail;go_ret;exact⟨by rw[HV2.out];rfl,HB2.out⟩
 (have g:(rl==rl')=false:=by simpa using hr);have g':decide (rl=rl')=false:=decide_eq_false hr;(have HV:Hid (Wy.same ⟨⟨p,as_⟩,rl,vs⟩ ⟨⟨p',as'⟩,rl',vs'⟩=false):=by show _=_;unfold Wy.same;rw[show((⟨⟨p,as_⟩,rl,vs⟩:Wy.Step).rule==(⟨⟨p',as'⟩,rl',vs'⟩:Wy.Step).rule)=false from g];rfl);clear hr;go_wp2_with fail;go_ret;exact⟨rV,hB.out⟩
end Go.Proofs.YthenjegmigeieaaGreat
namespace Go.Proofs.YthenjegmigeieaaGreat
open Go.RowKit Go.Shelf
attribute [local go_sem] Oper.semAt_some
abbrev Fa:=Rl.Fc×Option Addr×Nat
abbrev faEnc(x:Fa):Array Value:=#[.agg #[.int .i64 x.1.pred, .slice x.2.1 x.1.args.length x.2.2]]
def FaOk(x:Fa)(W:World):Prop:=W.ownsRow 0 3 1 (.slice x.2.1 x.1.args.length x.2.2) x.1.args.length (x.1.args.map (Value.int .i64))∧FFit x.1
def HN(n0 PB SB:Nat)(W W':World):Prop:=HK n0 PB W W'∧HK n0 SB W W'
theorem HN.refl(n0 PB SB:Nat)(W:World):HN n0 PB SB W W:=⟨HK.refl _ _ _,HK.refl _ _ _⟩
theorem HN.trans{n0 PB SB:Nat}{A B C:World}(h:HN n0 PB SB A B)(k:HN n0 PB SB B C):HN n0 PB SB A C:=⟨h.1.trans k.1,h.2.trans k.2⟩
theorem HN.of_below{n0 PB SB:Nat}{W W':World}(hn:n0≤W.heap.size)(h:Below W.heap.size W W'):HN n0 PB SB W W':=
 have h1:Below n0 W W':=⟨h.os,h.tape,h.output,h.size,fun k hk=>h.block k oM⟩
 ⟨⟨h1,fun _ _ hR=>(h.block PB (Array.getElem?_eq_some_iff.mp hR).1).trans hR⟩,⟨h1,fun _ _ hR=>(h.block SB (Array.getElem?_eq_some_iff.mp hR).1).trans hR⟩⟩
namespace Wy
def needL1(x:Sc.Lit)(vs:List Int):List Rl.Fc:=if x.kind=1 then [⟨x.pred,Ru.fill x.terms vs⟩] else []
theorem needL_snoc(b:List Sc.Lit)(x:Sc.Lit)(vs:List Int):(((b++[x]).filter fun l=>decide (l.kind=1)).map fun l=>(⟨l.pred,Ru.fill l.terms vs⟩:Rl.Fc))=((b.filter fun l=>decide (l.kind=1)).map fun l=>⟨l.pred,Ru.fill l.terms vs⟩)++needL1 x vs:=by
 rw[List.filter_append,List.map_append]
 congr 1
 unfold needL1;by_cases h:x.kind=1
 ·rw[if_pos h,List.filter_cons,if_pos (by simpa using h)];rfl
 rw[if_neg h,List.filter_cons,if_neg (by simpa using h)];rfl
def needK(r:Sc.Rule)(vs:List Int)(k:Nat):List Rl.Fc:=needL {r with body:=r.body.take k} vs
theorem needK_zero(r:Sc.Rule)(vs:List Int):needK r vs 0=[]:=by unfold needK needL;rfl
theorem needK_succ{r:Sc.Rule}{vs:List Int}{k:Nat}(hk:k<r.body.length):needK r vs (k+1)=needK r vs k++needL1 (Sc.litD r.body k) vs:=by unfold needK needL;(have :r.body.take (k+1)=r.body.take k++[Sc.litD r.body k]:=by rw[List.take_add_one];congr 1;unfold Sc.litD;rw[List.getD_eq_getElem?_getD,List.getElem?_eq_getElem hk];rfl);dsimp only;rw[this];exact needL_snoc _ _ _
theorem needK_all(r:Sc.Rule)(vs:List Int):needK r vs r.body.length=needL r vs:=by unfold needK needL;dsimp only;rw[List.take_length]
theorem needK_len(r:Sc.Rule)(vs:List Int)(k:Nat):(needK r vs k).length≤k:=by unfold needK needL;dsimp only;rw[List.length_map];exact Nat.le_trans (List.length_filter_le _ _) (by rw[List.length_take];omega)
theorem needK_tail{r:Sc.Rule}{vs:List Int}{k:Nat}:needL r vs=needK r vs (k+1)++((r.body.drop (k+1)).filter fun l=>decide (l.kind=1)).map fun l=>(⟨l.pred,Ru.fill l.terms vs⟩:Rl.Fc):=by unfold needK needL;dsimp only;rw[←List.map_append,←List.filter_append,List.take_append_drop]
structure StepFit (p:Sc.Prog) (s:Step):Prop where
 at_:s.rule= -1∨(0≤s.rule∧s.rule<(p.rules.length:Int))
 len:¬s.rule= -1→(ruleAt p s.rule).body.length≤60
 lits:¬s.rule= -1→∀x,x∈(ruleAt p s.rule).body→x.kind=1→x.terms.length≤1000000∧Ru.TermsIn s.vars.length x.terms
end Wy
theorem needs1_in(n:Nat)(hn:1≤n)(l PB SB:Nat)(wp W:World)(p:Sc.Prog)(s:Wy.Step)(va vn fv:Value)(ar:Option Addr)(cr:Nat)(av:Option Addr)(cv:Nat)(hR:PRulesAt wp ar p.rules)(hX:IntsV wp (.slice av s.vars.length cv) s.vars)(hfit:Wy.StepFit p s)
 (J Jx:List Fa→World→Prop) (hJa:∀s A B,J s A→A.grownBy B none→J s B) (hWp:Below wp.heap.size wp W)
 (hY:∀pre x W1,J pre W1→FaOk x W1→pre.length<60→YieldAt Fence.wide (n-1) Tryz.prog l (faEnc x) W1 fun e W'=>(e=.returned (.bool true)∧J (pre++[x]) W'∧HN wp.heap.size PB SB W1 W')∨(e=.returned (.bool false)∧Jx (pre++[x]) W'))
 (hP:W.heap[PB]?=some (.cells #[va,vn, .slice ar p.rules.length cr] 26)) (hS:W.heap[SB]?=some (.cells #[.int .i64 s.fact.pred,fv, .int .i64 s.rule, .slice av s.vars.length cv] 80)) (h0:J [] W):
 CallsIn Fence.wide n Tryz.prog 170 #[.func (.yield l) #[] #[], .pointer (some ⟨SB,0,none⟩), .pointer (some ⟨PB,0,none⟩)] W fun e W'=>(∃v,e=.returned v)∧
  ((∃ys,ys.map (·.1)=Wy.needs p s∧J ys W')∨(∃pre,(∃t,Wy.needs p s=pre.map (·.1)++t)∧Jx pre W')):=by
 refine callsIn_of_wp Tryz.func170 rfl trivial ?_ rfl;simp only[Tryz.ntmps170,List.size_toArray,List.length_cons,List.length_nil,Nat.reduceAdd,Nat.reduceSub,Array.replicate_succ,Array.replicate_zero,List.push_toArray,List.append_toArray,List.nil_append,List.cons_append];(have p2:W.cell? ⟨PB,2,none⟩=some (.slice ar p.rules.length cr):=by rw[Lib.cell_of_heap hP];rfl);(have s2:W.cell? ⟨SB,2,none⟩=some (.int .i64 s.rule):=by rw[Lib.cell_of_heap hS];rfl);have HY:Hid _:=hY;have HJA:Hid _:=hJa;have HP:Hid _:=hP;have HS:Hid _:=hS;have HR:Hid _:=hR;have HX:Hid _:=hX;have HW:Hid _:=hWp;clear hY hJa hP hS hR hX;by_cases hr:s.rule= -1
 ·(have HN0:Hid (Wy.needs p s=[]):=by show _=_;unfold Wy.needs;rw[if_pos (.inl hr)]);(have g1:(s.rule== -1)=true:=by simpa using hr);rw[hr]at s2;clear hr g1 hfit;gi_wp2;refine bodyPost_ret (results_none rfl _ _ _) rfl ?_;exact⟨⟨_,rfl⟩, .inl ⟨[],by rw[HN0.out];rfl,h0⟩⟩
 obtain⟨hi0,hi1⟩:=hfit.at_.resolve_left hr;have HL60:Hid _:=hfit.len hr;have HLT:Hid _:=hfit.lits hr;obtain⟨i,hi⟩:∃i:Nat,s.rule=(i:Int):=⟨s.rule.toNat,oM⟩;have hlt:i<p.rules.length:=oM;(have hrd:Wy.ruleAt p s.rule=Sc.ruleD p.rules i:=by unfold Wy.ruleAt;rw[hi];rfl);have HNE:Hid (Wy.needs p s=if(Sc.ruleD p.rules i).fold=0 then Wy.needL (Sc.ruleD p.rules i) s.vars else []):=by
  show _=_;unfold Wy.needs;rw[hrd];by_cases hf:(Sc.ruleD p.rules i).fold=0
  ·rw[if_neg (by rintro(h|h);exact hr h;exact h hf),if_pos hf]
  rw[if_pos (.inr hf),if_neg hf]
 (have g1:(s.rule== -1)=false:=by simpa using hr);rw[hrd]at HL60 HLT;obtain⟨rb,ro,rfl,hq⟩:=prules_at HR.out i hlt;obtain⟨_,_,q2,⟨bv,q3,hB⟩,_⟩:=hq;obtain⟨ab,cb,rfl,hBA⟩:=hB;have HBA:Hid (PLitsAt wp ab (Sc.ruleD p.rules i).body):=hBA;have HQ:Hid _:=q3;have f2:=cell_below HW.out q2;have f3:=cell_below HW.out q3;rw[hi]at s2 HS;(have gi:((i:Int)== -1)=false:=by rw[←hi];exact g1);clear hr g1 hfit hrd hi0 hi1 hBA q2 q3;generalize Sc.ruleD p.rules i=r at *;by_cases hf:r.fold=0
 ·rw[hf]at f2;(have HN1:Hid (Wy.needs p s=Wy.needL r s.vars):=by show _=_;rw[HNE.out,if_pos hf]);have g2:((0:Int) != 0)=false:=rfl;clear hf HNE;gi_wp2;gi_loopw [27] (fun v wr=>∃(k:Nat)(ys:List Fa),k≤r.body.length∧v=.int .i64 k∧Hid (ys.map (·.1)=Wy.needK r s.vars k)∧Hid (J ys wr)∧Hid (HN wp.heap.size PB SB W wr)) (fun v _=>r.body.length-(intOf v).toNat);case atStart=>exact⟨0,[],Nat.zero_le _,rfl,(Wy.needK_zero _ _).symm,h0,HN.refl _ _ _ _⟩
  case round=>
   clear f2 f3 p2 s2 h0;obtain⟨k,ys,hk,rfl,HYS,HJ,HKK⟩:=hrel;have hl60:=HL60.out;have hBp:Below wp.heap.size wp wr:=HW.out.trans HKK.out.1.1;by_cases hlt2:k<r.body.length
   ·obtain⟨b,off,rfl,l0,l1,l2,v,l3,hT⟩:=plits_at HBA.out k hlt2;have HT:Hid (PTermsV wr v (Sc.litD r.body k).terms):=ptermsV_below hT hBp;obtain⟨at_,ct,rfl,hct,hTA⟩:=id hT;have q0:=cell_below hBp l0;have q1:=cell_below hBp l1;have q2:=cell_below hBp l2;have q3:=cell_below hBp l3;have hSr:=HKK.out.2.2 _ rfl HS.out;have HXr:Hid (IntsV wr (.slice av s.vars.length cv) s.vars):=intsV_below HX.out hBp;have HNK:Hid _:=Wy.needK_succ (vs:=s.vars) hlt2;(have HYL:Hid (ys.length<60):=by show _<_;have h1:=Wy.needK_len r s.vars k;rw[←HYS.out,List.length_map]at h1;have :=HL60.out;omega);have HLk:Hid ((Sc.litD r.body k).kind=1→(Sc.litD r.body k).terms.length≤1000000∧Ru.TermsIn s.vars.length (Sc.litD r.body k).terms):=HLT.out _ (by unfold Sc.litD;rw[List.getD_eq_getElem?_getD,List.getElem?_eq_getElem hlt2];exact List.getElem_mem hlt2);have hnw:wp.heap.size≤wr.heap.size:=hBp.size;clear l0 l1 l2 l3 hT hTA hBp;generalize Sc.litD r.body k=x at *;obtain⟨kd,op,pd,ts⟩:=x;dsimp only at *;have ba:=new_below wr (.cells #[.int .i64 kd, .int .i64 op, .int .i64 pd, .slice at_ ts.length ct] 49);have hLa:=heap_alloc_new wr (.cells #[.int .i64 kd, .int .i64 op, .int .i64 pd, .slice at_ ts.length ct] 49);have hSa:=(ba.block _ (heap_lt hSr)).trans hSr;have HTa:Hid _:=ptermsV_below HT.out ba;have HXa:Hid _:=intsV_below HXr.out ba;have HJa:Hid _:=HJA.out _ _ _ HJ.out (grownBy_of_below ba none);have HKa:Hid (HN wp.heap.size PB SB W _):=HKK.out.trans (HN.of_below hnw ba);have hna:wp.heap.size≤(wr.alloc (.cells #[.int .i64 kd, .int .i64 op, .int .i64 pd, .slice at_ ts.length ct] 49)).heap.size:=Nat.le_trans hnw ba.size;(have z0:(wr.alloc (.cells #[.int .i64 kd, .int .i64 op, .int .i64 pd, .slice at_ ts.length ct] 49)).cell? ⟨wr.heap.size,0,none⟩=some (.int .i64 kd):=by rw[Lib.cell_of_heap hLa];rfl);(have z2:(wr.alloc (.cells #[.int .i64 kd, .int .i64 op, .int .i64 pd, .slice at_ ts.length ct] 49)).cell? ⟨wr.heap.size,2,none⟩=some (.int .i64 pd):=by rw[Lib.cell_of_heap hLa];rfl);(have z3:(wr.alloc (.cells #[.int .i64 kd, .int .i64 op, .int .i64 pd, .slice at_ ts.length ct] 49)).cell? ⟨wr.heap.size,3,none⟩=some (.slice at_ ts.length ct):=by rw[Lib.cell_of_heap hLa];rfl);(have y3:(wr.alloc (.cells #[.int .i64 kd, .int .i64 op, .int .i64 pd, .slice at_ ts.length ct] 49)).cell? ⟨SB,3,none⟩=some (.slice av s.vars.length cv):=by rw[Lib.cell_of_heap hSa];rfl);clear hSr hSa hLa HT HXr HJ HKK ba;by_cases h1:kd=1
    ·subst h1;obtain⟨ht1,ht2⟩:=HLk.out rfl;have HF:Hid _:=FillFact_any pd ts s.vars _ _ _ HTa.out HXa.out ht1 ht2;clear ht2 HLk;gi_wp2;refine⟨trivial,CallsIn.mono (callsIn_wide.2 HF.out) ?_⟩;rintro _ w2 ⟨v2,rfl,hrow,hb2⟩;obtain⟨a2,c2,rfl⟩:=own_slice hrow;have HFO:Hid (FaOk (⟨pd,Ru.fill ts s.vars⟩,a2,c2) w2):=⟨rl_own_le hrow (Nat.zero_le _),by unfold FFit Ru.fill;rw[List.length_map];omega⟩;have HJ2:Hid _:=HJA.out _ _ _ HJa.out (grownBy_of_below hb2 none);have HK2:Hid (HN wp.heap.size PB SB W w2):=HKa.out.trans (HN.of_below hna hb2);(have HY2:Hid ((ys++[((⟨pd,Ru.fill ts s.vars⟩:Rl.Fc),a2,c2)]).map (·.1)=Wy.needK r s.vars (k+1)):=by show _=_;rw[HNK.out,←HYS.out,List.map_append];rfl);obtain⟨fn,tmps,assign,body,hy,hR9⟩:=HY.out ys _ _ HJ2.out HFO.out HYL.out;dsimp only[faEnc]at hy;clear z0 z2 z3 y3 hrow hb2 HF;gi_wp2;refine hR9.mono ?_;rintro e W3 (⟨rfl,hJ3,hk3⟩|⟨rfl,hJx3⟩)
     ·have HJ3:Hid _:=hJ3;have HK3:Hid (HN wp.heap.size PB SB W W3):=HK2.out.trans hk3;clear hJ3 hk3;gi_wp2;go_roundw;(case rel=>exact⟨k+1,_,hlt2,gN,HY2.out,HJ3.out,HK3.out⟩);case measure=>exact mI
     have HJ3:Hid _:=hJx3;clear hJx3;gi_wp2;refine bodyPost_ret (results_none rfl _ _ _) rfl ?_;exact⟨⟨_,rfl⟩, .inr ⟨_,⟨_,by rw[HN1.out,HY2.out];exact Wy.needK_tail⟩,HJ3.out⟩⟩
    (have g3:(kd==1)=false:=by simpa using h1);(have HY2:Hid (ys.map (·.1)=Wy.needK r s.vars (k+1)):=by show _=_;rw[HNK.out,←HYS.out];unfold Wy.needL1;rw[if_neg h1,List.append_nil]);clear h1;gi_wp2;refine⟨trivial,?_⟩;gi_wp2;refine⟨(fun _ h=>by cases h),?_⟩;gi_wp2;go_roundw;(case rel=>exact⟨k+1,ys,hlt2,gN,HY2.out,HJa.out,HKa.out⟩);case measure=>exact mI
   obtain rfl:k=r.body.length:=oM;gi_wp2;go_end0;exact⟨⟨_,rfl⟩, .inl ⟨ys,by rw[HYS.out,HN1.out,Wy.needK_all],HJ.out⟩⟩
 (have HN1:Hid (Wy.needs p s=[]):=by show _=_;rw[HNE.out,if_neg hf]);(have g2:(r.fold != 0)=true:=by simpa using hf);clear hf HNE;gi_wp2;refine bodyPost_ret (results_none rfl _ _ _) rfl ?_;exact⟨⟨_,rfl⟩, .inl ⟨[],by rw[HN1.out];rfl,h0⟩⟩
end Go.Proofs.YthenjegmigeieaaGreat
namespace Go.Proofs.YthenjegmigeieaaGreat
open Go.RowKit Go.Shelf
attribute [local go_sem] Oper.semAt_some
theorem own_grown{X Y:World}{row:Option Nat}(hg:X.grownBy Y row)(hr:∀r,row=some r→∃o:Obj,X.heap[r]?=some o∧o.isCells=false){B e c n:Nat}{v:Value}{xs:List Value}(h:X.ownsRow B e c v n xs):Y.ownsRow B e c v n xs:=
 own_type h fun k a hk=>(hg.block k (heap_lt hk) (fun e'=>by obtain⟨o,ho,hc⟩:=hr k e'.symm;rw[hk]at ho;cases ho;cases hc)).trans hk
theorem needs_in(n:Nat)(a0 a1 a2:Option Addr)(n0 n1 n2:Nat)(c0 c1 c2:Nat)(pd:Int)(af:Option Addr)(nf cf:Nat)(rl:Int)(av:Option Addr)(nv cv:Nat)(w:World):
 CallsIn Fence.wide n Tryz.prog 124 #[.agg #[.slice a0 n0 c0, .slice a1 n1 c1, .slice a2 n2 c2], .agg #[.int .i64 pd, .slice af nf cf, .int .i64 rl, .slice av nv cv]] w fun e w'=>e=.returned (.func (.func 170) #[] #[.pointer (some ⟨w.heap.size+1,0,none⟩), .pointer (some ⟨w.heap.size,0,none⟩)])∧
  w'=(w.alloc (.cells #[.slice a0 n0 c0, .slice a1 n1 c1, .slice a2 n2 c2] 26)).alloc (.cells #[.int .i64 pd, .slice af nf cf, .int .i64 rl, .slice av nv cv] 80):=by
 have hmf:∀(fn:Fn)(first cap:Array Value)(w:World),(Instr.makeFunc fn first cap).run Tryz.prog w=.ok (.func fn first cap) w:=fun _ _ _ _=>rfl;refine callsIn_of_wp Tryz.func124 rfl trivial ?_ rfl;simp only[Tryz.ntmps124,List.size_toArray,List.length_cons,List.length_nil,Nat.reduceAdd,Nat.reduceSub,Array.replicate_succ,Array.replicate_zero,List.push_toArray,List.append_toArray,List.nil_append,List.cons_append];gi_wp2;go_ret;exact⟨rfl,rfl⟩
theorem four_laid(w:World)(o0 o1 o2 o3:Obj):((((w.alloc o0).alloc o1).alloc o2).alloc o3).heap[w.heap.size]?=some o0∧((((w.alloc o0).alloc o1).alloc o2).alloc o3).heap[w.heap.size+1]?=some o1∧((((w.alloc o0).alloc o1).alloc o2).alloc o3).heap[w.heap.size+2]?=some o2∧((((w.alloc o0).alloc o1).alloc o2).alloc o3).heap[w.heap.size+3]?=some o3:=by
 refine⟨?_,?_,?_,?_⟩
 ·show((((w.heap.push o0).push o1).push o2).push o3)[w.heap.size]?=_;rw[Array.getElem?_push,if_neg (by simp only[Array.size_push];omega),Array.getElem?_push,if_neg (by simp only[Array.size_push];omega),Array.getElem?_push,if_neg (by simp only[Array.size_push];omega),Array.getElem?_push,if_pos rfl]
 ·show((((w.heap.push o0).push o1).push o2).push o3)[w.heap.size+1]?=_;rw[Array.getElem?_push,if_neg (by simp only[Array.size_push];omega),Array.getElem?_push,if_neg (by simp only[Array.size_push];omega),Array.getElem?_push,if_pos (by simp only[Array.size_push])]
 ·show((((w.heap.push o0).push o1).push o2).push o3)[w.heap.size+2]?=_;rw[Array.getElem?_push,if_neg (by simp only[Array.size_push];omega),Array.getElem?_push,if_pos (by simp only[Array.size_push])]
 show((((w.heap.push o0).push o1).push o2).push o3)[w.heap.size+3]?=_;rw[Array.getElem?_push,if_pos (by simp only[Array.size_push])]
theorem res_cell1{tmps:Array Value}{w:World}{b:Nat}{v:Bool}(hp:tmps.getD 6 undef=.pointer (some ⟨b,0,none⟩))(hg:w.cell? ⟨b,0,none⟩=some (.bool v)):(results Tryz.f85 tmps).run Tryz.prog w=.ok (.bool v) w:=by(have hp':tmps[6]?.getD undef=.pointer (some ⟨b,0,none⟩):=by simpa using hp);simp[results,hp',asAddr,loadVar,go_sem,hg]
theorem two_laid(w:World)(o0 o1:Obj):((w.alloc o0).alloc o1).heap[w.heap.size]?=some o0∧((w.alloc o0).alloc o1).heap[w.heap.size+1]?=some o1:=by
 refine⟨?_,?_⟩
 ·show((w.heap.push o0).push o1)[w.heap.size]?=_;rw[Array.getElem?_push,if_neg (by simp only[Array.size_push];omega),Array.getElem?_push,if_pos rfl]
 show((w.heap.push o0).push o1)[w.heap.size+1]?=_;rw[Array.getElem?_push,if_pos (by simp only[Array.size_push])]
theorem below_grown{B n0:Nat}{w X Y:World}{row:Option Nat}(hs:Below n0 w X)(hg:X.grownBy Y row)(hn:n0≤w.heap.size)(hB:n0≤B)(hr:∀r,row=some r→B≤r):Below n0 w Y:=
 ⟨hg.os.trans hs.os,hg.tape.trans hs.tape,hg.output.trans hs.output,Nat.le_trans hs.size hg.size,fun k hk=>(hg.block k (by have :=hs.size;omega) (fun e=>by have :=hr k e.symm;omega)).trans (hs.block k hk)⟩
theorem isReady_any(p:Sc.Prog)(q:List Sv)(pd:Int)(as_:List Int)(rl:Int)(vs:List Int)(af:Option Addr)(cf:Nat)(av:Option Addr)(cv:Nat)(va vn vr vq:Value)(w:World)(hP:ProgV w va vn vr p)(hQ:StepsV w vq q)(hl:q.length≤9223372036854775807)(hq:∀x,x∈q→SvOk w x)
 (hx:SvOk w ⟨⟨⟨pd,as_⟩,rl,vs⟩, .slice af as_.length cf, .slice av vs.length cv⟩) (hfit:Wy.StepFit p ⟨⟨pd,as_⟩,rl,vs⟩):
 Calls Tryz.prog 85 #[progVal va vn vr,vq, .agg #[.int .i64 pd, .slice af as_.length cf, .int .i64 rl, .slice av vs.length cv]] w fun e w'=>e=.returned (.bool (Wy.isReady p (q.map (·.s)) ⟨⟨pd,as_⟩,rl,vs⟩))∧Below w.heap.size w w':=by
 obtain⟨a0,n0,rfl,_⟩:=id hP.ar;obtain⟨a1,n1,rfl,_⟩:=id hP.nm;obtain⟨a2,n2,rfl,hRA⟩:=id hP.rl;obtain⟨aq,cq,rfl,hqc,hQA⟩:=id hQ;refine(callsIn_wide (n:=3)).1 ?_;refine callsIn_of_wp_marks Tryz.func85 rfl trivial ?_ rfl;simp only[Tryz.ntmps85,List.size_toArray,List.length_cons,List.length_nil,Nat.reduceAdd,Nat.reduceSub,Array.replicate_succ,Array.replicate_zero,List.push_toArray,List.append_toArray,List.nil_append,List.cons_append];obtain⟨W4,hW4⟩:∃W4,W4=(((w.alloc (.cells #[.slice a0 p.arity.length n0, .slice a1 p.names.length n1, .slice a2 p.rules.length n2] 26)).alloc (.cells #[.slice aq q.length cq] 71)).alloc (.cells #[.int .i64 pd, .slice af as_.length cf, .int .i64 rl, .slice av vs.length cv] 80)).alloc (.cells #[.bool false] 4):=⟨_,rfl⟩;(have s4:W4.heap.size=w.heap.size+4:=by rw[hW4];simp);(have b4:Below w.heap.size w W4:=by rw[hW4];exact((((Below.refl _ w).alloc (Nat.le_refl _) _).alloc sI _).alloc sO _).alloc sO _);obtain⟨k0,k1,k2,k3⟩:=four_laid w (.cells #[.slice a0 p.arity.length n0, .slice a1 p.names.length n1, .slice a2 p.rules.length n2] 26) (.cells #[.slice aq q.length cq] 71) (.cells #[.int .i64 pd, .slice af as_.length cf, .int .i64 rl, .slice av vs.length cv] 80) (.cells #[.bool false] 4);rw[←hW4]at k0 k1 k2 k3;have HRA:Hid (PRulesAt w a2 p.rules):=hRA;have HQ:Hid (StepsV w (.slice aq q.length cq) q∧q.length≤9223372036854775807∧∀x,x∈q→SvOk w x):=⟨hQ,hl,hq⟩;have HX:Hid (IntsV w (.slice av vs.length cv) vs):=hx.2.1;have HFT:Hid _:=hfit;clear hRA hQ hq hx hfit hP hQA;have HS4:Hid _:=s4;clear s4;gi_wp2;rw[←hW4];have s4:=HS4.out;clear hW4;refine⟨trivial,(needs_in 2 a0 a1 a2 p.arity.length p.names.length p.rules.length n0 n1 n2 pd af as_.length cf rl av vs.length cv W4).mono ?_⟩;rintro e w' ⟨rfl,rfl⟩;obtain⟨W6,hW6⟩:∃W6,W6=(W4.alloc (.cells #[.slice a0 p.arity.length n0, .slice a1 p.names.length n1, .slice a2 p.rules.length n2] 26)).alloc (.cells #[.int .i64 pd, .slice af as_.length cf, .int .i64 rl, .slice av vs.length cv] 80):=⟨_,rfl⟩;(have s6:W6.heap.size=W4.heap.size+2:=by rw[hW6];simp);(have b6:Below W4.heap.size W4 W6:=by rw[hW6];exact((Below.refl _ W4).alloc (Nat.le_refl _) _).alloc sI _);obtain⟨hPB,hSB⟩:=two_laid W4 (.cells #[.slice a0 p.arity.length n0, .slice a1 p.names.length n1, .slice a2 p.rules.length n2] 26) (.cells #[.int .i64 pd, .slice af as_.length cf, .int .i64 rl, .slice av vs.length cv] 80);rw[←hW6]at hPB hSB ⊢;clear hW6;have b60:Below w.heap.size w W6:=b4.trans (b6.mono b4.size);have r1:=(b6.block _ (heap_lt k1)).trans k1;have r3:W6.heap[w.heap.size+1+1+1]?=some (.cells #[.bool false] 4):=(b6.block _ (heap_lt k3)).trans k3;have HB60:Hid _:=b60;have HR1:Hid _:=r1;have HR3:Hid _:=r3
 have HSEQ:Hid (SeqRd Fence.wide 2 Tryz.prog 170 #[.pointer (some ⟨W4.heap.size+1,0,none⟩), .pointer (some ⟨W4.heap.size,0,none⟩)] faEnc (HN w.heap.size W4.heap.size (W4.heap.size+1)) FaOk (fun ys=>ys.map (·.1)=Wy.needs p ⟨⟨pd,as_⟩,rl,vs⟩) (fun pre=>∃t,Wy.needs p ⟨⟨pd,as_⟩,rl,vs⟩=pre.map (·.1)++t) 60 W6):=fun l J Jx W hW hJ _ hY h0=>
  needs1_in 2 dE l W4.heap.size (W4.heap.size+1) w W p ⟨⟨pd,as_⟩,rl,vs⟩ _ _ _ a2 n2 av cv HRA.out HX.out HFT.out J Jx (fun s A B hs hg=>hJ s A B none hs hg (fun _ e=>by cases e)) (b60.trans (hW.mono b60.size)) hY ((hW.block _ (heap_lt hPB)).trans hPB) ((hW.block _ (heap_lt hSB)).trans hSB) h0
 have HSZ:Hid (W6.heap.size=w.heap.size+6∧W4.heap.size=w.heap.size+4):=⟨oM,s4⟩;clear k0 k1 k2 k3 b4 b6 r1 r3 hPB hSB b60 s4 s6;gi_wp2;obtain⟨hsz,s4⟩:=HSZ.out
 refine range_rd (n:=3) rfl oM (gf:=170) (lb:=#[.pointer (some ⟨W4.heap.size+1,0,none⟩), .pointer (some ⟨W4.heap.size,0,none⟩)]) ?hg trivial (enters_of Tryz.func170 kR rfl) HSEQ.out
  (fun h k=>HN.trans h k) (fun W j o o' hl h h1 h2=>⟨HK.put oM W j o o' hl h h1 h2,HK.put oM W j o o' hl h h1 h2⟩) (Below.refl _ _) (fun _=>rfl)
  (fun(pre:List Fa) W=>Below W6.heap.size W6 W∧∀f,f∈pre.map (fun x:Fa=>x.1)→Wy.proven (q.map (·.s)) f=true)
  (fun c (pre:List Fa) W=>c=.ret∧(W.heap[w.heap.size+1+1+1]?=some (.cells #[.bool false] 4)∧Below w.heap.size w W)∧∃f,f∈pre.map (fun x:Fa=>x.1)∧Wy.proven (q.map (·.s)) f=false)
  (fun _ X Y row hs hg hr=>⟨below_grown hs.1 hg (Nat.le_refl _) (Nat.le_refl _) (fun r e=>(hr r e).1),hs.2⟩)
  (fun c _ X Y row hs hg hr=>⟨hs.1,⟨(hg.block _ (heap_lt hs.2.1.1) (fun e=>by have :=(hr _ e.symm).1;omega)).trans hs.2.1.1,below_grown hs.2.1.2 hg (Nat.le_refl _) oM (fun r e=>(hr r e).1)⟩,hs.2.2⟩)
  ⟨Below.refl _ _,fun f hf=>by simp at hf⟩
  (fun(x:Fa) a' W=>(∃Bx,W.heap[Bx]?=some (.cells #[.int .i64 x.1.pred, .slice x.2.1 x.1.args.length x.2.2] 55)∧a'={tmps:=#[progVal (.slice a0 p.arity.length n0) (.slice a1 p.names.length n1) (.slice a2 p.rules.length n2), .slice aq q.length cq, .agg #[.int .i64 pd, .slice af as_.length cf, .int .i64 rl, .slice av vs.length cv], .pointer (some ⟨w.heap.size,0,none⟩), .pointer (some ⟨w.heap.size+1,0,none⟩), .pointer (some ⟨w.heap.size+1+1,0,none⟩), .pointer (some ⟨w.heap.size+1+1+1,0,none⟩), .pointer (some ⟨Bx,0,none⟩), .agg #[.slice a0 p.arity.length n0, .slice a1 p.names.length n1, .slice a2 p.rules.length n2], .agg #[.int .i64 pd, .slice af as_.length cf, .int .i64 rl, .slice av vs.length cv], .func (.func 170) #[] #[.pointer (some ⟨W4.heap.size+1,0,none⟩), .pointer (some ⟨W4.heap.size,0,none⟩)], .agg #[.int .i64 x.1.pred, .slice x.2.1 x.1.args.length x.2.2],undef,undef,undef,undef],defers:=[]})∧FaOk x W)
  (fun x a' _ X Y row hs hg hr=>by
   obtain⟨⟨Bx,h1,h2⟩,h3,h4⟩:=hs
   exact⟨⟨Bx,(hg.block _ (heap_lt h1) (fun e=>by obtain⟨_,o,h5,h6⟩:=hr _ e.symm;rw[h1]at h5;cases h5;cases h6)).trans h1,h2⟩,own_grown hg (fun r e=>(hr r e).2) h3,h4⟩)
  ?assign ?body ?done ?stop
 (case hg=>rfl);case assign=>rintro l pre ⟨⟨fp,fa⟩,xa,xc⟩ W K ⟨hB,hpr⟩ ⟨hO,hF⟩ hK;clear hsz s4;dsimp only at hO hF hK;gi_wp2;obtain⟨hsz,s4⟩:=HSZ.out;have ba:=new_below W (.cells #[.int .i64 fp, .slice xa fa.length xc] 55);exact hK _ _ (KeepsFrom.of_grownBy (grownBy_of_below ba none) (fun _ e=>by cases e)) (HN.of_below (by have :=hB.size;omega) ba) ⟨hB.trans (ba.mono hB.size),hpr⟩ ⟨⟨W.heap.size,heap_alloc_new W _,rfl⟩,ownsRow_below hO ba,hF⟩
 case body=>
  rintro l pre ⟨⟨fp,fa⟩,xa,xc⟩ a' W _ ⟨hB,hpr⟩ ⟨⟨Bx,hX,rfl⟩,hO,hF⟩ hlt;dsimp only at hX hO hF;have hI:=rl_ints_own hO;clear hO;have hBw:Below w.heap.size w W:=HB60.out.trans (by have :=HB60.out.size;exact⟨hB.os,hB.tape,hB.output,hB.size,fun k hk=>hB.block k oM⟩);have HPV:Hid _:=proven_any q ⟨fp,fa⟩ _ _ W (HQ.out.1.below hBw) HQ.out.2.1 (fun x hx=>(HQ.out.2.2 x hx).below hBw) hI hF;have r1:=(hB.block _ (heap_lt HR1.out)).trans HR1.out;have r3:=(hB.block _ (heap_lt HR3.out)).trans HR3.out;(have c1:W.cell? ⟨w.heap.size+1,0,none⟩=some (.slice aq q.length cq):=by rw[Lib.cell_of_heap r1];rfl);(have x0:W.cell? ⟨Bx,0,none⟩=some (.int .i64 fp):=by rw[Lib.cell_of_heap hX];rfl);(have x1:W.cell? ⟨Bx,1,none⟩=some (.slice xa fa.length xc):=by rw[Lib.cell_of_heap hX];rfl);have HBW:Hid _:=hBw;have HB:Hid _:=hB;have HPR:Hid _:=hpr;clear hsz s4 hBw hB hpr hI hF hX r1;gi_wp2;refine⟨trivial,(CallsIn.inRound l (callsIn_wide.2 HPV.out)).mono ?_⟩;rintro _ W3 ⟨rfl,hb3⟩;have HB3:Hid _:=hb3;have r3':=(hb3.block _ (heap_lt r3)).trans r3;(have c3:W3.cell? ⟨w.heap.size+1+1+1,0,none⟩=some (.bool false):=by rw[Lib.cell_of_heap r3'];rfl);have f3:=Lib.frozen_of_heap r3' 0;have HR3':Hid _:=r3';clear hb3 x0 x1 c1 HPV r3 r3';cases hpv:Wy.proven (q.map (·.s)) ⟨fp,fa⟩
  ·have HNP:Hid _:=hpv;clear hpv;gi_wp2;obtain⟨hsz,s4⟩:=HSZ.out;refine⟨(KeepsFrom.of_grownBy (grownBy_of_below HB3.out none) (fun _ e=>by cases e)).trans ((KeepsOthers.setCell _ _ _).from _),rfl,⟨Lib.heap_setCell_same HR3'.out _,?_⟩,⟨fp,fa⟩,by simp,HNP.out⟩;have h9:Below w.heap.size w W3:=HBW.out.trans (by have :=HBW.out.size;exact⟨HB3.out.os,HB3.out.tape,HB3.out.output,HB3.out.size,fun k hk=>HB3.out.block k oM⟩);exact h9.setCell (p:=⟨w.heap.size+1+1+1,0,none⟩) (by show w.heap.size≤w.heap.size+1+1+1;omega) _
  have HNP:Hid _:=hpv;clear hpv;gi_wp2;obtain⟨hsz,s4⟩:=HSZ.out;refine⟨KeepsFrom.of_grownBy (grownBy_of_below HB3.out none) (fun _ e=>by cases e),HN.of_below HBW.out.size HB3.out,HB.out.trans (HB3.out.mono HB.out.size),fun f hf=>?_⟩;rw[List.map_append]at hf;rcases List.mem_append.mp hf with hf|hf
  ·exact HPR.out f hf
  rcases List.mem_singleton.mp hf with rfl;exact HNP.out
 case done=>
  rintro D xs W hD hS ⟨hB,hpr⟩ hK;have r3:=(hB.block _ (heap_lt HR3.out)).trans HR3.out;(have c3:W.cell? ⟨w.heap.size+1+1+1,0,none⟩=some (.bool false):=by rw[Lib.cell_of_heap r3];rfl);have f3:=Lib.frozen_of_heap r3 0;have HS:Hid _:=hS;have HPR:Hid _:=hpr;have HB:Hid _:=hB;(have HRD:Hid (Wy.isReady p (q.map (·.s)) ⟨⟨pd,as_⟩,rl,vs⟩=true):=by refine Wy.ready_iff.mpr fun f hf=>hpr f ?_;rw[←hS]at hf;exact hf);have hDR:D≠w.heap.size+1+1+1:=oM;have HR3':Hid _:=r3;clear hsz s4 hS hpr hB;gi_wp2;obtain⟨hsz,s4⟩:=HSZ.out;have hK2:(W.setCell ⟨w.heap.size+1+1+1,0,none⟩ (.bool true)).heap[D]?=some (.deferred (some [])):=(Below.heap_setCell _ _ _ _ hDR).trans hK;have hC:(W.setCell ⟨w.heap.size+1+1+1,0,none⟩ (.bool true)).heap[w.heap.size+1+1+1]?=some (.cells #[.bool true] 4):=Lib.heap_setCell_same HR3'.out _;refine⟨by simp, .inl ⟨_,_,rfl,run_takeDeferred hK2,?_⟩⟩;refine⟨_,res_cell1 (b:=w.heap.size+1+1+1) (v:=true) rfl ?_,by rw[HRD.out],?_⟩
  ·rw[Lib.cell_of_heap ((World.putObj_heap_other (Ne.symm hDR)).trans hC)];rfl
  have h9:Below w.heap.size w W:=HB60.out.trans (by have :=HB60.out.size;exact⟨HB.out.os,HB.out.tape,HB.out.output,HB.out.size,fun k hk=>HB.out.block k oM⟩);have h10:=h9.setCell (p:=⟨w.heap.size+1+1+1,0,none⟩) (by show w.heap.size≤w.heap.size+1+1+1;omega) (.bool true);exact h10.trans (belowK_b (w:=w) (Nat.le_refl _) _ D _ _ oM hK2 rfl rfl)
 case stop=>
  rintro D c pre W hD ⟨t,hSp⟩ ⟨rfl,⟨r3,hBw⟩,f,hf,hfp⟩ hK;have HRD:Hid (Wy.isReady p (q.map (·.s)) ⟨⟨pd,as_⟩,rl,vs⟩=false):=by
   cases hh:Wy.isReady p (q.map (·.s)) ⟨⟨pd,as_⟩,rl,vs⟩
   ·show _=_;rfl
   have :=Wy.ready_iff.mp hh f (by rw[hSp];exact List.mem_append.mpr (.inl hf));rw[hfp]at this;cases this
  have hDR:D≠w.heap.size+1+1+1:=oM;have HBW:Hid _:=hBw;have HR3':Hid _:=r3;clear hSp hf hfp hBw r3;have hD2:w.heap.size≤D:=oM;clear hsz s4;gi_wp2;refine⟨by simp, .inl ⟨_,_,rfl,run_takeDeferred hK,?_⟩⟩;refine⟨_,res_cell1 (b:=w.heap.size+1+1+1) (v:=false) rfl ?_,by rw[HRD.out],?_⟩
  ·rw[Lib.cell_of_heap ((World.putObj_heap_other (Ne.symm hDR)).trans HR3'.out)];rfl
  exact HBW.out.trans (belowK_b (w:=w) (Nat.le_refl _) _ D _ _ hD2 hK rfl rfl)
end Go.Proofs.YthenjegmigeieaaGreat
namespace Go.Proofs.YthenjegmigeieaaGreat
namespace Wy
open Ru Md
structure Mod (p:Sc.Prog) (l M:List Rl.Fc):Prop where
 fn:Fine p
 given:∀f,f∈l→Right p.arity f
 is:IsModel p l (some M)
 few:M.length≤60
section
variable {p:Sc.Prog} {l M:List Rl.Fc}
theorem Mod.right(h:Mod p l M):∀f,f∈M→Right p.arity f:=(run_facts h.fn (set_facts h.given) h.is).right
theorem Mod.fits(h:Mod p l M){s:Step}:s∈Wy.right p l M↔Fits p l M s:=mem_right h.fn.ok h.right
theorem Mod.in_(h:Mod p l M){s:Step}(hs:s∈Wy.right p l M):s.fact∈M:=by have hsh:=model_shut h.fn h.given h.is;refine fits_in h.fn.ok h.right (fun f hf=>?_) hsh.1 (h.fits.mp hs);obtain⟨_,h2⟩:=run_later h.fn (set_facts h.given) (n:=0) (k:=p.arity.length) (S:=Rl.set l) (T:=M) rfl (by rw[Nat.zero_add];exact h.is);exact h2 f (Rl.mem_set.mpr hf)
structure Turned (p:Sc.Prog) (l M:List Rl.Fc) (st:List Step):Prop where
 proof:IsProof p l M st
 once:Once st
 done:∀s,s∈Wy.right p l M→proven st s.fact=true∨isReady p st s=false
theorem proof_in(h:Mod p l M){st:List Step}(hp:IsProof p l M st){f:Rl.Fc}(hf:proven st f=true):f∈M:=by obtain⟨s,h1,rfl⟩:=proven_iff.mp hf;exact h.in_ (proof_mem hp h1)
theorem Turned.iff(h:Mod p l M){st:List Step}(ht:Turned p l M st)(f:Rl.Fc):proven st f=true↔f∈M:=
 ⟨proof_in h ht.proof,all_proven h.fn h.given h.is ht.done f⟩
theorem once_few(h:Mod p l M){st:List Step}(hp:IsProof p l M st)(ho:Once st):st.length≤60:=by(have h1:=List.Nodup.length_le_of_subset (l₂:=M) ho fun f hf=>by obtain⟨s,hs,rfl⟩:=List.mem_map.mp hf;exact h.in_ (proof_mem hp hs));rw[List.length_map]at h1;have :=h.few;omega
theorem proof_nil':IsProof p l M []∧Once []:=⟨proof_nil p l M,List.nodup_nil⟩
theorem proof_add{st:List Step}{s:Step}(h:IsProof p l M st∧Once st)(hs:s∈Wy.right p l M)(hn:proven st s.fact=false)(hr:isReady p st s=true):IsProof p l M (st++[s])∧Once (st++[s]):=
 ⟨proof_snoc.mpr ⟨h.1,hs,hr⟩,once_snoc h.2 hn⟩
structure Proves (p:Sc.Prog) (l M:List Rl.Fc) (f:Rl.Fc) (x:List Step):Prop where
 proof:IsProof p l M x
 once:Once x
 last:∃r s,x=r++[s]∧s.fact=f
theorem proves_of{st:List Step}(h:IsProof p l M st∧Once st){i:Nat}{s:Step}(hi:st[i]?=some s):Proves p l M s.fact (needed p (st.take (i+1)) s.fact):=by refine⟨needed_proof _ (proof_take _ h.1),needed_once _ (once_take _ h.2),?_⟩;rw[List.take_add_one,hi];obtain⟨r,hr⟩:=needed_last (p:=p) (st:=st.take i) (s:=s);exact⟨r,s,hr,rfl⟩
end
end Wy
end Go.Proofs.YthenjegmigeieaaGreat
namespace Go.Proofs.YthenjegmigeieaaGreat
open Go.RowKit
theorem inTurn_any(p:Sc.Prog)(l M:List Rl.Fc)(q:List Sv)(va vn vr vq:Value)(w:World)(hP:ProgV w va vn vr p)(hQ:StepsV w vq q)(hl:q.length≤24060)(hq:∀x,x∈q→SvOk w x)(hM:Wy.Mod p l M)(hR:q.map (·.s)=Wy.right p l M)(hfit:∀x,x∈q→Wy.StepFit p x.s):
 Calls Tryz.prog 88 #[progVal va vn vr,vq] w fun e w'=>∃(v:Value)(q':List Sv),e=.returned v∧w'.ownsRow w.heap.size 80 4 v q'.length (q'.map svCells).flatten∧(∀x,x∈q'→x∈q)∧Wy.Turned p l M (q'.map (·.s))∧Below w.heap.size w w':=by
 obtain⟨i0,hi0,hz0,hz1,hz2⟩:=info_parts step_info;obtain⟨a0,n0,rfl,_⟩:=id hP.ar;obtain⟨a1,n1,rfl,_⟩:=id hP.nm;obtain⟨a2,n2,rfl,_⟩:=id hP.rl;obtain⟨aq,cq,rfl,hqc,hQA⟩:=id hQ;have bT:=new_below w (.cells #[.slice a0 p.arity.length n0, .slice a1 p.names.length n1, .slice a2 p.rules.length n2] 26);have HBX:Hid _:=heap_alloc_new w (.cells #[.slice a0 p.arity.length n0, .slice a1 p.names.length n1, .slice a2 p.rules.length n2] 26);have HB:Hid (Below w.heap.size w _):=bT;have HP:Hid (ProgV w (.slice a0 p.arity.length n0) (.slice a1 p.names.length n1) (.slice a2 p.rules.length n2) p):=hP;have HQA:Hid (StepsAt w aq q):=hQA;have HQF:Hid (∀x,x∈q→SvOk w x∧Wy.StepFit p x.s):=fun x hx=>⟨hq x hx,hfit x hx⟩;have HM:Hid (Wy.Mod p l M):=hM;(have HR:Hid (∀s,s∈Wy.right p l M↔∃x,x∈q∧x.s=s):=fun s=>by rw[←hR,List.mem_map]);clear hP hQ hQA hq hM hR hfit bT
 go_enter Tryz.func88,Tryz.ntmps88
 go_upto_region 1 with fail;generalize w.alloc (.cells #[.slice a0 p.arity.length n0, .slice a1 p.names.length n1, .slice a2 p.rules.length n2] 26)=w1 at *;(have HXX:Hid (∀y,Below w1.heap.size w1 y→y.cell? ⟨w.heap.size,0,none⟩=some (.slice a0 p.arity.length n0)∧y.cell? ⟨w.heap.size,1,none⟩=some (.slice a1 p.names.length n1)∧y.cell? ⟨w.heap.size,2,none⟩=some (.slice a2 p.rules.length n2)):=fun y hy=>by have h:=(hy.block _ (heap_lt HBX.out)).trans HBX.out;exact⟨by rw[Lib.cell_of_heap h];rfl,by rw[Lib.cell_of_heap h];rfl,by rw[Lib.cell_of_heap h];rfl⟩);have HWW:Hid (∀y,Below w1.heap.size w1 y→Below w.heap.size w y):=fun y hy=>HB.out.trans (hy.mono HB.out.size);have HLE:Hid (w.heap.size≤w1.heap.size):=HB.out.size;clear HBX HB;go_wp2_with fail;go_loopw [5] (fun sv wr=>∃qs:List Sv,Hid (wr.ownsRow w1.heap.size 80 4 sv qs.length (qs.map svCells).flatten)∧Hid (∀x,x∈qs→x∈q)∧Hid (Wy.IsProof p l M (qs.map (·.s))∧Wy.Once (qs.map (·.s)))∧Hid (Below w1.heap.size w1 wr)) (fun sv _=>61-lenOf sv);case atStart=>exact⟨[],World.ownsRow_nil _ _ _ _,fun _ h=>absurd h sI,Wy.proof_nil',Below.refl _ _⟩
 case round=>
  obtain⟨wo,hwo⟩:∃wo,wo=wr:=⟨_,rfl⟩;subst hwo;obtain⟨qs,HO,HS,HPO,HBk⟩:=hrel;obtain⟨ao,co,rfl⟩:=own_slice HO.out;(have hqs60:qs.length≤60:=by have h9:=Wy.once_few HM.out HPO.out.1 HPO.out.2;rw[List.length_map]at h9;exact h9);go_wp2_with fail;go_loopw [5,13] (fun sv kv wr=>∃(k:Nat)(qz:List Sv),k≤q.length∧kv=.int .i64 k∧Hid (wr.ownsRow w1.heap.size 80 4 sv qz.length (qz.map svCells).flatten)∧Hid (∀x,x∈qz→x∈q)∧Hid (Wy.IsProof p l M (qz.map (·.s))∧Wy.Once (qz.map (·.s)))∧qs.length≤qz.length∧Hid (qz.length=qs.length→∀j x,j<k→q[j]?=some x→Wy.proven (qz.map (·.s)) x.s.fact=true∨Wy.isReady p (qz.map (·.s)) x.s=false)∧Hid (Below w1.heap.size w1 wr)) (fun _ kv _=>q.length-(intOf kv).toNat);case atStart=>exact⟨0,qs,Nat.zero_le _,rfl,HO.out,HS.out,HPO.out,Nat.le_refl _,fun _ j _ hj=>absurd hj (Nat.not_lt_zero j),HBk.out⟩
  case round=>
   clear HO HS HPO HBk;obtain⟨wi,hwi⟩:∃wi,wi=wr:=⟨_,rfl⟩;subst hwi;obtain⟨k,qz,hk,rfl,HO,HS,HPO,hge,HDN,HBk⟩:=hrel;obtain⟨az,cz,rfl⟩:=own_slice HO.out;(have hqz60:qz.length≤60:=by have h9:=Wy.once_few HM.out HPO.out.1 HPO.out.2;rw[List.length_map]at h9;exact h9);by_cases hlt:k<q.length
   ·obtain⟨b,off,rfl,p0,p1,p2,p3⟩:=steps_at HQA.out k hlt;have HXF:Hid (SvOk w (svD q k)∧Wy.StepFit p (svD q k).s):=HQF.out _ (svD_mem q k hlt);have HXM:Hid (svD q k∈q):=svD_mem q k hlt;have HGT:Hid (q[k]?=some (svD q k)):=svD_get q k hlt;have hbw:=HWW.out wi HBk.out;have q0:=cell_below hbw p0;have q1:=cell_below hbw p1;have q2:=cell_below hbw p2;have q3:=cell_below hbw p3;clear p0 p1 p2 p3 hbw;generalize svD q k=x at *;obtain⟨⟨⟨pd,as_⟩,rl,vs⟩,fv,vv⟩:=x;dsimp only at q0 q1 q2 q3;obtain⟨⟨⟨af,cf,hfv,_⟩,hff⟩,⟨av,cv,hvv,_⟩,_⟩:=HXF.out.1;dsimp only at hfv hvv hff;subst hfv hvv;go_upto_region 6 with fail;have hba:=new_below wi (.cells #[.int .i64 pd, .slice af as_.length cf, .int .i64 rl, .slice av vs.length cv] 80);have hfx:=heap_alloc_new wi (.cells #[.int .i64 pd, .slice af as_.length cf, .int .i64 rl, .slice av vs.length cv] 80);have HBa:Hid (Below w1.heap.size w1 _):=HBk.out.trans (hba.mono HBk.out.size);have HOa:Hid ((wi.alloc (.cells #[.int .i64 pd, .slice af as_.length cf, .int .i64 rl, .slice av vs.length cv] 80)).ownsRow w1.heap.size 80 4 (.slice az qz.length cz) qz.length (qz.map svCells).flatten):=ownsRow_below HO.out hba;clear q0 q1 q2 q3 hba HO HBk;generalize hfb:wi.heap.size=FB at *;generalize wi.alloc (.cells #[.int .i64 pd, .slice af as_.length cf, .int .i64 rl, .slice av vs.length cv] 80)=wa at *;have HBX:Hid _:=hfx;clear hfx hfb;(have q0:wa.cell? ⟨FB,0,none⟩=some (.int .i64 pd):=by rw[Lib.cell_of_heap HBX.out];rfl);(have q1:wa.cell? ⟨FB,1,none⟩=some (.slice af as_.length cf):=by rw[Lib.cell_of_heap HBX.out];rfl);have HOKW:Hid (∀y,Below w1.heap.size w1 y→(∀x,x∈qz→SvOk y x)∧SvOk y ⟨⟨⟨pd,as_⟩,rl,vs⟩, .slice af as_.length cf, .slice av vs.length cv⟩):=fun y hy=>⟨fun x hx=>(HQF.out x (HS.out x hx)).1.below (HWW.out y hy),HXF.out.1.below (HWW.out y hy)⟩;have HCP:Hid _:=proven_any qz ⟨pd,as_⟩ _ _ wa (steps_toV HOa.out) oM (HOKW.out wa HBa.out).1 (HOKW.out wa HBa.out).2.1.1 hff;go_wp2_with fail;refine Calls.mono HCP.out ?_;rintro _ w4 ⟨rfl,hb4⟩;have HB4:Hid (Below w1.heap.size w1 w4):=HBa.out.trans (hb4.mono HBa.out.size);have HO4:Hid (w4.ownsRow w1.heap.size 80 4 (.slice az qz.length cz) qz.length (qz.map svCells).flatten):=ownsRow_below HOa.out hb4;have HBX4:Hid _:=(hb4.block _ (heap_lt HBX.out)).trans HBX.out;obtain⟨pv,hpv⟩:∃pv,pv=Wy.proven (qz.map (·.s)) ⟨pd,as_⟩:=⟨_,rfl⟩;rw[←hpv];have HPV:Hid _:=hpv.symm;clear q0 q1 hpv hb4 HCP HOa HBX HBa;cases pv
    ·(have r0:w4.cell? ⟨FB,0,none⟩=some (.int .i64 pd):=by rw[Lib.cell_of_heap HBX4.out];rfl);(have r1:w4.cell? ⟨FB,1,none⟩=some (.slice af as_.length cf):=by rw[Lib.cell_of_heap HBX4.out];rfl);(have r2:w4.cell? ⟨FB,2,none⟩=some (.int .i64 rl):=by rw[Lib.cell_of_heap HBX4.out];rfl);(have r3:w4.cell? ⟨FB,3,none⟩=some (.slice av vs.length cv):=by rw[Lib.cell_of_heap HBX4.out];rfl);obtain⟨c0,c1,c2⟩:=HXX.out w4 HB4.out;have HCR:Hid _:=isReady_any p qz pd as_ rl vs af cf av cv _ _ _ _ w4 (HP.out.below (HWW.out w4 HB4.out)) (steps_toV HO4.out) oM (HOKW.out w4 HB4.out).1 (HOKW.out w4 HB4.out).2 HXF.out.2;go_wp2_with fail;refine Calls.mono HCR.out ?_;rintro _ w5 ⟨rfl,hb5⟩;have HB5:Hid (Below w1.heap.size w1 w5):=HB4.out.trans (hb5.mono HB4.out.size);have HO5:Hid (w5.ownsRow w1.heap.size 80 4 (.slice az qz.length cz) qz.length (qz.map svCells).flatten):=ownsRow_below HO4.out hb5;have s0:=cell_below hb5 r0;have s1:=cell_below hb5 r1;have s2:=cell_below hb5 r2;have s3:=cell_below hb5 r3;obtain⟨rv,hrv⟩:∃rv,rv=Wy.isReady p (qz.map (·.s)) ⟨⟨pd,as_⟩,rl,vs⟩:=⟨_,rfl⟩;rw[←hrv];have HRV:Hid _:=hrv.symm;clear r0 r1 r2 r3 c0 c1 c2 hrv hb5 HCR HO4 HBX4 HB4;cases rv
     ·have HDN2:Hid (qz.length=qs.length→∀j x,j<k+1→q[j]?=some x→Wy.proven (qz.map (·.s)) x.s.fact=true∨Wy.isReady p (qz.map (·.s)) x.s=false):=fun e j x hj hx=>by
       by_cases hjk:j=k
       ·rw[hjk,HGT.out]at hx;injection hx with hx;subst hx;exact .inr HRV.out
       exact HDN.out e j x oM hx
      clear s0 s1 s2 s3;go_wp2_with fail;go_roundw;(case rel=>exact⟨k+1,qz,hlt,gN,HO5.out,HS.out,HPO.out,hge,HDN2.out,HB5.out⟩);case measure=>exact mI
     (have HNP:Hid (Wy.IsProof p l M ((qz++[(⟨⟨⟨pd,as_⟩,rl,vs⟩, .slice af as_.length cf, .slice av vs.length cv⟩:Sv)]).map (·.s))∧Wy.Once ((qz++[(⟨⟨⟨pd,as_⟩,rl,vs⟩, .slice af as_.length cf, .slice av vs.length cv⟩:Sv)]).map (·.s))):=by show _∧_;rw[List.map_append];exact Wy.proof_add HPO.out ((HR.out _).mpr ⟨_,HXM.out,rfl⟩) HPV.out HRV.out);(go_upto_region 7 with fail;go_wp2_with(at_builtin;go_loud (refine wpList_append_own _ rfl (.tmp 28) (.tmp 30) 71 rfl w1.heap.size 80 i0 _ 4 64 Tryz.underlying71 hi0 hz0 hz1 hz2 rfl dE _ _ _ rfl (HO5.out.alloc _) ⟨w5.heap.size,0,none⟩ 1 1 [.int .i64 pd, .slice af as_.length cf, .int .i64 rl, .slice av vs.length cv] rfl rfl ?c1 ?c2 ?c3 ?c4 ?c5 ?_));(case c1=>exact news4s w5 _ _ _ _ 80);(case c2=>intro u hu;simp at hu;rcases hu with rfl|rfl|rfl|rfl<;>rfl);(case c3=>unfold maxLen;omega);(case c4=>omega);(case c5=>have :=HB5.out.size;simp;omega);intro vs2 w6 hown6 hgrow6 _;obtain⟨ao9,cap9,rfl⟩:=own_slice hown6;have HB6:Hid (Below w1.heap.size w1 w6):=(HB5.out.alloc HB5.out.size _).grown hgrow6 (by have :=HB5.out.size;simp;omega) (fun k hk=>(HO5.out.lt k hk).1);have HO6:Hid (w6.ownsRow w1.heap.size 80 4 (.slice ao9 (qz.length+1) cap9) (qz++[(⟨⟨⟨pd,as_⟩,rl,vs⟩, .slice af as_.length cf, .slice av vs.length cv⟩:Sv)]).length ((qz++[(⟨⟨⟨pd,as_⟩,rl,vs⟩, .slice af as_.length cf, .slice av vs.length cv⟩:Sv)]).map svCells).flatten):=by show World.ownsRow _ _ _ _ _ _ _;rw[List.length_append,List.map_append,List.flatten_append];simpa[svCells]using hown6);have HS6:Hid (∀x,x∈qz++[(⟨⟨⟨pd,as_⟩,rl,vs⟩, .slice af as_.length cf, .slice av vs.length cv⟩:Sv)]→x∈q):=fun x hx=>by
      rcases List.mem_append.mp hx with hx|hx
      ·exact HS.out x hx
      rcases List.mem_singleton.mp hx with rfl;exact HXM.out
     (have HDN6:Hid ((qz++[(⟨⟨⟨pd,as_⟩,rl,vs⟩, .slice af as_.length cf, .slice av vs.length cv⟩:Sv)]).length=qs.length→∀j x,j<k+1→q[j]?=some x→Wy.proven ((qz++[(⟨⟨⟨pd,as_⟩,rl,vs⟩, .slice af as_.length cf, .slice av vs.length cv⟩:Sv)]).map (·.s)) x.s.fact=true∨Wy.isReady p ((qz++[(⟨⟨⟨pd,as_⟩,rl,vs⟩, .slice af as_.length cf, .slice av vs.length cv⟩:Sv)]).map (·.s)) x.s=false):=fun e=>by rw[List.length_append]at e;simp at e;omega);(have hge6:qs.length≤(qz++[(⟨⟨⟨pd,as_⟩,rl,vs⟩, .slice af as_.length cf, .slice av vs.length cv⟩:Sv)]).length:=by rw[List.length_append];omega);clear hown6 hgrow6 s0 s1 s2 s3;go_wp2_with fail;go_roundw;(case rel=>exact⟨k+1,_,hlt,gN,HO6.out,HS6.out,HNP.out,hge6,HDN6.out,HB6.out⟩);case measure=>exact mI
    have HDN2:Hid (qz.length=qs.length→∀j x,j<k+1→q[j]?=some x→Wy.proven (qz.map (·.s)) x.s.fact=true∨Wy.isReady p (qz.map (·.s)) x.s=false):=fun e j x hj hx=>by
     by_cases hjk:j=k
     ·rw[hjk,HGT.out]at hx;injection hx with hx;subst hx;exact .inl HPV.out
     exact HDN.out e j x oM hx
    go_wp2_with fail;go_roundw;(case rel=>exact⟨k+1,qz,hlt,gN,HO4.out,HS.out,HPO.out,hge,HDN2.out,HB4.out⟩);case measure=>exact mI
   obtain rfl:k=q.length:=oM;by_cases hEq:qz.length=qs.length
   ·(have g:((qz.length:Int)==qs.length)=true:=by simp[hEq]);have HT:Hid (Wy.Turned p l M (qz.map (·.s))):=⟨HPO.out.1,HPO.out.2,fun s hs=>by
     obtain⟨x,hx,rfl⟩:=(HR.out s).mp hs;obtain⟨j,hj,rfl⟩:=List.getElem_of_mem hx
     exact HDN.out hEq j _ hj (List.getElem?_eq_getElem hj)⟩
    have HFO:Hid (wi.ownsRow w.heap.size 80 4 (.slice az qz.length cz) qz.length (qz.map svCells).flatten):=rl_own_le HO.out HLE.out;have HBF:Hid _:=HWW.out wi HBk.out;clear hEq HO HBk;go_wp2_with fail;go_ret;exact⟨_,rfl,qz,HFO.out,HS.out,HT.out,HBF.out⟩
   (have g:((qz.length:Int)==qs.length)=false:=by simp;omega);have hlt2:qs.length<qz.length:=oM;clear hEq;go_wp2_with fail;go_roundw;(case rel=>exact⟨qz,HO.out,HS.out,HPO.out,HBk.out⟩);case measure=>simp[lenOf];omega
end Go.Proofs.YthenjegmigeieaaGreat
namespace Go.Proofs.YthenjegmigeieaaGreat
open Go.RowKit Go.Shelf
attribute [local go_sem] Oper.semAt_some
abbrev bkEnc(q:List Sv)(i:Nat):Array Value:=#[.int .i64 i,svVal (svD q i)]
def bkL(n:Nat):List Nat:=(List.range n).reverse
theorem bkL_length(n:Nat):(bkL n).length=n:=by unfold bkL;rw[List.length_reverse,List.length_range]
theorem bkL_take{n j k:Nat}(h:n=k+1+j):(bkL n).take (j+1)=(bkL n).take j++[k]:=by
 (have hj:j<(bkL n).length:=by rw[bkL_length];omega);have hg:(bkL n)[j]?=some k:=by
  unfold bkL;rw[List.getElem?_reverse (by rw[List.length_range];omega),List.length_range,List.getElem?_range oM]
  congr 1
  omega
 rw[List.take_add_one,hg];rfl
theorem back_in(n:Nat)(hn:1≤n)(l BQ:Nat)(wp W:World)(q:List Sv)(aq:Option Addr)(cq:Nat)(hQ:StepsAt wp aq q)(hq:∀x,x∈q→SvOk wp x)(hl:q.length≤1000000)
 (J Jx:List Nat→World→Prop) (hWp:Below wp.heap.size wp W)
 (hY:∀pre x W1,J pre W1→x<q.length→pre.length<q.length→YieldAt Fence.wide (n-1) Tryz.prog l (bkEnc q x) W1 fun e W'=>(e=.returned (.bool true)∧J (pre++[x]) W'∧HK wp.heap.size BQ W1 W')∨(e=.returned (.bool false)∧Jx (pre++[x]) W'))
 (hB:W.heap[BQ]?=some (.cells #[.slice aq q.length cq] 71)) (h0:J [] W):
 CallsIn Fence.wide n Tryz.prog 178 #[.func (.yield l) #[] #[], .pointer (some ⟨BQ,0,none⟩)] W fun e W'=>(∃v,e=.returned v)∧
  ((∃ys,ys=bkL q.length∧J ys W')∨(∃pre,True∧Jx pre W')):=by
 refine callsIn_of_wp Tryz.func178 rfl trivial ?_ rfl;simp only[Tryz.ntmps178,List.size_toArray,List.length_cons,List.length_nil,Nat.reduceAdd,Nat.reduceSub,Array.replicate_succ,Array.replicate_zero,List.push_toArray,List.append_toArray,List.nil_append,List.cons_append];(have c0:W.cell? ⟨BQ,0,none⟩=some (.slice aq q.length cq):=by rw[Lib.cell_of_heap hB];rfl);have HY:Hid _:=hY;have HB:Hid _:=hB;have HQ:Hid (StepsAt wp aq q∧∀x,x∈q→SvOk wp x):=⟨hQ,hq⟩;have HW:Hid _:=hWp;obtain⟨z0,hz0⟩:∃z0:Int,z0=(q.length:Int)-1:=⟨_,rfl⟩;(have hw0:IntKind.i64.wrap ((q.length:Int)-1)=z0:=by simp[IntKind.wrap,IntKind.bits,IntKind.signed];omega);have HZ0:Hid (z0=(q.length:Int)-1):=hz0;clear hY hB hQ hq hWp hz0;gi_wp2;clear hw0 c0;gi_loopw [3] (fun v wr=>∃(j:Nat)(z:Int),j≤q.length∧v=.int .i64 z∧Hid (z=(q.length:Int)-1-j)∧Hid (J ((bkL q.length).take j) wr)∧Hid (HK wp.heap.size BQ W wr)) (fun v _=>(intOf v+1).toNat);case atStart=>exact⟨0,z0,Nat.zero_le _,rfl,by show _=_;rw[HZ0.out];simp,h0,HK.refl _ _ _⟩
 case round=>
  clear h0 HZ0;obtain⟨j,z,hj,rfl,HZ,HJ,HKK⟩:=hrel;by_cases hlt:j<q.length
  ·obtain⟨k,hk⟩:∃k:Nat,q.length=k+1+j:=⟨q.length-1-j,oM⟩;(have hzk:z=(k:Int):=by rw[HZ.out];omega);subst hzk;have hkq:k<q.length:=oM;have HTK:Hid _:=bkL_take hk;(have HYL:Hid (((bkL q.length).take j).length<q.length):=by show _<_;rw[List.length_take,bkL_length];omega);have hBp:Below wp.heap.size wp wr:=HW.out.trans HKK.out.1;obtain⟨b,off,rfl,p0,p1,p2,p3⟩:=steps_at HQ.out.1 k hkq;have HX:Hid (SvOk wp (svD q k)):=HQ.out.2 _ (svD_mem q k hkq);have hBr:=HKK.out.2 _ rfl HB.out;(have c0:wr.cell? ⟨BQ,0,none⟩=some (.slice (some ⟨b,off,none⟩) q.length cq):=by rw[Lib.cell_of_heap hBr];rfl);have q0:=cell_below hBp p0;have q1:=cell_below hBp p1;have q2:=cell_below hBp p2;have q3:=cell_below hBp p3;obtain⟨fn,tmps,assign,body,hy,hR9⟩:=HY.out _ k _ HJ.out hkq HYL.out;have g1:decide ((0:Int)≤(k:Int))=true:=decide_eq_true oM;obtain⟨z2,hz2⟩:∃z2:Int,z2=(k:Int)-1:=⟨_,rfl⟩;(have hw2:IntKind.i64.wrap ((k:Int)-1)=z2:=by simp[IntKind.wrap,IntKind.bits,IntKind.signed];omega);(have HZ2:Hid (z2=(q.length:Int)-1-((j+1:Nat):Int)):=by show _=_;rw[hz2];omega);(have hms:(z2+1).toNat<(k:Int).toNat+1:=by rw[hz2];omega);dsimp only[bkEnc,svVal]at hy;obtain⟨⟨_,⟨af,cf,hfv,_⟩⟩,_⟩:(True∧∃af cf,(svD q k).f=.slice af (svD q k).s.fact.args.length cf∧True)∧True:=⟨⟨trivial,by obtain⟨a,c,h,_⟩:=HX.out.1.1;exact⟨a,c,h,trivial⟩⟩,trivial⟩;(obtain⟨av,cv,hvv⟩:∃av cv,(svD q k).v=.slice av (svD q k).s.vars.length cv:=by obtain⟨a,c,h,_⟩:=HX.out.2.1;exact⟨a,c,h⟩);rw[hfv]at hy q1;rw[hvv]at hy q3;clear p0 p1 p2 p3 hBp hBr hfv hvv hk hz2 HX;generalize (svD q k).s.fact.pred=pd at *;generalize (svD q k).s.fact.args.length=na at *;generalize (svD q k).s.rule=rl at *;generalize (svD q k).s.vars.length=nv at *;gi_wp2;refine hR9.mono ?_;rintro e W3 (⟨rfl,hJ3,hk3⟩|⟨rfl,hJx3⟩)
   ·(have HJ3:Hid (J ((bkL q.length).take (j+1)) W3):=by rw[HTK.out];exact hJ3);have HK3:Hid (HK wp.heap.size BQ W W3):=HKK.out.trans hk3;clear hJ3 hk3 hy q0 q1 q2 q3 c0;gi_wp2;go_roundw;(case rel=>exact⟨j+1,z2,hlt,rfl,HZ2.out,HJ3.out,HK3.out⟩);case measure=>exact mI
   have HJ3:Hid _:=hJx3;clear hJx3 hy q0 q1 q2 q3 c0;gi_wp2;refine bodyPost_ret (results_none rfl _ _ _) rfl ?_;exact⟨⟨_,rfl⟩, .inr ⟨_,trivial,HJ3.out⟩⟩
  obtain rfl:j=q.length:=oM;(have hzk:z= -1:=by rw[HZ.out];omega);subst hzk;(have HJ3:Hid (J (bkL q.length) wr):=by have :=HJ.out;rw[List.take_of_length_le (by rw[bkL_length];omega)]at this;exact this);clear HJ;gi_wp2;go_end0;exact⟨⟨_,rfl⟩, .inl ⟨_,rfl,HJ3.out⟩⟩
end Go.Proofs.YthenjegmigeieaaGreat
namespace Go.Proofs
open Go.Shelf
def Tryz.reverseS_ren:Go.Shelf.Ren:=⟨fun |35=>137|n=>n,fun |22=>71|23=>80|3=>3|4=>4|0=>0|n=>n,fun |n=>n⟩
theorem Tryz.reverseS:Go.Proofs.SlLaysE0.n35 Tryz.prog Tryz.reverseS_ren:={
 mixed:=by kernel_rfl
 f35:=⟨Tryz.f137.name,by decide,Tryz.func137.trans (congrArg some (by kernel_rfl))⟩
 t0:=Tryz.underlying0
 a0:=Tryz.isAgg0
 z0:=Tryz.sizeOf0
 v0:=Tryz.zeroValue0
 t3:=Tryz.underlying3
 a3:=Tryz.isAgg3
 z3:=Tryz.sizeOf3
 v3:=Tryz.zeroValue3
 t4:=Tryz.underlying4
 a4:=Tryz.isAgg4
 z4:=Tryz.sizeOf4
 v4:=Tryz.zeroValue4
 t22:=Tryz.underlying71
 a22:=Tryz.isAgg71
 z22:=Tryz.sizeOf71
 v22:=Tryz.zeroValue71}
end Go.Proofs
namespace Go.Proofs.YthenjegmigeieaaGreat
open Go.Shelf Go.RowKit Go.Lib Go.Sort
abbrev C4:={c:List Value//c.length=4∧∀v,v∈c→v.oneCell'=true}
abbrev c4Inh:Inhabited C4:=⟨⟨[.int .i64 0, .int .i64 0, .int .i64 0, .int .i64 0],rfl,fun v hv=>by simp at hv;rw[hv];rfl⟩⟩
theorem c4_lift:∀(cs:List (List Value)),(∀c,c∈cs→c.length=4∧∀v,v∈c→v.oneCell'=true)→∃Q:List C4,Q.map (·.1)=cs
 |[],_=>⟨[],rfl⟩
 |c::cs,h=>by obtain⟨Q,hQ⟩:=c4_lift cs (fun d hd=>h d (List.mem_cons_of_mem _ hd));exact⟨⟨c,h c List.mem_cons_self⟩::Q,by rw[List.map_cons,hQ]⟩
theorem c4_len(Q:List C4):∀c,c∈Q.map (·.1)→c.length=4:=fun c hc=>by obtain⟨x,_,rfl⟩:=List.mem_map.mp hc;exact x.2.1
theorem c4_at(Q:List C4)(t:Nat)(ht:t<Q.length*4):∃x,Q[t/4]?=some x∧((Q.map (·.1)).flatten)[t]?=x.1[t% 4]?:=by
 have h1:t/4<Q.length:=oM;refine⟨Q[t/4],List.getElem?_eq_getElem h1,?_⟩;(have h2:t% 4<Q[t/4].1.length:=by rw[Q[t/4].2.1];omega);have :=flat_get 4 (Q.map (·.1)) (c4_len Q) (t/4) Q[t/4].1 (t% 4) _ (by rw[List.getElem?_map,List.getElem?_eq_getElem h1];rfl) (List.getElem?_eq_getElem h2);rw[List.getElem?_eq_getElem h2,←this]
 congr 1
 omega
theorem c4_flat(d:Array C4)(t:Nat)(ht:t<d.size*4):@flatK C4 c4Inh (·.1) 4 d=@flatK C4 c4Inh (·.1) 4 d∧some ((@flatK C4 c4Inh (·.1) 4 d)[t]!)=((d.toList.map (·.1)).flatten)[t]?:=by
 letI:Inhabited C4:=c4Inh
 refine⟨rfl,?_⟩;obtain⟨x,hx,hx2⟩:=c4_at d.toList t (by simpa using ht);rw[hx2,get_flatK (fun x:C4=>x.1) 4 d t ht];have h4:t/4<d.size:=oM;rw[Array.getElem?_toList,Array.getElem?_eq_getElem h4]at hx;(have hx3:d[t/4]=x:=by simpa using hx);(have h3:t% 4<x.1.length:=by rw[x.2.1];omega);rw[getElem!_pos d _ h4,hx3,List.getElem?_eq_getElem h3,getElem!_pos x.1 (t% 4) h3]
theorem c4_holds{w:World}{B g cap:Nat}{Q:List C4}(h:w.ownsRow B 80 4 (.slice (some ⟨g,0,none⟩) Q.length cap) Q.length ((Q.map (·.1)).flatten)):@HoldsK C4 c4Inh (·.1) 4 w g 0 Q.toArray:=by
 letI:Inhabited C4:=c4Inh
 intro t ht;(have ht2:t<Q.length*4:=by simpa using ht);refine⟨?_,by rw[Nat.zero_add];exact World.ownsRow.frozenAt h t⟩;have hc:=World.ownsRow.cellAt h t ht2;rw[Nat.zero_add,hc];exact(c4_flat Q.toArray t (by simpa using ht2)).2.symm
theorem c4_put{w:World}{B g cap n:Nat}{Q:List C4}{d:Array C4}(h:w.ownsRow B 80 4 (.slice (some ⟨g,0,none⟩) Q.length cap) Q.length ((Q.map (·.1)).flatten))(hd:d.size=Q.length):
 (@putRowK C4 c4Inh (·.1) 4 (Sort.ahead w n) g 0 d).ownsRow B 80 4 (.slice (some ⟨g,0,none⟩) Q.length cap) Q.length ((d.toList.map (·.1)).flatten):=by
 letI:Inhabited C4:=c4Inh
 obtain⟨h1,h2⟩:=h;rcases h2 with⟨h2,_⟩|⟨g',cap',cur,hv,hb,hh,hc1,hc2,hc3,hc4⟩
 ·cases h2
 injection hv with e1 _ e3;injection e1 with e1;injection e1 with e1;subst e1 e3;(have hl:d.toList.length=Q.length:=by rw[Array.length_toList,hd]);(have hfl:((d.toList.map (·.1)).flatten).length=Q.length*4:=by rw[flat_length 4 _ (c4_len d.toList),List.length_map,hl]);refine⟨hfl, .inr ⟨g,cap,putCells id 0 (flatK (fun x:C4=>x.1) 4 d) cur,rfl,hb,?_,hc1,hc2,by simpa[putCells]using hc3,?_⟩⟩
 ·unfold putRowK putRow mapBlock Sort.ahead;show(w.heap.modify g _)[g]?=_;rw[Array.getElem?_modify,if_pos rfl,hh];rfl
 apply List.ext_getElem?;intro t;rw[List.getElem?_take,Array.getElem?_toList];by_cases ht:t<Q.length*4
 ·rw[if_pos ht];(have hcs:t<cur.size:=by rw[hc3];omega);unfold putCells;rw[Array.getElem?_mapIdx,Array.getElem?_eq_getElem hcs,Option.map_some,if_pos (by rw[size_flatK,hd];omega),Nat.sub_zero];exact(c4_flat d t oM).2
 rw[if_neg ht,List.getElem?_eq_none];omega
theorem reverseS_any(q:List Sv)(B:Nat)(v:Value)(w:World)(h:w.ownsRow B 80 4 v q.length (q.map svCells).flatten)(h1:∀u,u∈(q.map svCells).flatten→u.oneCell'=true)(hl:q.length≤9223372036854775807):
 Calls Tryz.prog 137 #[v] w fun e w'=>e=.returned (.tuple #[])∧w'.ownsRow B 80 4 v q.reverse.length (q.reverse.map svCells).flatten∧Below B w w'∧∀(k:Nat)(o:Obj),w.heap[k]?=some o→(∀c,¬o=.cells c 80)→w'.heap[k]?=some o:=by
 letI:Inhabited C4:=c4Inh
 rcases ownsRow_forms9 h with⟨hv,h0⟩|⟨g,cap,hv⟩
 ·have hq:q=[]:=List.eq_nil_of_length_eq_zero h0;subst hq hv;refine(AnyQ.slices_Reverse_empty Tryz.reverseS none 0 w).mono ?_;rintro e w' ⟨rfl,rfl⟩;exact⟨rfl,h,Below.refl _ _,fun _ _ h _=>h⟩
 subst hv;obtain⟨Q,hQ⟩:=c4_lift (q.map svCells) (fun c hc=>by
  refine⟨?_,fun v hv=>h1 v (List.mem_flatten.mpr ⟨c,hc,hv⟩)⟩;obtain⟨x,_,rfl⟩:=List.mem_map.mp hc
  rfl)
 (have hlen:Q.length=q.length:=by have :=congrArg List.length hQ;simpa using this);(have hr:w.ownsRow B 80 4 (.slice (some ⟨g,0,none⟩) Q.length cap) Q.length ((Q.map (·.1)).flatten):=by rw[hQ,hlen];exact h);have hc:=AnyQ.slices_Reverse Tryz.reverseS 4 Tryz.isAgg80 Tryz.sizeOf80 (fun x:C4=>x.1) (fun x=>x.2.1) (fun x=>x.2.2) g 0 cap Q.toArray w (c4_holds hr) (by simpa[hlen]using hl);rw[←hlen];refine Calls.mono (show Calls Tryz.prog 137 #[.slice (some ⟨g,0,none⟩) Q.length cap] w _ from hc) ?_;rintro e w' ⟨rfl,n,rfl⟩;have hg:=World.ownsRow.lt hr g rfl;have hp:=c4_put (n:=n) (d:=Q.toArray.reverse) hr sI;(have hq2:Q.toArray.reverse.toList.map (·.1)=q.reverse.map svCells:=by rw[Array.toList_reverse,List.map_reverse,hQ,List.map_reverse]);rw[hq2]at hp;(have hb:∀k,¬k=g→(putRowK (fun x:C4=>x.1) 4 (Sort.ahead w n) g 0 Q.toArray.reverse).heap[k]?=w.heap[k]?:=fun k hk=>by unfold putRowK putRow mapBlock Sort.ahead;show(w.heap.modify g _)[k]?=_;rw[Array.getElem?_modify,if_neg (fun e=>hk e.symm)]);refine⟨rfl,by rw[List.length_reverse,←hlen];exact hp,⟨rfl,rfl,rfl,?_,fun k hk=>hb k oM⟩,fun k o hk ht=>(hb k fun e=>?_).trans hk⟩
 ·unfold putRowK putRow mapBlock Sort.ahead;show _≤(w.heap.modify g _).size;simp
 subst e;rcases hr.2 with⟨h2,_⟩|⟨g',cap',cur,hv,_,hh,_⟩
 ·cases h2
 injection hv with e1 _ _;injection e1 with e1;injection e1 with e1;subst e1;rw[hk]at hh;injection hh with hh;exact ht cur hh
end Go.Proofs.YthenjegmigeieaaGreat
namespace Go.Proofs.YthenjegmigeieaaGreat
open Go.RowKit
theorem wy_e83:∀args w,(callFunc 83 args).run Tryz.prog w=.ok (.enter 83 args) w:=enters_of Tryz.func83 kR rfl
theorem wy_e136:∀args w,(callFunc 136 args).run Tryz.prog w=.ok (.enter 136 args) w:=enters_of Tryz.func136 kR rfl
theorem isSame_any(w:World)(SB:Nat)(p':Int)(as':List Int)(rl':Int)(vs':List Int)(bf:Option Addr)(df:Nat)(bv:Option Addr)(dv:Nat)(hB:w.heap[SB]?=some (.cells #[.int .i64 p', .slice bf as'.length df, .int .i64 rl', .slice bv vs'.length dv] 80))(hy:SvOk w ⟨⟨⟨p',as'⟩,rl',vs'⟩, .slice bf as'.length df, .slice bv vs'.length dv⟩)
 (z:World) (p:Int) (as_:List Int) (rl:Int) (vs:List Int) (af:Option Addr) (cf:Nat) (av:Option Addr) (cv:Nat) (hz:Below w.heap.size w z) (hx:SvOk z ⟨⟨⟨p,as_⟩,rl,vs⟩, .slice af as_.length cf, .slice av vs.length cv⟩) (hl:vs.length≤1000000):
 Calls Tryz.prog 83 #[.agg #[.int .i64 p, .slice af as_.length cf, .int .i64 rl, .slice av vs.length cv], .pointer (some ⟨SB,0,none⟩)] z fun e w'=>e=.returned (.bool (Wy.same ⟨⟨p,as_⟩,rl,vs⟩ ⟨⟨p',as'⟩,rl',vs'⟩))∧Below z.heap.size z w':=by
 have hBz:=(hz.block SB (heap_lt hB)).trans hB;have hba:=new_below z (.cells #[.int .i64 p, .slice af as_.length cf, .int .i64 rl, .slice av vs.length cv] 80);have hBa:=(hba.block SB (heap_lt hBz)).trans hBz;have hGa:=heap_alloc_new z (.cells #[.int .i64 p, .slice af as_.length cf, .int .i64 rl, .slice av vs.length cv] 80);have HC:Hid _:=sameS_any p as_ rl vs af cf av cv p' as' rl' vs' bf df bv dv _ (hx.below hba) ((hy.below hz).below hba) hl;have HB:Hid _:=hba;clear hBz hz hba hx hy;generalize hz1:z.alloc (.cells #[.int .i64 p, .slice af as_.length cf, .int .i64 rl, .slice av vs.length cv] 80)=z1 at *;(have c0:z1.cell? ⟨SB,0,none⟩=some (.int .i64 p'):=by rw[Lib.cell_of_heap hBa];rfl);(have c1:z1.cell? ⟨SB,1,none⟩=some (.slice bf as'.length df):=by rw[Lib.cell_of_heap hBa];rfl);(have c2:z1.cell? ⟨SB,2,none⟩=some (.int .i64 rl'):=by rw[Lib.cell_of_heap hBa];rfl);(have c3:z1.cell? ⟨SB,3,none⟩=some (.slice bv vs'.length dv):=by rw[Lib.cell_of_heap hBa];rfl);(have d0:z1.cell? ⟨z.heap.size,0,none⟩=some (.int .i64 p):=by rw[Lib.cell_of_heap hGa];rfl);(have d1:z1.cell? ⟨z.heap.size,1,none⟩=some (.slice af as_.length cf):=by rw[Lib.cell_of_heap hGa];rfl);(have d2:z1.cell? ⟨z.heap.size,2,none⟩=some (.int .i64 rl):=by rw[Lib.cell_of_heap hGa];rfl);(have d3:z1.cell? ⟨z.heap.size,3,none⟩=some (.slice av vs.length cv):=by rw[Lib.cell_of_heap hGa];rfl);clear hBa hGa
 go_enter Tryz.func83,Tryz.ntmps83
 go_upto_region 1 with fail;clear hz1;go_wp2_with fail;refine Calls.mono HC.out ?_;rintro e w1 ⟨rfl,hg⟩;have HB2:Hid (Below z.heap.size z w1):=HB.out.trans (hg.mono HB.out.size);obtain⟨t,ht⟩:∃t,Wy.same ⟨⟨p,as_⟩,rl,vs⟩ ⟨⟨p',as'⟩,rl',vs'⟩=t:=⟨_,rfl⟩;rw[ht];have HT:Hid _:=ht;clear ht;clear HC c0 c1 c2 c3 d0 d1 d2 d3 hg;go_wp2_with fail;go_ret;exact⟨by rw[HT.out];rfl,HB2.out⟩
theorem wants_any(w:World)(SB:Nat)(p':Int)(as':List Int)(rl':Int)(vs':List Int)(bf:Option Addr)(df:Nat)(bv:Option Addr)(dv:Nat)(hB:w.heap[SB]?=some (.cells #[.int .i64 p', .slice bf as'.length df, .int .i64 rl', .slice bv vs'.length dv] 80))(hy:SvOk w ⟨⟨⟨p',as'⟩,rl',vs'⟩, .slice bf as'.length df, .slice bv vs'.length dv⟩):
 Keeps1 136 #[.pointer (some ⟨SB,0,none⟩)] w (fun f=>Wy.isOf ⟨⟨p',as'⟩,rl',vs'⟩ f):=by
 intro z f ao cap hz hIf hFf;show Calls Tryz.prog 136 #[.agg #[.int .i64 f.pred, .slice ao f.args.length cap], .pointer (some ⟨SB,0,none⟩)] z _;have hBz:=(hz.block SB (heap_lt hB)).trans hB;have hba:=new_below z (.cells #[.int .i64 f.pred, .slice ao f.args.length cap] 55);have hBa:=(hba.block SB (heap_lt hBz)).trans hBz;have hGa:=heap_alloc_new z (.cells #[.int .i64 f.pred, .slice ao f.args.length cap] 55);have HC:Hid _:=isOf_any _ f _ _ ((hy.below hz).below hba) (intsV_below hIf hba) hFf;have HB:Hid _:=hba;clear hBz hz hba hIf hFf hy;generalize hz1:z.alloc (.cells #[.int .i64 f.pred, .slice ao f.args.length cap] 55)=z1 at *;(have c0:z1.cell? ⟨SB,0,none⟩=some (.int .i64 p'):=by rw[Lib.cell_of_heap hBa];rfl);(have c1:z1.cell? ⟨SB,1,none⟩=some (.slice bf as'.length df):=by rw[Lib.cell_of_heap hBa];rfl);(have c2:z1.cell? ⟨SB,2,none⟩=some (.int .i64 rl'):=by rw[Lib.cell_of_heap hBa];rfl);(have c3:z1.cell? ⟨SB,3,none⟩=some (.slice bv vs'.length dv):=by rw[Lib.cell_of_heap hBa];rfl);(have d0:z1.cell? ⟨z.heap.size,0,none⟩=some (.int .i64 f.pred):=by rw[Lib.cell_of_heap hGa];rfl);(have d1:z1.cell? ⟨z.heap.size,1,none⟩=some (.slice ao f.args.length cap):=by rw[Lib.cell_of_heap hGa];rfl);clear hBa hGa
 go_enter Tryz.func136,Tryz.ntmps136
 go_upto_region 1 with fail;clear hz1;go_wp2_with fail;refine Calls.mono HC.out ?_;rintro e w1 ⟨rfl,hg⟩;have HB2:Hid (Below z.heap.size z w1):=HB.out.trans (hg.mono HB.out.size);dsimp only;obtain⟨t,ht⟩:∃t,Wy.isOf ⟨⟨p',as'⟩,rl',vs'⟩ f=t:=⟨_,rfl⟩;rw[ht];have HT:Hid _:=ht;clear ht;clear HC c0 c1 c2 c3 d0 d1 hg;go_wp2_with fail;go_ret;exact⟨by rw[HT.out];rfl,HB2.out⟩
end Go.Proofs.YthenjegmigeieaaGreat
namespace Go.Proofs.YthenjegmigeieaaGreat
open Go.RowKit Go.Shelf
attribute [local go_sem] Oper.semAt_some
namespace Wy
def kStep(p:Sc.Prog)(a:List Step×List Rl.Fc)(s:Step):List Step×List Rl.Fc:=if a.2.any (isOf s)then(a.1++[s],a.2++needs p s)else a
theorem kFold(p:Sc.Prog):∀(R:List Step)(K:List Step)(W:List Rl.Fc),(R.foldl (kStep p) (K,W)).1=K++keepB p R W
 |[],K,W=>by rw[List.foldl_nil];unfold keepB;rw[List.append_nil]
 |s::R,K,W=>by
  rw[List.foldl_cons];by_cases h:W.any (isOf s)=true
  ·rw[show kStep p (K,W) s=(K++[s],W++needs p s)from if_pos h,show keepB p (s::R) W=s::keepB p R (W++needs p s)from if_pos h,kFold p R,List.append_assoc];rfl
  rw[show kStep p (K,W) s=(K,W)from if_neg h,show keepB p (s::R) W=keepB p R W from if_neg h];exact kFold p R K W
end Wy
theorem bkL_map(q:List Sv):(bkL q.length).map (fun i=>(svD q i).s)=(q.map (·.s)).reverse:=by
 unfold bkL;rw[List.map_reverse]
 congr 1
 apply List.ext_getElem?;intro i;rw[List.getElem?_map,List.getElem?_map];by_cases h:i<q.length
 ·rw[List.getElem?_range h,svD_get q i h];rfl
 rw[List.getElem?_eq_none (by rw[List.length_range];omega),List.getElem?_eq_none oM];rfl
theorem rowF_toV{B:Nat}{w:World}{v:Value}{q:List Fv}(h2:w.ownsRow B 55 2 v q.length (q.map fcCells).flatten)(h3:∀y,y∈q→IntsV w y.2 y.1.args):FactsV w v (q.map (·.1)):=by
 rcases ownsRow_forms9 h2 with⟨hv,h0⟩|⟨g,cap,hv⟩
 ·have hq:q=[]:=List.eq_nil_of_length_eq_zero h0;subst hq;exact⟨none,0,hv,⟨Nat.le_refl _,fun _=>rfl⟩, .inl rfl⟩
 subst hv;have hc:q.length≤cap:=by
  rcases h2.2 with⟨hv,_⟩|⟨_,_,_,hv,_,_,hc1,_⟩
  ·cases hv
  injection hv with _ _ e3;omega
 refine⟨_,cap,by rw[List.length_map],⟨by rw[List.length_map];exact hc,fun h=>by cases h⟩, .inr ⟨g,0,rfl,fun i hi=>?_⟩⟩;rw[List.length_map]at hi;have hq:q[i]?=some q[i]:=List.getElem?_eq_getElem hi;(have hd:Rl.factD (q.map (·.1)) i=q[i].1:=by simp[Rl.factD,hi]);obtain⟨c0,c1⟩:=FRow.cell h2 hq;rw[Nat.zero_add,hd];exact⟨c0,q[i].2,c1,h3 _ (List.getElem_mem hi)⟩
theorem box_other{W w1:World}{B:Nat}{v v':Value}{tmp:Obj}(hgrow:(W.alloc tmp).grownBy w1 v.ownBlock)(j:Nat)(o:Obj)(ho:W.heap[j]?=some o)(hne:¬v.ownBlock=some j)(hj:¬j=B):
 (w1.setCell ⟨B,0,none⟩ v').heap[j]?=some o:=by
 have hba:=new_below W tmp;exact(Below.heap_setCell _ _ _ _ hj).trans ((hgrow.block j (Nat.lt_of_lt_of_le (heap_lt ho) hba.size) (fun e'=>hne e'.symm)).trans ((hba.block j (heap_lt ho)).trans ho))
theorem own_not{W:World}{n0:Nat}{e:TypeId}{size:Nat}{v:Value}{k:Nat}{xs:List Value}(hrow:W.ownsRow n0 e size v k xs){j:Nat}{o:Obj}(ho:W.heap[j]?=some o)(hne:∀c,¬o=.cells c e):¬v.ownBlock=some j:=fun e'=>by
 rcases hrow.2 with⟨h2,_⟩|⟨g,cap,cur,hv,_,hh,_⟩
 ·rw[h2]at e';cases e'
 rw[hv]at e';(obtain rfl:g=j:=by simpa[Value.ownBlock]using e');rw[ho]at hh;injection hh with hh;exact hne cur hh
theorem box_append{W w1:World}{n0 B:Nat}{e:TypeId}{size:Nat}{v v':Value}{k:Nat}{xs:List Value}{tmp:Obj}(hrow:W.ownsRow n0 e size v k xs)(hgrow:(W.alloc tmp).grownBy w1 v.ownBlock)(j:Nat)(o:Obj)(ho:W.heap[j]?=some o)(hne:∀c,¬o=.cells c e)(hj:¬j=B):
 (w1.setCell ⟨B,0,none⟩ v').heap[j]?=some o:=box_other hgrow j o ho (own_not hrow ho hne) hj
theorem hk_below{n0 R:Nat}{W W':World}(hn:n0≤W.heap.size)(h:Below W.heap.size W W'):HK n0 R W W':=(HN.of_below hn h (PB:=R) (SB:=R)).1
theorem hk_grown{n0 R B:Nat}{W Z Z':World}{row:Option Nat}(h:HK n0 R W Z)(hB:n0≤B)(hn:n0≤Z.heap.size)(hg:Z.grownBy Z' row)(hr:∀r,row=some r→B≤r∧∃o:Obj,Z.heap[r]?=some o∧o.isCells=false):HK n0 R W Z':=
 h.trans ⟨⟨hg.os,hg.tape,hg.output,hg.size,fun k hk=>hg.block k oM (fun e=>by have :=(hr k e.symm).1;omega)⟩,fun o ho hR=>(hg.block R (heap_lt hR) (fun e=>by obtain⟨_,o',h1,h2⟩:=hr R e.symm;rw[hR]at h1;cases h1;rw[ho]at h2;cases h2)).trans hR⟩
theorem keepsF_below{B:Nat}{W W':World}(h:Below W.heap.size W W'):KeepsFrom B W W':=KeepsFrom.of_grownBy (grownBy_of_below h none) (fun _ e=>by cases e)
structure NdS (w:World) (PB KB WB:Nat) (PV:Array Value) (ks:List Sv) (ws:List Fv) (W:World):Prop where
 below:Below w.heap.size w W
 pb:W.heap[PB]?=some (.cells PV 26)
 kb:∃kv,Boxed W KB 71 kv∧W.ownsRow w.heap.size 80 4 kv ks.length (ks.map svCells).flatten
 wb:∃wv,Boxed W WB 27 wv∧W.ownsRow w.heap.size 55 2 wv ws.length (ws.map fcCells).flatten
 wo:∀y,y∈ws→FFit y.1∧(IntsV w y.2 y.1.args∨W.ownsRow 0 3 1 y.2 y.1.args.length (y.1.args.map (Value.int .i64)))
section
variable {w W W':World} {PB KB WB:Nat} {PV:Array Value} {ks:List Sv} {ws:List Fv}
theorem NdS.ints(h:NdS w PB KB WB PV ks ws W){y:Fv}(hy:y∈ws):IntsV W y.2 y.1.args:=(h.wo y hy).2.elim (fun h1=>intsV_below h1 h.below) rl_ints_own
theorem NdS.keep(h:NdS w PB KB WB PV ks ws W)(hb:Below w.heap.size W W')(hk:∀(j:Nat)(o:Obj),W.heap[j]?=some o→o.isCells=true→W'.heap[j]?=some o):NdS w PB KB WB PV ks ws W' where
 below:=h.below.trans hb
 pb:=hk _ _ h.pb rfl
 kb:=by obtain⟨v,h1,h2⟩:=h.kb;exact⟨v,hk _ _ h1 rfl,own_type h2 fun j a ha=>hk _ _ ha rfl⟩
 wb:=by obtain⟨v,h1,h2⟩:=h.wb;exact⟨v,hk _ _ h1 rfl,own_type h2 fun j a ha=>hk _ _ ha rfl⟩
 wo:=fun y hy=>⟨(h.wo y hy).1,(h.wo y hy).2.imp (fun h=>h) fun h2=>own_type h2 fun j a ha=>hk _ _ ha rfl⟩
theorem NdS.later(h:NdS w PB KB WB PV ks ws W)(hb:Below W.heap.size W W'):NdS w PB KB WB PV ks ws W':=
 h.keep (hb.mono h.below.size) fun j _ ho _=>(hb.block j (heap_lt ho)).trans ho
theorem NdS.grown(h:NdS w PB KB WB PV ks ws W){row:Option Nat}{B:Nat}(hB:w.heap.size≤B)(hg:W.grownBy W' row)(hr:∀r,row=some r→B≤r∧∃o:Obj,W.heap[r]?=some o∧o.isCells=false):NdS w PB KB WB PV ks ws W':=
 h.keep ⟨hg.os,hg.tape,hg.output,hg.size,fun k hk=>hg.block k (by have :=h.below.size;omega) (fun e=>by have :=(hr k e.symm).1;omega)⟩ fun j o ho hc=>(hg.block j (heap_lt ho) (fun e=>by obtain⟨_,o',h1,h2⟩:=hr j e.symm;rw[ho]at h1;cases h1;rw[hc]at h2;cases h2)).trans ho
theorem NdS.kept{w1:World}{kv v':Value}{x:Sv}{tmp:Obj}(h:NdS w PB KB WB PV ks ws W)(hKB:w.heap.size≤KB)(hv:Boxed W KB 71 kv)(hr:W.ownsRow w.heap.size 80 4 kv ks.length (ks.map svCells).flatten)
 (hown':w1.ownsRow w.heap.size 80 4 v' (ks.length+1) ((ks.map svCells).flatten++svCells x)) (hgrow:(W.alloc tmp).grownBy w1 kv.ownBlock):
 NdS w PB KB WB PV (ks++[x]) ws (w1.setCell ⟨KB,0,none⟩ v')∧KeepsOthers W (w1.setCell ⟨KB,0,none⟩ v')∧Boxed w1 KB 71 kv:=by
 obtain⟨h1,h2,h3,h4,h5⟩:=hv.appended dE hr h.below.size hKB hown' hgrow;have kp:∀(j:Nat)(c:Array Value)(t:TypeId),¬t=80→¬t=71→W.heap[j]?=some (.cells c t)→(w1.setCell ⟨KB,0,none⟩ v').heap[j]?=some (.cells c t):=fun j c t ht1 ht2 hj=>box_append hr hgrow j _ hj (fun c' e=>by injection e with _ e;exact ht1 e) (fun e=>by rw[e]at hj;rw[show W.heap[KB]?=_ from hv]at hj;injection hj with hj;injection hj with _ e;exact ht2 e.symm);refine⟨⟨h.below.trans h5,kp _ _ _ dE dE h.pb,⟨v',h2,?_⟩,?_,fun y hy=>⟨(h.wo y hy).1,(h.wo y hy).2.imp (fun h=>h) fun h2=>own_type h2 fun j a ha=>kp j a 3 dE dE ha⟩⟩,h4,h1⟩
 ·rw[List.length_append,List.map_append,List.flatten_append];simpa using h3
 obtain⟨wv,b1,b2⟩:=h.wb;exact⟨wv,kp _ _ _ dE dE b1,own_type b2 fun j a ha=>kp j a 55 dE dE ha⟩
theorem NdS.want{w1:World}{wv v':Value}{y:Fv}{tmp:Obj}(h:NdS w PB KB WB PV ks ws W)(hWB:w.heap.size≤WB)(hv:Boxed W WB 27 wv)(hr:W.ownsRow w.heap.size 55 2 wv ws.length (ws.map fcCells).flatten)
 (hown':w1.ownsRow w.heap.size 55 2 v' (ws.length+1) ((ws.map fcCells).flatten++fcCells y)) (hgrow:(W.alloc tmp).grownBy w1 wv.ownBlock) (hy:FFit y.1∧W.ownsRow 0 3 1 y.2 y.1.args.length (y.1.args.map (Value.int .i64))):
 NdS w PB KB WB PV ks (ws++[y]) (w1.setCell ⟨WB,0,none⟩ v')∧KeepsOthers W (w1.setCell ⟨WB,0,none⟩ v')∧Boxed w1 WB 27 wv:=by
 obtain⟨h1,h2,h3,h4,h5⟩:=hv.appended dE hr h.below.size hWB hown' hgrow;have kp:∀(j:Nat)(c:Array Value)(t:TypeId),¬t=55→¬t=27→W.heap[j]?=some (.cells c t)→(w1.setCell ⟨WB,0,none⟩ v').heap[j]?=some (.cells c t):=fun j c t ht1 ht2 hj=>box_append hr hgrow j _ hj (fun c' e=>by injection e with _ e;exact ht1 e) (fun e=>by rw[e]at hj;rw[show W.heap[WB]?=_ from hv]at hj;injection hj with hj;injection hj with _ e;exact ht2 e.symm);refine⟨⟨h.below.trans h5,kp _ _ _ dE dE h.pb,?_,⟨v',h2,?_⟩,fun z hz=>?_⟩,h4,h1⟩
 ·obtain⟨kv,b1,b2⟩:=h.kb;exact⟨kv,kp _ _ _ dE dE b1,own_type b2 fun j a ha=>kp j a 80 dE dE ha⟩
 ·rw[List.length_append,List.map_append,List.flatten_append];simpa using h3
 have h3':∀{u:Fv},W.ownsRow 0 3 1 u.2 u.1.args.length (u.1.args.map (Value.int .i64))→(w1.setCell ⟨WB,0,none⟩ v').ownsRow 0 3 1 u.2 u.1.args.length (u.1.args.map (Value.int .i64)):=fun hu=>own_type hu fun j a ha=>kp j a 3 dE dE ha;rcases List.mem_append.mp hz with hz|hz
 ·exact⟨(h.wo z hz).1,(h.wo z hz).2.imp (fun h=>h) h3'⟩
 rcases List.mem_singleton.mp hz with rfl;exact⟨hy.1, .inr (h3' hy.2)⟩
end
theorem back_make(n:Nat)(a:Option Addr)(m c:Nat)(w:World):
 CallsIn Fence.wide n Tryz.prog 134 #[.slice a m c] w fun e w'=>e=.returned (.func (.func 178) #[] #[.pointer (some ⟨w.heap.size,0,none⟩)])∧w'=w.alloc (.cells #[.slice a m c] 71):=by
 have hmf:∀(fn:Fn)(first cap:Array Value)(w:World),(Instr.makeFunc fn first cap).run Tryz.prog w=.ok (.func fn first cap) w:=fun _ _ _ _=>rfl;refine callsIn_of_wp Tryz.func134 rfl trivial ?_ rfl;simp only[Tryz.ntmps134,List.size_toArray,List.length_cons,List.length_nil,Nat.reduceAdd,Nat.reduceSub,Array.replicate_succ,Array.replicate_zero,List.push_toArray,List.append_toArray,List.nil_append,List.cons_append];gi_wp2;go_ret;exact⟨rfl,rfl⟩
theorem own_lit(w:World)(B:Nat)(hB:B≤w.heap.size)(p:Int)(u:Value):(w.alloc (.cells #[.int .i64 p,u] 55)).ownsRow B 55 2 (.slice (some ⟨w.heap.size,0,none⟩) 1 1) 1 [.int .i64 p,u]:=
 ⟨rfl, .inr ⟨w.heap.size,1,#[.int .i64 p,u],rfl,hB,heap_alloc_new w _,Nat.le_refl _,by unfold maxLen;omega,rfl,rfl⟩⟩
theorem below_both{n:Nat}{w A B:World}(h1:Below n w A)(h2:Below n w B)(hs:A.heap.size≤B.heap.size):Below n A B:=⟨h2.os.trans h1.os.symm,h2.tape.trans h1.tape.symm,h2.output.trans h1.output.symm,hs,fun k hk=>(h2.block k hk).trans (h1.block k hk).symm⟩
abbrev faV(y:Fa):Fv:=(y.1, .slice y.2.1 y.1.args.length y.2.2)
theorem Wy.needs_len{p:Sc.Prog}{s:Wy.Step}(h:Wy.StepFit p s):(Wy.needs p s).length≤60:=by
 unfold Wy.needs;split
 ·simp
 rename_i hn;rw[←Wy.needK_all];exact Nat.le_trans (Wy.needK_len _ _ _) (h.len fun e=>hn (.inl e))
end Go.Proofs.YthenjegmigeieaaGreat
