/- Own texts, one behind the other (part 6). -/
import Derived.Test.YthenjegmigeieaaGreatBundleE
import Derived.Test.YthenjegmigeieaaGreatRows
import Derived.Laws.AppendOwnNone
import Derived.Lib.AppendZeros
set_option maxRecDepth 100000
set_option maxHeartbeats 8000000
namespace Go.Proofs.YthenjegmigeieaaGreat
open Go.RowKit
section
variable {P:Program} {ops:Array Oper} {Q:Exit→Act→World→Prop} {i:Nat} {o:Oper} {K:Act→World→Prop} {a:Act} {w:World}
theorem oL{f:FuncId}{args:Array Value}(ho:ops[i]?=some o)(hw:Region.wanted o (yielded ops a.tmps)=true)(hr:(execOp a.eval o).run P w=.ok (.enter f args) w)
 (hc:Calls P f args w fun e w'=>∃v,e=.returned v∧K (a.put o.dst v) w'):wpOp P ops Q i K a w:=by
 unfold wpOp;rw[ho];dsimp only;rw[if_pos hw];left;unfold Oper.wp;rw[hr,Oper.upon_enter];refine Calls.mono hc ?_;rintro e w' ⟨v,rfl,h⟩;exact h
end
def hold5FV(X:Nat)(vf vt:Value)(pd:Int)(y:Ru.Way)(hh:Nat)(cb:Array Value)(tQ:Nat)(vQ:Value):Prop:=
 match tQ with
 |23=>vQ=(vf:Value)
 |24=>vQ=(.pointer (some ⟨X,2,none⟩):Value)
 |25=>vQ=(.int .i64 pd:Value)
 |26=>vQ=(.pointer (some ⟨X,3,none⟩):Value)
 |27=>vQ=(vt:Value)
 |28=>vQ=(.pointer (some ⟨X+1,0,none⟩):Value)
 |29=>vQ=(.slice (some ⟨X+1,0,none⟩) 8 8:Value)
 |31=>vQ=(.bool false:Value)
 |32=>vQ=(.bool false:Value)
 |33=>vQ=(.func (.func hh) #[] cb:Value)
 |34=>vQ=(wayVal y:Value)
 |_=>True
def hold5FT(X:Nat)(vf vt:Value)(pd:Int)(xs:List Int)(y:Ru.Way)(hh:Nat)(cb:Array Value)(tQ:Nat)(vQ:Value)(WQ:World):Prop:=if tQ=30 then∃u,vQ=.agg #[.int .i64 pd,u]∧IntsV WQ u xs else hold5FV X vf vt pd y hh cb tQ vQ
theorem wJ(X:Nat)(vf vt:Value)(pd:Int)(xs:List Int)(y:Ru.Way)(hh:Nat)(cb:Array Value)(tQ:Nat)(vQ:Value)(W W':World)(hb:Below W.heap.size W W')(h:hold5FT X vf vt pd xs y hh cb tQ vQ W):hold5FT X vf vt pd xs y hh cb tQ vQ W':=by
 unfold hold5FT at h ⊢;by_cases ht:tQ=30
 ·rw[if_pos ht]at h ⊢;obtain⟨u,h1,h2⟩:=h;exact⟨u,h1,aK h2 hb⟩
 rw[if_neg ht]at h ⊢;exact h
def hold5TV(X:Nat)(vf vt:Value)(pd:Int)(tQ:Nat)(vQ:Value):Prop:=
 match tQ with
 |23=>vQ=(vf:Value)
 |24=>vQ=(.pointer (some ⟨X,2,none⟩):Value)
 |25=>vQ=(.int .i64 pd:Value)
 |26=>vQ=(.pointer (some ⟨X,3,none⟩):Value)
 |27=>vQ=(vt:Value)
 |28=>vQ=(.pointer (some ⟨X+1,0,none⟩):Value)
 |29=>vQ=(.slice (some ⟨X+1,0,none⟩) 8 8:Value)
 |31=>vQ=(.bool true:Value)
 |32=>vQ=(.bool true:Value)
 |33=>vQ=undef
 |34=>vQ=undef
 |35=>vQ=undef
 |36=>vQ=.bool true
 |8=>vQ=.bool true
 |_=>True
def hold5TT(X:Nat)(vf vt:Value)(pd:Int)(xs:List Int)(tQ:Nat)(vQ:Value)(WQ:World):Prop:=if tQ=30 then∃u,vQ=.agg #[.int .i64 pd,u]∧IntsV WQ u xs else hold5TV X vf vt pd tQ vQ
theorem wI(X:Nat)(vf vt:Value)(pd:Int)(xs:List Int)(tQ:Nat)(vQ:Value)(W W':World)(hb:Below W.heap.size W W')(h:hold5TT X vf vt pd xs tQ vQ W):hold5TT X vf vt pd xs tQ vQ W':=by
 unfold hold5TT at h ⊢;by_cases ht:tQ=30
 ·rw[if_pos ht]at h ⊢;obtain⟨u,h1,h2⟩:=h;exact⟨u,h1,aK h2 hb⟩
 rw[if_neg ht]at h ⊢;exact h
theorem aBz{σ:Type}{step:σ→Ru.Way→σ×Bool}{live:σ→Ru.Way→Prop}{I:σ→World→Prop}{NB hh:Nat}{cb:Array Value}(facts:List Rl.Fc)(l:Sc.Lit)(y:Ru.Way)(vf vt:Value)(w0 w:World)(s:σ)
 (hB0:Below w0.heap.size w0 w) (hF:FactsV w0 vf facts) (hFl:facts.length≤1000000) (hFF:∀f,f∈facts→FFit f) (hT:PTermsV w0 vt l.terms) (hTI:Ru.TermsIn 8 l.terms) (hTl:l.terms.length≤1000) (hy:Ru.Wf 8 y) (hk:l.kind=2)
 (TL:Tell w0.heap.size NB hh cb step live I) (he:∀args w,(callFunc hh args).run Tryz.prog w=.ok (.enter hh args) w) (hI:I s w) (hLv:Ru.Lv step live s (Ru.on facts l y)):
 Calls Tryz.prog 145 #[vf,plitVal l vt,wayVal y, .func (.func hh) #[] cb] w fun e w'=>e=.returned (.bool (Ru.run step s (Ru.on facts l y)).2)∧I (Ru.run step s (Ru.on facts l y)).1 w'∧Kp w0.heap.size NB w w':=by
 have HT:Hid _:=hT;obtain⟨at_,ct,rfl,_⟩:=id hT;obtain⟨kd,op,pd,ts⟩:=l;dsimp only at *;subst hk;(have hon:Ru.on facts ⟨2,op,pd,ts⟩ y=if Rl.has facts ⟨pd,Ru.fill ts y.nums⟩=true then [] else [y]:=by unfold Ru.on;rfl);generalize hLL:Ru.on facts ⟨2,op,pd,ts⟩ y=LL at *;have HON:Hid _:=hon;clear hon hLL;obtain⟨h0,h1,hb⟩:=lI w (.cells #[.int .i64 2, .int .i64 op, .int .i64 pd, .slice at_ ts.length ct] 49) (.cells (wayArr y) 138);have hroom0:=TL.room s w hI;have HL:Hid _:=h0;have HW:Hid (WayAt ((w.alloc (.cells #[.int .i64 2, .int .i64 op, .int .i64 pd, .slice at_ ts.length ct] 49)).alloc (.cells (wayArr y) 138)) (w.heap.size+1) y):=h1;have HI:Hid _:=TL.grow _ _ _ hI hb;have HK:Hid (Kp w0.heap.size NB w ((w.alloc (.cells #[.int .i64 2, .int .i64 op, .int .i64 pd, .slice at_ ts.length ct] 49)).alloc (.cells (wayArr y) 138))):=Kp.of_below hb hroom0.1;have hBq:=HK.out.below hB0;have HTq:Hid _:=bM hT hBq;have HFq:Hid _:=aI hF hBq;have HFF:Hid _:=hFF;have HTL:Hid _:=TL;have HWF:Hid _:=hy;(have HTN:Hid (Ru.TermsIn y.nums.length ts):=by show Ru.TermsIn _ _;rw[hy.n];exact hTI);(have HFN:Hid (FFit ⟨pd,Ru.fill ts y.nums⟩):=by show(Ru.fill ts y.nums).length≤_;unfold Ru.fill;rw[aO];omega);(have d0:((w.alloc (.cells #[.int .i64 2, .int .i64 op, .int .i64 pd, .slice at_ ts.length ct] 49)).alloc (.cells (wayArr y) 138)).cell? ⟨w.heap.size,0,none⟩=some (.int .i64 2):=by rw[aC h0];rfl);(have d2:((w.alloc (.cells #[.int .i64 2, .int .i64 op, .int .i64 pd, .slice at_ ts.length ct] 49)).alloc (.cells (wayArr y) 138)).cell? ⟨w.heap.size,2,none⟩=some (.int .i64 pd):=by rw[aC h0];rfl);(have d3:((w.alloc (.cells #[.int .i64 2, .int .i64 op, .int .i64 pd, .slice at_ ts.length ct] 49)).alloc (.cells (wayArr y) 138)).cell? ⟨w.heap.size,3,none⟩=some (.slice at_ ts.length ct):=by rw[aC h0];rfl);have hroom:=TL.room _ _ HI.out;clear h0 h1 hb hT hI hB0 hF hFF hTI TL hBq HT HL
 go_enter Tryz.func145,Tryz.ntmps145
 go_upto_region 5 with fail;generalize (w.alloc (.cells #[.int .i64 2, .int .i64 op, .int .i64 pd, .slice at_ ts.length ct] 49)).alloc (.cells (wayArr y) 138)=w1 at *;cases hh0:Rl.has facts ⟨pd,Ru.fill ts y.nums⟩
 ·have HHAS:Hid _:=hh0;(have HL1:Hid (LL=[y]):=by show _=_;rw[HON.out,hh0];rfl);rw[HL1.out]at hLv;have HLv2:Hid _:=hLv.1;(have HE:Hid (Ru.run step s LL=((step s y).1,(step s y).2)):=by show _=_;rw[HL1.out,Ru.run_cons];cases hq:(step s y).2<;>rfl);clear hh0 hLv HON HL1;refine eS (hold5FT w.heap.size vf (.slice at_ ts.length ct) pd (Ru.fill ts y.nums) y hh cb) 12 dE kR kR kR (wJ w.heap.size vf (.slice at_ ts.length ct) pd (Ru.fill ts y.nums) y hh cb) ?hopA ?htailA
  case hopA=>
   refine oC (fun a y_ h=>by have e0:a.eval (.tmp 0)=(vf:Value):=h.old 0;exact opX vf) ?_;refine oC (fun a y_ h=>by have e5:a.eval (.tmp 5)=(.pointer (some ⟨w.heap.size,0,none⟩):Value):=h.old 5;exact opX (.pointer (some ⟨w.heap.size,2,none⟩))) ?_;refine oC (fun a y_ h=>by have e24:a.eval (.tmp 24)=(.pointer (some ⟨w.heap.size,2,none⟩):Value):=h.of 24;have c2:=aD h.below d2;exact opX (.int .i64 pd)) ?_;refine oC (fun a y_ h=>by have e5:a.eval (.tmp 5)=(.pointer (some ⟨w.heap.size,0,none⟩):Value):=h.old 5;exact opX (.pointer (some ⟨w.heap.size,3,none⟩))) ?_;refine oC (fun a y_ h=>by have e26:a.eval (.tmp 26)=(.pointer (some ⟨w.heap.size,3,none⟩):Value):=h.of 26;have c3:=aD h.below d3;exact opX (.slice at_ ts.length ct)) ?_;refine oC (fun a y_ h=>by have e6:a.eval (.tmp 6)=(.pointer (some ⟨w.heap.size+1,0,none⟩):Value):=h.old 6;exact opX (.pointer (some ⟨w.heap.size+1,0,none⟩))) ?_;refine oC (fun a y_ h=>by have e28:a.eval (.tmp 28)=(.pointer (some ⟨w.heap.size+1,0,none⟩):Value):=h.of 28;exact opX (.slice (some ⟨w.heap.size+1,0,none⟩) 8 8)) ?_;refine oC (fun a y_ h=>?_) ?_
   ·have e25:a.eval (.tmp 25)=(.int .i64 pd:Value):=h.of 25;have e27:a.eval (.tmp 27)=(.slice at_ ts.length ct:Value):=h.of 27;have e29:a.eval (.tmp 29)=(.slice (some ⟨w.heap.size+1,0,none⟩) 8 8:Value):=h.of 29;refine dD (f:=57) (args:=#[.int .i64 pd, .slice at_ ts.length ct, .slice (some ⟨w.heap.size+1,0,none⟩) 8 8]) (aM rfl) ?_ ?_
    ·have ec:=evc a;have ef:=evf a;generalize a.eval=ev at *;clear h;go_simp
    refine Calls.mono (lY pd ts y.nums _ _ y_ (bM HTq.out h.below) (WayAt.ints (WayAt.below HW.out h.below) hy) oM HTN.out) ?_;rintro _ y2 ⟨v,rfl,hv,hb2⟩;exact⟨_,rfl,fun t ht=>by cases ht;exact⟨v,rfl,hv.ints⟩,hb2⟩
   refine oC (fun a y_ h=>?_) ?_
   ·have e23:a.eval (.tmp 23)=(vf:Value):=h.of 23;obtain⟨u,e30,hu⟩:∃u,a.eval (.tmp 30)=.agg #[.int .i64 pd,u]∧IntsV y_ u (Ru.fill ts y.nums):=h.of 30;refine dD (f:=185) (args:=#[vf, .agg #[.int .i64 pd,u]]) (aM rfl) ?_ ?_
    ·have ec:=evc a;have ef:=evf a;generalize a.eval=ev at *;clear h;go_simp
    refine Calls.mono (aA0 facts ⟨pd,Ru.fill ts y.nums⟩ _ _ y_ (aI HFq.out h.below) hu oM HFF.out HFN.out) ?_;rintro _ y2 ⟨rfl,hb2⟩;exact⟨_,rfl,fun t ht=>by cases ht;exact congrArg Value.bool HHAS.out,hb2⟩
   refine oC (fun a y_ h=>by have e31:a.eval (.tmp 31)=(.bool false:Value):=h.of 31;exact opX (.bool false)) ?_;refine oC (fun a y_ h=>by have e3:a.eval (.tmp 3)=(.func (.func hh) #[] cb:Value):=h.old 3;refine cP (v:=.func (.func hh) #[] cb) (w':=y_) (wG (h.of 32)) ?_ tR (aH _ _);have ec:=evc a;generalize a.eval=ev at *;clear h;go_simp) ?_;refine oC (fun a y_ h=>by have e6:a.eval (.tmp 6)=(.pointer (some ⟨w.heap.size+1,0,none⟩):Value):=h.old 6;refine cP (v:=wayVal y) (w':=y_) (wG (h.of 32)) ?_ tR (aH _ _);exact fO rfl e6 (WayAt.below HW.out h.below) hy) ?_;exact AllOps.nil
  case htailA=>
   rintro⟨tm0,df⟩ y_ hI;have e33:Act.eval ⟨tm0,df⟩ (.tmp 33)=.func (.func hh) #[] cb:=hI.all 10 _ 33 dE rfl rfl;have e34:Act.eval ⟨tm0,df⟩ (.tmp 34)=wayVal y:=hI.all 11 _ 34 dE rfl rfl;have e32:tm0.getD 32 undef=.bool false:=hI.all 9 _ 32 dE rfl rfl;have hsN:tm0.size=97:=hI.size;show wpOps Tryz.prog _ _ [12,13,14] _ _;rw[wpOps_cons];refine oL (f:=hh) (args:=#[wayVal y]++cb) rfl (jY (j:=9) (t:=32) (b:=false) rfl rfl rfl e32) ?_ ?_
   ·show Sem.run Tryz.prog (execOp (Act.eval ⟨tm0,df⟩) _) y_=_;generalize Act.eval ⟨tm0,df⟩=ev at *;clear hI;go_simp
   refine Calls.mono (HTL.out.call s y_ y (HTL.out.grow _ _ _ HI.out hI.below) HLv2.out HWF.out) ?_;rintro eR w4 ⟨he4,hI4,hK4⟩;refine⟨_,he4,?_⟩;rw[wpOps_cons];refine gL (v:=(.bool (step s y).2)) (w':=w4) rfl (aM rfl) ?_ ?_
   ·have q1:Act.eval (Act.put ⟨tm0,df⟩ (some 35) (.bool (step s y).2)) (.tmp 32)=.bool false:=(cI (a:=⟨tm0,df⟩) (t:=35) (u:=32) dE).trans e32;have q2:Act.eval (Act.put ⟨tm0,df⟩ (some 35) (.bool (step s y).2)) (.tmp 35)=(.bool (step s y).2):=dC (by show 35<tm0.size;omega);have ec:∀v,Act.eval (Act.put ⟨tm0,df⟩ (some 35) (.bool (step s y).2)) (.const v)=v:=fun _=>rfl;show Sem.run Tryz.prog (execOp (Act.eval (Act.put ⟨tm0,df⟩ (some 35) (.bool (step s y).2))) _) w4=_;generalize Act.eval (Act.put ⟨tm0,df⟩ (some 35) (.bool (step s y).2))=ev at *;clear hI;go_simp
   rw[wpOps_cons];refine gL (v:=(.bool (step s y).2)) (w':=w4) rfl (aM rfl) ?_ ?_
   ·have q2:Act.eval (Act.put (Act.put ⟨tm0,df⟩ (some 35) (.bool (step s y).2)) (some 36) (.bool (step s y).2)) (.tmp 36)=(.bool (step s y).2):=dC (by rw[fI];show 36<tm0.size;omega);show Sem.run Tryz.prog (execOp (Act.eval (Act.put (Act.put ⟨tm0,df⟩ (some 35) (.bool (step s y).2)) (some 36) (.bool (step s y).2))) _) w4=_;generalize Act.eval (Act.put (Act.put ⟨tm0,df⟩ (some 35) (.bool (step s y).2)) (some 36) (.bool (step s y).2))=ev at *;clear hI;go_simp
   (have hst:∀t,t∉[23,24,25,26,27,28,29,30,31,32,33,34,35,36,8]→(((tm0.setIfInBounds 35 (.bool (step s y).2)).setIfInBounds 36 (.bool (step s y).2)).setIfInBounds 8 (.bool (step s y).2)).getD t undef=_:=fun t ht=>by have hA:t≠35:=fun e=>ht (by rw[e];decide);have hB:t≠36:=fun e=>ht (by rw[e];decide);have hC:t≠8:=fun e=>ht (by rw[e];decide);exact((cI (a:=(Act.put (Act.put ⟨tm0,df⟩ (some 35) (.bool (step s y).2)) (some 36) (.bool (step s y).2))) hC).trans ((cI (a:=Act.put ⟨tm0,df⟩ (some 35) (.bool (step s y).2)) hB).trans (cI (a:=⟨tm0,df⟩) hA))).trans (hI.still t ht));have h8:(((tm0.setIfInBounds 35 (.bool (step s y).2)).setIfInBounds 36 (.bool (step s y).2)).setIfInBounds 8 (.bool (step s y).2)).getD 8 undef=(.bool (step s y).2):=dC (a:=(Act.put (Act.put ⟨tm0,df⟩ (some 35) (.bool (step s y).2)) (some 36) (.bool (step s y).2))) (by rw[fI,fI];show 8<tm0.size;omega);have hKy:Kp w0.heap.size NB _ _:=Kp.of_below hI.below hroom.1;obtain rfl:df=[]:=hI.defers;(have hs2:(((tm0.setIfInBounds 35 (.bool (step s y).2)).setIfInBounds 36 (.bool (step s y).2)).setIfInBounds 8 (.bool (step s y).2)).size=97:=by simp[hsN]);clear hI e33 e34 e32 hsN he4;show Exit.then _ _ Exit.normal ⟨(((tm0.setIfInBounds 35 (.bool (step s y).2)).setIfInBounds 36 (.bool (step s y).2)).setIfInBounds 8 (.bool (step s y).2)),[]⟩ w4;generalize (((tm0.setIfInBounds 35 (.bool (step s y).2)).setIfInBounds 36 (.bool (step s y).2)).setIfInBounds 8 (.bool (step s y).2))=tm at *;obtain⟨fQ,hQ,hF8⟩:=fH [23,24,25,26,27,28,29,30,31,32,33,34,35,36,8] tm _ (hs2.trans rF) hst;clear hs2 hst;simp only[cL,dB,(hQ 8).trans h8]at hF8;clear h8 hQ;simp only[aV,bS,bV]at hF8;subst hF8;go_wp2_with fail;go_ret;exact⟨by rw[HE.out];rfl,by rw[HE.out];exact hI4,HK.out.trans (hKy.trans hK4)⟩
 have HHAS:Hid _:=hh0;(have HE:Hid (Ru.run step s LL=(s,true)):=by show _=_;rw[HON.out,hh0];rfl);clear hh0 hLv HON;refine eJ (hold5TT w.heap.size vf (.slice at_ ts.length ct) pd (Ru.fill ts y.nums)) kR kR (wI w.heap.size vf (.slice at_ ts.length ct) pd (Ru.fill ts y.nums)) ?hopB ?hendB
 case hopB=>
  refine oC (fun a y_ h=>by have e0:a.eval (.tmp 0)=(vf:Value):=h.old 0;exact opX vf) ?_;refine oC (fun a y_ h=>by have e5:a.eval (.tmp 5)=(.pointer (some ⟨w.heap.size,0,none⟩):Value):=h.old 5;exact opX (.pointer (some ⟨w.heap.size,2,none⟩))) ?_;refine oC (fun a y_ h=>by have e24:a.eval (.tmp 24)=(.pointer (some ⟨w.heap.size,2,none⟩):Value):=h.of 24;have c2:=aD h.below d2;exact opX (.int .i64 pd)) ?_;refine oC (fun a y_ h=>by have e5:a.eval (.tmp 5)=(.pointer (some ⟨w.heap.size,0,none⟩):Value):=h.old 5;exact opX (.pointer (some ⟨w.heap.size,3,none⟩))) ?_;refine oC (fun a y_ h=>by have e26:a.eval (.tmp 26)=(.pointer (some ⟨w.heap.size,3,none⟩):Value):=h.of 26;have c3:=aD h.below d3;exact opX (.slice at_ ts.length ct)) ?_;refine oC (fun a y_ h=>by have e6:a.eval (.tmp 6)=(.pointer (some ⟨w.heap.size+1,0,none⟩):Value):=h.old 6;exact opX (.pointer (some ⟨w.heap.size+1,0,none⟩))) ?_;refine oC (fun a y_ h=>by have e28:a.eval (.tmp 28)=(.pointer (some ⟨w.heap.size+1,0,none⟩):Value):=h.of 28;exact opX (.slice (some ⟨w.heap.size+1,0,none⟩) 8 8)) ?_;refine oC (fun a y_ h=>?_) ?_
  ·have e25:a.eval (.tmp 25)=(.int .i64 pd:Value):=h.of 25;have e27:a.eval (.tmp 27)=(.slice at_ ts.length ct:Value):=h.of 27;have e29:a.eval (.tmp 29)=(.slice (some ⟨w.heap.size+1,0,none⟩) 8 8:Value):=h.of 29;refine dD (f:=57) (args:=#[.int .i64 pd, .slice at_ ts.length ct, .slice (some ⟨w.heap.size+1,0,none⟩) 8 8]) (aM rfl) ?_ ?_
   ·have ec:=evc a;have ef:=evf a;generalize a.eval=ev at *;clear h;go_simp
   refine Calls.mono (lY pd ts y.nums _ _ y_ (bM HTq.out h.below) (WayAt.ints (WayAt.below HW.out h.below) hy) oM HTN.out) ?_;rintro _ y2 ⟨v,rfl,hv,hb2⟩;exact⟨_,rfl,fun t ht=>by cases ht;exact⟨v,rfl,hv.ints⟩,hb2⟩
  refine oC (fun a y_ h=>?_) ?_
  ·have e23:a.eval (.tmp 23)=(vf:Value):=h.of 23;obtain⟨u,e30,hu⟩:∃u,a.eval (.tmp 30)=.agg #[.int .i64 pd,u]∧IntsV y_ u (Ru.fill ts y.nums):=h.of 30;refine dD (f:=185) (args:=#[vf, .agg #[.int .i64 pd,u]]) (aM rfl) ?_ ?_
   ·have ec:=evc a;have ef:=evf a;generalize a.eval=ev at *;clear h;go_simp
   refine Calls.mono (aA0 facts ⟨pd,Ru.fill ts y.nums⟩ _ _ y_ (aI HFq.out h.below) hu oM HFF.out HFN.out) ?_;rintro _ y2 ⟨rfl,hb2⟩;exact⟨_,rfl,fun t ht=>by cases ht;exact congrArg Value.bool HHAS.out,hb2⟩
  refine oC (fun a y_ h=>by have e31:a.eval (.tmp 31)=(.bool true:Value):=h.of 31;exact opX (.bool true)) ?_;refine oC (fun a y_ h=>by exact opS (h.of 32)) ?_;refine oC (fun a y_ h=>by exact opS (h.of 32)) ?_;refine oC (fun a y_ h=>by exact opS (h.of 32)) ?_;refine oC (fun a y_ h=>by have e32:a.eval (.tmp 32)=(.bool true:Value):=h.of 32;have e35:a.eval (.tmp 35)=(undef:Value):=h.of 35;exact opX (.bool true)) ?_;refine oC (fun a y_ h=>by have e36:a.eval (.tmp 36)=(.bool true:Value):=h.of 36;exact opX (.bool true)) ?_;exact AllOps.nil
 case hendB=>rintro⟨tm,df⟩ wE hbE hdE hsE hstE hTE;have h8:tm.getD 8 undef=.bool true:=iI (T:=hold5TT w.heap.size vf (.slice at_ ts.length ct) pd (Ru.fill ts y.nums)) (w:=wE) (a:=⟨tm,df⟩) (t:=8) hTE kR;obtain rfl:df=[]:=hdE;obtain⟨fQ,hQ,hFE⟩:=fH [23,24,25,26,27,28,29,30,31,32,33,34,35,36,8] tm _ hsE hstE;clear hsE hstE hTE;simp only[cL,dB,(hQ 8).trans h8]at hFE;clear h8 hQ;simp only[aV,bS,bV]at hFE;subst hFE;have hKy:Kp w0.heap.size NB _ _:=Kp.of_below hbE hroom.1;have HIE:Hid _:=HTL.out.grow _ _ _ HI.out hbE;clear hbE;go_wp2_with fail;go_ret;exact⟨by rw[HE.out];rfl,by rw[HE.out];exact HIE.out,HK.out.trans hKy⟩
def hold7T(y:Ru.Way)(X b off ct:Nat)(op:Int)(t0 t1:Sc.Term)(hh:Nat)(cb:Array Value):Nat→Value
 |39=>.pointer (some ⟨X,1,none⟩)
 |40=>.int .i64 op
 |41=>wayVal y
 |42=>.pointer (some ⟨X,3,none⟩)
 |43=>.slice (some ⟨b,off,none⟩) 2 ct
 |44=>.pointer (some ⟨b,off,none⟩)
 |45=>ptermVal t0
 |46=>.int .i64 (Ru.num y.nums t0)
 |47=>wayVal y
 |48=>.pointer (some ⟨X,3,none⟩)
 |49=>.slice (some ⟨b,off,none⟩) 2 ct
 |50=>.pointer (some ⟨b,off+2,none⟩)
 |51=>ptermVal t1
 |52=>.int .i64 (Ru.num y.nums t1)
 |53=>.bool true
 |54=>.bool false
 |55=>.bool false
 |56=>.func (.func hh) #[] cb
 |57=>wayVal y
 |_=>.bool false
def hold7F(y:Ru.Way)(X b off ct:Nat)(op:Int)(t0 t1:Sc.Term):Nat→Value
 |39=>.pointer (some ⟨X,1,none⟩)
 |40=>.int .i64 op
 |41=>wayVal y
 |42=>.pointer (some ⟨X,3,none⟩)
 |43=>.slice (some ⟨b,off,none⟩) 2 ct
 |44=>.pointer (some ⟨b,off,none⟩)
 |45=>ptermVal t0
 |46=>.int .i64 (Ru.num y.nums t0)
 |47=>wayVal y
 |48=>.pointer (some ⟨X,3,none⟩)
 |49=>.slice (some ⟨b,off,none⟩) 2 ct
 |50=>.pointer (some ⟨b,off+2,none⟩)
 |51=>ptermVal t1
 |52=>.int .i64 (Ru.num y.nums t1)
 |53=>.bool false
 |54=>.bool true
 |55=>.bool true
 |56=>undef
 |57=>undef
 |58=>undef
 |59=>.bool true
 |8=>.bool true
 |_=>.bool false
theorem aBy{σ:Type}{step:σ→Ru.Way→σ×Bool}{live:σ→Ru.Way→Prop}{I:σ→World→Prop}{NB hh:Nat}{cb:Array Value}(facts:List Rl.Fc)(l:Sc.Lit)(y:Ru.Way)(vf vt:Value)(w0 w:World)(s:σ)
 (hB0:Below w0.heap.size w0 w) (hT:PTermsV w0 vt l.terms) (hTI:Ru.TermsIn 8 l.terms) (hTl:l.terms.length=2) (hy:Ru.Wf 8 y) (hk:l.kind=3)
 (TL:Tell w0.heap.size NB hh cb step live I) (he:∀args w,(callFunc hh args).run Tryz.prog w=.ok (.enter hh args) w) (hI:I s w) (hLv:Ru.Lv step live s (Ru.on facts l y)):
 Calls Tryz.prog 145 #[vf,plitVal l vt,wayVal y, .func (.func hh) #[] cb] w fun e w'=>e=.returned (.bool (Ru.run step s (Ru.on facts l y)).2)∧I (Ru.run step s (Ru.on facts l y)).1 w'∧Kp w0.heap.size NB w w':=by
 obtain⟨at_,ct,rfl,_,hTA⟩:=id hT;obtain⟨kd,op,pd,ts⟩:=l;dsimp only at *;subst hk;obtain⟨t0,t1,rfl⟩:∃t0 t1,ts=[t0,t1]:=by
  match ts,hTl with
  |[a,b],_=>exact⟨a,b,rfl⟩
 (have hon:Ru.on facts ⟨3,op,pd,[t0,t1]⟩ y=if Ru.isSo op (Ru.num y.nums t0) (Ru.num y.nums t1)=true then [y] else []:=by unfold Ru.on;rfl);generalize hLL:Ru.on facts ⟨3,op,pd,[t0,t1]⟩ y=LL at *;have HON:Hid _:=hon;have HT0:Hid (Ru.TermIn 8 t0):=hTI t0 sI;have HT1:Hid (Ru.TermIn 8 t1):=hTI t1 sI;obtain⟨b,off,rfl,hc⟩:=fG hTA 0 sI;obtain⟨p0,p1⟩:=hc 0 sI;obtain⟨p2,p3⟩:=hc 1 sI;rw[jT,iV]at p0 p1;rw[Nat.one_mul]at p2 p3;clear hon hLL hc hTA hT hTI hTl;show Calls Tryz.prog 145 #[vf, .agg #[.int .i64 3, .int .i64 op, .int .i64 pd, .slice (some ⟨b,off,none⟩) 2 ct],wayVal y, .func (.func hh) #[] cb] w _;obtain⟨h0,h1,hb⟩:=lI w (.cells #[.int .i64 3, .int .i64 op, .int .i64 pd, .slice (some ⟨b,off,none⟩) 2 ct] 49) (.cells (wayArr y) 138);have hroom0:=TL.room s w hI;have HW:Hid (WayAt ((w.alloc (.cells #[.int .i64 3, .int .i64 op, .int .i64 pd, .slice (some ⟨b,off,none⟩) 2 ct] 49)).alloc (.cells (wayArr y) 138)) (w.heap.size+1) y):=h1;have HI:Hid _:=TL.grow _ _ _ hI hb;have HK:Hid (Kp w0.heap.size NB w ((w.alloc (.cells #[.int .i64 3, .int .i64 op, .int .i64 pd, .slice (some ⟨b,off,none⟩) 2 ct] 49)).alloc (.cells (wayArr y) 138))):=Kp.of_below hb hroom0.1;have hBq:=HK.out.below hB0;replace p0:((w.alloc (.cells #[.int .i64 3, .int .i64 op, .int .i64 pd, .slice (some ⟨b,off,none⟩) 2 ct] 49)).alloc (.cells (wayArr y) 138)).cell? ⟨b,off,none⟩=some (.int .i64 t0.var):=aD hBq p0;replace p1:((w.alloc (.cells #[.int .i64 3, .int .i64 op, .int .i64 pd, .slice (some ⟨b,off,none⟩) 2 ct] 49)).alloc (.cells (wayArr y) 138)).cell? ⟨b,off+1,none⟩=some (.int .i64 t0.n):=aD hBq p1;replace p2:((w.alloc (.cells #[.int .i64 3, .int .i64 op, .int .i64 pd, .slice (some ⟨b,off,none⟩) 2 ct] 49)).alloc (.cells (wayArr y) 138)).cell? ⟨b,off+2,none⟩=some (.int .i64 t1.var):=aD hBq p2;replace p3:((w.alloc (.cells #[.int .i64 3, .int .i64 op, .int .i64 pd, .slice (some ⟨b,off,none⟩) 2 ct] 49)).alloc (.cells (wayArr y) 138)).cell? ⟨b,off+2+1,none⟩=some (.int .i64 t1.n):=aD hBq p3;have HTL:Hid _:=TL;have HWF:Hid _:=hy;(have d0:((w.alloc (.cells #[.int .i64 3, .int .i64 op, .int .i64 pd, .slice (some ⟨b,off,none⟩) 2 ct] 49)).alloc (.cells (wayArr y) 138)).cell? ⟨w.heap.size,0,none⟩=some (.int .i64 3):=by rw[aC h0];rfl);(have d1:((w.alloc (.cells #[.int .i64 3, .int .i64 op, .int .i64 pd, .slice (some ⟨b,off,none⟩) 2 ct] 49)).alloc (.cells (wayArr y) 138)).cell? ⟨w.heap.size,1,none⟩=some (.int .i64 op):=by rw[aC h0];rfl);(have d3:((w.alloc (.cells #[.int .i64 3, .int .i64 op, .int .i64 pd, .slice (some ⟨b,off,none⟩) 2 ct] 49)).alloc (.cells (wayArr y) 138)).cell? ⟨w.heap.size,3,none⟩=some (.slice (some ⟨b,off,none⟩) 2 ct):=by rw[aC h0];rfl);have hroom:=TL.room _ _ HI.out;clear h0 h1 hb hI hB0 TL hBq
 go_enter Tryz.func145,Tryz.ntmps145
 go_upto_region 7 with fail;generalize ((w.alloc (.cells #[.int .i64 3, .int .i64 op, .int .i64 pd, .slice (some ⟨b,off,none⟩) 2 ct] 49)).alloc (.cells (wayArr y) 138))=w1 at *;cases hso:Ru.isSo op (Ru.num y.nums t0) (Ru.num y.nums t1)
 ·have HSO:Hid _:=hso;(have HE:Hid (Ru.run step s LL=(s,true)):=by show _=_;rw[HON.out,hso];rfl);clear hso hLv HON;refine eJ (fun tQ vQ _=>vQ=hold7F y w.heap.size b off ct op t0 t1 tQ) kR kR (fun _ _ _ _ _ h=>h) ?hopB ?hendB
  case hopB=>
   refine oC (fun a y_ h=>by have e5:a.eval (.tmp 5)=(.pointer (some ⟨w.heap.size,0,none⟩):Value):=h.old 5;exact opX (.pointer (some ⟨w.heap.size,1,none⟩))) ?_;refine oC (fun a y_ h=>by have e39:a.eval (.tmp 39)=(.pointer (some ⟨w.heap.size,1,none⟩):Value):=h.of 39;have c1:=aD h.below d1;exact opX (.int .i64 op)) ?_;refine oC (fun a y_ h=>by have e6:a.eval (.tmp 6)=(.pointer (some ⟨w.heap.size+1,0,none⟩):Value):=h.old 6;refine opV (v:=wayVal y) ?_;exact fO rfl e6 (WayAt.below HW.out h.below) hy) ?_;refine oC (fun a y_ h=>by have e5:a.eval (.tmp 5)=(.pointer (some ⟨w.heap.size,0,none⟩):Value):=h.old 5;exact opX (.pointer (some ⟨w.heap.size,3,none⟩))) ?_;refine oC (fun a y_ h=>by have e42:a.eval (.tmp 42)=(.pointer (some ⟨w.heap.size,3,none⟩):Value):=h.of 42;have c3:=aD h.below d3;exact opX (.slice (some ⟨b,off,none⟩) 2 ct)) ?_;refine oC (fun a y_ h=>by have e43:a.eval (.tmp 43)=(.slice (some ⟨b,off,none⟩) 2 ct:Value):=h.of 43;exact opX (.pointer (some ⟨b,off,none⟩))) ?_;refine oC (fun a y_ h=>by have e44:a.eval (.tmp 44)=(.pointer (some ⟨b,off,none⟩):Value):=h.of 44;have c0:=aD h.below p0;have c1:=aD h.below p1;exact opX (ptermVal t0)) ?_;refine oC (fun a y_ h=>?_) ?_
   ·have e41:a.eval (.tmp 41)=(wayVal y:Value):=h.of 41;have e45:a.eval (.tmp 45)=(ptermVal t0:Value):=h.of 45;refine dD (f:=187) (args:=#[wayVal y,ptermVal t0]) (aM rfl) ?_ ?_
    ·have ec:=evc a;have ef:=evf a;generalize a.eval=ev at *;clear h;go_simp
    refine Calls.mono (gZ y t0 y_ hy HT0.out) ?_;rintro _ y2 ⟨rfl,hb2⟩;exact⟨_,rfl,fun t ht=>by cases ht;exact rfl,hb2⟩
   refine oC (fun a y_ h=>by have e6:a.eval (.tmp 6)=(.pointer (some ⟨w.heap.size+1,0,none⟩):Value):=h.old 6;refine opV (v:=wayVal y) ?_;exact fO rfl e6 (WayAt.below HW.out h.below) hy) ?_;refine oC (fun a y_ h=>by have e5:a.eval (.tmp 5)=(.pointer (some ⟨w.heap.size,0,none⟩):Value):=h.old 5;exact opX (.pointer (some ⟨w.heap.size,3,none⟩))) ?_;refine oC (fun a y_ h=>by have e48:a.eval (.tmp 48)=(.pointer (some ⟨w.heap.size,3,none⟩):Value):=h.of 48;have c3:=aD h.below d3;exact opX (.slice (some ⟨b,off,none⟩) 2 ct)) ?_;refine oC (fun a y_ h=>by have e49:a.eval (.tmp 49)=(.slice (some ⟨b,off,none⟩) 2 ct:Value):=h.of 49;exact opX (.pointer (some ⟨b,off+2,none⟩))) ?_;refine oC (fun a y_ h=>by have e50:a.eval (.tmp 50)=(.pointer (some ⟨b,off+2,none⟩):Value):=h.of 50;have c0:=aD h.below p2;have c1:=aD h.below p3;exact opX (ptermVal t1)) ?_;refine oC (fun a y_ h=>?_) ?_
   ·have e47:a.eval (.tmp 47)=(wayVal y:Value):=h.of 47;have e51:a.eval (.tmp 51)=(ptermVal t1:Value):=h.of 51;refine dD (f:=187) (args:=#[wayVal y,ptermVal t1]) (aM rfl) ?_ ?_
    ·have ec:=evc a;have ef:=evf a;generalize a.eval=ev at *;clear h;go_simp
    refine Calls.mono (gZ y t1 y_ hy HT1.out) ?_;rintro _ y2 ⟨rfl,hb2⟩;exact⟨_,rfl,fun t ht=>by cases ht;exact rfl,hb2⟩
   refine oC (fun a y_ h=>?_) ?_
   ·have e40:a.eval (.tmp 40)=(.int .i64 op:Value):=h.of 40;have e46:a.eval (.tmp 46)=(.int .i64 (Ru.num y.nums t0):Value):=h.of 46;have e52:a.eval (.tmp 52)=(.int .i64 (Ru.num y.nums t1):Value):=h.of 52;refine dD (f:=186) (args:=#[.int .i64 op, .int .i64 (Ru.num y.nums t0), .int .i64 (Ru.num y.nums t1)]) (aM rfl) ?_ ?_
    ·have ec:=evc a;have ef:=evf a;generalize a.eval=ev at *;clear h;go_simp
    refine Calls.mono (yP op (Ru.num y.nums t0) (Ru.num y.nums t1) y_) ?_;rintro _ y2 ⟨rfl,rfl⟩;exact⟨_,rfl,fun t ht=>by cases ht;exact congrArg Value.bool HSO.out,aH _ _⟩
   refine oC (fun a y_ h=>by have e53:a.eval (.tmp 53)=(.bool false:Value):=h.of 53;exact opX (.bool true)) ?_;refine oC (fun a y_ h=>by have e54:a.eval (.tmp 54)=(.bool true:Value):=h.of 54;exact opX (.bool true)) ?_;refine oC (fun a y_ h=>by exact opS (h.of 55)) ?_;refine oC (fun a y_ h=>by exact opS (h.of 55)) ?_;refine oC (fun a y_ h=>by exact opS (h.of 55)) ?_;refine oC (fun a y_ h=>by have e55:a.eval (.tmp 55)=(.bool true:Value):=h.of 55;have e58:a.eval (.tmp 58)=(undef:Value):=h.of 58;exact opX (.bool true)) ?_;refine oC (fun a y_ h=>by have e59:a.eval (.tmp 59)=(.bool true:Value):=h.of 59;exact opX (.bool true)) ?_;exact AllOps.nil
  case hendB=>rintro⟨tm,df⟩ wE hbE hdE hsE hstE hTE;have h8:tm.getD 8 undef=.bool true:=iI (T:=fun tQ vQ _=>vQ=hold7F y w.heap.size b off ct op t0 t1 tQ) (w:=wE) (a:=⟨tm,df⟩) (t:=8) hTE kR;obtain rfl:df=[]:=hdE;obtain⟨fQ,hQ,hFE⟩:=fH [39,40,41,42,43,44,45,46,47,48,49,50,51,52,53,54,55,56,57,58,59,8] tm _ hsE hstE;clear hsE hstE hTE;simp only[cL,dB,(hQ 8).trans h8]at hFE;clear h8 hQ;simp only[aV,bS,bV]at hFE;subst hFE;have hKy:Kp w0.heap.size NB _ _:=Kp.of_below hbE hroom.1;have HIE:Hid _:=HTL.out.grow _ _ _ HI.out hbE;clear hbE;go_wp2_with fail;go_ret;exact⟨by rw[HE.out];rfl,by rw[HE.out];exact HIE.out,HK.out.trans hKy⟩
 have HSO:Hid _:=hso;(have HL1:Hid (LL=[y]):=by show _=_;rw[HON.out,hso];rfl);rw[HL1.out]at hLv;have HLv2:Hid _:=hLv.1;(have HE:Hid (Ru.run step s LL=((step s y).1,(step s y).2)):=by show _=_;rw[HL1.out,Ru.run_cons];cases hq:(step s y).2<;>rfl);clear hso hLv HON HL1;refine eS (fun tQ vQ _=>vQ=hold7T y w.heap.size b off ct op t0 t1 hh cb tQ) 19 dE kR kR kR (fun _ _ _ _ _ h=>h) ?hopA ?htailA
 case hopA=>
  refine oC (fun a y_ h=>by have e5:a.eval (.tmp 5)=(.pointer (some ⟨w.heap.size,0,none⟩):Value):=h.old 5;exact opX (.pointer (some ⟨w.heap.size,1,none⟩))) ?_;refine oC (fun a y_ h=>by have e39:a.eval (.tmp 39)=(.pointer (some ⟨w.heap.size,1,none⟩):Value):=h.of 39;have c1:=aD h.below d1;exact opX (.int .i64 op)) ?_;refine oC (fun a y_ h=>by have e6:a.eval (.tmp 6)=(.pointer (some ⟨w.heap.size+1,0,none⟩):Value):=h.old 6;refine opV (v:=wayVal y) ?_;exact fO rfl e6 (WayAt.below HW.out h.below) hy) ?_;refine oC (fun a y_ h=>by have e5:a.eval (.tmp 5)=(.pointer (some ⟨w.heap.size,0,none⟩):Value):=h.old 5;exact opX (.pointer (some ⟨w.heap.size,3,none⟩))) ?_;refine oC (fun a y_ h=>by have e42:a.eval (.tmp 42)=(.pointer (some ⟨w.heap.size,3,none⟩):Value):=h.of 42;have c3:=aD h.below d3;exact opX (.slice (some ⟨b,off,none⟩) 2 ct)) ?_;refine oC (fun a y_ h=>by have e43:a.eval (.tmp 43)=(.slice (some ⟨b,off,none⟩) 2 ct:Value):=h.of 43;exact opX (.pointer (some ⟨b,off,none⟩))) ?_;refine oC (fun a y_ h=>by have e44:a.eval (.tmp 44)=(.pointer (some ⟨b,off,none⟩):Value):=h.of 44;have c0:=aD h.below p0;have c1:=aD h.below p1;exact opX (ptermVal t0)) ?_;refine oC (fun a y_ h=>?_) ?_
  ·have e41:a.eval (.tmp 41)=(wayVal y:Value):=h.of 41;have e45:a.eval (.tmp 45)=(ptermVal t0:Value):=h.of 45;refine dD (f:=187) (args:=#[wayVal y,ptermVal t0]) (aM rfl) ?_ ?_
   ·have ec:=evc a;have ef:=evf a;generalize a.eval=ev at *;clear h;go_simp
   refine Calls.mono (gZ y t0 y_ hy HT0.out) ?_;rintro _ y2 ⟨rfl,hb2⟩;exact⟨_,rfl,fun t ht=>by cases ht;exact rfl,hb2⟩
  refine oC (fun a y_ h=>by have e6:a.eval (.tmp 6)=(.pointer (some ⟨w.heap.size+1,0,none⟩):Value):=h.old 6;refine opV (v:=wayVal y) ?_;exact fO rfl e6 (WayAt.below HW.out h.below) hy) ?_;refine oC (fun a y_ h=>by have e5:a.eval (.tmp 5)=(.pointer (some ⟨w.heap.size,0,none⟩):Value):=h.old 5;exact opX (.pointer (some ⟨w.heap.size,3,none⟩))) ?_;refine oC (fun a y_ h=>by have e48:a.eval (.tmp 48)=(.pointer (some ⟨w.heap.size,3,none⟩):Value):=h.of 48;have c3:=aD h.below d3;exact opX (.slice (some ⟨b,off,none⟩) 2 ct)) ?_;refine oC (fun a y_ h=>by have e49:a.eval (.tmp 49)=(.slice (some ⟨b,off,none⟩) 2 ct:Value):=h.of 49;exact opX (.pointer (some ⟨b,off+2,none⟩))) ?_;refine oC (fun a y_ h=>by have e50:a.eval (.tmp 50)=(.pointer (some ⟨b,off+2,none⟩):Value):=h.of 50;have c0:=aD h.below p2;have c1:=aD h.below p3;exact opX (ptermVal t1)) ?_;refine oC (fun a y_ h=>?_) ?_
  ·have e47:a.eval (.tmp 47)=(wayVal y:Value):=h.of 47;have e51:a.eval (.tmp 51)=(ptermVal t1:Value):=h.of 51;refine dD (f:=187) (args:=#[wayVal y,ptermVal t1]) (aM rfl) ?_ ?_
   ·have ec:=evc a;have ef:=evf a;generalize a.eval=ev at *;clear h;go_simp
   refine Calls.mono (gZ y t1 y_ hy HT1.out) ?_;rintro _ y2 ⟨rfl,hb2⟩;exact⟨_,rfl,fun t ht=>by cases ht;exact rfl,hb2⟩
  refine oC (fun a y_ h=>?_) ?_
  ·have e40:a.eval (.tmp 40)=(.int .i64 op:Value):=h.of 40;have e46:a.eval (.tmp 46)=(.int .i64 (Ru.num y.nums t0):Value):=h.of 46;have e52:a.eval (.tmp 52)=(.int .i64 (Ru.num y.nums t1):Value):=h.of 52;refine dD (f:=186) (args:=#[.int .i64 op, .int .i64 (Ru.num y.nums t0), .int .i64 (Ru.num y.nums t1)]) (aM rfl) ?_ ?_
   ·have ec:=evc a;have ef:=evf a;generalize a.eval=ev at *;clear h;go_simp
   refine Calls.mono (yP op (Ru.num y.nums t0) (Ru.num y.nums t1) y_) ?_;rintro _ y2 ⟨rfl,rfl⟩;exact⟨_,rfl,fun t ht=>by cases ht;exact congrArg Value.bool HSO.out,aH _ _⟩
  refine oC (fun a y_ h=>by have e53:a.eval (.tmp 53)=(.bool true:Value):=h.of 53;exact opX (.bool false)) ?_;refine oC (fun a y_ h=>by have e54:a.eval (.tmp 54)=(.bool false:Value):=h.of 54;exact opX (.bool false)) ?_;refine oC (fun a y_ h=>by have e3:a.eval (.tmp 3)=(.func (.func hh) #[] cb:Value):=h.old 3;refine cP (v:=.func (.func hh) #[] cb) (w':=y_) (wG (h.of 55)) ?_ tR (aH _ _);have ec:=evc a;generalize a.eval=ev at *;clear h;go_simp) ?_;refine oC (fun a y_ h=>by have e6:a.eval (.tmp 6)=(.pointer (some ⟨w.heap.size+1,0,none⟩):Value):=h.old 6;refine cP (v:=wayVal y) (w':=y_) (wG (h.of 55)) ?_ tR (aH _ _);exact fO rfl e6 (WayAt.below HW.out h.below) hy) ?_;exact AllOps.nil
 case htailA=>
  rintro⟨tm0,df⟩ y_ hI;have e56:Act.eval ⟨tm0,df⟩ (.tmp 56)=.func (.func hh) #[] cb:=hI.all 17 _ 56 dE rfl rfl;have e57:Act.eval ⟨tm0,df⟩ (.tmp 57)=wayVal y:=hI.all 18 _ 57 dE rfl rfl;have e55:tm0.getD 55 undef=.bool false:=hI.all 16 _ 55 dE rfl rfl;have hsN:tm0.size=97:=hI.size;show wpOps Tryz.prog _ _ [19,20,21] _ _;rw[wpOps_cons];refine oL (f:=hh) (args:=#[wayVal y]++cb) rfl (jY (j:=16) (t:=55) (b:=false) rfl rfl rfl e55) ?_ ?_
  ·show Sem.run Tryz.prog (execOp (Act.eval ⟨tm0,df⟩) _) y_=_;generalize Act.eval ⟨tm0,df⟩=ev at *;clear hI;go_simp
  refine Calls.mono (HTL.out.call s y_ y (HTL.out.grow _ _ _ HI.out hI.below) HLv2.out HWF.out) ?_;rintro eR w4 ⟨he4,hI4,hK4⟩;refine⟨_,he4,?_⟩;rw[wpOps_cons];refine gL (v:=(.bool (step s y).2)) (w':=w4) rfl (aM rfl) ?_ ?_
  ·have q1:Act.eval (Act.put ⟨tm0,df⟩ (some 58) (.bool (step s y).2)) (.tmp 55)=.bool false:=(cI (a:=⟨tm0,df⟩) (t:=58) (u:=55) dE).trans e55;have q2:Act.eval (Act.put ⟨tm0,df⟩ (some 58) (.bool (step s y).2)) (.tmp 58)=(.bool (step s y).2):=dC (by show 58<tm0.size;omega);have ec:∀v,Act.eval (Act.put ⟨tm0,df⟩ (some 58) (.bool (step s y).2)) (.const v)=v:=fun _=>rfl;show Sem.run Tryz.prog (execOp (Act.eval (Act.put ⟨tm0,df⟩ (some 58) (.bool (step s y).2))) _) w4=_;generalize Act.eval (Act.put ⟨tm0,df⟩ (some 58) (.bool (step s y).2))=ev at *;clear hI;go_simp
  rw[wpOps_cons];refine gL (v:=(.bool (step s y).2)) (w':=w4) rfl (aM rfl) ?_ ?_
  ·have q2:Act.eval (Act.put (Act.put ⟨tm0,df⟩ (some 58) (.bool (step s y).2)) (some 59) (.bool (step s y).2)) (.tmp 59)=(.bool (step s y).2):=dC (by rw[fI];show 59<tm0.size;omega);show Sem.run Tryz.prog (execOp (Act.eval (Act.put (Act.put ⟨tm0,df⟩ (some 58) (.bool (step s y).2)) (some 59) (.bool (step s y).2))) _) w4=_;generalize Act.eval (Act.put (Act.put ⟨tm0,df⟩ (some 58) (.bool (step s y).2)) (some 59) (.bool (step s y).2))=ev at *;clear hI;go_simp
  (have hst:∀t,t∉[39,40,41,42,43,44,45,46,47,48,49,50,51,52,53,54,55,56,57,58,59,8]→(((tm0.setIfInBounds 58 (.bool (step s y).2)).setIfInBounds 59 (.bool (step s y).2)).setIfInBounds 8 (.bool (step s y).2)).getD t undef=_:=fun t ht=>by have hA:t≠58:=fun e=>ht (by rw[e];decide);have hB:t≠59:=fun e=>ht (by rw[e];decide);have hC:t≠8:=fun e=>ht (by rw[e];decide);exact((cI (a:=(Act.put (Act.put ⟨tm0,df⟩ (some 58) (.bool (step s y).2)) (some 59) (.bool (step s y).2))) hC).trans ((cI (a:=Act.put ⟨tm0,df⟩ (some 58) (.bool (step s y).2)) hB).trans (cI (a:=⟨tm0,df⟩) hA))).trans (hI.still t ht));have h8:(((tm0.setIfInBounds 58 (.bool (step s y).2)).setIfInBounds 59 (.bool (step s y).2)).setIfInBounds 8 (.bool (step s y).2)).getD 8 undef=(.bool (step s y).2):=dC (a:=(Act.put (Act.put ⟨tm0,df⟩ (some 58) (.bool (step s y).2)) (some 59) (.bool (step s y).2))) (by rw[fI,fI];show 8<tm0.size;omega);have hKy:Kp w0.heap.size NB _ _:=Kp.of_below hI.below hroom.1;obtain rfl:df=[]:=hI.defers;(have hs2:(((tm0.setIfInBounds 58 (.bool (step s y).2)).setIfInBounds 59 (.bool (step s y).2)).setIfInBounds 8 (.bool (step s y).2)).size=97:=by simp[hsN]);clear hI e56 e57 e55 hsN he4;show Exit.then _ _ Exit.normal ⟨(((tm0.setIfInBounds 58 (.bool (step s y).2)).setIfInBounds 59 (.bool (step s y).2)).setIfInBounds 8 (.bool (step s y).2)),[]⟩ w4;generalize (((tm0.setIfInBounds 58 (.bool (step s y).2)).setIfInBounds 59 (.bool (step s y).2)).setIfInBounds 8 (.bool (step s y).2))=tm at *;obtain⟨fQ,hQ,hF8⟩:=fH [39,40,41,42,43,44,45,46,47,48,49,50,51,52,53,54,55,56,57,58,59,8] tm _ (hs2.trans rF) hst;clear hs2 hst;simp only[cL,dB,(hQ 8).trans h8]at hF8;clear h8 hQ;simp only[aV,bS,bV]at hF8;subst hF8;go_wp2_with fail;go_ret;exact⟨by rw[HE.out];rfl,by rw[HE.out];exact hI4,HK.out.trans (hKy.trans hK4)⟩
def tabFineR(ops:Array Oper)(n:Nat):Bool:=
 decide ((ops.toList.filterMap (·.dst)).Nodup)&&(ops.toList.filterMap (·.dst)).all (fun t=>decide (t<n))&&(List.range ops.size).all (fun i=>((ops[i]?).map (fun o=>o.after.toList.all (fun e=> !Region.binds .any e||decide (e.on<i)))).getD true)
def waitedBy(ops:Array Oper)(S i:Nat):Bool:=((ops[S]?).map fun o=>o.after.toList.any fun e=>Region.binds .any e&&e.on==i).getD false
structure TabbedR (R:World→World→Prop) (ops:Array Oper) (T:Nat→Value→World→Prop) (a0:Act) (w0:World) (s:Array Bool) (a:Act) (w:World):Prop where
 below:R w0 w
 defers:a.defers=a0.defers
 size:a.tmps.size=a0.tmps.size
 still:∀t,t∉ops.toList.filterMap (·.dst)→a.tmps.getD t undef=a0.tmps.getD t undef
 done:∀(i:Nat)(o:Oper)(t:Nat),s[i]?=some true→ops[i]?=some o→o.dst=some t→T t (a.tmps.getD t undef) w
structure OpInR (R:World→World→Prop) (ops:Array Oper) (T:Nat→Value→World→Prop) (a0:Act) (w0:World) (o:Oper) (a:Act) (w:World):Prop where
 below:R w0 w
 still:∀t,t∉ops.toList.filterMap (·.dst)→a.tmps.getD t undef=a0.tmps.getD t undef
 has:∀e,e∈o.after→Region.binds .any e=true→∀(o':Oper)(t:Nat),ops[e.on]?=some o'→o'.dst=some t→T t (a.tmps.getD t undef) w
 size:a.tmps.size=a0.tmps.size
def OpOkR(P:Program)(R:World→World→Prop)(ops:Array Oper)(Q:Exit→Act→World→Prop)(T:Nat→Value→World→Prop)(S:Nat)(D:Act→World→Prop)(i:Nat)(o:Oper)(a:Act)(w:World):Prop:=
 Region.wanted o (yielded ops a.tmps)=true∧o.wp P a w (fun a' w'=>∃v,a'=a.put o.dst v∧(∀t,o.dst=some t→T t v w')∧R w w'∧(i=S→D (a.put o.dst v) w')∧(waitedBy ops S i=false→¬i=S→D a w→D (a.put o.dst v) w')) Q
section
variable {P:Program} {ops:Array Oper} {Q:Exit→Act→World→Prop} {R:World→World→Prop} {T:Nat→Value→World→Prop} {a0:Act} {w0:World} {o:Oper} {a:Act} {w:World} {S i:Nat} {D:Act→World→Prop}
theorem OpInR.of(h:OpInR R ops T a0 w0 o a w)(t:Nat)(hw:waitsFor ops o t=true:=by kernel_rfl):T t (a.tmps.getD t undef) w:=by
 unfold waitsFor at hw;rw[gT]at hw;obtain⟨e,he,hw⟩:=hw;rw[aW]at hw
 cases ho:ops[e.on]? with
 |none=>rw[ho]at hw;simp at hw
 |some o'=>
  rw[ho]at hw;exact h.has e (by simpa using he) hw.1 o' t ho (by simpa using hw.2)
theorem OpInR.old(h:OpInR R ops T a0 w0 o a w)(t:Nat)(hs:stays ops t=true:=by kernel_rfl):a.tmps.getD t undef=a0.tmps.getD t undef:=by refine h.still t ?_;unfold stays at hs;simpa[List.contains_iff_mem]using hs
theorem gF{v:Value}{w':World}(hw:Region.wanted o (yielded ops a.tmps)=true)(hr:(execOp a.eval o).run P w=.ok (.value v) w')(hT:∀t,o.dst=some t→T t v w')(hb:R w w')(hS:i=S→D (a.put o.dst v) w')(hD:waitedBy ops S i=false→¬i=S→D a w→D (a.put o.dst v) w'):OpOkR P R ops Q T S D i o a w:=by refine⟨hw,?_⟩;unfold Oper.wp;rw[hr,Oper.upon_value];exact⟨v,rfl,hT,hb,hS,hD⟩
theorem aAn{w':World}(hw:Region.wanted o (yielded ops a.tmps)=true)(hr:(execOp a.eval o).run P w=.ok .skip w')(hd:o.dst=none)(hb:R w w')(hS:i=S→D a w')(hD:waitedBy ops S i=false→¬i=S→D a w→D a w'):OpOkR P R ops Q T S D i o a w:=by
 refine⟨hw,?_⟩;unfold Oper.wp;rw[hr,Oper.upon_skip];refine⟨undef,rfl,fun t ht=>(by rw[hd]at ht;cases ht),hb,fun h=>?_,fun h1 h2 h3=>?_⟩
 ·rw[hd];exact hS h
 rw[hd];exact hD h1 h2 h3
theorem aAo{f:FuncId}{args:Array Value}(hw:Region.wanted o (yielded ops a.tmps)=true)(hr:(execOp a.eval o).run P w=.ok (.enter f args) w)
 (hc:Calls P f args w fun e w'=>∃v,e=.returned v∧(∀t,o.dst=some t→T t v w')∧R w w'∧(i=S→D (a.put o.dst v) w')∧(waitedBy ops S i=false→¬i=S→D a w→D (a.put o.dst v) w')):OpOkR P R ops Q T S D i o a w:=by
 refine⟨hw,?_⟩;unfold Oper.wp;rw[hr,Oper.upon_enter];refine Calls.mono hc ?_;rintro e w' ⟨v,rfl,h⟩;exact⟨v,rfl,h⟩
def AllOpsI(Φ:Nat→Oper→Prop):Nat→List Oper→Prop
 |_,[]=>True
 |i,o::l=>Φ i o∧AllOpsI Φ (i+1) l
theorem AllOpsI.cons{Φ:Nat→Oper→Prop}{i:Nat}{o:Oper}{l:List Oper}(h:Φ i o)(hl:AllOpsI Φ (i+1) l):AllOpsI Φ i (o::l):=⟨h,hl⟩
theorem AllOpsI.nil{Φ:Nat→Oper→Prop}{i:Nat}:AllOpsI Φ i []:=trivial
theorem AllOpsI.get{Φ:Nat→Oper→Prop}:∀(l:List Oper)(i:Nat),AllOpsI Φ i l→∀j o,l[j]?=some o→Φ (i+j) o
 |[],_,_,j,o,h=>by simp at h
 |x::l,i,hA,j,o,h=>by
  cases j with
  |zero=>simp only[List.getElem?_cons_zero,Option.some.injEq]at h;subst h;exact hA.1
  |succ j=>
   simp only[jG]at h;have :=AllOpsI.get l (i+1) hA.2 j o h;rw[show i+(j+1)=i+1+j by omega];exact this
theorem qC(R:World→World→Prop)(hRt:∀a b c,R a b→R b c→R a c)(hRd:∀w,R w {w with drawn:=w.drawn+1})(T:Nat→Value→World→Prop)(S:Nat)(D:Act→World→Prop)(hS:S<ops.size){id:Nat}{a0:Act}{w0:World}(hm:P.follows .mixedOrders=true)
 (hf:tabFineR ops a0.tmps.size=true)
 (hmono:∀t v w w',R w w'→T t v w→T t v w')
 (hopA:AllOpsI (fun i o=>∀a w,OpInR R ops T a0 w0 o a w→OpOkR P R ops Q T S D i o a w) 0 ops.toList)
 (hend:∀a w,R w0 w→D a w→a.defers=a0.defers→a.tmps.size=a0.tmps.size→(∀t,t∉ops.toList.filterMap (·.dst)→a.tmps.getD t undef=a0.tmps.getD t undef)→(∀t,t∈ops.toList.filterMap (·.dst)→T t (a.tmps.getD t undef) w)→Q .normal a w):
 (Code.region id ops true).wp P Q a0 w0:=by
 (have hop:∀(i:Nat)(o:Oper),ops[i]?=some o→∀a w,OpInR R ops T a0 w0 o a w→OpOkR P R ops Q T S D i o a w:=fun i o ho=>by have :=AllOpsI.get ops.toList 0 hopA i o (by rw[bF];exact ho);rw[cV]at this;exact this);(unfold tabFineR at hf;rw[aW,aW]at hf;obtain⟨⟨hnd,hlt⟩,hah⟩:=hf;have hnd:=of_decide_eq_true hnd;have hlt':∀t,t∈ops.toList.filterMap (·.dst)→t<a0.tmps.size:=fun t ht=>by have h:=bE.mp hlt t ht;exact of_decide_eq_true h);(have hah':∀(i:Nat)(o:Oper),ops[i]?=some o→∀e,e∈o.after→Region.binds .any e=true→e.on<i:=fun i o ho e he hbe=>by have hi:i<ops.size:=(aJ.mp ho).1;have h:=bE.mp hah i (cZ.mpr hi);rw[ho,dG,dH]at h;have h9:=bE.mp h e (by simpa using he);rw[hbe]at h9;exact of_decide_eq_true (by simpa using h9));have hset:∀{T:Nat→Value→World→Prop}{s:Array Bool}{a:Act}{w w':World}{i:Nat}{o:Oper}{v:Value},(∀t v w w',R w w'→T t v w→T t v w')→s.size=ops.size→ops[i]?=some o→TabbedR R ops T a0 w0 s a w→(∀t,o.dst=some t→T t v w')→R w w'→TabbedR R ops T a0 w0 (s.setIfInBounds i true) (a.put o.dst v) w':=by
  intro T s a w w' i o v hmono hs ho hI hv hb;refine⟨hRt _ _ _ hI.below hb,by rw[jN];exact hI.defers,by rw[fI];exact hI.size,fun t ht=>?_,fun j oj t hj hoj hd=>?_⟩
  ·cases hd:o.dst with
   |none=>exact hI.still t ht
   |some u=>
    have hne:t≠u:=fun h=>ht (h▸iR ho hd);rw[cI hne];exact hI.still t ht
  by_cases hij:j=i
  ·subst hij;rw[ho]at hoj;cases hoj;rw[hd,dC (by rw[hI.size];exact hlt' t (iR ho hd))];exact hv t hd
  (have hj':s[j]?=some true:=by rw[aQ,if_neg (fun h=>hij h.symm)]at hj;exact hj);have h1:=hmono t _ w w' hb (hI.done j oj t hj' hoj hd)
  cases hd2:o.dst with
  |none=>exact h1
  |some u=>
   have hne:t≠u:=fun h=>hij (lW ops.toList hnd j i oj o t (by rw[bF];exact hoj) (by rw[bF];exact ho) hd (h▸hd2));rw[cI hne];exact h1
 refine gO (fun s a w=>s.size=ops.size∧TabbedR R ops T a0 w0 s a w∧(s[S]?=some true→D a w∧∀i,waitedBy ops S i=true→s[i]?=some true)) hm ?_ ?_ ?_
 ·rintro s a w hr ⟨hs,hI,hDs⟩;have hall:∀n:Nat,n≤ops.size→∀i:Nat,i<n→s[i]?=some true:=by
   intro n
   induction n with
   |zero=>intro _ i hi;exact absurd hi (fD _)
   |succ n ih=>
    intro hn i hi;have ih:=ih oM;by_cases hin:i<n
    ·exact ih i hin
    have hin:i=n:=oM;subst hin
    cases hsi:s[i]? with
    |none=>rw[dV]at hsi;omega
    |some b=>
     cases b with
     |true=>rfl
     |false=>
      exfalso;have hio:i<ops.size:=oM;have :i∈Region.ready .any ops s:=by
       unfold Region.ready;refine eX.mpr ⟨cZ.mpr hio,?_⟩;rw[aW];refine⟨by simp[Array.getD_eq_getD_getElem?,hsi],?_⟩;have ho:ops[i]?=some ops[i]:=cD hio;rw[ho,dG,dH,eI];intro e he
       cases hbe:Region.binds .any e with
       |false=>rfl
       |true=>
        have h1:=ih e.on (hah' i _ ho e he hbe);simp[Array.getD_eq_getD_getElem?,h1]
      rw[hr]at this;exact absurd this sI
  refine hend a w hI.below (hDs (hall ops.size (aF _) S hS)).1 hI.defers hI.size hI.still (fun t ht=>?_);obtain⟨o,ho,hd⟩:=dM.mp ht;obtain⟨i,hi⟩:=List.mem_iff_getElem?.mp ho;rw[bF]at hi;exact hI.done i o t (hall ops.size (aF _) i (aJ.mp hi).1) hi hd
 ·rintro s a w i hi ⟨hs,hI,hDs⟩;obtain⟨hsi,o,ho,haf⟩:=iZ hi;have h:=hop i o ho a w ⟨hI.below,hI.still,fun e he hb o' t ho' hd=>hI.done e.on o' t (haf e he hb) ho' hd,hI.size⟩;(have hss:(s.setIfInBounds i true).size=ops.size:=by simp[hs]);obtain⟨hw,h⟩:=h;unfold wpOp;rw[ho];dsimp only;rw[if_pos hw];left;refine Oper.wp_mono ?_ h;rintro a' w' ⟨v,rfl,hv,hb,hSS,hDD⟩;refine⟨hss,hset hmono hs ho hI hv hb,fun hS1=>?_⟩;have hup:∀j,s[j]?=some true→(s.setIfInBounds i true)[j]?=some true:=fun j hj=>by
   rw[aQ];split
   ·rename_i h9;subst h9;rw[hsi]at hj;cases hj
   exact hj
  by_cases hiS:i=S
  ·refine⟨hSS hiS,fun j hj=>hup j ?_⟩;subst hiS;unfold waitedBy at hj;rw[ho,dG,dH,gT]at hj;obtain⟨e,he,h9⟩:=hj;rw[aW]at h9;have :=haf e (by simpa using he) h9.1;rw[(by simpa using h9.2:e.on=j)]at this;exact this
  rw[aQ,if_neg hiS]at hS1;obtain⟨hD1,hW1⟩:=hDs hS1;refine⟨?_,fun j hj=>hup j (hW1 j hj)⟩
  cases hwi:waitedBy ops S i with
  |true=>
   have :=hW1 i hwi;rw[hsi]at this;cases this
  |false=>exact hDD hwi hiS hD1
 refine⟨by simp,⟨hRd w0,rfl,rfl,fun _ _=>rfl,fun i o t h _ _=>?_⟩,fun h=>?_⟩
 ·rw[cO]at h;split at h<;>simp at h
 rw[cO]at h;split at h<;>simp at h
end
structure Rq (n:Nat) (w w':World):Prop where
 os:w'.os=w.os
 tape:w'.tape=w.tape
 output:w'.output=w.output
 size:w.heap.size≤w'.heap.size
 low:∀k,k<n→w'.heap[k]?=w.heap[k]?
 keep:∀(k:Nat)(c:Array Value)(t:TypeId),w.heap[k]?=some (.cells c t)→t≠138→w'.heap[k]?=some (.cells c t)
 way:∀(k:Nat)(y:Ru.Way),WayAt w k y→Ru.Wf 8 y→∃y',Ru.Wf 8 y'∧WayAt w' k y'
theorem Rq.refl(n:Nat)(w:World):Rq n w w:=⟨rfl,rfl,rfl,aF _,fun _ _=>rfl,fun _ _ _ h _=>h,fun _ y h hy=>⟨y,hy,h⟩⟩
theorem Rq.trans{n:Nat}{a b c:World}(h:Rq n a b)(k:Rq n b c):Rq n a c:=
 ⟨k.os.trans h.os,k.tape.trans h.tape,k.output.trans h.output,aX h.size k.size,fun j hj=>(k.low j hj).trans (h.low j hj),fun j o t hj ht=>k.keep j o t (h.keep j o t hj ht) ht,fun j y hj hy=>by
  obtain⟨y1,h1,h2⟩:=h.way j y hj hy
  exact k.way j y1 h2 h1⟩
theorem Rq.of_below{n:Nat}{w w':World}(h:Below w.heap.size w w')(hn:n≤w.heap.size):Rq n w w':=
 ⟨h.os,h.tape,h.output,h.size,fun k hk=>h.block k (bP hk hn),fun k _ _ hk _=>(h.block k (aY hk)).trans hk,fun _ y hk hy=>⟨y,hy,hk.below h⟩⟩
theorem Rq.to_below{n:Nat}{w w':World}(h:Rq n w w'){m:Nat}(hm:m≤n):Below m w w':=⟨h.os,h.tape,h.output,h.size,fun k hk=>h.low k (bP hk hm)⟩
theorem Rq.store{n:Nat}{w:World}{b:Nat}{y z:Ru.Way}(h:WayAt w b y)(hn:n≤b)(hz:Ru.Wf 8 z):Rq n w (w.setRow b (wayArr z)):=by
 refine⟨rfl,rfl,rfl,by simp,fun k hk=>lH oM,fun k c t hk ht=>?_,fun k y' hk hy'=>?_⟩
 ·by_cases hkb:k=b
  ·subst hkb;rw[h]at hk;injection hk with hk;injection hk with _ hk;exact absurd hk.symm ht
  exact(lH hkb).trans hk
 by_cases hkb:k=b
 ·subst hkb;exact⟨z,hz,qA h⟩
 exact⟨y',hy',(lH hkb).trans hk⟩
theorem aA8{a:Act}{o:Oper}{x u:Operand}{w:World}{b:Nat}{y z:Ru.Way}(ho:o.op=.store 138 x u)(hx:a.eval x=.pointer (some ⟨b,0,none⟩))(hu:a.eval u=wayVal z)(hW:WayAt w b y)(hy:Ru.Wf 8 y)(hz:Ru.Wf 8 z):(execOp a.eval o).run Tryz.prog w=.ok .skip (w.setRow b (wayArr z)):=by have hr:=run_storeVar_row (P:=Tryz.prog) w b 138 138 (wayArr y) (wayArr z) hW (by rw[gX hz];exact qD) (by rw[gX hy,gX hz]) (qE z);unfold execOp;simp only[ho,hx,hu,Instr.storeAt,Instr.sureAddr,Sem.run_bind,Sem.run_pure,Result.andThen_ok,hr]
theorem aCk{w:World}{b:Nat}{m:Int}(h:w.heap[b]?=some (.cells #[.int .i64 m] 3)):IntsV w (.slice (some ⟨b,0,none⟩) 1 1) [m]:=by refine⟨_,_,rfl, .inr ⟨b,0,rfl,fun i hi=>?_⟩⟩;(obtain rfl:i=0:=by simpa using hi);rw[aC h];rfl
def hold8Tv(y:Ru.Way)(X b off ct:Nat)(op:Int)(t0 t1:Sc.Term):Nat→Value
 |60=>.pointer (some ⟨X,1,none⟩)
 |61=>.int .i64 op
 |62=>wayVal y
 |63=>.pointer (some ⟨X,3,none⟩)
 |64=>.slice (some ⟨b,off,none⟩) 3 ct
 |65=>.pointer (some ⟨b,off,none⟩)
 |66=>ptermVal t0
 |67=>.int .i64 (Ru.num y.nums t0)
 |68=>wayVal y
 |69=>.pointer (some ⟨X,3,none⟩)
 |70=>.slice (some ⟨b,off,none⟩) 3 ct
 |71=>.pointer (some ⟨b,off+2,none⟩)
 |72=>ptermVal t1
 |73=>.int .i64 (Ru.num y.nums t1)
 |74=>.int .i64 (Ru.reck op (Ru.num y.nums t0) (Ru.num y.nums t1))
 |9=>.int .i64 (Ru.reck op (Ru.num y.nums t0) (Ru.num y.nums t1))
 |_=>.bool false
def hold9V(y z:Ru.Way)(X b off ct:Nat)(m:Int)(ok:Bool)(tQ:Nat)(vQ:Value):Prop:=
 match tQ with
 |76=>vQ=(wayVal y:Value)
 |77=>vQ=(.pointer (some ⟨X,3,none⟩):Value)
 |78=>vQ=(.slice (some ⟨b,off,none⟩) 3 ct:Value)
 |79=>vQ=(.slice (some ⟨b,off+4,none⟩) 1 (ct-2):Value)
 |80=>vQ=(.int .i64 m:Value)
 |82=>vQ=(.tuple #[wayVal z, .bool ok]:Value)
 |75=>vQ=(.tuple #[wayVal z, .bool ok]:Value)
 |83=>vQ=(wayVal z:Value)
 |84=>vQ=(.bool ok:Value)
 |11=>vQ=(.bool ok:Value)
 |_=>True
def hold9T(y z:Ru.Way)(X b off ct n:Nat)(m:Int)(ok:Bool)(tQ:Nat)(vQ:Value)(WQ:World):Prop:=
 if tQ=81 then∃b',vQ=.slice (some ⟨b',0,none⟩) 1 1∧WQ.heap[b']?=some (.cells #[.int .i64 m] 3)
 else if tQ=10 then∃b',vQ=.pointer (some ⟨b',0,none⟩)∧n≤b'∧∃y',Ru.Wf 8 y'∧WayAt WQ b' y' else hold9V y z X b off ct m ok tQ vQ
theorem yV(y z:Ru.Way)(X b off ct n:Nat)(m:Int)(ok:Bool)(tQ:Nat)(vQ:Value)(W W':World)(hb:Rq n W W')(h:hold9T y z X b off ct n m ok tQ vQ W):hold9T y z X b off ct n m ok tQ vQ W':=by
 unfold hold9T at h ⊢;by_cases ht:tQ=81
 ·rw[if_pos ht]at h ⊢;obtain⟨b',h1,h2⟩:=h;exact⟨b',h1,hb.keep _ _ _ h2 dE⟩
 rw[if_neg ht]at h ⊢;by_cases ht2:tQ=10
 ·rw[if_pos ht2]at h ⊢;obtain⟨b',h1,h2,y',h3,h4⟩:=h;obtain⟨y2,h5,h6⟩:=hb.way _ _ h4 h3;exact⟨b',h1,h2,y2,h5,h6⟩
 rw[if_neg ht2]at h ⊢;exact h
def hold9D(z:Ru.Way)(n:Nat)(a:Act)(w:World):Prop:=∃b',n≤b'∧a.tmps.getD 10 undef=.pointer (some ⟨b',0,none⟩)∧WayAt w b' z
theorem qU{z:Ru.Way}{n:Nat}{a:Act}{w:World}{d:Nat}{v:Value}(hd:(10:Nat)≠d)(h:hold9D z n a w):hold9D z n (a.put (some d) v) w:=by obtain⟨b',h1,h2,h3⟩:=h;exact⟨b',h1,(cI hd).trans h2,h3⟩
theorem aBx{σ:Type}{step:σ→Ru.Way→σ×Bool}{live:σ→Ru.Way→Prop}{I:σ→World→Prop}{NB hh:Nat}{cb:Array Value}(facts:List Rl.Fc)(l:Sc.Lit)(y:Ru.Way)(vf vt:Value)(w0 w:World)(s:σ)
 (hB0:Below w0.heap.size w0 w) (hT:PTermsV w0 vt l.terms) (hTI:Ru.TermsIn 8 l.terms) (hTl:l.terms.length=3) (hy:Ru.Wf 8 y) (hk:l.kind=4) (hN0:Sc.isNum (Ru.num y.nums (Sc.termD l.terms 0))=true) (hN1:Sc.isNum (Ru.num y.nums (Sc.termD l.terms 1))=true)
 (TL:Tell w0.heap.size NB hh cb step live I) (he:∀args w,(callFunc hh args).run Tryz.prog w=.ok (.enter hh args) w) (hI:I s w) (hLv:Ru.Lv step live s (Ru.on facts l y)):
 Calls Tryz.prog 145 #[vf,plitVal l vt,wayVal y, .func (.func hh) #[] cb] w fun e w'=>e=.returned (.bool (Ru.run step s (Ru.on facts l y)).2)∧I (Ru.run step s (Ru.on facts l y)).1 w'∧Kp w0.heap.size NB w w':=by
 obtain⟨at_,ct,rfl,hct,hTA⟩:=id hT;obtain⟨kd,op,pd,ts⟩:=l;dsimp only at *;subst hk;obtain⟨t0,t1,t2,rfl⟩:∃t0 t1 t2,ts=[t0,t1,t2]:=by
  match ts,hTl with
  |[a,b,c],_=>exact⟨a,b,c,rfl⟩
 have hct:3≤ct:=hct;(have hon:Ru.on facts ⟨4,op,pd,[t0,t1,t2]⟩ y=match Ru.withW y [t2] [(Ru.reck op (Ru.num y.nums t0) (Ru.num y.nums t1))]with |none=>[]|some w'=>if Sc.isNum (Ru.reck op (Ru.num y.nums t0) (Ru.num y.nums t1))=true then [w'] else []:=by unfold Ru.on;rfl);generalize hLL:Ru.on facts ⟨4,op,pd,[t0,t1,t2]⟩ y=LL at *;have HON:Hid _:=hon;have HT0:Hid (Ru.TermIn 8 t0):=hTI t0 sI;have HT1:Hid (Ru.TermIn 8 t1):=hTI t1 sI;have HTI2:Hid (Ru.TermsIn 8 [t2]):=fun t ht=>hTI t (by simp at ht;subst ht;simp);have HN0:Hid (-1000000≤Ru.num y.nums t0∧Ru.num y.nums t0≤1000000):=Ru.between_iff.mp hN0;have HN1:Hid (-1000000≤Ru.num y.nums t1∧Ru.num y.nums t1≤1000000):=Ru.between_iff.mp hN1;have HZW:Hid (Ru.Wf 8 (Ru.withO y [t2] [(Ru.reck op (Ru.num y.nums t0) (Ru.num y.nums t1))])):=by
  show Ru.Wf 8 _;unfold Ru.withO
  cases hx:Ru.withW y [t2] [(Ru.reck op (Ru.num y.nums t0) (Ru.num y.nums t1))]with
  |none=>exact⟨rfl,rfl⟩
  |some z=>exact Ru.withW_wf hy hx
 have HOKm:Hid ((Ru.reck op (Ru.num y.nums t0) (Ru.num y.nums t1))=(Ru.reck op (Ru.num y.nums t0) (Ru.num y.nums t1))):=rfl;obtain⟨b,off,rfl,hc⟩:=fG hTA 0 sI;obtain⟨p0,p1⟩:=hc 0 sI;obtain⟨p2,p3⟩:=hc 1 sI;obtain⟨p4,p5⟩:=hc 2 sI;rw[jT,iV]at p0 p1;rw[Nat.one_mul]at p2 p3;clear hon hLL hc hTA hT hTI hTl hN0 hN1;show Calls Tryz.prog 145 #[vf, .agg #[.int .i64 4, .int .i64 op, .int .i64 pd, .slice (some ⟨b,off,none⟩) 3 ct],wayVal y, .func (.func hh) #[] cb] w _;obtain⟨h0,h1,hb⟩:=lI w (.cells #[.int .i64 4, .int .i64 op, .int .i64 pd, .slice (some ⟨b,off,none⟩) 3 ct] 49) (.cells (wayArr y) 138);have hroom0:=TL.room s w hI;have HW:Hid (WayAt ((w.alloc (.cells #[.int .i64 4, .int .i64 op, .int .i64 pd, .slice (some ⟨b,off,none⟩) 3 ct] 49)).alloc (.cells (wayArr y) 138)) (w.heap.size+1) y):=h1;have HI:Hid _:=TL.grow _ _ _ hI hb;have HK:Hid (Kp w0.heap.size NB w ((w.alloc (.cells #[.int .i64 4, .int .i64 op, .int .i64 pd, .slice (some ⟨b,off,none⟩) 3 ct] 49)).alloc (.cells (wayArr y) 138))):=Kp.of_below hb hroom0.1;have hBq:=HK.out.below hB0;replace p0:((w.alloc (.cells #[.int .i64 4, .int .i64 op, .int .i64 pd, .slice (some ⟨b,off,none⟩) 3 ct] 49)).alloc (.cells (wayArr y) 138)).cell? ⟨b,off,none⟩=some (.int .i64 t0.var):=aD hBq p0;replace p1:((w.alloc (.cells #[.int .i64 4, .int .i64 op, .int .i64 pd, .slice (some ⟨b,off,none⟩) 3 ct] 49)).alloc (.cells (wayArr y) 138)).cell? ⟨b,off+1,none⟩=some (.int .i64 t0.n):=aD hBq p1;replace p2:((w.alloc (.cells #[.int .i64 4, .int .i64 op, .int .i64 pd, .slice (some ⟨b,off,none⟩) 3 ct] 49)).alloc (.cells (wayArr y) 138)).cell? ⟨b,off+2,none⟩=some (.int .i64 t1.var):=aD hBq p2;replace p3:((w.alloc (.cells #[.int .i64 4, .int .i64 op, .int .i64 pd, .slice (some ⟨b,off,none⟩) 3 ct] 49)).alloc (.cells (wayArr y) 138)).cell? ⟨b,off+2+1,none⟩=some (.int .i64 t1.n):=aD hBq p3;replace p4:((w.alloc (.cells #[.int .i64 4, .int .i64 op, .int .i64 pd, .slice (some ⟨b,off,none⟩) 3 ct] 49)).alloc (.cells (wayArr y) 138)).cell? ⟨b,off+4,none⟩=some (.int .i64 t2.var):=aD hBq p4;replace p5:((w.alloc (.cells #[.int .i64 4, .int .i64 op, .int .i64 pd, .slice (some ⟨b,off,none⟩) 3 ct] 49)).alloc (.cells (wayArr y) 138)).cell? ⟨b,off+4+1,none⟩=some (.int .i64 t2.n):=aD hBq p5;have HTL:Hid _:=TL;(have d0:((w.alloc (.cells #[.int .i64 4, .int .i64 op, .int .i64 pd, .slice (some ⟨b,off,none⟩) 3 ct] 49)).alloc (.cells (wayArr y) 138)).cell? ⟨w.heap.size,0,none⟩=some (.int .i64 4):=by rw[aC h0];rfl);(have d1:((w.alloc (.cells #[.int .i64 4, .int .i64 op, .int .i64 pd, .slice (some ⟨b,off,none⟩) 3 ct] 49)).alloc (.cells (wayArr y) 138)).cell? ⟨w.heap.size,1,none⟩=some (.int .i64 op):=by rw[aC h0];rfl);(have d3:((w.alloc (.cells #[.int .i64 4, .int .i64 op, .int .i64 pd, .slice (some ⟨b,off,none⟩) 3 ct] 49)).alloc (.cells (wayArr y) 138)).cell? ⟨w.heap.size,3,none⟩=some (.slice (some ⟨b,off,none⟩) 3 ct):=by rw[aC h0];rfl);have hroom:=TL.room _ _ HI.out;clear h0 h1 hb hI hB0 TL hBq hroom0
 go_enter Tryz.func145,Tryz.ntmps145
 go_upto_region 8 with fail;generalize ((w.alloc (.cells #[.int .i64 4, .int .i64 op, .int .i64 pd, .slice (some ⟨b,off,none⟩) 3 ct] 49)).alloc (.cells (wayArr y) 138))=w1 at *;refine eJ (fun tQ vQ _=>vQ=hold8Tv y w.heap.size b off ct op t0 t1 tQ) kR kR (fun _ _ _ _ _ h=>h) ?hopE ?hendE
 case hopE=>
  refine oC (fun a y_ h=>by have e5:a.eval (.tmp 5)=(.pointer (some ⟨w.heap.size,0,none⟩):Value):=h.old 5;exact opX (.pointer (some ⟨w.heap.size,1,none⟩))) ?_;refine oC (fun a y_ h=>by have e60:a.eval (.tmp 60)=(.pointer (some ⟨w.heap.size,1,none⟩):Value):=h.of 60;have c1:=aD h.below d1;exact opX (.int .i64 op)) ?_;refine oC (fun a y_ h=>by have e6:a.eval (.tmp 6)=(.pointer (some ⟨w.heap.size+1,0,none⟩):Value):=h.old 6;refine opV (v:=wayVal y) ?_;exact fO rfl e6 (WayAt.below HW.out h.below) hy) ?_;refine oC (fun a y_ h=>by have e5:a.eval (.tmp 5)=(.pointer (some ⟨w.heap.size,0,none⟩):Value):=h.old 5;exact opX (.pointer (some ⟨w.heap.size,3,none⟩))) ?_;refine oC (fun a y_ h=>by have e63:a.eval (.tmp 63)=(.pointer (some ⟨w.heap.size,3,none⟩):Value):=h.of 63;have c3:=aD h.below d3;exact opX (.slice (some ⟨b,off,none⟩) 3 ct)) ?_;refine oC (fun a y_ h=>by have e64:a.eval (.tmp 64)=(.slice (some ⟨b,off,none⟩) 3 ct:Value):=h.of 64;exact opX (.pointer (some ⟨b,off,none⟩))) ?_;refine oC (fun a y_ h=>by have e65:a.eval (.tmp 65)=(.pointer (some ⟨b,off,none⟩):Value):=h.of 65;have c0:=aD h.below p0;have c1:=aD h.below p1;exact opX (ptermVal t0)) ?_;refine oC (fun a y_ h=>?_) ?_
  ·have e62:a.eval (.tmp 62)=(wayVal y:Value):=h.of 62;have e66:a.eval (.tmp 66)=(ptermVal t0:Value):=h.of 66;refine dD (f:=187) (args:=#[wayVal y,ptermVal t0]) (aM rfl) ?_ ?_
   ·have ec:=evc a;have ef:=evf a;generalize a.eval=ev at *;clear h;go_simp
   refine Calls.mono (gZ y t0 y_ hy HT0.out) ?_;rintro _ y2 ⟨rfl,hb2⟩;exact⟨_,rfl,fun t ht=>by cases ht;exact rfl,hb2⟩
  refine oC (fun a y_ h=>by have e6:a.eval (.tmp 6)=(.pointer (some ⟨w.heap.size+1,0,none⟩):Value):=h.old 6;refine opV (v:=wayVal y) ?_;exact fO rfl e6 (WayAt.below HW.out h.below) hy) ?_;refine oC (fun a y_ h=>by have e5:a.eval (.tmp 5)=(.pointer (some ⟨w.heap.size,0,none⟩):Value):=h.old 5;exact opX (.pointer (some ⟨w.heap.size,3,none⟩))) ?_;refine oC (fun a y_ h=>by have e69:a.eval (.tmp 69)=(.pointer (some ⟨w.heap.size,3,none⟩):Value):=h.of 69;have c3:=aD h.below d3;exact opX (.slice (some ⟨b,off,none⟩) 3 ct)) ?_;refine oC (fun a y_ h=>by have e70:a.eval (.tmp 70)=(.slice (some ⟨b,off,none⟩) 3 ct:Value):=h.of 70;exact opX (.pointer (some ⟨b,off+2,none⟩))) ?_;refine oC (fun a y_ h=>by have e71:a.eval (.tmp 71)=(.pointer (some ⟨b,off+2,none⟩):Value):=h.of 71;have c0:=aD h.below p2;have c1:=aD h.below p3;exact opX (ptermVal t1)) ?_;refine oC (fun a y_ h=>?_) ?_
  ·have e68:a.eval (.tmp 68)=(wayVal y:Value):=h.of 68;have e72:a.eval (.tmp 72)=(ptermVal t1:Value):=h.of 72;refine dD (f:=187) (args:=#[wayVal y,ptermVal t1]) (aM rfl) ?_ ?_
   ·have ec:=evc a;have ef:=evf a;generalize a.eval=ev at *;clear h;go_simp
   refine Calls.mono (gZ y t1 y_ hy HT1.out) ?_;rintro _ y2 ⟨rfl,hb2⟩;exact⟨_,rfl,fun t ht=>by cases ht;exact rfl,hb2⟩
  refine oC (fun a y_ h=>?_) ?_
  ·have e61:a.eval (.tmp 61)=(.int .i64 op:Value):=h.of 61;have e67:a.eval (.tmp 67)=(.int .i64 (Ru.num y.nums t0):Value):=h.of 67;have e73:a.eval (.tmp 73)=(.int .i64 (Ru.num y.nums t1):Value):=h.of 73;refine dD (f:=188) (args:=#[.int .i64 op, .int .i64 (Ru.num y.nums t0), .int .i64 (Ru.num y.nums t1)]) (aM rfl) ?_ ?_
   ·have ec:=evc a;have ef:=evf a;generalize a.eval=ev at *;clear h;go_simp
   refine Calls.mono (vU op (Ru.num y.nums t0) (Ru.num y.nums t1) y_ HN0.out HN1.out) ?_;rintro _ y2 ⟨rfl,rfl⟩;exact⟨_,rfl,fun t ht=>by cases ht;exact rfl,aH _ _⟩
  refine oC (fun a y_ h=>by have e74:a.eval (.tmp 74)=(.int .i64 (Ru.reck op (Ru.num y.nums t0) (Ru.num y.nums t1)):Value):=h.of 74;exact opX (.int .i64 (Ru.reck op (Ru.num y.nums t0) (Ru.num y.nums t1)))) ?_;exact AllOps.nil
 case hendE=>
  rintro⟨tm,df⟩ wE hbE hdE hsE hstE hTE;have h9:tm.getD 9 undef=.int .i64 (Ru.reck op (Ru.num y.nums t0) (Ru.num y.nums t1)):=iI (T:=fun tQ vQ _=>vQ=hold8Tv y w.heap.size b off ct op t0 t1 tQ) (w:=wE) (a:=⟨tm,df⟩) (t:=9) hTE kR;obtain rfl:df=[]:=hdE;obtain⟨fQ,hQ,hFE⟩:=fH [60,61,62,63,64,65,66,67,68,69,70,71,72,73,74,9] tm _ hsE hstE;clear hsE hstE hTE;simp only[cL,dB,(hQ 9).trans h9]at hFE;clear h9 hQ;simp only[aV,bS,bV]at hFE;subst hFE;have HI2:Hid _:=HTL.out.grow _ _ _ HI.out hbE;have HK2:Hid _:=HK.out.trans (Kp.of_below hbE hroom.1);have HW2:Hid (WayAt wE (w.heap.size+1) y):=WayAt.below HW.out hbE;have hroom2:=HTL.out.room _ _ HI2.out;(have HT2:Hid (∀W,Below wE.heap.size wE W→PTermsV W (.slice (some ⟨b,off+4,none⟩) 1 (ct-2)) [t2]):=fun W hW=>by refine⟨_,_,rfl,by show 1≤ct-2;omega, .inr ⟨b,off+4,rfl,fun i hi=>?_⟩⟩;(obtain rfl:i=0:=by simpa using hi);exact⟨by rw[jT,iV];exact aD hW (aD hbE p4),by rw[jT,iV];exact aD hW (aD hbE p5)⟩);(replace d3:=aD hbE d3;clear d0 d1 p0 p1 p2 p3 p4 p5 HI HK HW hroom hbE;generalize wE=w2 at *;obtain⟨m,hm⟩:∃m,m=(Ru.reck op (Ru.num y.nums t0) (Ru.num y.nums t1)):=⟨_,rfl⟩;rw[←hm]at HON HZW HOKm ⊢;clear hm;obtain⟨z,hz⟩:∃z,z=Ru.withO y [t2] [m]:=⟨_,rfl⟩;obtain⟨ok,hok0⟩:∃ok,ok=(Ru.withW y [t2] [m]).isSome:=⟨_,rfl⟩;(have HZ:Hid ((.tuple #[wayVal (Ru.withO y [t2] [m]), .bool (Ru.withW y [t2] [m]).isSome]:Value)=.tuple #[wayVal z, .bool ok]):=by show _=_;rw[hz,hok0]);have HOK:Hid ((ok=false→Ru.withW y [t2] [m]=none)∧(ok=true→Ru.withW y [t2] [m]=some z)):=by show(_→_)∧(_→_);rw[hok0,hz];unfold Ru.withO;cases Ru.withW y [t2] [m]<;>simp);rw[←hz]at HZW;clear hz hok0 HOKm;go_upto_region 9 with fail;refine qC (Rq w2.heap.size) (fun _ _ _=>Rq.trans) (fun _=>⟨rfl,rfl,rfl,aF _,fun _ _=>rfl,fun _ _ _ h _=>h,fun _ y' h hy'=>⟨y',hy',h⟩⟩) (hold9T y z w.heap.size b off ct w2.heap.size m ok) 11 (hold9D z w2.heap.size) dE kR kR (yV y z w.heap.size b off ct w2.heap.size m ok) ?hopF ?hendF
  case hopF=>
   refine AllOpsI.cons (fun a y_ h=>by have e6:a.eval (.tmp 6)=(.pointer (some ⟨w.heap.size+1,0,none⟩):Value):=h.old 6;refine gF (v:=wayVal y) (w':=y_) (aM rfl) ?_ tR (Rq.refl _ _) (fun h9=>absurd h9 dE) (fun h9=>absurd h9 dE);exact fO rfl e6 (WayAt.below HW2.out (h.below.to_below (aF _))) hy) ?_;refine AllOpsI.cons (fun a y_ h=>by have e5:a.eval (.tmp 5)=(.pointer (some ⟨w.heap.size,0,none⟩):Value):=h.old 5;refine gF (v:=.pointer (some ⟨w.heap.size,3,none⟩)) (w':=y_) (aM rfl) ?_ tR (Rq.refl _ _) (fun h9=>absurd h9 dE) (fun h9=>absurd h9 dE);have ec:=evc a;generalize a.eval=ev at *;clear h;go_simp) ?_;refine AllOpsI.cons (fun a y_ h=>by have e77:a.eval (.tmp 77)=(.pointer (some ⟨w.heap.size,3,none⟩):Value):=h.of 77;have c3:=aD (h.below.to_below (aF _)) d3;refine gF (v:=.slice (some ⟨b,off,none⟩) 3 ct) (w':=y_) (aM rfl) ?_ tR (Rq.refl _ _) (fun h9=>absurd h9 dE) (fun h9=>absurd h9 dE);have ec:=evc a;generalize a.eval=ev at *;clear h;go_simp) ?_;refine AllOpsI.cons (fun a y_ h=>by have e78:a.eval (.tmp 78)=(.slice (some ⟨b,off,none⟩) 3 ct:Value):=h.of 78;have hc2:¬ct=2:=oM;refine gF (v:=.slice (some ⟨b,off+4,none⟩) 1 (ct-2)) (w':=y_) (aM rfl) ?_ tR (Rq.refl _ _) (fun h9=>absurd h9 dE) (fun h9=>absurd h9 dE);have ec:=evc a;generalize a.eval=ev at *;clear h;go_simp) ?_;refine AllOpsI.cons (fun a y_ h=>by have e9:a.eval (.tmp 9)=(.int .i64 m:Value):=h.old 9;refine gF (v:=.int .i64 m) (w':=y_) (aM rfl) ?_ tR (Rq.refl _ _) (fun h9=>absurd h9 dE) (fun h9=>absurd h9 dE);have ec:=evc a;generalize a.eval=ev at *;clear h;go_simp) ?_;refine AllOpsI.cons (fun a y_ h=>by have e80:a.eval (.tmp 80)=(.int .i64 m:Value):=h.of 80;refine gF (v:=.slice (some ⟨y_.heap.size,0,none⟩) 1 1) (w':=y_.alloc (.cells #[.int .i64 m] 3)) (aM rfl) ?_ (fun t ht=>by cases ht;exact⟨_,rfl,heap_alloc_new y_ _⟩) (Rq.of_below ((aH _ _).alloc (aF _) _) h.below.size) (fun h9=>absurd h9 dE) (fun h9=>absurd h9 dE);have ec:=evc a;generalize a.eval=ev at *;clear h;go_simp) ?_;refine AllOpsI.cons (fun a y_ h=>?_) ?_
   ·have e76:a.eval (.tmp 76)=(wayVal y:Value):=h.of 76;have e79:a.eval (.tmp 79)=(.slice (some ⟨b,off+4,none⟩) 1 (ct-2):Value):=h.of 79;obtain⟨b',e81,hb'⟩:∃b',a.eval (.tmp 81)=.slice (some ⟨b',0,none⟩) 1 1∧y_.heap[b']?=some (.cells #[.int .i64 m] 3):=h.of 81;refine aAo (f:=189) (args:=#[wayVal y, .slice (some ⟨b,off+4,none⟩) 1 (ct-2), .slice (some ⟨b',0,none⟩) 1 1]) (aM rfl) ?_ ?_
    ·have ec:=evc a;have ef:=evf a;generalize a.eval=ev at *;clear h;go_simp
    refine Calls.mono (wY y [t2] [m] _ _ y_ hy (HT2.out y_ (h.below.to_below (aF _))) (aCk hb') rfl sI HTI2.out) ?_;rintro _ y2 ⟨rfl,hb2⟩;exact⟨_,rfl,fun t ht=>by cases ht;exact HZ.out,Rq.of_below hb2 h.below.size,fun h9=>absurd h9 dE,fun h9=>absurd h9 dE⟩
   refine AllOpsI.cons (fun a y_ h=>by have e82:a.eval (.tmp 82)=(.tuple #[wayVal z, .bool ok]:Value):=h.of 82;refine gF (v:=.tuple #[wayVal z, .bool ok]) (w':=y_) (aM rfl) ?_ tR (Rq.refl _ _) (fun h9=>absurd h9 dE) (fun h9=>absurd h9 dE);have ec:=evc a;generalize a.eval=ev at *;clear h;go_simp) ?_;refine AllOpsI.cons (fun a y_ h=>by have e75:a.eval (.tmp 75)=(.tuple #[wayVal z, .bool ok]:Value):=h.of 75;refine gF (v:=wayVal z) (w':=y_) (aM rfl) ?_ tR (Rq.refl _ _) (fun h9=>absurd h9 dE) (fun h9=>absurd h9 dE);have ec:=evc a;generalize a.eval=ev at *;clear h;go_simp) ?_;refine AllOpsI.cons (fun a y_ h=>by have e75:a.eval (.tmp 75)=(.tuple #[wayVal z, .bool ok]:Value):=h.of 75;refine gF (v:=.bool ok) (w':=y_) (aM rfl) ?_ tR (Rq.refl _ _) (fun h9=>absurd h9 dE) (fun _ _ hD=>qU dE hD);have ec:=evc a;generalize a.eval=ev at *;clear h;go_simp) ?_;refine AllOpsI.cons (fun a y_ h=>by refine gF (v:=.pointer (some ⟨y_.heap.size,0,none⟩)) (w':=y_.alloc (.cells #[.int .i64 0, .int .i64 0, .int .i64 0, .int .i64 0, .int .i64 0, .int .i64 0, .int .i64 0, .int .i64 0, .bool false, .bool false, .bool false, .bool false, .bool false, .bool false, .bool false, .bool false] 138)) (aM rfl) ?_ (fun t ht=>by cases ht;exact⟨_,rfl,h.below.size,Ru.way0,⟨rfl,rfl⟩,heap_alloc_new y_ _⟩) (Rq.of_below ((aH _ _).alloc (aF _) _) h.below.size) (fun h9=>absurd h9 dE) (fun h9=>absurd h9 dE);have ec:=evc a;generalize a.eval=ev at *;clear h;go_simp) ?_;refine AllOpsI.cons (fun a y_ h=>by have e83:a.eval (.tmp 83)=(wayVal z:Value):=h.of 83;obtain⟨b',e10,hn',y',hy',hW'⟩:∃b',a.eval (.tmp 10)=.pointer (some ⟨b',0,none⟩)∧w2.heap.size≤b'∧∃y',Ru.Wf 8 y'∧WayAt y_ b' y':=h.of 10;exact aAn (w':=y_.setRow b' (wayArr z)) (aM rfl) (aA8 rfl e10 e83 hW' hy' HZW.out) rfl (Rq.store hW' hn' HZW.out) (fun _=>⟨b',hn',e10,qA hW'⟩) (fun _ h9=>absurd rfl h9)) ?_;refine AllOpsI.cons (fun a y_ h=>by have e84:a.eval (.tmp 84)=(.bool ok:Value):=h.of 84;refine gF (v:=.bool ok) (w':=y_) (aM rfl) ?_ tR (Rq.refl _ _) (fun h9=>absurd h9 dE) (fun _ _ hD=>qU dE hD);have ec:=evc a;generalize a.eval=ev at *;clear h;go_simp) ?_;exact AllOpsI.nil
  case hendF=>
   rintro⟨tm,df⟩ wE hRE hDE hdE hsE hstE hTE;obtain⟨ZB,hZn,h10,hZW⟩:=hDE;have h10:tm.getD 10 undef=.pointer (some ⟨ZB,0,none⟩):=h10;have h11:tm.getD 11 undef=.bool ok:=iI (T:=hold9T y z w.heap.size b off ct w2.heap.size m ok) (w:=wE) (a:=⟨tm,df⟩) (t:=11) hTE kR;obtain rfl:df=[]:=hdE;have hFE:=lM [76,77,78,79,80,81,82,75,83,84,10,11] tm _ hsE hstE;clear hsE hstE hTE;simp only[cL,dB,h10,h11]at hFE;clear h10 h11;generalize tm.getD 76 undef=z76 at hFE;generalize tm.getD 77 undef=z77 at hFE;generalize tm.getD 78 undef=z78 at hFE;generalize tm.getD 79 undef=z79 at hFE;generalize tm.getD 80 undef=z80 at hFE;generalize tm.getD 81 undef=z81 at hFE;generalize tm.getD 82 undef=z82 at hFE;generalize tm.getD 75 undef=z75 at hFE;generalize tm.getD 83 undef=z83 at hFE;generalize tm.getD 84 undef=z84 at hFE;simp only[aV,bS,bV]at hFE;subst hFE;have hb3:Below w2.heap.size w2 wE:=hRE.to_below (aF _);have HI3:Hid _:=HTL.out.grow _ _ _ HI2.out hb3;have HK3:Hid _:=HK2.out.trans (Kp.of_below hb3 hroom2.1);have HZ3:Hid (WayAt wE ZB z):=hZW;(have hZN:ZB≠NB:=by have :=hroom2.2;omega);clear hRE hb3 hZW hZn;cases hok:ok
   ·(have HE:Hid (Ru.run step s LL=(s,true)):=by show _=_;rw[HON.out,HOK.out.1 hok];rfl);go_wp2_with fail;go_ret;exact⟨by rw[HE.out];rfl,by rw[HE.out];exact HI3.out,HK3.out⟩
   have hw9:=HOK.out.2 hok;have HNm:Hid _:=oQ m wE;cases hnm:Sc.isNum m
   ·(have HE:Hid (Ru.run step s LL=(s,true)):=by show _=_;rw[HON.out,hw9];show Ru.run step s (if Sc.isNum m=true then [z] else [])=_;rw[hnm];rfl);rw[hnm]at HNm;clear hnm hw9;go_wp2_with(go_at_call 109;refine Calls.mono HNm.out ?_;rintro _ wF ⟨rfl,hwF⟩;have hwF:=hwF.symm;subst hwF);go_ret;exact⟨by rw[HE.out];rfl,by rw[HE.out];exact HI3.out,HK3.out⟩
   (have HL1:Hid (LL=[z]):=by show _=_;rw[HON.out,hw9];show(if Sc.isNum m=true then [z] else [])=_;rw[hnm];rfl);rw[HL1.out]at hLv;have HLv2:Hid _:=hLv.1;(have HE:Hid (Ru.run step s LL=((step s z).1,(step s z).2)):=by show _=_;rw[HL1.out,Ru.run_cons];cases hq:(step s z).2<;>rfl);rw[hnm]at HNm;clear hnm hw9 hLv HL1
   go_wp2_with(first
    |(go_at_call 109;refine Calls.mono HNm.out ?_;rintro _ wF ⟨rfl,hwF⟩;have hwF:=hwF.symm;subst hwF)
    |(refine eK (by first|exact aM rfl|exact jY rfl rfl rfl rfl) _ rfl _ rfl z HZ3.out HZW.out ?_))
   refine Calls.mono (HTL.out.call s wE z HI3.out HLv2.out HZW.out) ?_;rintro eR w4 ⟨he4,hI4,hK4⟩;subst he4;go_wp2_with fail;go_ret;exact⟨by rw[HE.out];rfl,by rw[HE.out];exact hI4,HK3.out.trans hK4⟩
structure HoldIn (facts:List Rl.Fc) (l:Sc.Lit) (y:Ru.Way):Prop where
 li:Ru.LitIn 8 facts l
 tl:l.terms.length≤1000
 n0:l.kind=4→Sc.isNum (Ru.num y.nums (Sc.termD l.terms 0))=true
 n1:l.kind=4→Sc.isNum (Ru.num y.nums (Sc.termD l.terms 1))=true
theorem aBA{σ:Type}{step:σ→Ru.Way→σ×Bool}{live:σ→Ru.Way→Prop}{I:σ→World→Prop}{NB hh:Nat}{cb:Array Value}(facts:List Rl.Fc)(l:Sc.Lit)(y:Ru.Way)(vf vt:Value)(w0 w:World)(s:σ)
 (hB0:Below w0.heap.size w0 w) (hF:FactsV w0 vf facts) (hFl:facts.length≤1000000) (hT:PTermsV w0 vt l.terms) (hTI:Ru.TermsIn 8 l.terms) (hA:∀f,f∈facts→f.pred=l.pred→l.terms.length=f.args.length) (hTl:l.terms.length≤1000) (hy:Ru.Wf 8 y) (hk:l.kind=1)
 (TL:Tell w0.heap.size NB hh cb step live I) (he:∀args w,(callFunc hh args).run Tryz.prog w=.ok (.enter hh args) w) (hI:I s w) (hLv:Ru.Lv step live s (Ru.on facts l y)):
 Calls Tryz.prog 145 #[vf,plitVal l vt,wayVal y, .func (.func hh) #[] cb] w fun e w'=>e=.returned (.bool (Ru.run step s (Ru.on facts l y)).2)∧I (Ru.run step s (Ru.on facts l y)).1 w'∧Kp w0.heap.size NB w w':=by
 rw[Ru.on_yes hk]at hLv ⊢;obtain⟨at_,ct,hvt,_⟩:=id hT;subst hvt;obtain⟨kd,op,pd,ts⟩:=l;dsimp only at *;subst hk;obtain⟨h0,h1,hb⟩:=lI w (.cells #[.int .i64 1, .int .i64 op, .int .i64 pd, .slice at_ ts.length ct] 49) (.cells (wayArr y) 138);have hroom0:=TL.room s w hI;have HW:Hid (WayAt ((w.alloc (.cells #[.int .i64 1, .int .i64 op, .int .i64 pd, .slice at_ ts.length ct] 49)).alloc (.cells (wayArr y) 138)) (w.heap.size+1) y):=h1;have HK:Hid (Kp w0.heap.size NB w ((w.alloc (.cells #[.int .i64 1, .int .i64 op, .int .i64 pd, .slice at_ ts.length ct] 49)).alloc (.cells (wayArr y) 138))):=Kp.of_below hb hroom0.1;have HC:Hid _:=yU facts ⟨1,op,pd,ts⟩ y vf (.slice at_ ts.length ct) w0 _ s (HK.out.below hB0) hF hFl hT hTI hA hTl hy TL he (TL.grow _ _ _ hI hb) hLv;(have d0:((w.alloc (.cells #[.int .i64 1, .int .i64 op, .int .i64 pd, .slice at_ ts.length ct] 49)).alloc (.cells (wayArr y) 138)).cell? ⟨w.heap.size,0,none⟩=some (.int .i64 1):=by rw[aC h0];rfl);(have d1:((w.alloc (.cells #[.int .i64 1, .int .i64 op, .int .i64 pd, .slice at_ ts.length ct] 49)).alloc (.cells (wayArr y) 138)).cell? ⟨w.heap.size,1,none⟩=some (.int .i64 op):=by rw[aC h0];rfl);(have d2:((w.alloc (.cells #[.int .i64 1, .int .i64 op, .int .i64 pd, .slice at_ ts.length ct] 49)).alloc (.cells (wayArr y) 138)).cell? ⟨w.heap.size,2,none⟩=some (.int .i64 pd):=by rw[aC h0];rfl);(have d3:((w.alloc (.cells #[.int .i64 1, .int .i64 op, .int .i64 pd, .slice at_ ts.length ct] 49)).alloc (.cells (wayArr y) 138)).cell? ⟨w.heap.size,3,none⟩=some (.slice at_ ts.length ct):=by rw[aC h0];rfl);clear h0 h1 hb hI hB0 TL hF hT hTI hA hLv hroom0;generalize List.filterMap (Ru.onF ⟨1,op,pd,ts⟩ y) facts=LL at *
 go_enter Tryz.func145,Tryz.ntmps145
 go_upto_region 3 with fail;generalize (w.alloc (.cells #[.int .i64 1, .int .i64 op, .int .i64 pd, .slice at_ ts.length ct] 49)).alloc (.cells (wayArr y) 138)=w1 at *;go_wp2_with(refine eK (aM rfl) _ rfl _ rfl y HW.out hy ?_);refine Calls.mono HC.out ?_;rintro e w4 ⟨he4,hI4,hK4⟩;subst he4;have HI4:Hid _:=hI4;clear hI4 d0 d1 d2 d3 HC;go_wp2_with fail;go_ret;exact⟨rfl,HI4.out,HK.out.trans hK4⟩
theorem yT{σ:Type}{step:σ→Ru.Way→σ×Bool}{live:σ→Ru.Way→Prop}{I:σ→World→Prop}{NB hh:Nat}{cb:Array Value}(facts:List Rl.Fc)(l:Sc.Lit)(y:Ru.Way)(vf vt:Value)(w0 w:World)(s:σ)
 (hB0:Below w0.heap.size w0 w) (hF:FactsV w0 vf facts) (hFl:facts.length≤1000000) (hFF:∀f,f∈facts→FFit f) (hT:PTermsV w0 vt l.terms) (hH:HoldIn facts l y) (hy:Ru.Wf 8 y)
 (TL:Tell w0.heap.size NB hh cb step live I) (he:∀args w,(callFunc hh args).run Tryz.prog w=.ok (.enter hh args) w) (hI:I s w) (hLv:Ru.Lv step live s (Ru.on facts l y)):
 Calls Tryz.prog 145 #[vf,plitVal l vt,wayVal y, .func (.func hh) #[] cb] w fun e w'=>e=.returned (.bool (Ru.run step s (Ru.on facts l y)).2)∧I (Ru.run step s (Ru.on facts l y)).1 w'∧Kp w0.heap.size NB w w':=by
 rcases hH.li.k with hk|hk|hk|hk
 ·exact aBA facts l y vf vt w0 w s hB0 hF hFl hT hH.li.t (hH.li.a hk) hH.tl hy hk TL he hI hLv
 ·exact aBz facts l y vf vt w0 w s hB0 hF hFl hFF hT hH.li.t hH.tl hy hk TL he hI hLv
 ·exact aBy facts l y vf vt w0 w s hB0 hT hH.li.t (hH.li.k3 hk) hy hk TL he hI hLv
 exact aBx facts l y vf vt w0 w s hB0 hT hH.li.t (hH.li.k4 hk) hy hk (hH.n0 hk) (hH.n1 hk) TL he hI hLv
def FactsS(w w':World)(v:Value)(s:List Rl.Fc):Prop:=
 ∃q:List Fv,q.map (·.1)=s∧w'.ownsRow w.heap.size 55 2 v q.length (q.map fcCells).flatten∧∀p,p∈q→FvOk w p
theorem jO{w w':World}{B:Nat}{v:Value}{q:List Fv}(h2:w'.ownsRow B 55 2 v q.length (q.map fcCells).flatten)(h3:∀p,p∈q→FvOk w p)(hb:Below w.heap.size w w'):FactsV w' v (q.map (·.1)):=by
 rcases eU h2 with⟨hv,h0⟩|⟨g,cap,hv⟩
 ·have hq:q=[]:=cQ h0;subst hq;exact⟨none,0,hv,⟨aF _,fun _=>rfl⟩, .inl rfl⟩
 subst hv;have hc:q.length≤cap:=by
  rcases h2.2 with⟨hv,_⟩|⟨_,_,_,hv,_,_,hc1,_⟩
  ·cases hv
  injection hv with _ _ e3;omega
 refine⟨_,cap,by rw[aO],⟨by rw[aO];exact hc,fun h=>by cases h⟩, .inr ⟨g,0,rfl,fun i hi=>?_⟩⟩;rw[aO]at hi;have hq:q[i]?=some q[i]:=aG hi;(have hd:Rl.factD (q.map (·.1)) i=q[i].1:=by simp[Rl.factD,hi]);obtain⟨c0,c1⟩:=FRow.cell h2 hq;rw[cV,hd];exact⟨c0,q[i].2,c1,aK (h3 _ (cR hi)).1 hb⟩
theorem FactsS.toV{w w':World}{v:Value}{s:List Rl.Fc}(h:FactsS w w' v s)(hb:Below w.heap.size w w'):FactsV w' v s:=by obtain⟨q,rfl,h2,h3⟩:=h;exact jO h2 h3 hb
structure Gap (q R:List Fv) (k:Nat):Prop where
 len:R.length=q.length+1
 lo:∀j,j<k→R[j]?=q[j]?
 hi:∀j,k<j→R[j]?=q[j-1]?
theorem Gap.start(q:List Fv)(x:Fv):Gap q (q++[x]) q.length:=
 ⟨by simp,fun j hj=>eH hj,fun j hj=>by rw[bR sO,bR oM]⟩
theorem Gap.step{q R:List Fv}{k:Nat}{y:Fv}(h:Gap q R (k+1))(hy:q[k]?=some y):Gap q (R.set (k+1) y) k:=by
 have hk:k<q.length:=by
  rcases dF k q.length with h2|h2
  ·exact h2
  rw[bR h2]at hy;cases hy
 refine⟨by rw[eE];exact h.len,fun j hj=>?_,fun j hj=>?_⟩
 ·rw[dS,if_neg oM];exact h.lo j oM
 rw[dS];by_cases hjk:k+1=j
 ·rw[if_pos hjk,if_pos (by have :=h.len;omega),←hjk];exact hy.symm
 rw[if_neg hjk];exact h.hi j oM
theorem Gap.fin{q R:List Fv}{k:Nat}(h:Gap q R k)(hk:k≤q.length)(x:Fv):R.set k x=q.take k++x::q.drop k:=by
 apply eZ;intro j;rw[dS];by_cases hj:k=j
 ·rw[if_pos hj,if_pos (by have :=h.len;omega),←hj,eB (by rw[bC];omega),bC,jV hk,iU];rfl
 rw[if_neg hj];by_cases hlt:j<k
 ·rw[h.lo j hlt,eH (by rw[bC];omega),dN,if_pos hlt]
 rw[h.hi j oM,eB (by rw[bC];omega),bC,jV hk];obtain⟨d,hd⟩:∃d,j-k=d+1:=⟨j-k-1,oM⟩;rw[hd,jG,List.getElem?_drop]
 congr 1
 omega
theorem aAw{s l:List Rl.Fc}{f:Rl.Fc}(h:Rl.IsSet s l)(hf:f∈s):Rl.IsSet s (l++[f]):=
 ⟨h.1,fun x=>by
  rw[bX,h.2];constructor
  ·intro hx;exact .inl hx
  rintro(hx|hx)
  ·exact hx
  rw[bI.mp hx];exact(h.2 f).mp hf⟩
theorem uH{s l:List Rl.Fc}{f:Rl.Fc}{k:Nat}(h:Rl.IsSet s l)(hf:f∉s)(hk:k≤s.length)(hd:∀x,x∈s.drop k→Rl.ord x f>0)(ht:k=0∨∃x,s[k-1]?=some x∧¬Rl.ord x f>0):Rl.IsSet (s.take k++f::s.drop k) (l++[f]):=
 ⟨Rl.up_put h.1 hf hk hd ht,fun x=>by
  rw[Rl.mem_put,bX,h.2,bI];constructor
  ·rintro(hx|hx)
   ·exact .inr hx
   exact .inl hx
  rintro(hx|hx)
  ·exact .inr hx
  exact .inl hx⟩
theorem oX(Φ:Fv→Prop)(l:List Rl.Fc)(v:Value)(w0 w:World)(hΦ:∀(b off cap k:Nat),v=.slice (some ⟨b,off,none⟩) l.length cap→k<l.length→∀u,w0.cell? ⟨b,off+k*2+1,none⟩=some u→Φ (Rl.factD l k,u))(hb0:Below w0.heap.size w0 w)(hV:FactsV w0 v l)(hl:l.length≤4398046511103)(hf:∀f,f∈l→FFit f):
 Calls Tryz.prog 35 #[v] w fun e w'=>∃v',e=.returned v'∧(∃q:List Fv,q.map (·.1)=Rl.set l∧w'.ownsRow w.heap.size 55 2 v' q.length (q.map fcCells).flatten∧∀p,p∈q→(FvOk w0 p∧Φ p))∧Below w.heap.size w w':=by
 obtain⟨i0,hi,hz0,hz1,hz2⟩:=info_parts iE;obtain⟨ao,cap,rfl,_,hA⟩:=hV;have HA:Hid (FactsAt w0 ao l):=hA;have HΦ:Hid (∀(b off cap' k:Nat),Value.slice ao l.length cap=.slice (some ⟨b,off,none⟩) l.length cap'→k<l.length→∀u,w0.cell? ⟨b,off+k*2+1,none⟩=some u→Φ (Rl.factD l k,u)):=hΦ;clear hΦ;have HB0:Hid (∀{z:World},Below w.heap.size w z→Below w0.heap.size w0 z):=fun hz=>hb0.trans (hz.mono hb0.size);clear hb0;have HF:Hid (∀f,f∈l→FFit f):=hf;clear hA hf
 go_enter Tryz.func35,Tryz.ntmps35
 go_wp2_with fail;go_loopw [3,4] (fun vs i wr=>∃(k:Nat)(q:List Fv),k≤l.length∧i=.int .i64 k∧wr.ownsRow w.heap.size 55 2 vs q.length (q.map fcCells).flatten∧Rl.IsSet (q.map (·.1)) (l.take k)∧(∀p,p∈q→(FvOk w0 p∧Φ p))∧Below w.heap.size w wr∧q.length≤k) (fun _ i _=>l.length-(intOf i).toNat);case atStart=>exact⟨0,[],aR _,rfl,cM _ _ _ _,⟨List.Pairwise.nil,fun x=>Iff.rfl⟩,fun _ hp=>absurd hp sI,aH _ _,aF _⟩
 case round=>
  obtain⟨wo,hwo⟩:∃wo,wo=wr:=⟨_,rfl⟩;subst hwo;obtain⟨k,q,hk,rfl,hown,hset,hqo,hb,hqk⟩:=hrel;have HSET:Hid _:=hset;have HQO:Hid _:=hqo;clear hset hqo;obtain⟨aos,caps,rfl⟩:=aZ hown;by_cases hlt:k<l.length
  ·obtain⟨b,off,rfl,p0,fv,p1,hIv⟩:=eY HA.out k hlt;have hmem:=eP l k hlt;(have HTK:Hid (l.take (k+1)=l.take k++[Rl.factD l k]):=by show _=_;rw[cY,jQ l k hlt];rfl);have HIV:Hid (IntsV w0 fv (Rl.factD l k).args):=hIv;have HFF:Hid (FFit (Rl.factD l k)):=HF.out _ hmem;obtain⟨af,cf,rfl,_⟩:=hIv;have a0:=aD (HB0.out hb) p0;have a1:=aD (HB0.out hb) p1;have HP0:Hid (w0.cell? ⟨b,off+k*2,none⟩=some (.int .i64 (Rl.factD l k).pred)∧w0.cell? ⟨b,off+k*2+1,none⟩=some (.slice af (Rl.factD l k).args.length cf)):=⟨p0,p1⟩;have HPH:Hid (Φ (Rl.factD l k,Value.slice af (Rl.factD l k).args.length cf)):=HΦ.out b off cap k rfl hlt _ p1;clear p0 p1 hmem;generalize Rl.factD l k=f at *;(have HHF:Hid (Calls Tryz.prog 26 #[.slice aos q.length caps,fcVal f.pred (.slice af f.args.length cf)] wo fun e w'=>e=.returned (.bool (Rl.has (q.map (·.1)) f))∧Below wo.heap.size wo w'):=by exact mR (q.map (·.1)) f _ _ wo (jO hown (fun p hp=>(HQO.out p hp).1) (HB0.out hb)) (aK HIV.out (HB0.out hb)) (by rw[aO];omega) (fun g hg=>by obtain⟨p,hp,rfl⟩:=bO.mp hg;exact(HQO.out p hp).1.2) HFF.out);go_wp2_with fail;refine Calls.mono HHF.out ?_;rintro e w1 ⟨rfl,hb1⟩;have hown1:=aU hown hb1;have hbw1:=hb.trans (hb1.mono hb.size);clear hown hb hb1 HHF a0 a1;cases hh:Rl.has (q.map (·.1)) f
   ·(have HNF:Hid (f∉q.map (·.1)):=fun h=>by rw[Rl.has_iff.mpr h]at hh;cases hh);clear hh;have b0:=aD (HB0.out hbw1) HP0.out.1;have b1:=aD (HB0.out hbw1) HP0.out.2;have hbsz:=hbw1.size;go_wp2_with(at_builtin;refine wpList_append_own _ rfl (.tmp 20) (.tmp 25) 27 rfl w.heap.size 55 i0 _ 2 32 Tryz.underlying27 hi hz0 hz1 hz2 rfl dE _ _ _ rfl (hown1.alloc _) ⟨w1.heap.size,0,none⟩ 1 1 (fcCells (f, .slice af f.args.length cf)) rfl rfl ?c1 ?c2 ?c3 ?c4 ?c5 ?_);(case c1=>exact news2 w1 _ _ 55);(case c2=>intro u hu;simp[fcCells]at hu;rcases hu with rfl|rfl<;>rfl);(case c3=>unfold maxLen;omega);(case c4=>omega);(case c5=>simp;omega);intro vs2 w4 hown4 hgrow4 _;have hb5:Below w.heap.size w w4:=(hbw1.alloc hbw1.size _).grown hgrow4 sO (fun k hk=>(hown1.lt k hk).1);rcases eU hown4 with⟨_,h0⟩|⟨g,cap9,hv9⟩
    ·exact absurd h0 oM
    subst hv9;(have hrow5:FRow w4 w.heap.size g cap9 (q++[(f,Value.slice af f.args.length cf)]):=by unfold FRow;rw[aN,bJ,dZ];simpa using hown4);have hgl:=hrow5.lt;clear hown4 hgrow4 hown1 hbw1 b0 b1;go_wp2_with fail;go_loopw [5] (fun ik wr=>∃(m:Nat)(R:List Fv),m≤q.length∧ik=.int .i64 m∧FRow wr w.heap.size g cap9 R∧Gap q R m∧(∀x,x∈(q.map (·.1)).drop m→Rl.ord x f>0)∧Below w.heap.size w wr) (fun ik _=>(intOf ik).toNat);case atStart=>exact⟨q.length,_,aF _,rfl,hrow5,Gap.start q _,fun x hx=>by rw[aL sI]at hx;simp at hx,hb5⟩
    case round=>
     clear hrow5 hb5;obtain⟨wp,hwp⟩:∃wp,wp=wr:=⟨_,rfl⟩;subst hwp;obtain⟨m,R,hm,rfl,hrow,hgap,hgt,hbp⟩:=hrel;have HGP:Hid _:=hgap;have HGT:Hid _:=hgt;have hRl:=hgap.len;have HRL:Hid (R.length=q.length+1):=hRl;have hmR:m<R.length:=oM;clear hgap hgt hRl;have b0:=aD (HB0.out hbp) HP0.out.1;have b1:=aD (HB0.out hbp) HP0.out.2;rcases Nat.eq_zero_or_pos m with hm0|hm0
     ·have HTOP:Hid (m=0∨∃x,(q.map (·.1))[m-1]?=some x∧¬Rl.ord x f>0):=.inl hm0;(have hmz:decide (0<m)=false:=by simp;omega);have HM0:Hid (m=0):=hm0;clear hm0;go_upto_region 8 with fail;go_region;have hrow2:FRow wp.drew w.heap.size g cap9 R:=hrow;have hbz:Below w.heap.size w wp.drew:=⟨hbp.os,hbp.tape,hbp.output,hbp.size,hbp.block⟩;clear hrow hbp b0 b1;generalize wp.drew=wz at *;(have HS2:Hid (Rl.IsSet ((q.take m++(f,Value.slice af f.args.length cf)::q.drop m).map (·.1)) (l.take (k+1))):=by rw[HTK.out,bJ,eT,List.map_take,List.map_drop];exact uH HSET.out HNF.out (by rw[aO];exact hm) HGT.out HTOP.out);have HQ2:Hid (∀p,p∈q.take m++(f,Value.slice af f.args.length cf)::q.drop m→(FvOk w0 p∧Φ p)):=by
       intro p hp;rcases bX.mp hp with hp|hp
       ·exact HQO.out p (eM hp)
       rcases bD.mp hp with rfl|hp
       ·exact⟨⟨HIV.out,HFF.out⟩,HPH.out⟩
       exact HQO.out p (gC hp)
      have hput:=hrow2.put m hmR (f,Value.slice af f.args.length cf);rw[HGP.out.fin hm]at hput;have hlen2:(q.take m++(f,Value.slice af f.args.length cf)::q.drop m).length=q.length+1:=by simp;omega
      have hb9:Below w.heap.size w ((wz.setCell ⟨g,m*2,none⟩ (.int .i64 f.pred)).setCell ⟨g,m*2+1,none⟩ (.slice af f.args.length cf)):=
       ⟨hbz.os,hbz.tape,hbz.output,by simpa[World.setCell]using hbz.size,fun k hk=>(dO _ _ _ _ (show¬k=g by omega)).trans ((dO _ _ _ _ (show¬k=g by omega)).trans (hbz.block k hk))⟩
      obtain⟨r,hr,_⟩:=kH (q:=R) (i:=m) hmR;obtain⟨r0,r1⟩:=hrow2.cell hr;have rf0:=hrow2.frozen (m*2);have rf1:=hrow2.frozen (m*2+1);have d0:=aD (HB0.out hbz) HP0.out.1;have d1:=aD (HB0.out hbz) HP0.out.2;unfold FRow at hput;rw[hlen2]at hput;have HPUT:Hid _:=hput;have HLN2:Hid ((q.take m++(f,Value.slice af f.args.length cf)::q.drop m).length=q.length+1):=hlen2;clear HTK HSET HNF HGT HGP hrow2 hr hput hlen2 HTOP;go_wp2_with fail;go_roundw;(case rel=>exact⟨k+1,_,oM,gN,by rw[HLN2.out];exact HPUT.out,HS2.out,HQ2.out,hb9,by rw[HLN2.out];omega⟩);case measure=>exact mI
     obtain⟨m1,hm1e⟩:∃m1,m1+1=m:=⟨m-1,oM⟩;(have hwr2:IntKind.i64.wrap ((m:Int)-1)=(m1:Int):=by have h9:(m:Int)-1=(m1:Int):=oM;rw[h9];simp[IntKind.wrap,IntKind.bits,IntKind.signed];omega);(obtain⟨y,hy,hym⟩:=kH (q:=q) (i:=m1) oM;obtain⟨c0,c1⟩:=hrow.cell ((HGP.out.lo m1 oM).trans hy);obtain⟨ya,yc,hyv⟩:=qW (HQO.out y hym).1;have HY:Hid (q[m1]?=some y∧y.2=.slice ya y.1.args.length yc):=⟨hy,hyv⟩;rw[hyv]at c1;have HN:Hid (∀z,Below wp.heap.size wp z→Calls Tryz.prog 44 #[fcVal y.1.pred (.slice ya y.1.args.length yc),fcVal f.pred (.slice af f.args.length cf)] z fun e w'=>e=.returned (.int .i64 (Rl.ord y.1 f))∧Below wp.heap.size wp w'∧w'.cell? ⟨g,m1*2,none⟩=some (.int .i64 y.1.pred)∧w'.cell? ⟨g,m1*2+1,none⟩=some (.slice ya y.1.args.length yc)∧w'.cell? ⟨b,off+k*2,none⟩=some (.int .i64 f.pred)∧w'.cell? ⟨b,off+k*2+1,none⟩=some (.slice af f.args.length cf)):=by intro z hz;have hzw:=hbp.trans (hz.mono hbp.size);refine(lG y.1 f _ _ z (by have h3:=aK (HQO.out y hym).1.1 (HB0.out hzw);rw[hyv]at h3;exact h3) (aK HIV.out (HB0.out hzw)) (HQO.out y hym).1.2 HFF.out).mono ?_;rintro e w' ⟨h1,h2⟩;have h3:=hz.trans (h2.mono hz.size);exact⟨h1,h3,aD h3 c0,aD h3 c1,aD h3 b0,aD h3 b1⟩);clear hy hym hyv;have hm1':m1<q.length+1:=oM;have hm1a:(0:Int)≤(m1:Int):=oM;have hm1b:(m1:Int)<((q.length+1:Nat):Int):=oM;have hm1c:(m1:Int)<(q.length:Int)+1:=oM;have hmpos:(0:Int)<(m:Int):=oM;have HM1:Hid (m1+1=m):=hm1e;clear hm1e;have HGA:∀b o,Below wp.heap.size wp b→Below wp.heap.size wp (b.alloc o):=fun _ o h=>h.alloc h.size o;have HGD:∀b,Below wp.heap.size wp b→Below wp.heap.size wp b.drew:=fun _ h=>⟨h.os,h.tape,h.output,h.size,h.block⟩;have HGR:Below wp.heap.size wp wp:=aH _ _;go_upto_region 8 with fail
     go_region_held3 (fun yy=>yy.cell? ⟨g,m1*2,none⟩=some (.int .i64 y.1.pred)∧yy.cell? ⟨g,m1*2+1,none⟩=some (.slice ya y.1.args.length yc)∧yy.cell? ⟨b,off+k*2,none⟩=some (.int .i64 f.pred)∧yy.cell? ⟨b,off+k*2+1,none⟩=some (.slice af f.args.length cf)∧Below wp.heap.size wp yy) (go_keep) (
      (go_at_call 44;refine Calls.mono (HN.out _ ?_) ?_;(simp[*]);rintro e w2 ⟨rfl,hb2,hz2,hz3,hz4,hz5⟩))
     clear HGA HGD HGR HN hz4 hz5 b0 b1 c0 c1;have hrow2:=hrow.keep (hb2.block g hrow.lt.2);have hbz:=hbp.trans (hb2.mono hbp.size);clear hrow hbp hb2;generalize w2=wz at *;by_cases ho:0<Rl.ord y.1 f
     ·(have HG2:Hid (Gap q (R.set m y) m1):=by have h3:=HGP.out;rw[←HM1.out]at h3 ⊢;exact h3.step HY.out.1);have HT2:Hid (∀x,x∈(q.map (·.1)).drop m1→Rl.ord x f>0):=by
       intro x hx;(have hlt9:m1<(q.map (·.1)).length:=by rw[aO];have :=HM1.out;omega);rw[bG hlt9]at hx;rcases bD.mp hx with hx|hx
       ·rw[hx,List.getElem_map];(have h4:q[m1]'(by simpa using hlt9)=y:=by have h5:=HY.out.1;rw[aG (by simpa using hlt9)]at h5;exact Option.some.inj h5);rw[h4];exact ho
       exact HGT.out x (by rw[←HM1.out];exact hx)
      have hput:=hrow2.put m hmR y;rw[HY.out.2]at hput
      have hb9:Below w.heap.size w ((wz.setCell ⟨g,m*2,none⟩ (.int .i64 y.1.pred)).setCell ⟨g,m*2+1,none⟩ (.slice ya y.1.args.length yc)):=
       ⟨hbz.os,hbz.tape,hbz.output,by simpa[World.setCell]using hbz.size,fun k hk=>(dO _ _ _ _ (show¬k=g by omega)).trans ((dO _ _ _ _ (show¬k=g by omega)).trans (hbz.block k hk))⟩
      obtain⟨r,hr,_⟩:=kH (q:=R) (i:=m) hmR;obtain⟨r0,r1⟩:=hrow2.cell hr;have rf0:=hrow2.frozen (m*2);have rf1:=hrow2.frozen (m*2+1);have hmq:m<q.length+1:=oM;(have HMM:Hid (m1<m):=by have :=HM1.out;show m1<m;omega);clear hrow2 hr hbz HGP HGT;go_wp2_with fail;go_roundw;(case rel=>exact⟨m1,R.set m y,by have :=HM1.out;omega,by first|rfl|go_num|(simp[*]),hput,HG2.out,HT2.out,hb9⟩);case measure=>have :=HMM.out;simp[intOf, *]
     have HTOP:Hid (m=0∨∃x,(q.map (·.1))[m-1]?=some x∧¬Rl.ord x f>0):=.inr ⟨y.1,by rw[show m-1=m1 by have :=HM1.out;omega,bK,HY.out.1];rfl,ho⟩;clear hz2 hz3;(have HS2:Hid (Rl.IsSet ((q.take m++(f,Value.slice af f.args.length cf)::q.drop m).map (·.1)) (l.take (k+1))):=by rw[HTK.out,bJ,eT,List.map_take,List.map_drop];exact uH HSET.out HNF.out (by rw[aO];exact hm) HGT.out HTOP.out);have HQ2:Hid (∀p,p∈q.take m++(f,Value.slice af f.args.length cf)::q.drop m→(FvOk w0 p∧Φ p)):=by
      intro p hp;rcases bX.mp hp with hp|hp
      ·exact HQO.out p (eM hp)
      rcases bD.mp hp with rfl|hp
      ·exact⟨⟨HIV.out,HFF.out⟩,HPH.out⟩
      exact HQO.out p (gC hp)
     have hput:=hrow2.put m hmR (f,Value.slice af f.args.length cf);rw[HGP.out.fin hm]at hput;have hlen2:(q.take m++(f,Value.slice af f.args.length cf)::q.drop m).length=q.length+1:=by simp;omega
     have hb9:Below w.heap.size w ((wz.setCell ⟨g,m*2,none⟩ (.int .i64 f.pred)).setCell ⟨g,m*2+1,none⟩ (.slice af f.args.length cf)):=
      ⟨hbz.os,hbz.tape,hbz.output,by simpa[World.setCell]using hbz.size,fun k hk=>(dO _ _ _ _ (show¬k=g by omega)).trans ((dO _ _ _ _ (show¬k=g by omega)).trans (hbz.block k hk))⟩
     obtain⟨r,hr,_⟩:=kH (q:=R) (i:=m) hmR;obtain⟨r0,r1⟩:=hrow2.cell hr;have rf0:=hrow2.frozen (m*2);have rf1:=hrow2.frozen (m*2+1);have d0:=aD (HB0.out hbz) HP0.out.1;have d1:=aD (HB0.out hbz) HP0.out.2;unfold FRow at hput;rw[hlen2]at hput;have HPUT:Hid _:=hput;have HLN2:Hid ((q.take m++(f,Value.slice af f.args.length cf)::q.drop m).length=q.length+1):=hlen2;clear HTK HSET HNF HGT HGP hrow2 hr hput hlen2 HTOP;go_wp2_with fail;go_roundw;(case rel=>exact⟨k+1,_,oM,gN,by rw[HLN2.out];exact HPUT.out,HS2.out,HQ2.out,hb9,by rw[HLN2.out];omega⟩);case measure=>exact mI
   (have HS2:Hid (Rl.IsSet (q.map (·.1)) (l.take (k+1))):=by rw[HTK.out];exact aAw HSET.out (Rl.has_iff.mp hh));clear HTK HSET;go_wp2_with fail;go_roundw;(case rel=>exact⟨k+1,q,oM,gN,hown1,HS2.out,HQO.out,hbw1,oM⟩);case measure=>exact mI
  have HFS:Hid (∃q2:List Fv,q2.map (·.1)=Rl.set l∧wo.ownsRow w.heap.size 55 2 (.slice aos q.length caps) q2.length (q2.map fcCells).flatten∧∀p,p∈q2→(FvOk w0 p∧Φ p)):=⟨q,by rw[Rl.isSet_eq HSET.out,cH oM],hown,HQO.out⟩;clear hown HSET HQO;go_wp2_with fail;go_ret;exact⟨_,rfl,HFS.out,hb⟩
theorem uS(l:List Rl.Fc)(v:Value)(w0 w:World)(hb0:Below w0.heap.size w0 w)(hV:FactsV w0 v l)(hl:l.length≤2097152)(hf:∀f,f∈l→FFit f):
 Calls Tryz.prog 35 #[v] w fun e w'=>∃v',e=.returned v'∧(∃q:List Fv,q.map (·.1)=Rl.set l∧w'.ownsRow w.heap.size 55 2 v' q.length (q.map fcCells).flatten∧∀p,p∈q→FvOk w0 p)∧Below w.heap.size w w':=
 (oX (fun _=>True) l v w0 w (fun _ _ _ _ _ _ _ _=>trivial) hb0 hV oM hf).mono fun _ _ ⟨v',he,⟨q,h1,h2,h3⟩,hb⟩=>⟨v',he,⟨q,h1,h2,fun p hp=>(h3 p hp).1⟩,hb⟩
theorem uT(l:List Rl.Fc)(v:Value)(w:World)(hV:FactsV w v l)(hl:l.length≤2097152)(hf:∀f,f∈l→FFit f):
 Calls Tryz.prog 35 #[v] w fun e w'=>∃v',e=.returned v'∧FactsS w w' v' (Rl.set l)∧Below w.heap.size w w':=uS l v w w (aH _ _) hV hl hf
theorem aCA{w:World}{ao:Option Addr}{l:List Rl.Fc}(h:FactsAt w ao l)(hf:∀f,f∈l→FFit f):
 ∃q:List Fv,q.map (·.1)=l∧(∀p,p∈q→FvOk w p)∧(l=[]∨∃b off,ao=some ⟨b,off,none⟩∧∀j u,((q.map fcCells).flatten)[j]?=some u→w.cell? ⟨b,off+j,none⟩=some u):=by
 rcases h with rfl|⟨b,off,rfl,hc⟩
 ·exact⟨[],rfl,fun _ hp=>absurd hp sI, .inl rfl⟩
 have each:∀i,i<l.length→∃v,w.cell? ⟨b,off+i*2+1,none⟩=some v∧IntsV w v (Rl.factD l i).args:=fun i hi=>(hc i hi).2;(have hch:∃V:Nat→Value,∀i,i<l.length→w.cell? ⟨b,off+i*2+1,none⟩=some (V i)∧IntsV w (V i) (Rl.factD l i).args:=by refine⟨fun i=>(w.cell? ⟨b,off+i*2+1,none⟩).getD (.slice none 0 0),fun i hi=>?_⟩;obtain⟨v,h1,h2⟩:=each i hi;simp only[h1,dH];exact⟨trivial,h2⟩);obtain⟨V,hV⟩:=hch;refine⟨(List.range l.length).map fun i=>(Rl.factD l i,V i),?_,?_, .inr ⟨b,off,rfl,fun j u hj=>?_⟩⟩
 ·apply eZ;intro i;rw[bK,bK];by_cases hi:i<l.length
  ·rw[kZ hi,jQ l i hi];rfl
  rw[bR (by simpa using hi),bR (by simpa using hi)];rfl
 ·intro p hp;obtain⟨i,hi,rfl⟩:=bO.mp hp;have hi:i<l.length:=cZ.mp hi;exact⟨(hV i hi).2,hf _ (eP l i hi)⟩
 have hjl:j<((List.range l.length).map fun i=>(Rl.factD l i,V i)).length*2:=by
  rcases dF j (((List.range l.length).map fun i=>(Rl.factD l i,V i)).length*2)with h2|h2
  ·exact h2
  rw[bR (by rw[fJ];exact h2)]at hj;cases hj
 obtain⟨x,hx,hx2⟩:=mF _ j hjl;rw[hx2]at hj;(have hl2:j/2<l.length:=by(have h3:((List.range l.length).map fun i=>(Rl.factD l i,V i)).length=l.length:=by simp);rw[h3]at hjl;omega);rw[bK,kZ hl2]at hx;(have hxe:(Rl.factD l (j/2),V (j/2))=x:=by simpa using hx);subst hxe;rcases Nat.mod_two_eq_zero_or_one j with h0|h0
 ·rw[h0]at hj;(have hu:Value.int .i64 (Rl.factD l (j/2)).pred=u:=by simpa[fcCells]using hj);rw[←hu,←(hc (j/2) hl2).1]
  congr 2
  omega
 rw[h0]at hj;(have hu:V (j/2)=u:=by simpa[fcCells]using hj);rw[←hu,←(hV (j/2) hl2).1]
 congr 2
 omega
theorem nE{w w':World}{ao:Option Addr}{l:List Rl.Fc}(h:FactsAt w ao l)(hb:Below w.heap.size w w'):FactsAt w' ao l:=by
 rcases h with h|⟨b,off,rfl,h⟩
 ·exact .inl h
 exact .inr ⟨b,off,rfl,fun i hi=>lT (h i hi) hb⟩
def Appd(W:World)(q:List Fv)(l:List Rl.Fc)(v':Value)(w':World)(q2:List Fv):Prop:=
 q2.map (·.1)=l∧(∀p,p∈q2→FvOk W p)∧w'.ownsRow W.heap.size 55 2 v' (q++q2).length ((q++q2).map fcCells).flatten∧Below W.heap.size W w'
theorem iO{W w:World}{ops:Array Oper}{rest:List Oper}{o:Oper}{a:Act}{Q:Exit→Act→World→Prop}(hgd:o.guard=none)(s x:Operand)
 (ho:o.op=.call {callee:=.builtin .append,args:=#[s,x],argTypes:=#[27,27]}) (hW:Below W.heap.size W w) (v:Value) (n:Nat) (q:List Fv) (hs:a.eval s=v) (hn:n=q.length)
 (hown:w.ownsRow W.heap.size 55 2 v n (q.map fcCells).flatten) (ao:Option Addr) (cap:Nat) (l:List Rl.Fc) (hx:a.eval x=.slice ao l.length cap) (hcap:ao=none→cap=0) (hA:FactsAt W ao l) (hf:∀f,f∈l→FFit f)
 (hb:n+l.length≤4194304)
 (h:∀v' w' q2,Appd W q l v' w' q2→wpList Tryz.prog ops Q rest (a.put o.dst v') w'):wpList Tryz.prog ops Q (o::rest) a w:=by
 obtain⟨i0,hi,hz0,hz1,hz2⟩:=info_parts iE;obtain⟨q2,h1,h2,h3⟩:=aCA hA hf;(have hl2:q2.length=l.length:=by rw[←h1,aO]);(have nilCase:l=[]→ao=none→wpList Tryz.prog ops Q (o::rest) a w:=by intro hl hao;have hq2:q2=[]:=cQ (by rw[hl2,hl];rfl);subst hn;refine wpList_append_own_none hgd s x 27 ho W.heap.size 55 i0 2 Tryz.underlying27 hi v q.length _ hs hown (by rw[hx,hl,hao,hcap hao];rfl) ?_;refine h v w q2 ⟨h1,h2,?_,hW⟩;rw[hq2,fE];exact hown);have someCase:∀ad,ao=some ad→(∀j u,((q2.map fcCells).flatten)[j]?=some u→w.cell? (ad.add j)=some u)→wpList Tryz.prog ops Q (o::rest) a w:=by
  intro ad hao hcells;refine wpList_append_own w hgd s x 27 ho W.heap.size 55 i0 _ 2 32 Tryz.underlying27 hi hz0 hz1 hz2 rfl dE v n _ hs hown ad l.length cap ((q2.map fcCells).flatten) (by rw[hx,hao]) (by rw[fJ,hl2]) hcells ?_ (by unfold maxLen;omega) oM hW.size ?_
  ·intro u hu;obtain⟨c,hc,hu⟩:=List.mem_flatten.mp hu;obtain⟨p,hp,rfl⟩:=bO.mp hc;obtain⟨a9,c9,hp9⟩:=qW (h2 p hp);simp[fcCells,hp9]at hu;rcases hu with rfl|rfl<;>rfl
  intro v' w' ho2 hg _;refine h v' w' q2 ⟨h1,h2,?_,hW.grown hg hW.size (fun k hk=>(hown.lt k hk).1)⟩;rw[aN,bJ,dZ,hl2,←hn];exact ho2
 cases ao with
 |none=>
  rcases hA with hl|⟨b,off,hb2,_⟩
  ·exact nilCase hl rfl
  cases hb2
 |some ad=>
  refine someCase ad rfl ?_;intro j u hj;rcases h3 with hl|⟨b,off,hb2,hc⟩
  ·have hq2:q2=[]:=cQ (by rw[hl2,hl];rfl);rw[hq2]at hj;simp at hj
  rw[Option.some.inj hb2,Addr.add_lit];exact aD hW (hc j u hj)
theorem pO(l m:List Rl.Fc)(v u:Value)(w:World)(hV:FactsV w v l)(hU:FactsV w u m)(hl:l.length≤1048576)(hm:m.length≤1048576)(hf:∀f,f∈l→FFit f)(hg:∀f,f∈m→FFit f):
 Calls Tryz.prog 51 #[v,u] w fun e w'=>∃v',e=.returned v'∧FactsV w' v' (Rl.union l m)∧Below w.heap.size w w':=by
 obtain⟨ao,cap,rfl,hc1,hA⟩:=hV;obtain⟨bo,cbp,rfl,hc2,hB⟩:=hU;have HA:Hid (FactsAt w ao l∧(ao=none→cap=0)):=⟨hA,hc1.2⟩;have HB:Hid (FactsAt w bo m∧(bo=none→cbp=0)):=⟨hB,hc2.2⟩;have HF:Hid ((∀f,f∈l→FFit f)∧∀f,f∈m→FFit f):=⟨hf,hg⟩;clear hA hB hc1 hc2 hf hg;have hba:Below w.heap.size w (w.alloc (.cells #[] 55)):=(aH _ _).alloc (aF _) _
 go_enter Tryz.func51,Tryz.ntmps51
 go_wp2_with(at_builtin;refine iO rfl (.tmp 5) (.tmp 6) rfl hba _ 0 [] rfl rfl (fL w #[] 0 (aF _) (aR _) sI) ao cap l rfl HA.out.2 HA.out.1 HF.out.1 ?c1 ?_);(case c1=>omega);intro v1 w1 q1 H1;obtain⟨e1,o1,hown1,hb1⟩:=id H1;obtain⟨a1,c1,rfl⟩:=aZ hown1;(have HL1:Hid (q1.length=l.length):=by show _=_;rw[←e1,aO]);have hown1:w1.ownsRow w.heap.size 55 2 (.slice a1 q1.length c1) q1.length (q1.map fcCells).flatten:=hown1;have H1:Hid (Appd w [] l (.slice a1 q1.length c1) w1 q1):=H1;clear e1 o1;go_wp2_with(at_builtin;refine iO rfl (.tmp 7) (.tmp 8) rfl hb1 _ q1.length q1 rfl rfl hown1 bo cbp m rfl HB.out.2 HB.out.1 HF.out.2 ?c1 ?_);(case c1=>have :=HL1.out;omega);intro v2 w2 q2 H2;obtain⟨e2,o2,hown2,hb2⟩:=id H2;have HFV:Hid (FactsV w2 v2 (l++m)∧(l++m).length≤2097152∧∀f,f∈l++m→FFit f):=by
  refine⟨?_,by rw[aN];omega,fun f hf=>?_⟩
  ·have h3:=jO hown2 (fun p hp=>by
    rcases bX.mp hp with hp|hp
    ·exact H1.out.2.1 p hp
    exact o2 p hp) hb2
   rw[bJ,H1.out.1,e2]at h3;exact h3
  rcases bX.mp hf with hf|hf
  ·exact HF.out.1 f hf
  exact HF.out.2 f hf
 obtain⟨a2,c2,rfl⟩:=aZ hown2;(have HFV:Hid (FactsV w2 (.slice a2 (q1.length+q2.length) c2) (l++m)∧(l++m).length≤2097152∧∀f,f∈l++m→FFit f):=by have h9:=HFV.out;rw[show(q1++q2).length=q1.length+q2.length from aN]at h9;exact h9);clear e2 o2 hown2 hown1 H1 H2 HA HB hba;go_wp2_with fail;refine Calls.mono (uT (l++m) _ _ HFV.out.1 HFV.out.2.1 HFV.out.2.2) ?_;rintro e w3 ⟨v3,rfl,hS,hb3⟩;obtain⟨q3,_,hown3,_⟩:=id hS;obtain⟨a3,c3,rfl⟩:=aZ hown3;have HS:Hid (FactsV w3 (.slice a3 q3.length c3) (Rl.union l m)):=hS.toV hb3;have hb4:=hb2.trans (hb3.mono hb2.size);clear hown3 hS hb3 HFV;go_wp2_with fail;go_ret;exact⟨_,rfl,HS.out,hb4⟩
theorem aCt(w:World)(n:Nat)(hn:n≤4194304):
 Calls Tryz.prog 180 #[.slice none 0 0, .int .i64 n] w fun e w'=>∃v',e=.returned v'∧w'.ownsRow w.heap.size 55 2 v' 0 []∧Below w.heap.size w w':=by
 obtain⟨i0,hi,hz0,hz1,hz2⟩:=info_parts iE;by_cases h0:n=0
 ·subst h0
  go_enter Tryz.func180,Tryz.ntmps180
  go_wp2_with fail;go_ret;exact⟨_,rfl,cM _ _ _ _,aH _ _⟩
 have hp:0<n:=oM;have HR:Hid _:=Lib.run_append_nil_zeros w 27 3 27 55 i0 _ .i64 .i64 Tryz.underlying27 Tryz.underlying3 hi hz0 n hp (by rw[hz1];decide) oM (by rw[hz2];omega)
 go_enter Tryz.func180,Tryz.ntmps180
 go_wp2_with(at_builtin;refine Lib.wpList_append_run _ rfl _ _ 27 3 rfl _ _ rfl rfl _ _ HR.out ?_);(have HO:Hid (∀cur:Array Value,cur.size=grownCap w n 0 55*2→(w.alloc (.cells cur 55)).drew.ownsRow w.heap.size 55 2 (.slice (some ⟨w.heap.size,0,none⟩) 0 (grownCap w n 0 55)) 0 []∧Below w.heap.size w (w.alloc (.cells cur 55)).drew):=by intro cur hc;have h1:=fL (base:=w.heap.size) (e:=55) (size:=2) w cur (grownCap w n 0 55) (aF _) (grownCap_le_maxLen _ _ _ _ (by unfold maxLen;omega)) hc;have h2:Below w.heap.size w (w.alloc (.cells cur 55)):=(aH _ _).alloc (aF _) _;exact⟨h1,h2.os,h2.tape,h2.output,h2.size,h2.block⟩);have hge:=grownCap_ge w n 0 55;go_ret;refine⟨_,rfl,HO.out _ ?_⟩;simp[Builtin.zeroCells];omega
theorem qZ(l m:List Rl.Fc)(b:Nat)(ao bo:Option Addr)(cap cbp:Nat)(w:World)(hA:FactsAt w ao l∧(ao=none→cap=0))(hB:FactsAt w bo m∧(bo=none→cbp=0))(hb0:w.cell? ⟨b,0,none⟩=some (.slice ao l.length cap))(hb1:w.cell? ⟨b,1,none⟩=some (.slice bo m.length cbp))(hl:l.length≤1048576)(hm:m.length≤1048576)(hf:∀f,f∈l→FFit f)(hg:∀f,f∈m→FFit f):
 Calls Tryz.prog 138 #[.slice (some ⟨b,0,none⟩) 2 2] w fun e w'=>∃v',e=.returned v'∧FactsV w' v' (l++m)∧Below w.heap.size w w':=by
 have HA:Hid (FactsAt w ao l∧(ao=none→cap=0)):=hA;have HB:Hid (FactsAt w bo m∧(bo=none→cbp=0)):=hB;have HF:Hid ((∀f,f∈l→FFit f)∧∀f,f∈m→FFit f):=⟨hf,hg⟩;clear hA hB hf hg
 go_enter Tryz.func138,Tryz.ntmps138
 go_wp2_with fail;go_loopw [3,11] (fun sz i wr=>w=wr∧((i=.int .i64 (0:Nat)∧sz=.int .i64 0)∨(i=.int .i64 (1:Nat)∧sz=.int .i64 (l.length:Nat))∨(i=.int .i64 (2:Nat)∧sz=.int .i64 ((l.length+m.length:Nat):Int)))) (fun _ i _=>2-(intOf i).toNat);case atStart=>exact⟨rfl, .inl ⟨rfl,rfl⟩⟩
 case round=>
  obtain⟨rfl,⟨rfl,rfl⟩|⟨rfl,rfl⟩|⟨rfl,rfl⟩⟩:=hrel
  ·go_wp2_with fail;go_roundw;(case rel=>exact⟨by trivial, .inr (.inl ⟨by first|rfl|go_num,by first|rfl|go_num|simp⟩)⟩);case measure=>simp[intOf]
  ·go_wp2_with fail;go_roundw;(case rel=>exact⟨by trivial, .inr (.inr ⟨by first|rfl|go_num,by first|rfl|go_num|simp⟩)⟩);case measure=>simp[intOf]
  go_wp2_with fail;refine Calls.mono (aCt _ (l.length+m.length) oM) ?_;rintro e w1 ⟨v1,rfl,hown1,hbw1⟩;obtain⟨a1,c1,rfl⟩:=aZ hown1;have d0:=aD hbw1 hb0;have d1:=aD hbw1 hb1;go_wp2_with fail;clear d0 d1;go_loopw [6,27] (fun ns i wr=>(i=.int .i64 (0:Nat)∧wr.ownsRow w.heap.size 55 2 ns 0 []∧Below w.heap.size w wr)∨(i=.int .i64 (1:Nat)∧∃q1,Appd w [] l ns wr q1)∨(i=.int .i64 (2:Nat)∧∃q1 q2,q1.map (·.1)=l∧(∀p,p∈q1→FvOk w p)∧Appd w q1 m ns wr q2)) (fun _ i _=>2-(intOf i).toNat);case atStart=>exact .inl ⟨rfl,hown1,hbw1⟩
  case round=>
   rcases hrel with⟨rfl,hown,hbw⟩|⟨rfl,q1,H1⟩|⟨rfl,q1,q2,e1,o1,H2⟩
   ·have d0:=aD hbw hb0;have d1:=aD hbw hb1;obtain⟨a2,c2,rfl⟩:=aZ hown;go_wp2_with(at_builtin;refine iO rfl (.tmp 31) (.tmp 32) rfl hbw _ 0 [] rfl rfl hown ao cap l rfl HA.out.2 HA.out.1 HF.out.1 ?c1 ?_);(case c1=>omega);intro v2 w2 q2 H2;obtain⟨a3,c3,rfl⟩:=aZ H2.2.2.1;have H2:Hid (Appd w [] l _ w2 q2):=H2;go_wp2_with fail;go_roundw;(case rel=>exact .inr (.inl ⟨by first|rfl|go_num,q2,H2.out⟩));case measure=>simp[intOf]
   ·obtain⟨e1,o1,hown,hbw⟩:=H1;have hown:wr.ownsRow w.heap.size 55 2 _ q1.length (q1.map fcCells).flatten:=hown;have d0:=aD hbw hb0;have d1:=aD hbw hb1;obtain⟨a2,c2,rfl⟩:=aZ hown;(have HL1:Hid (q1.length=l.length):=by show _=_;rw[←e1,aO]);have HE:Hid (q1.map (·.1)=l∧(∀p,p∈q1→FvOk w p)):=⟨e1,o1⟩;clear e1 o1;go_wp2_with(at_builtin;refine iO rfl (.tmp 31) (.tmp 32) rfl hbw _ q1.length q1 rfl rfl hown bo cbp m rfl HB.out.2 HB.out.1 HF.out.2 ?c1 ?_);(case c1=>have :=HL1.out;omega);intro v2 w2 q2 H2;obtain⟨a3,c3,rfl⟩:=aZ H2.2.2.1;have H2:Hid (Appd w q1 m _ w2 q2):=H2;go_wp2_with fail;go_roundw;(case rel=>exact .inr (.inr ⟨by first|rfl|go_num,q1,q2,HE.out.1,HE.out.2,H2.out⟩));case measure=>simp[intOf]
   obtain⟨e2,o2,hown2,hb2⟩:=H2;have HFV:Hid (FactsV wr u6 (l++m)):=by
    have h3:=jO hown2 (fun p hp=>by
     rcases bX.mp hp with hp|hp
     ·exact o1 p hp
     exact o2 p hp) hb2
    rw[bJ,e1,e2]at h3;exact h3
   obtain⟨a2,c2,rfl⟩:=aZ hown2;clear e1 e2 o1 o2 hown2;go_wp2_with fail;go_ret;exact⟨_,rfl,HFV.out,hb2⟩
theorem zI(w:World)(C:Array Value)(t:TypeId)(j:Nat):(w.alloc (.cells C t)).cell? ⟨w.heap.size,j,none⟩=C[j]?:=World.cell?_alloc_mark w C t _ j
theorem oW(l m:List Rl.Fc)(v u:Value)(w:World)(hV:FactsV w v l)(hU:FactsV w u m)(hl:l.length≤1048576)(hm:m.length≤1048576)(hf:∀f,f∈l→f.args.length≤1048576)(hg:∀f,f∈m→f.args.length≤1048576):
 Calls Tryz.prog 95 #[v,u] w fun e w'=>∃v',e=.returned v'∧FactsV w' v' (Rl.union l m)∧Below w.heap.size w w':=by
 obtain⟨ao,cap,rfl,hc1,hA⟩:=hV;obtain⟨bo,cbp,rfl,hc2,hB⟩:=hU;have HA:Hid (FactsAt w ao l∧(ao=none→cap=0)):=⟨hA,hc1.2⟩;have HB:Hid (FactsAt w bo m∧(bo=none→cbp=0)):=⟨hB,hc2.2⟩;have HF:Hid ((∀f,f∈l→FFit f)∧∀f,f∈m→FFit f):=⟨fun f h=>aX (hf f h) dE,fun f h=>aX (hg f h) dE⟩;have HL:Hid ((l++m).length≤2097152∧∀f,f∈l++m→f.args.length≤1048576):=by
  refine⟨by rw[aN];omega,fun f h=>?_⟩;rcases bX.mp h with h|h
  ·exact hf f h
  exact hg f h
 clear hA hB hc1 hc2 hf hg
 go_enter Tryz.func95,Tryz.ntmps95
 go_wp2_with fail;have hba:Below w.heap.size w (w.alloc (Obj.cells #[Value.slice ao l.length cap,Value.slice bo m.length cbp] 27)):=(aH _ _).alloc (aF _) _;refine Calls.mono (qZ l m w.heap.size ao bo cap cbp _ ⟨nE HA.out.1 hba,HA.out.2⟩ ⟨nE HB.out.1 hba,HB.out.2⟩ (zI w _ 27 0) (zI w _ 27 1) hl hm HF.out.1 HF.out.2) ?_;rintro e w1 ⟨v1,rfl,hV1,hb1⟩;have hb1:=hba.trans (hb1.mono (by have :=hba.size;omega));clear hba HA HB;obtain⟨a1,c1,rfl,hc1,hA1⟩:=id hV1;have HV:Hid (FactsV w1 (.slice a1 (l++m).length c1) (l++m)):=hV1;rw[aN]at HV;clear hV1 hc1 hA1 HF;go_wp2_with fail;refine Calls.mono (oI (l++m) _ _ HV.out HL.out.1 HL.out.2) ?_;rintro e w3 ⟨v3,rfl,hS,hb3⟩;have HS:Hid (FactsV w3 v3 (Rl.union l m)):=hS.toV;obtain⟨q3,_,hown3,_⟩:=id hS;obtain⟨a3,c3,rfl⟩:=aZ hown3;have hb4:=hb1.trans (hb3.mono hb1.size);clear hown3 hS hb3 HL HV;go_wp2_with fail;go_ret;exact⟨_,rfl,HS.out,hb4⟩
theorem nJ(q:List Lv):(lCells q).length=q.length*4:=by unfold lCells;rw[pL 4 _ (fun c hc=>by obtain⟨t,_,rfl⟩:=bO.mp hc;rfl),aO]
theorem nK(q r:List Lv):lCells (q++r)=lCells q++lCells r:=by unfold lCells;rw[bJ,dZ]
def QAt(w:World)(a:Addr)(q:List Lv):Prop:=∀j u,(lCells q)[j]?=some u→w.cell? (a.add j)=some u
theorem mP{w w':World}(hb:Below w.heap.size w w'){a:Addr}{v:Value}(h:w.cell? a=some v):w'.cell? a=some v:=(fP (hb.block _ (dX w _ h))).trans h
theorem qR{q:List Lv}(h:∀p,p∈q→∃ao n c,p.2=.slice ao n c):∀u,u∈lCells q→u.oneCell'=true:=by
 intro u hu;unfold lCells at hu;obtain⟨c,hc,hu⟩:=List.mem_flatten.mp hu;obtain⟨p,hp,rfl⟩:=bO.mp hc;obtain⟨ao,n,cc,e⟩:=h p hp;unfold lvCells at hu;simp only[bD,eN,or_false]at hu;rcases hu with rfl|rfl|rfl|rfl
 ·rfl
 ·rfl
 ·rfl
 rw[e];rfl
theorem aBD(w:World)(n:Nat)(hn:n≤1048576):
 Calls Tryz.prog 183 #[.slice none 0 0, .int .i64 n] w fun e w'=>∃v',e=.returned v'∧w'.ownsRow w.heap.size 49 4 v' 0 []∧Below w.heap.size w w':=by
 obtain⟨i0,hi,hz0,hz1,hz2⟩:=info_parts uO;by_cases h0:n=0
 ·subst h0
  go_enter Tryz.func183,Tryz.ntmps183
  go_wp2_with fail;go_ret;exact⟨_,rfl,cM _ _ _ _,aH _ _⟩
 have hp:0<n:=oM;have HR:Hid _:=Lib.run_append_nil_zeros w 38 3 38 49 i0 _ .i64 .i64 Tryz.underlying38 Tryz.underlying3 hi hz0 n hp (by rw[hz1];decide) oM (by rw[hz2];omega)
 go_enter Tryz.func183,Tryz.ntmps183
 go_wp2_with(at_builtin;refine Lib.wpList_append_run _ rfl _ _ 38 3 rfl _ _ rfl rfl _ _ HR.out ?_);(have HO:Hid (∀cur:Array Value,cur.size=grownCap w n 0 49*4→(w.alloc (.cells cur 49)).drew.ownsRow w.heap.size 49 4 (.slice (some ⟨w.heap.size,0,none⟩) 0 (grownCap w n 0 49)) 0 []∧Below w.heap.size w (w.alloc (.cells cur 49)).drew):=by intro cur hc;have h1:=fL (base:=w.heap.size) (e:=49) (size:=4) w cur (grownCap w n 0 49) (aF _) (grownCap_le_maxLen _ _ _ _ (by unfold maxLen;omega)) hc;have h2:Below w.heap.size w (w.alloc (.cells cur 49)):=(aH _ _).alloc (aF _) _;exact⟨h1,h2.os,h2.tape,h2.output,h2.size,h2.block⟩);have hge:=grownCap_ge w n 0 49;go_ret;refine⟨_,rfl,HO.out _ ?_⟩;simp[Builtin.zeroCells];omega
theorem zB(q1 q2:List Lv)(b:Nat)(a1 a2:Addr)(c1 c2:Nat)(w:World)(hA:QAt w a1 q1)(hB:QAt w a2 q2)(h1:∀p,p∈q1→∃ao n c,p.2=.slice ao n c)(h2:∀p,p∈q2→∃ao n c,p.2=.slice ao n c)
 (hb0:w.cell? ⟨b,0,none⟩=some (.slice (some a1) q1.length c1)) (hb1:w.cell? ⟨b,1,none⟩=some (.slice (some a2) q2.length c2)) (hl:q1.length≤1000) (hm:q2.length≤1000):
 Calls Tryz.prog 144 #[.slice (some ⟨b,0,none⟩) 2 2] w fun e w'=>∃v',e=.returned v'∧w'.ownsRow w.heap.size 49 4 v' (q1.length+q2.length) (lCells (q1++q2))∧Below w.heap.size w w':=by
 obtain⟨i0,hi,hz0,hz1,hz2⟩:=info_parts uO;have HA:Hid _:=hA;have HB:Hid _:=hB;have H1:Hid _:=qR h1;have H2:Hid _:=qR h2;clear hA hB h1 h2
 go_enter Tryz.func144,Tryz.ntmps144
 go_wp2_with fail;go_loopw [3,11] (fun sz i wr=>w=wr∧((i=.int .i64 (0:Nat)∧sz=.int .i64 0)∨(i=.int .i64 (1:Nat)∧sz=.int .i64 (q1.length:Nat))∨(i=.int .i64 (2:Nat)∧sz=.int .i64 ((q1.length+q2.length:Nat):Int)))) (fun _ i _=>2-(intOf i).toNat);case atStart=>exact⟨rfl, .inl ⟨rfl,rfl⟩⟩
 case round=>
  obtain⟨rfl,⟨rfl,rfl⟩|⟨rfl,rfl⟩|⟨rfl,rfl⟩⟩:=hrel
  ·go_wp2_with fail;go_roundw;(case rel=>exact⟨by trivial, .inr (.inl ⟨by first|rfl|go_num,by first|rfl|go_num|simp⟩)⟩);case measure=>simp[intOf]
  ·go_wp2_with fail;go_roundw;(case rel=>exact⟨by trivial, .inr (.inr ⟨by first|rfl|go_num,by first|rfl|go_num|simp⟩)⟩);case measure=>simp[intOf]
  go_wp2_with fail;refine Calls.mono (aBD _ (q1.length+q2.length) oM) ?_;rintro e w1 ⟨v1,rfl,hown1,hbw1⟩;obtain⟨a3,c3,rfl⟩:=aZ hown1;have d0:=aD hbw1 hb0;have d1:=aD hbw1 hb1;go_wp2_with fail;clear d0 d1;go_loopw [6,27] (fun ns i wr=>(i=.int .i64 (0:Nat)∧wr.ownsRow w.heap.size 49 4 ns 0 []∧Below w.heap.size w wr)∨(i=.int .i64 (1:Nat)∧wr.ownsRow w.heap.size 49 4 ns q1.length (lCells q1)∧Below w.heap.size w wr)∨(i=.int .i64 (2:Nat)∧wr.ownsRow w.heap.size 49 4 ns (q1.length+q2.length) (lCells q1++lCells q2)∧Below w.heap.size w wr)) (fun _ i _=>2-(intOf i).toNat);case atStart=>exact .inl ⟨rfl,hown1,hbw1⟩
  case round=>
   rcases hrel with⟨rfl,hown,hbw⟩|⟨rfl,hown,hbw⟩|⟨rfl,hown,hbw⟩
   ·have d0:=aD hbw hb0;have d1:=aD hbw hb1;obtain⟨a4,c4,rfl⟩:=aZ hown;go_wp2_with(at_builtin;refine wpList_append_own _ rfl _ _ 38 rfl w.heap.size 49 i0 _ 4 48 Tryz.underlying38 hi hz0 hz1 hz2 rfl dE _ _ _ rfl hown a1 q1.length c1 (lCells q1) rfl (nJ q1) ?c1 H1.out ?c3 ?c4 ?c5 ?_);(case c1=>exact fun j u hj=>(mP hbw (HA.out j u hj)));(case c3=>unfold maxLen;omega);(case c4=>omega);(case c5=>exact hbw.size);intro v2 w2 hown2 hgrow2 _;obtain⟨a5,c5,rfl⟩:=aZ hown2;have hb5:Below w.heap.size w w2:=hbw.grown hgrow2 hbw.size (fun k hk=>(World.ownsRow.lt hown k hk).1);(have h8:w2.ownsRow w.heap.size 49 4 (.slice a5 (0+q1.length) c5) q1.length (lCells q1):=by simpa using hown2);have HO2:Hid _:=h8;rw[cV]at h8;have HO3:Hid _:=h8;clear h8 hown2 hgrow2 hown d0 d1;go_wp2_with fail;go_roundw;(case rel=>exact .inr (.inl ⟨by first|rfl|go_num,by first|exact HO2.out|exact HO3.out,hb5⟩));case measure=>simp[intOf]
   ·have d0:=aD hbw hb0;have d1:=aD hbw hb1;obtain⟨a4,c4,rfl⟩:=aZ hown;go_wp2_with(at_builtin;refine wpList_append_own _ rfl _ _ 38 rfl w.heap.size 49 i0 _ 4 48 Tryz.underlying38 hi hz0 hz1 hz2 rfl dE _ _ _ rfl hown a2 q2.length c2 (lCells q2) rfl (nJ q2) ?c1 H2.out ?c3 ?c4 ?c5 ?_);(case c1=>exact fun j u hj=>(mP hbw (HB.out j u hj)));(case c3=>unfold maxLen;omega);(case c4=>omega);(case c5=>exact hbw.size);intro v2 w2 hown2 hgrow2 _;obtain⟨a5,c5,rfl⟩:=aZ hown2;have hb5:Below w.heap.size w w2:=hbw.grown hgrow2 hbw.size (fun k hk=>(World.ownsRow.lt hown k hk).1);have HO2:Hid _:=hown2;clear hown2 hgrow2 hown d0 d1;go_wp2_with fail;go_roundw;(case rel=>exact .inr (.inr ⟨by first|rfl|go_num,HO2.out,hb5⟩));case measure=>simp[intOf]
   obtain⟨a4,c4,rfl⟩:=aZ hown;have HO2:Hid _:=hown;clear hown;go_wp2_with fail;go_ret;exact⟨_,rfl,by rw[nK];exact HO2.out,hbw⟩
namespace Ru
def stepN(s:Nat)(_:Way):Nat×Bool:=(s+1,true)
def liveN(s:Nat)(_:Way):Prop:=s≤1000000
theorem lv_count:∀(L:List Way)(s:Nat),s+L.length≤1000001→Lv stepN liveN s L
 |[],_,_=>trivial
 |x::L,s,h=>⟨by unfold liveN;simp only[dK]at h;omega,fun _=>lv_count L (s+1) (by simp only[dK]at h;omega)⟩
theorem run_count:∀(L:List Way)(s:Nat),run stepN s L=(s+L.length,true)
 |[],_=>rfl
 |x::L,s=>by
  rw[run_cons];show(if true=true then run stepN (s+1) L else _)=_;rw[if_pos rfl,run_count L (s+1),dK]
  congr 1
  omega
theorem on_length(facts:List Rl.Fc)(l:Sc.Lit)(y:Way):(on facts l y).length≤facts.length+1:=by
 unfold on;split
 ·have :=List.length_filterMap_le (fun f=>if f.pred=l.pred then withW y l.terms f.args else none) facts;omega
 split
 ·split<;>simp
 split
 ·split<;>simp
 split
 ·simp
 split<;>simp
theorem nextAux_drop(facts:List Rl.Fc)(y:Way)(body:List Sc.Lit)(k:Nat)(h:k<body.length)(a:Nat×Int):nextAux facts y (body.drop k) k a=nextAux facts y (body.drop (k+1)) (k+1) (nextStep facts y (Sc.litD body k) k a):=by(have e:Sc.litD body k=body[k]:=by unfold Sc.litD;rw[aE,aG h];rfl);rw[bG h,e];rfl
end Ru
theorem aBt(NB n:Nat)(x:Ru.Way)(w:World)(hN:w.heap[NB]?=some (.cells #[.int .i64 n] 3))(hn:n≤1000000):
 Calls Tryz.prog 182 #[wayVal x, .pointer (some ⟨NB,0,none⟩)] w fun e w'=>e=.returned (.bool true)∧w'.heap[NB]?=some (.cells #[.int .i64 ((n+1:Nat):Int)] 3)∧Kp NB NB w w':=by
 have bT:=(aH w.heap.size w).alloc (aF _) (.cells (wayArr x) 138);have hN1:=(bT.block _ (aY hN)).trans hN;(have c0:(w.alloc (.cells (wayArr x) 138)).cell? ⟨NB,0,none⟩=some (.int .i64 n):=by rw[aC hN1];rfl);have f0:=bQ hN1 0;have HN:Hid _:=hN1;have HK:Hid (Kp NB NB w (w.alloc (.cells (wayArr x) 138))):=Kp.of_below bT (Nat.le_of_lt (aY hN));clear hN1 hN bT
 go_enter Tryz.func182,Tryz.ntmps182
 go_upto_region 1 with fail;generalize w.alloc (.cells (wayArr x) 138)=w1 at *;go_wp2_with fail;go_ret;refine⟨rfl,by rw[bL HN.out];rfl,HK.out.trans ⟨rfl,rfl,rfl,by simp,fun k hk=>bH oM,fun k c t hk hne _=>?_⟩⟩;rw[bH hne];exact hk
theorem tellN(NB:Nat):Tell NB NB 182 #[.pointer (some ⟨NB,0,none⟩)] Ru.stepN Ru.liveN (fun n w=>w.heap[NB]?=some (.cells #[.int .i64 (n:Int)] 3)):=
 ⟨fun s w x hI hl _=>aBt NB s x w hI hl,fun _ _ _ hI hb=>(hb.block _ (aY hI)).trans hI,fun _ _ hI=>⟨Nat.le_of_lt (aY hI),aY hI⟩⟩
structure BodyV (w0:World) (NB:Nat) (w:World) (v:Value) (q:List Lv):Prop where
 sl:∃a cap,v=.slice a q.length cap∧q.length≤cap∧(q≠[]→∃b off,a=some ⟨b,off,none⟩∧QAt w ⟨b,off,none⟩ q∧(b<w0.heap.size∨(b≠NB∧∃c,w.heap[b]?=some (.cells c 49))))
 tm:∀p,p∈q→PTermsV w0 p.2 p.1.terms
theorem QAt.lit{w:World}{b off:Nat}{q:List Lv}(h:QAt w ⟨b,off,none⟩ q){k:Nat}(hk:k<q.length):w.cell? ⟨b,off+k*4,none⟩=some (.int .i64 q[k].1.kind)∧w.cell? ⟨b,off+k*4+1,none⟩=some (.int .i64 q[k].1.op)∧w.cell? ⟨b,off+k*4+2,none⟩=some (.int .i64 q[k].1.pred)∧w.cell? ⟨b,off+k*4+3,none⟩=some q[k].2:=by(have hm:(q.map lvCells)[k]?=some (lvCells q[k]):=by rw[bK,aG hk];rfl);(have hl:∀c,c∈q.map lvCells→c.length=4:=fun c hc=>by obtain⟨t,_,rfl⟩:=bO.mp hc;rfl);(have each:∀(i:Nat)(u:Value),(lvCells q[k])[i]?=some u→w.cell? ⟨b,off+(k*4+i),none⟩=some u:=fun i u hu=>by have h1:=h (k*4+i) u (oF 4 _ hl k _ i u hm hu);rw[Addr.add_lit]at h1;exact h1);exact⟨each 0 _ rfl,each 1 _ rfl,each 2 _ rfl,each 3 _ rfl⟩
theorem yN{q:List Lv}{k:Nat}(h:k<q.length):Sc.litD (q.map (·.1)) k=q[k].1:=by unfold Sc.litD;rw[aE,bK,aG h];rfl
theorem aCn(facts:List Rl.Fc)(q:List Lv)(y:Ru.Way)(vf vb:Value)(w0 w:World)(NB:Nat)(hB0:Below w0.heap.size w0 w)(hF:FactsV w0 vf facts)(hFl:facts.length≤1000)(hFF:∀f,f∈facts→FFit f)(hQ:BodyV w0 NB w vb q)(hql:q.length≤1000)(hy:Ru.Wf 8 y)
 (hL:∀p,p∈q→Ru.LitIn 8 facts p.1∧p.1.terms.length≤1000) (hH:∀p,p∈q→Ru.ready y p.1=true→HoldIn facts p.1 y):
 Calls Tryz.prog 143 #[vf,vb,wayVal y] w fun e w'=>e=.returned (.int .i64 (Ru.next facts (q.map (·.1)) y))∧Below w.heap.size w w':=by
 obtain⟨⟨ab,cb,rfl,hcb,hqa⟩,htm⟩:=hQ;have bW:=(aH w.heap.size w).alloc (aF _) (.cells (wayArr y) 138);have HW:Hid (WayAt (w.alloc (.cells (wayArr y) 138)) w.heap.size y):=heap_alloc_new w _;have HB1:Hid _:=bW;have HB0:Hid _:=hB0;have HF:Hid _:=hF;have HFF:Hid _:=hFF;have HQA:Hid _:=hqa;have HTM:Hid _:=htm;have HLI:Hid _:=hL;have HHI:Hid _:=hH;have he:∀args w,(callFunc 182 args).run Tryz.prog w=.ok (.enter 182 args) w:=eQ Tryz.func182 kR rfl;have hmf:∀(fn:Fn)(first cap:Array Value)(w:World),(Instr.makeFunc fn first cap).run Tryz.prog w=.ok (.func fn first cap) w:=fun _ _ _ _=>rfl;clear hB0 hF hFF hqa htm hL hH bW
 go_enter Tryz.func143,Tryz.ntmps143
 go_wp2_with fail;generalize w.alloc (.cells (wayArr y) 138)=w1 at *;go_loopw [7,8,14] (fun vbest vfew i wr=>∃(k:Nat)(a:Nat×Int),k≤q.length∧i=.int .i64 k∧vbest=.int .i64 (a.1:Nat)∧vfew=.int .i64 a.2∧a.1≤q.length∧ -1≤a.2∧a.2≤2000∧Hid (Ru.next facts (q.map (·.1)) y=(Ru.nextAux facts y ((q.map (·.1)).drop k) k a).1)∧Hid (Below w.heap.size w wr)∧Hid (WayAt wr w.heap.size y)) (fun _ _ i _=>q.length-(intOf i).toNat);case atStart=>exact⟨0,(0, -1),aR _,rfl,rfl,rfl,aR _,dE,dE,rfl,HB1.out,HW.out⟩
 case round=>
  clear HB1 HW;obtain⟨k,⟨best,few⟩,hk,rfl,rfl,rfl,ha1,ha2,ha3,HR,HB,HW⟩:=hrel;dsimp only at *;by_cases hlt:k<q.length
  ·obtain⟨b,off,rfl,hqat,_⟩:=HQA.out (fun e=>by rw[e]at hlt;exact absurd hlt (fD _));obtain⟨p0,p1,p2,p3⟩:=QAt.lit hqat hlt;have HD:Hid _:=Ru.nextAux_drop facts y (q.map (·.1)) k (by rw[aO];exact hlt) (best,few);have hm:q[k]∈q:=cR hlt;have HTk:Hid _:=HTM.out _ hm;have HLk:Hid _:=HLI.out _ hm;have HHk:Hid _:=HHI.out _ hm;rw[yN hlt]at HD;have q0:=aD HB.out p0;have q1:=aD HB.out p1;have q2:=aD HB.out p2;have q3:=aD HB.out p3;clear p0 p1 p2 p3 hm hqat;generalize q[k]=p at *;obtain⟨⟨kd,op,pd,ts⟩,vt⟩:=p;dsimp only at *;obtain⟨at_,ct,rfl,_⟩:=id HTk.out;go_upto_region 5 with fail;have bT:=(aH wr.heap.size wr).alloc (aF _) (.cells #[.int .i64 kd, .int .i64 op, .int .i64 pd, .slice at_ ts.length ct] 49);have HTB:Hid _:=heap_alloc_new wr (.cells #[.int .i64 kd, .int .i64 op, .int .i64 pd, .slice at_ ts.length ct] 49);have HBq:Hid _:=HB.out.trans (bT.mono HB.out.size);have HWq:Hid (WayAt (wr.alloc (.cells #[.int .i64 kd, .int .i64 op, .int .i64 pd, .slice at_ ts.length ct] 49)) w.heap.size y):=WayAt.below HW.out bT;clear q0 q1 q2 q3 bT HB HW;generalize wr.alloc (.cells #[.int .i64 kd, .int .i64 op, .int .i64 pd, .slice at_ ts.length ct] 49)=wq at *;generalize wr.heap.size=TB at *;(have l0:wq.cell? ⟨TB,0,none⟩=some (.int .i64 kd):=by rw[aC HTB.out];rfl);(have l1:wq.cell? ⟨TB,1,none⟩=some (.int .i64 op):=by rw[aC HTB.out];rfl);(have l2:wq.cell? ⟨TB,2,none⟩=some (.int .i64 pd):=by rw[aC HTB.out];rfl);(have l3:wq.cell? ⟨TB,3,none⟩=some (.slice at_ ts.length ct):=by rw[aC HTB.out];rfl);have HB0q:Hid (Below w0.heap.size w0 wq):=HB0.out.trans (HBq.out.mono HB0.out.size);go_wp2_with(refine eK (aM rfl) _ rfl _ rfl y HWq.out hy ?_);refine Calls.mono (aBj ⟨kd,op,pd,ts⟩ _ y wq (bM HTk.out HB0q.out) hy HLk.out.1.t HLk.out.1.k4 (by have :=HLk.out.2;dsimp only at this ⊢;omega)) ?_;rintro _ w2 ⟨rfl,hb2⟩;have HB2:Hid _:=HBq.out.trans (hb2.mono HBq.out.size);have HW2:Hid (WayAt w2 w.heap.size y):=WayAt.below HWq.out hb2;have HTB2:Hid _:=(hb2.block _ (aY HTB.out)).trans HTB.out;have HB02:Hid (Below w0.heap.size w0 w2):=HB0q.out.trans (hb2.mono HB0q.out.size);clear hb2 l0 l1 l2 l3 HBq HWq HTB HB0q;cases hrd:Ru.ready y ⟨kd,op,pd,ts⟩
   ·(have HN:Hid (Ru.nextStep facts y ⟨kd,op,pd,ts⟩ k (best,few)=(best,few)):=by show _=_;unfold Ru.nextStep;rw[hrd];rfl);clear hrd;go_wp2_with fail;go_roundw;(case rel=>exact⟨k+1,(best,few),hlt,gN,rfl,rfl,ha1,ha2,ha3,by show _=_;rw[HR.out,HD.out,HN.out],HB2.out,HW2.out⟩);case measure=>exact mI
   have HHh:Hid _:=HHk.out hrd;have HRD:Hid _:=hrd;clear hrd;go_upto_region 7 with fail;have bN:=(aH w2.heap.size w2).alloc (aF _) (.cells #[.int .i64 0] 3);have hNB:=heap_alloc_new w2 (.cells #[.int .i64 0] 3);have HC:Hid _:=yT (NB:=w2.heap.size) (hh:=182) (cb:=#[.pointer (some ⟨w2.heap.size,0,none⟩)]) facts ⟨kd,op,pd,ts⟩ y vf (.slice at_ ts.length ct) w2 (w2.alloc (.cells #[.int .i64 0] 3)) 0 bN (aI HF.out HB02.out) oM HFF.out (bM HTk.out HB02.out) HHh.out hy (tellN w2.heap.size) he hNB (Ru.lv_count _ 0 (by have :=Ru.on_length facts ⟨kd,op,pd,ts⟩ y;omega));have HW3:Hid (WayAt (w2.alloc (.cells #[.int .i64 0] 3)) w.heap.size y):=WayAt.below HW2.out bN;have HTB3:Hid _:=(bN.block _ (aY HTB2.out)).trans HTB2.out;have HB3:Hid _:=HB2.out.trans (bN.mono HB2.out.size);have HXW:Hid (w.heap.size<w2.heap.size):=aY HW2.out;have hol:=Ru.on_length facts ⟨kd,op,pd,ts⟩ y;rw[Ru.run_count]at HC;generalize hon:(Ru.on facts ⟨kd,op,pd,ts⟩ y).length=cnt at *;have HON:Hid _:=hon;clear bN hNB hon;generalize w2.alloc (.cells #[.int .i64 0] 3)=w3 at *;(have l0:w3.cell? ⟨TB,0,none⟩=some (.int .i64 kd):=by rw[aC HTB3.out];rfl);(have l1:w3.cell? ⟨TB,1,none⟩=some (.int .i64 op):=by rw[aC HTB3.out];rfl);(have l2:w3.cell? ⟨TB,2,none⟩=some (.int .i64 pd):=by rw[aC HTB3.out];rfl);(have l3:w3.cell? ⟨TB,3,none⟩=some (.slice at_ ts.length ct):=by rw[aC HTB3.out];rfl);go_wp2_with(refine eK (aM rfl) _ rfl _ rfl y HW3.out hy ?_);refine Calls.mono HC.out ?_;rintro _ w4 ⟨rfl,hI4,hK4⟩;rw[cV]at hI4;have HB4:Hid (Below w.heap.size w w4):=⟨hK4.os.trans HB3.out.os,hK4.tape.trans HB3.out.tape,hK4.output.trans HB3.out.output,aX HB3.out.size hK4.size,fun k hk=>(hK4.low k (by have :=HXW.out;omega)).trans (HB3.out.block k hk)⟩;have HW4:Hid (WayAt w4 w.heap.size y):=(hK4.low _ HXW.out).trans HW3.out;(have n0:w4.cell? ⟨w2.heap.size,0,none⟩=some (.int .i64 cnt):=by rw[aC hI4];rfl);clear l0 l1 l2 l3 hI4 hK4 HC HTB3 HB3 HW3 HB2 HW2 HTB2 HB02;generalize w2.heap.size=NX at *;by_cases hf:few<0∨(cnt:Int)<few
   ·(have HN:Hid (Ru.nextStep facts y ⟨kd,op,pd,ts⟩ k (best,few)=(k,(cnt:Int))):=by show _=_;unfold Ru.nextStep;rw[HRD.out,if_pos rfl,HON.out,if_pos hf]);by_cases hf0:few<0
    ·have g1:decide (few<0)=true:=decide_eq_true hf0;clear hf hf0;go_wp2_with fail;go_quiet(fail);go_wp2_with fail;go_roundw;(case rel=>exact⟨k+1,(k,(cnt:Int)),hlt,gN,rfl,rfl,by dsimp only;omega,by dsimp only;omega,by dsimp only;omega,by show _=_;rw[HR.out,HD.out,HN.out],HB4.out.trans ((bY _ _).mono HB4.out.size),WayAt.below HW4.out (bY _ _)⟩);case measure=>exact mI
    have g1:decide (few<0)=false:=decide_eq_false hf0;have g2:decide ((cnt:Int)<few)=true:=decide_eq_true oM;clear hf hf0;go_wp2_with fail;go_quiet(fail);go_wp2_with fail;go_roundw;(case rel=>exact⟨k+1,(k,(cnt:Int)),hlt,gN,rfl,rfl,by dsimp only;omega,by dsimp only;omega,by dsimp only;omega,by show _=_;rw[HR.out,HD.out,HN.out],HB4.out.trans ((bY _ _).mono HB4.out.size),WayAt.below HW4.out (bY _ _)⟩);case measure=>exact mI
   (have HN:Hid (Ru.nextStep facts y ⟨kd,op,pd,ts⟩ k (best,few)=(best,few)):=by show _=_;unfold Ru.nextStep;rw[HRD.out,if_pos rfl,HON.out,if_neg hf]);have g1:decide (few<0)=false:=decide_eq_false oM;have g2:decide ((cnt:Int)<few)=false:=decide_eq_false oM;clear hf;go_wp2_with fail;go_roundw;(case rel=>exact⟨k+1,(best,few),hlt,gN,rfl,rfl,ha1,ha2,ha3,by show _=_;rw[HR.out,HD.out,HN.out],HB4.out,HW4.out⟩);case measure=>exact mI
  have hdd:decide (k<q.length)=false:=decide_eq_false hlt;(have HE:Hid (Ru.next facts (q.map (·.1)) y=best):=by show _=_;rw[HR.out,aL (by rw[aO];omega)];rfl);go_wp2_with fail;go_ret;exact⟨by rw[HE.out];rfl,HB.out⟩
namespace Ru
theorem lv_mem{σ:Type}{step:σ→Way→σ×Bool}{live:σ→Way→Prop}{P:Way→Prop}:∀(L:List Way)(s:σ),Lv step live s L→(∀x,x∈L→P x)→Lv step (fun s x=>live s x∧P x) s L
 |[],_,_,_=>trivial
 |x::L,_,h,hp=>⟨⟨h.1,hp x bA⟩,fun hs=>lv_mem L _ (h.2 hs) (fun z hz=>hp z (aP _ hz))⟩
theorem run_one{σ:Type}(step:σ→Way→σ×Bool)(s:σ)(x:Way):run step s [x]=step s x:=by
 rw[run_cons];show(if(step s x).2=true then((step s x).1,true)else((step s x).1,false))=_
 cases h:step s x with
 |mk a b=>cases b<;>rfl
def LitNum(l:Sc.Lit):Prop:=∀t,t∈l.terms→t.var<0→Sc.isNum t.n=true
theorem known_num{m:Nat}{y:Way}{t:Sc.Term}(hg:Good m y)(hc:t.var<0→Sc.isNum t.n=true)(hk:Sc.known y.known t=true):Sc.isNum (num y.nums t)=true:=by
 unfold num;by_cases h:t.var<0
 ·rw[if_pos h];exact hc h
 rw[if_neg h];refine hg.nm _ ?_;unfold Sc.known at hk;rw[eA]at hk;rcases hk with hk|hk
 ·exact absurd (by simpa using hk) h
 exact hk
end Ru
theorem uJ{facts:List Rl.Fc}{l:Sc.Lit}{y:Ru.Way}{m:Nat}(hg:Ru.Good m y)(hm:m≤8)(hl:Ru.LitIn m facts l)(ht:l.terms.length≤1000)(hc:Ru.LitNum l)(hr:Ru.ready y l=true):HoldIn facts l y:=by
 (have hk:l.kind=4→(Sc.known y.known (Sc.termD l.terms 0)&&Sc.known y.known (Sc.termD l.terms 1))=true:=fun h=>by unfold Ru.ready at hr;rw[if_neg oM,if_pos h]at hr;exact hr);refine⟨hl.mono hm,ht,fun h=>?_,fun h=>?_⟩
 ·have h3:=hl.k4 h;exact Ru.known_num hg (hc _ (Ru.termD_mem oM)) (by have :=hk h;rw[aW]at this;exact this.1)
 have h3:=hl.k4 h;exact Ru.known_num hg (hc _ (Ru.termD_mem oM)) (by have :=hk h;rw[aW]at this;exact this.2)
theorem QAt.block{w w':World}{b off:Nat}{q:List Lv}(h:QAt w ⟨b,off,none⟩ q)(hb:w'.heap[b]?=w.heap[b]?):QAt w' ⟨b,off,none⟩ q:=by intro j u hj;have h1:=h j u hj;rw[Addr.add_lit]at h1 ⊢;exact(fP hb).trans h1
theorem QAt.take{w:World}{b off:Nat}{q:List Lv}(h:QAt w ⟨b,off,none⟩ q)(i:Nat):QAt w ⟨b,off,none⟩ (q.take i):=by intro j u hj;refine h j u ?_;(have e:lCells q=lCells (q.take i)++lCells (q.drop i):=by rw[←nK,eV]);rw[e,eH (dA.mp hj).1];exact hj
theorem QAt.drop{w:World}{b off:Nat}{q:List Lv}(h:QAt w ⟨b,off,none⟩ q)(i:Nat)(hi:i≤q.length):QAt w ⟨b,off+i*4,none⟩ (q.drop i):=by intro j u hj;(have e:lCells q=lCells (q.take i)++lCells (q.drop i):=by rw[←nK,eV]);(have hl:(lCells (q.take i)).length=i*4:=by rw[nJ,bC,jV hi]);have h1:=h (i*4+j) u (by rw[e,eB oM,hl,jC];exact hj);rw[Addr.add_lit]at h1 ⊢;rw[jD];exact h1
theorem BodyV.kp{w0:World}{NB:Nat}{w w':World}{v:Value}{q:List Lv}(h:BodyV w0 NB w v q)(hK:Kp w0.heap.size NB w w'):BodyV w0 NB w' v q:=by
 obtain⟨⟨a,cap,e,hc,hq⟩,ht⟩:=h;refine⟨⟨a,cap,e,hc,fun hne=>?_⟩,ht⟩;obtain⟨b,off,ea,hQ,hb⟩:=hq hne;rcases hb with hb|⟨hb,c,hcs⟩
 ·exact⟨b,off,ea,hQ.block (hK.low b hb), .inl hb⟩
 have hk:=hK.keep b c 49 hcs hb dE;exact⟨b,off,ea,hQ.block (hk.trans hcs.symm), .inr ⟨hb,c,hk⟩⟩
theorem aBN{w0 w:World}{NB X co:Nat}{ao:Option Addr}{r:List Lv}(h:w.ownsRow X 49 4 (.slice ao r.length co) r.length (lCells r))(hNB:NB<X)(ht:∀p,p∈r→PTermsV w0 p.2 p.1.terms):BodyV w0 NB w (.slice ao r.length co) r:=by
 refine⟨⟨ao,co,rfl,?_,fun hne=>?_⟩,ht⟩
 ·rcases h.2 with⟨h1,h2⟩|⟨g,cap,cur,h1,h2,h3,h4,_⟩
  ·rw[h2];exact aR _
  injection h1 with e1 e2 e3;rw[e3];exact h4
 rcases id h.2 with⟨h1,h2⟩|⟨g,cap,cur,h1,h2,h3,h4,_⟩
 ·exact absurd (gG.mp h2) hne
 injection h1 with e1 e2 e3;subst e1;exact⟨g,0,rfl,h.cells rfl, .inr ⟨oM,cur,h3⟩⟩
structure EachI {σ:Type} (I:σ→World→Prop) (w0:World) (NB X OB:Nat) (vf vo:Value) (hh:Nat) (cb:Array Value) (r:List Lv) (s:σ) (w:World):Prop where
 i:I s w
 f:w.heap[X]?=some (.cells #[vf] 27)
 o:w.heap[OB]?=some (.cells #[vo] 38)
 t:w.heap[X+2]?=some (.cells #[.func (.func hh) #[] cb] 139)
 b:BodyV w0 NB w vo r
 l:Below w0.heap.size w0 w
theorem EachI.kp{σ:Type}{I:σ→World→Prop}{w0:World}{NB X OB:Nat}{vf vo:Value}{hh:Nat}{cb:Array Value}{r:List Lv}{s s':σ}{w w':World}(h:EachI I w0 NB X OB vf vo hh cb r s w)(hX:NB<X)(hO:NB<OB)(hi:I s' w')(hK:Kp w0.heap.size NB w w'):EachI I w0 NB X OB vf vo hh cb r s' w':=
 ⟨hi,hK.keep _ _ _ h.f oM dE,hK.keep _ _ _ h.o oM dE,hK.keep _ _ _ h.t oM dE,h.b.kp hK,hK.below h.l⟩
theorem aBI{σ:Type}{step:σ→Ru.Way→σ×Bool}{live:σ→Ru.Way→Prop}{I:σ→World→Prop}{NB hh X OB:Nat}{cb:Array Value}{facts:List Rl.Fc}{ru:Sc.Rule}{r:List Lv}{n cf co:Nat}{af ao:Option Addr}{w0:World}
 (TL:Tell w0.heap.size NB hh cb step live I)
 (IH:∀(y:Ru.Way)(w:World)(s:σ),Below w0.heap.size w0 w→BodyV w0 NB w (.slice ao r.length co) r→Ru.Good ru.vars.toNat y→Ru.Left ru y.known (r.map (·.1))→I s w→Ru.Lv step live s (Ru.eachN facts n (r.map (·.1)) y)→Calls Tryz.prog 98 #[.slice af facts.length cf, .slice ao r.length co,wayVal y, .func (.func hh) #[] cb] w fun e w'=>e=.returned (.bool (Ru.run step s (Ru.eachN facts n (r.map (·.1)) y)).2)∧I (Ru.run step s (Ru.eachN facts n (r.map (·.1)) y)).1 w'∧Kp w0.heap.size NB w w')
 (hX:NB<X) (hO:NB<OB) (s:σ) (w:World) (x:Ru.Way) (hE:EachI I w0 NB X OB (.slice af facts.length cf) (.slice ao r.length co) hh cb r s w) (hlv:Ru.Lv step live s (Ru.eachN facts n (r.map (·.1)) x)) (hg:Ru.Good ru.vars.toNat x) (hl:Ru.Left ru x.known (r.map (·.1))):
 Calls Tryz.prog 146 (#[wayVal x]++#[.pointer (some ⟨X,0,none⟩), .pointer (some ⟨OB,0,none⟩), .pointer (some ⟨X+2,0,none⟩)]) w fun e w'=>e=.returned (.bool (Ru.run step s (Ru.eachN facts n (r.map (·.1)) x)).2)∧EachI I w0 NB X OB (.slice af facts.length cf) (.slice ao r.length co) hh cb r (Ru.run step s (Ru.eachN facts n (r.map (·.1)) x)).1 w'∧Kp w0.heap.size NB w w':=by
 show Calls Tryz.prog 146 #[wayVal x, .pointer (some ⟨X,0,none⟩), .pointer (some ⟨OB,0,none⟩), .pointer (some ⟨X+2,0,none⟩)] w _;have bT:=(aH w.heap.size w).alloc (aF _) (.cells (wayArr x) 138);have HK:Hid (Kp w0.heap.size NB w (w.alloc (.cells (wayArr x) 138))):=Kp.of_below bT (TL.room _ _ hE.i).1;have HE:Hid (EachI I w0 NB X OB (.slice af facts.length cf) (.slice ao r.length co) hh cb r s (w.alloc (.cells (wayArr x) 138))):=EachI.kp hE hX hO (TL.grow _ _ _ hE.i bT) HK.out;have HW:Hid (WayAt (w.alloc (.cells (wayArr x) 138)) w.heap.size x):=heap_alloc_new w _;have HC:Hid _:=IH x _ s HE.out.l HE.out.b hg hl HE.out.i hlv;have hy:=hg.wf;(have c0:(w.alloc (.cells (wayArr x) 138)).cell? ⟨X,0,none⟩=some (.slice af facts.length cf):=by rw[aC HE.out.f];rfl);(have c1:(w.alloc (.cells (wayArr x) 138)).cell? ⟨OB,0,none⟩=some (.slice ao r.length co):=by rw[aC HE.out.o];rfl);(have c2:(w.alloc (.cells (wayArr x) 138)).cell? ⟨X+2,0,none⟩=some (.func (.func hh) #[] cb):=by rw[aC HE.out.t];rfl);clear bT TL IH hE hlv hg hl;generalize Ru.run step s (Ru.eachN facts n (r.map (·.1)) x)=R at *
 go_enter Tryz.func146,Tryz.ntmps146
 go_upto_region 1 with fail;generalize w.alloc (.cells (wayArr x) 138)=w1 at *;go_wp2_with(refine eK (aM rfl) _ rfl _ rfl x HW.out hy ?_);refine Calls.mono HC.out ?_;rintro e w4 ⟨he4,hI4,hK4⟩;subst he4;have HI4:Hid _:=hI4;clear hI4 c0 c1 c2 HC;go_wp2_with fail;go_ret;exact⟨rfl,EachI.kp HE.out hX hO HI4.out hK4,HK.out.trans hK4⟩
theorem eachTell{σ:Type}{step:σ→Ru.Way→σ×Bool}{live:σ→Ru.Way→Prop}{I:σ→World→Prop}{NB hh X OB:Nat}{cb:Array Value}{facts:List Rl.Fc}{ru:Sc.Rule}{r:List Lv}{n cf co:Nat}{af ao:Option Addr}{w0:World}
 (TL:Tell w0.heap.size NB hh cb step live I)
 (IH:∀(y:Ru.Way)(w:World)(s:σ),Below w0.heap.size w0 w→BodyV w0 NB w (.slice ao r.length co) r→Ru.Good ru.vars.toNat y→Ru.Left ru y.known (r.map (·.1))→I s w→Ru.Lv step live s (Ru.eachN facts n (r.map (·.1)) y)→Calls Tryz.prog 98 #[.slice af facts.length cf, .slice ao r.length co,wayVal y, .func (.func hh) #[] cb] w fun e w'=>e=.returned (.bool (Ru.run step s (Ru.eachN facts n (r.map (·.1)) y)).2)∧I (Ru.run step s (Ru.eachN facts n (r.map (·.1)) y)).1 w'∧Kp w0.heap.size NB w w')
 (hX:NB<X) (hO:NB<OB):Tell w0.heap.size NB 146 #[.pointer (some ⟨X,0,none⟩), .pointer (some ⟨OB,0,none⟩), .pointer (some ⟨X+2,0,none⟩)] (fun s x=>Ru.run step s (Ru.eachN facts n (r.map (·.1)) x)) (fun s x=>Ru.Lv step live s (Ru.eachN facts n (r.map (·.1)) x)∧Ru.Good ru.vars.toNat x∧Ru.Left ru x.known (r.map (·.1))) (EachI I w0 NB X OB (.slice af facts.length cf) (.slice ao r.length co) hh cb r):=
 ⟨fun s w x hE hl _=>aBI TL IH hX hO s w x hE hl.1 hl.2.1 hl.2.2,fun _ _ _ hE hb=>EachI.kp hE hX hO (TL.grow _ _ _ hE.i hb) (Kp.of_below hb (TL.room _ _ hE.i).1),fun _ _ hE=>TL.room _ _ hE.i⟩
end Go.Proofs.YthenjegmigeieaaGreat
