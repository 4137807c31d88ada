/- Own texts, one behind the other (part 5). -/
import Derived.Test.YtfljoehbbncooaaGreatBundleD
import Derived.Test.YtfljoehbbncooaaGreatRows
set_option maxRecDepth 100000
set_option maxHeartbeats 8000000
namespace Go.Proofs.YtfljoehbbncooaaGreat
open Go.RowKit
section
variable {P:Program} {ops:Array Oper} {Q:Exit->Act->World->Prop} {i:Nat} {o:Oper} {K:Act->World->Prop} {a:Act} {w:World}
theorem Nc{f:FuncId}{args:Array Value}(d:ops[i]?=some o)(g:Region.wanted o (yielded ops a.tmps)=true)(hr:(execOp a.eval o).run P w=.ok (.enter f args) w)
 (c:Calls P f args w fun e b=>∃v,e=.returned v/\K (a.put o.dst v) b):wpOp P ops Q i K a w:=by
 unfold wpOp;rw[d];dsimp only;rw[if_pos g];left;unfold Oper.wp;rw[hr,Oper.upon_enter];refine Calls.mono c ?_;rintro e b ⟨v,rfl,h⟩;exact h
end
def bEP(X:Nat)(e f:Value)(c:Int)(y:cB)(hh:Nat)(cb:Array Value)(d:Nat)(b:Value):Prop:=
 match d with
 |23=>b=(e:Value)
 |24=>b=(.pointer (some ⟨X,2,none⟩):Value)
 |25=>b=(.int .i64 c:Value)
 |26=>b=(.pointer (some ⟨X,3,none⟩):Value)
 |27=>b=(f:Value)
 |28=>b=(.pointer (some ⟨X+1,0,none⟩):Value)
 |29=>b=(.slice (some ⟨X+1,0,none⟩) 8 8:Value)
 |31=>b=(.bool false:Value)
 |32=>b=(.bool false:Value)
 |33=>b=(.func (.func hh) #[] cb:Value)
 |34=>b=(fY y:Value)
 |_=>True
def Tq(X:Nat)(f g:Value)(b:Int)(xs:List Int)(y:cB)(hh:Nat)(cb:Array Value)(c:Nat)(d:Value)(e:World):Prop:=if c=30 then∃u,d=.agg #[.int .i64 b,u]/\eT e u xs else bEP X f g b y hh cb c d
theorem aHS(X:Nat)(f g:Value)(d:Int)(xs:List Int)(y:cB)(hh:Nat)(cb:Array Value)(b:Nat)(e:Value)(W c:World)(k:Below W.heap.size W c)(h:Tq X f g d xs y hh cb b e W):Tq X f g d xs y hh cb b e c:=by
 unfold Tq at h ⊢;by_cases ht:b=30
 ·rw[if_pos ht]at h ⊢;obtain⟨u,i,j⟩:=h;exact⟨u,i,bC j k⟩
 rw[if_neg ht]at h ⊢;exact h
def bEQ(X:Nat)(e f:Value)(c:Int)(d:Nat)(b:Value):Prop:=
 match d with
 |23=>b=(e:Value)
 |24=>b=(.pointer (some ⟨X,2,none⟩):Value)
 |25=>b=(.int .i64 c:Value)
 |26=>b=(.pointer (some ⟨X,3,none⟩):Value)
 |27=>b=(f:Value)
 |28=>b=(.pointer (some ⟨X+1,0,none⟩):Value)
 |29=>b=(.slice (some ⟨X+1,0,none⟩) 8 8:Value)
 |31=>b=(.bool true:Value)
 |32=>b=(.bool true:Value)
 |33=>b=undef
 |34=>b=undef
 |35=>b=undef
 |36=>b=.bool true
 |8=>b=.bool true
 |_=>True
def Iw(X:Nat)(f g:Value)(b:Int)(xs:List Int)(c:Nat)(d:Value)(e:World):Prop:=if c=30 then∃u,d=.agg #[.int .i64 b,u]/\eT e u xs else bEQ X f g b c d
theorem aHT(X:Nat)(f g:Value)(d:Int)(xs:List Int)(b:Nat)(e:Value)(W c:World)(k:Below W.heap.size W c)(h:Iw X f g d xs b e W):Iw X f g d xs b e c:=by
 unfold Iw at h ⊢;by_cases ht:b=30
 ·rw[if_pos ht]at h ⊢;obtain⟨u,i,j⟩:=h;exact⟨u,i,bC j k⟩
 rw[if_neg ht]at h ⊢;exact h
theorem aWU{σ:Type}{step:σ->cB->σ×Bool}{am:σ->cB->Prop}{I:σ->World->Prop}{NB hh:Nat}{cb:Array Value}(facts:List aQ)(l:cX)(y:cB)(q vt:Value)(w0 w:World)(s:σ)
 (aa:Below w0.heap.size w0 w) (hF:bS w0 q facts) (b2:facts.length<=1000000) (ab:∀f,f∈facts->gD f) (Q:iX w0 vt l.v) (ad:kV 8 l.v) (b3:l.v.length<=1000) (J:lI 8 y) (hk:l.kind=2)
 (E:Hg w0.heap.size NB hh cb step am I) (he:∀args w,(callFunc hh args).run Tryz.prog w=.ok (.enter hh args) w) (p:I s w) (P:JU step am s (mO facts l y)):
 Calls Tryz.prog 246 #[q,sH l vt,fY y, .func (.func hh) #[] cb] w fun e w'=>e=.returned (.bool (iR step s (mO facts l y)).2)/\I (iR step s (mO facts l y)).1 w'/\Kp w0.heap.size NB w w':=by
 have HT:O _:=Q;obtain⟨at_,m,rfl,_⟩:=id Q;obtain⟨kd,r,g,c⟩:=l;dsimp only at *;subst hk;(have af:mO facts ⟨2,r,g,c⟩ y=if mJ facts ⟨g,dO c y.j⟩=true then [] else [y]:=by unfold mO;rfl);generalize aR:mO facts ⟨2,r,g,c⟩ y=X at *;have M:O _:=af;clear af aR;obtain⟨F,h1,hb⟩:=PE w (.cells #[.int .i64 2, .int .i64 r, .int .i64 g, .slice at_ c.length m] 109) (.cells (eY y) 277);have aT:=E.room s w p;have HL:O _:=F;have W:O (mP ((w.alloc (.cells #[.int .i64 2, .int .i64 r, .int .i64 g, .slice at_ c.length m] 109)).alloc (.cells (eY y) 277)) (w.heap.size+1) y):=h1;have S:O _:=E.grow _ _ _ p hb;have HK:O (Kp w0.heap.size NB w ((w.alloc (.cells #[.int .i64 2, .int .i64 r, .int .i64 g, .slice at_ c.length m] 109)).alloc (.cells (eY y) 277))):=Kp.of_below hb aT.1;have a0:=HK.o.z aa;have a9:O _:=fV Q a0;have a7:O _:=bQ hF a0;have a5:O _:=ab;have V:O _:=E;have aq:O _:=J;(have a8:O (kV y.j.length c):=by show kV _ _;rw[J.n];exact ad);(have a6:O (gD ⟨g,dO c y.j⟩):=by show(dO c y.j).length<=_;unfold dO;rw[aY];omega);(have d0:((w.alloc (.cells #[.int .i64 2, .int .i64 r, .int .i64 g, .slice at_ c.length m] 109)).alloc (.cells (eY y) 277)).cell? ⟨w.heap.size,0,none⟩=some (.int .i64 2):=cH F);(have d2:((w.alloc (.cells #[.int .i64 2, .int .i64 r, .int .i64 g, .slice at_ c.length m] 109)).alloc (.cells (eY y) 277)).cell? ⟨w.heap.size,2,none⟩=some (.int .i64 g):=cH F);(have d3:((w.alloc (.cells #[.int .i64 2, .int .i64 r, .int .i64 g, .slice at_ c.length m] 109)).alloc (.cells (eY y) 277)).cell? ⟨w.heap.size,3,none⟩=some (.slice at_ c.length m):=cH F);have ag:=E.room _ _ S.o;clear F h1 hb Q p aa hF ab ad E a0 HT HL
 go_enter Tryz.func246,Tryz.ntmps246
 go_upto_region 5 with fail;generalize (w.alloc (.cells #[.int .i64 2, .int .i64 r, .int .i64 g, .slice at_ c.length m] 109)).alloc (.cells (eY y) 277)=w1 at *;cases C:mJ facts ⟨g,dO c y.j⟩
 ·have R:O _:=C;(have U:O (X=[y]):=by show _=_;rw[M.o,C];rfl);rw[U.o]at P;have ao:O _:=P.1;(have D:O (iR step s X=((step s y).1,(step s y).2)):=by show _=_;rw[U.o,uQ];cases hq:(step s y).2<;>rfl);clear C P M U;refine qF (Tq w.heap.size q (.slice at_ c.length m) g (dO c y.j) y hh cb) 12 dE kR kR kR (aHS w.heap.size q (.slice at_ c.length m) g (dO c y.j) y hh cb) ?hopA ?htailA
  case hopA=>
   refine oC (fun a d h=>by have e0:a.eval (.tmp 0)=(q:Value):=h.old 0;exact iQ q) ?_;refine oC (fun a d h=>by have Y:a.eval (.tmp 5)=(.pointer (some ⟨w.heap.size,0,none⟩):Value):=h.old 5;exact iQ (.pointer (some ⟨w.heap.size,2,none⟩))) ?_;refine oC (fun a d h=>by have au:a.eval (.tmp 24)=(.pointer (some ⟨w.heap.size,2,none⟩):Value):=h.of 24;have c2:=aB h.z d2;exact iQ (.int .i64 g)) ?_;refine oC (fun a d h=>by have Y:a.eval (.tmp 5)=(.pointer (some ⟨w.heap.size,0,none⟩):Value):=h.old 5;exact iQ (.pointer (some ⟨w.heap.size,3,none⟩))) ?_;refine oC (fun a d h=>by have aw:a.eval (.tmp 26)=(.pointer (some ⟨w.heap.size,3,none⟩):Value):=h.of 26;have c3:=aB h.z d3;exact iQ (.slice at_ c.length m)) ?_;refine oC (fun a d h=>by have Z:a.eval (.tmp 6)=(.pointer (some ⟨w.heap.size+1,0,none⟩):Value):=h.old 6;exact iQ (.pointer (some ⟨w.heap.size+1,0,none⟩))) ?_;refine oC (fun a d h=>by have ay:a.eval (.tmp 28)=(.pointer (some ⟨w.heap.size+1,0,none⟩):Value):=h.of 28;exact iQ (.slice (some ⟨w.heap.size+1,0,none⟩) 8 8)) ?_;refine oC (fun a d h=>?_) ?_
   ·have av:a.eval (.tmp 25)=(.int .i64 g:Value):=h.of 25;have ax:a.eval (.tmp 27)=(.slice at_ c.length m:Value):=h.of 27;have az:a.eval (.tmp 29)=(.slice (some ⟨w.heap.size+1,0,none⟩) 8 8:Value):=h.of 29;refine fI (f:=194) (args:=#[.int .i64 g, .slice at_ c.length m, .slice (some ⟨w.heap.size+1,0,none⟩) 8 8]) (bI rfl) ?_ ?_
    ·have ec:=kZ a;have ef:=AO a;generalize a.eval=ev at *;clear h;go_simp
    refine Calls.mono (QQ g c y.j _ _ d (fV a9.o h.z) (mP.ints (mP.z W.o h.z) J) oM a8.o) ?_;rintro _ y2 ⟨v,rfl,hv,x⟩;exact⟨_,rfl,fun t ht=>by cases ht;exact⟨v,rfl,hv.ints⟩,x⟩
   refine oC (fun a d h=>?_) ?_
   ·have ar:a.eval (.tmp 23)=(q:Value):=h.of 23;obtain⟨u,aC,hu⟩:∃u,a.eval (.tmp 30)=.agg #[.int .i64 g,u]/\eT d u (dO c y.j):=h.of 30;refine fI (f:=266) (args:=#[q, .agg #[.int .i64 g,u]]) (bI rfl) ?_ ?_
    ·have ec:=kZ a;have ef:=AO a;generalize a.eval=ev at *;clear h;go_simp
    refine Calls.mono (aS1 facts ⟨g,dO c y.j⟩ _ _ d (bQ a7.o h.z) hu oM a5.o a6.o) ?_;rintro _ y2 ⟨rfl,x⟩;exact⟨_,rfl,fun t ht=>by cases ht;exact congrArg Value.bool R.o,x⟩
   refine oC (fun a d h=>by have aD:a.eval (.tmp 31)=(.bool false:Value):=h.of 31;exact iQ (.bool false)) ?_;refine oC (fun a d h=>by have e3:a.eval (.tmp 3)=(.func (.func hh) #[] cb:Value):=h.old 3;refine dG (v:=.func (.func hh) #[] cb) (w':=d) (wG (h.of 32)) ?_ tR (aG _ _);have ec:=kZ a;generalize a.eval=ev at *;clear h;go_simp) ?_;refine oC (fun a d h=>by have Z:a.eval (.tmp 6)=(.pointer (some ⟨w.heap.size+1,0,none⟩):Value):=h.old 6;refine dG (v:=fY y) (w':=d) (wG (h.of 32)) ?_ tR (aG _ _);exact vK rfl Z (mP.z W.o h.z) J) ?_;exact OI.nil
  case htailA=>
   rintro⟨i,k⟩ d p;have aJ:Act.eval ⟨i,k⟩ (.tmp 33)=.func (.func hh) #[] cb:=p.all 10 _ 33 dE rfl rfl;have aL:Act.eval ⟨i,k⟩ (.tmp 34)=fY y:=p.all 11 _ 34 dE rfl rfl;have N:i.getD 32 undef=.bool false:=p.all 9 _ 32 dE rfl rfl;have aj:i.size=97:=p.size;show wpOps Tryz.prog _ _ [12,13,14] _ _;rw[lH];refine Nc (f:=hh) (args:=#[fY y]++cb) rfl (JK (j:=9) (t:=32) (b:=false) rfl rfl rfl N) ?_ ?_
   ·show Sem.run Tryz.prog (execOp (Act.eval ⟨i,k⟩) _) d=_;generalize Act.eval ⟨i,k⟩=ev at *;clear p;go_simp
   refine Calls.mono (V.o.call s d y (V.o.grow _ _ _ S.o p.z) ao.o aq.o) ?_;rintro eR L ⟨ae,aN,aO⟩;refine⟨_,ae,?_⟩;rw[lH];refine xF (v:=(.bool (step s y).2)) (w':=L) rfl (bI rfl) ?_ ?_
   ·have q1:Act.eval (Act.put ⟨i,k⟩ (some 35) (.bool (step s y).2)) (.tmp 32)=.bool false:=(jM (a:=⟨i,k⟩) (t:=35) (u:=32) dE).trans N;have q2:Act.eval (Act.put ⟨i,k⟩ (some 35) (.bool (step s y).2)) (.tmp 35)=(.bool (step s y).2):=jV (by show 35<i.size;omega);have ec:∀v,Act.eval (Act.put ⟨i,k⟩ (some 35) (.bool (step s y).2)) (.const v)=v:=fun _=>rfl;show Sem.run Tryz.prog (execOp (Act.eval (Act.put ⟨i,k⟩ (some 35) (.bool (step s y).2))) _) L=_;generalize Act.eval (Act.put ⟨i,k⟩ (some 35) (.bool (step s y).2))=ev at *;clear p;go_simp
   rw[lH];refine xF (v:=(.bool (step s y).2)) (w':=L) rfl (bI rfl) ?_ ?_
   ·have q2:Act.eval (Act.put (Act.put ⟨i,k⟩ (some 35) (.bool (step s y).2)) (some 36) (.bool (step s y).2)) (.tmp 36)=(.bool (step s y).2):=jV (by rw[zX];show 36<i.size;omega);show Sem.run Tryz.prog (execOp (Act.eval (Act.put (Act.put ⟨i,k⟩ (some 35) (.bool (step s y).2)) (some 36) (.bool (step s y).2))) _) L=_;generalize Act.eval (Act.put (Act.put ⟨i,k⟩ (some 35) (.bool (step s y).2)) (some 36) (.bool (step s y).2))=ev at *;clear p;go_simp
   (have ak:∀t,t∉[23,24,25,26,27,28,29,30,31,32,33,34,35,36,8]->(((i.setIfInBounds 35 (.bool (step s y).2)).setIfInBounds 36 (.bool (step s y).2)).setIfInBounds 8 (.bool (step s y).2)).getD t undef=_:=fun t ht=>by have hA:t≠35:=fun e=>ht (by rw[e];decide);have hB:t≠36:=fun e=>ht (by rw[e];decide);have hC:t≠8:=fun e=>ht (by rw[e];decide);exact((jM (a:=(Act.put (Act.put ⟨i,k⟩ (some 35) (.bool (step s y).2)) (some 36) (.bool (step s y).2))) hC).trans ((jM (a:=Act.put ⟨i,k⟩ (some 35) (.bool (step s y).2)) hB).trans (jM (a:=⟨i,k⟩) hA))).trans (p.still t ht));have G:(((i.setIfInBounds 35 (.bool (step s y).2)).setIfInBounds 36 (.bool (step s y).2)).setIfInBounds 8 (.bool (step s y).2)).getD 8 undef=(.bool (step s y).2):=jV (a:=(Act.put (Act.put ⟨i,k⟩ (some 35) (.bool (step s y).2)) (some 36) (.bool (step s y).2))) (by rw[zX,zX];show 8<i.size;omega);have a3:Kp w0.heap.size NB _ _:=Kp.of_below p.z ag.1;obtain rfl:k=[]:=p.defers;(have ah:(((i.setIfInBounds 35 (.bool (step s y).2)).setIfInBounds 36 (.bool (step s y).2)).setIfInBounds 8 (.bool (step s y).2)).size=97:=by simp[aj]);clear p aJ aL N aj ae;show Exit.then _ _ Exit.normal ⟨(((i.setIfInBounds 35 (.bool (step s y).2)).setIfInBounds 36 (.bool (step s y).2)).setIfInBounds 8 (.bool (step s y).2)),[]⟩ L;generalize (((i.setIfInBounds 35 (.bool (step s y).2)).setIfInBounds 36 (.bool (step s y).2)).setIfInBounds 8 (.bool (step s y).2))=K at *;obtain⟨fQ,H,a1⟩:=oR [23,24,25,26,27,28,29,30,31,32,33,34,35,36,8] K _ (ah.trans rF) ak;clear ah ak;simp only[List.foldl_cons,List.foldl_nil,(H 8).trans G]at a1;clear G H;simp only[List.setIfInBounds_toArray,List.set_cons_zero,List.set_cons_succ]at a1;subst a1;go_wp2_with fail;go_ret;exact⟨by rw[D.o];rfl,by rw[D.o];exact aN,HK.o.trans (a3.trans aO)⟩
 have R:O _:=C;(have D:O (iR step s X=(s,true)):=by show _=_;rw[M.o,C];rfl);clear C P M;refine kB (Iw w.heap.size q (.slice at_ c.length m) g (dO c y.j)) kR kR (aHT w.heap.size q (.slice at_ c.length m) g (dO c y.j)) ?hopB ?hendB
 case hopB=>
  refine oC (fun a d h=>by have e0:a.eval (.tmp 0)=(q:Value):=h.old 0;exact iQ q) ?_;refine oC (fun a d h=>by have Y:a.eval (.tmp 5)=(.pointer (some ⟨w.heap.size,0,none⟩):Value):=h.old 5;exact iQ (.pointer (some ⟨w.heap.size,2,none⟩))) ?_;refine oC (fun a d h=>by have au:a.eval (.tmp 24)=(.pointer (some ⟨w.heap.size,2,none⟩):Value):=h.of 24;have c2:=aB h.z d2;exact iQ (.int .i64 g)) ?_;refine oC (fun a d h=>by have Y:a.eval (.tmp 5)=(.pointer (some ⟨w.heap.size,0,none⟩):Value):=h.old 5;exact iQ (.pointer (some ⟨w.heap.size,3,none⟩))) ?_;refine oC (fun a d h=>by have aw:a.eval (.tmp 26)=(.pointer (some ⟨w.heap.size,3,none⟩):Value):=h.of 26;have c3:=aB h.z d3;exact iQ (.slice at_ c.length m)) ?_;refine oC (fun a d h=>by have Z:a.eval (.tmp 6)=(.pointer (some ⟨w.heap.size+1,0,none⟩):Value):=h.old 6;exact iQ (.pointer (some ⟨w.heap.size+1,0,none⟩))) ?_;refine oC (fun a d h=>by have ay:a.eval (.tmp 28)=(.pointer (some ⟨w.heap.size+1,0,none⟩):Value):=h.of 28;exact iQ (.slice (some ⟨w.heap.size+1,0,none⟩) 8 8)) ?_;refine oC (fun a d h=>?_) ?_
  ·have av:a.eval (.tmp 25)=(.int .i64 g:Value):=h.of 25;have ax:a.eval (.tmp 27)=(.slice at_ c.length m:Value):=h.of 27;have az:a.eval (.tmp 29)=(.slice (some ⟨w.heap.size+1,0,none⟩) 8 8:Value):=h.of 29;refine fI (f:=194) (args:=#[.int .i64 g, .slice at_ c.length m, .slice (some ⟨w.heap.size+1,0,none⟩) 8 8]) (bI rfl) ?_ ?_
   ·have ec:=kZ a;have ef:=AO a;generalize a.eval=ev at *;clear h;go_simp
   refine Calls.mono (QQ g c y.j _ _ d (fV a9.o h.z) (mP.ints (mP.z W.o h.z) J) oM a8.o) ?_;rintro _ y2 ⟨v,rfl,hv,x⟩;exact⟨_,rfl,fun t ht=>by cases ht;exact⟨v,rfl,hv.ints⟩,x⟩
  refine oC (fun a d h=>?_) ?_
  ·have ar:a.eval (.tmp 23)=(q:Value):=h.of 23;obtain⟨u,aC,hu⟩:∃u,a.eval (.tmp 30)=.agg #[.int .i64 g,u]/\eT d u (dO c y.j):=h.of 30;refine fI (f:=266) (args:=#[q, .agg #[.int .i64 g,u]]) (bI rfl) ?_ ?_
   ·have ec:=kZ a;have ef:=AO a;generalize a.eval=ev at *;clear h;go_simp
   refine Calls.mono (aS1 facts ⟨g,dO c y.j⟩ _ _ d (bQ a7.o h.z) hu oM a5.o a6.o) ?_;rintro _ y2 ⟨rfl,x⟩;exact⟨_,rfl,fun t ht=>by cases ht;exact congrArg Value.bool R.o,x⟩
  refine oC (fun a d h=>by have aD:a.eval (.tmp 31)=(.bool true:Value):=h.of 31;exact iQ (.bool true)) ?_;refine oC (fun a d h=>by exact opS (h.of 32)) ?_;refine oC (fun a d h=>by exact opS (h.of 32)) ?_;refine oC (fun a d h=>by exact opS (h.of 32)) ?_;refine oC (fun a d h=>by have N:a.eval (.tmp 32)=(.bool true:Value):=h.of 32;have b0:a.eval (.tmp 35)=(undef:Value):=h.of 35;exact iQ (.bool true)) ?_;refine oC (fun a d h=>by have b1:a.eval (.tmp 36)=(.bool true:Value):=h.of 36;exact iQ (.bool true)) ?_;exact OI.nil
 case hendB=>rintro⟨K,k⟩ wE a4 aS ai al ac;have G:K.getD 8 undef=.bool true:=tW (T:=Iw w.heap.size q (.slice at_ c.length m) g (dO c y.j)) (w:=wE) (a:=⟨K,k⟩) (t:=8) ac kR;obtain rfl:k=[]:=aS;obtain⟨fQ,H,a2⟩:=oR [23,24,25,26,27,28,29,30,31,32,33,34,35,36,8] K _ ai al;clear ai al ac;simp only[List.foldl_cons,List.foldl_nil,(H 8).trans G]at a2;clear G H;simp only[List.setIfInBounds_toArray,List.set_cons_zero,List.set_cons_succ]at a2;subst a2;have a3:Kp w0.heap.size NB _ _:=Kp.of_below a4 ag.1;have an:O _:=V.o.grow _ _ _ S.o a4;clear a4;go_wp2_with fail;go_ret;exact⟨by rw[D.o];rfl,by rw[D.o];exact an.o,HK.o.trans a3⟩
def bH1(y:cB)(X b off c:Nat)(f:Int)(d e:eE)(hh:Nat)(cb:Array Value):Nat->Value
 |39=>.pointer (some ⟨X,1,none⟩)
 |40=>.int .i64 f
 |41=>fY y
 |42=>.pointer (some ⟨X,3,none⟩)
 |43=>.slice (some ⟨b,off,none⟩) 2 c
 |44=>.pointer (some ⟨b,off,none⟩)
 |45=>jG d
 |46=>.int .i64 (fH y.j d)
 |47=>fY y
 |48=>.pointer (some ⟨X,3,none⟩)
 |49=>.slice (some ⟨b,off,none⟩) 2 c
 |50=>.pointer (some ⟨b,off+2,none⟩)
 |51=>jG e
 |52=>.int .i64 (fH y.j e)
 |53=>.bool true
 |54=>.bool false
 |55=>.bool false
 |56=>.func (.func hh) #[] cb
 |57=>fY y
 |_=>.bool false
def bA3(y:cB)(X b off c:Nat)(f:Int)(d e:eE):Nat->Value
 |39=>.pointer (some ⟨X,1,none⟩)
 |40=>.int .i64 f
 |41=>fY y
 |42=>.pointer (some ⟨X,3,none⟩)
 |43=>.slice (some ⟨b,off,none⟩) 2 c
 |44=>.pointer (some ⟨b,off,none⟩)
 |45=>jG d
 |46=>.int .i64 (fH y.j d)
 |47=>fY y
 |48=>.pointer (some ⟨X,3,none⟩)
 |49=>.slice (some ⟨b,off,none⟩) 2 c
 |50=>.pointer (some ⟨b,off+2,none⟩)
 |51=>jG e
 |52=>.int .i64 (fH y.j e)
 |53=>.bool false
 |54=>.bool true
 |55=>.bool true
 |56=>undef
 |57=>undef
 |58=>undef
 |59=>.bool true
 |8=>.bool true
 |_=>.bool false
theorem aWV{σ:Type}{step:σ->cB->σ×Bool}{aq:σ->cB->Prop}{I:σ->World->Prop}{NB hh:Nat}{cb:Array Value}(facts:List aQ)(l:cX)(y:cB)(vf vt:Value)(w0 w:World)(s:σ)
 (ad:Below w0.heap.size w0 w) (hT:iX w0 vt l.v) (a9:kV 8 l.v) (ag:l.v.length=2) (C:lI 8 y) (hk:l.kind=3)
 (J:Hg w0.heap.size NB hh cb step aq I) (he:∀args w,(callFunc hh args).run Tryz.prog w=.ok (.enter hh args) w) (r:I s w) (a2:JU step aq s (mO facts l y)):
 Calls Tryz.prog 246 #[vf,sH l vt,fY y, .func (.func hh) #[] cb] w fun e w'=>e=.returned (.bool (iR step s (mO facts l y)).2)/\I (iR step s (mO facts l y)).1 w'/\Kp w0.heap.size NB w w':=by
 obtain⟨at_,p,rfl,_,ae⟩:=id hT;obtain⟨kd,g,x,ts⟩:=l;dsimp only at *;subst hk;obtain⟨i,k,rfl⟩:∃i k,ts=[i,k]:=by
  match ts,ag with
  |[a,b],_=>exact⟨a,b,rfl⟩
 (have ai:mO facts ⟨3,g,x,[i,k]⟩ y=if vX g (fH y.j i) (fH y.j k)=true then [y] else []:=by unfold mO;rfl);generalize b7:mO facts ⟨3,g,x,[i,k]⟩ y=LL at *;have a0:O _:=ai;have ab:O (vA 8 i):=a9 i sI;have ac:O (vA 8 k):=a9 k sI;obtain⟨b,d,rfl,hc⟩:=uC ae 0 sI;obtain⟨R,S⟩:=hc 0 sI;obtain⟨U,V⟩:=hc 1 sI;rw[BR,BQ]at R S;rw[Nat.one_mul]at U V;clear ai b7 hc ae hT a9 ag;show Calls Tryz.prog 246 #[vf, .agg #[.int .i64 3, .int .i64 g, .int .i64 x, .slice (some ⟨b,d,none⟩) 2 p],fY y, .func (.func hh) #[] cb] w _;obtain⟨h0,h1,hb⟩:=PE w (.cells #[.int .i64 3, .int .i64 g, .int .i64 x, .slice (some ⟨b,d,none⟩) 2 p] 109) (.cells (eY y) 277);have b9:=J.room s w r;have H:O (mP ((w.alloc (.cells #[.int .i64 3, .int .i64 g, .int .i64 x, .slice (some ⟨b,d,none⟩) 2 p] 109)).alloc (.cells (eY y) 277)) (w.heap.size+1) y):=h1;have HI:O _:=J.grow _ _ _ r hb;have HK:O (Kp w0.heap.size NB w ((w.alloc (.cells #[.int .i64 3, .int .i64 g, .int .i64 x, .slice (some ⟨b,d,none⟩) 2 p] 109)).alloc (.cells (eY y) 277))):=Kp.of_below hb b9.1;have P:=HK.o.z ad;replace R:((w.alloc (.cells #[.int .i64 3, .int .i64 g, .int .i64 x, .slice (some ⟨b,d,none⟩) 2 p] 109)).alloc (.cells (eY y) 277)).cell? ⟨b,d,none⟩=some (.int .i64 i.var):=aB P R;replace S:((w.alloc (.cells #[.int .i64 3, .int .i64 g, .int .i64 x, .slice (some ⟨b,d,none⟩) 2 p] 109)).alloc (.cells (eY y) 277)).cell? ⟨b,d+1,none⟩=some (.int .i64 i.n):=aB P S;replace U:((w.alloc (.cells #[.int .i64 3, .int .i64 g, .int .i64 x, .slice (some ⟨b,d,none⟩) 2 p] 109)).alloc (.cells (eY y) 277)).cell? ⟨b,d+2,none⟩=some (.int .i64 k.var):=aB P U;replace V:((w.alloc (.cells #[.int .i64 3, .int .i64 g, .int .i64 x, .slice (some ⟨b,d,none⟩) 2 p] 109)).alloc (.cells (eY y) 277)).cell? ⟨b,d+2+1,none⟩=some (.int .i64 k.n):=aB P V;have a5:O _:=J;have av:O _:=C;(have d0:((w.alloc (.cells #[.int .i64 3, .int .i64 g, .int .i64 x, .slice (some ⟨b,d,none⟩) 2 p] 109)).alloc (.cells (eY y) 277)).cell? ⟨w.heap.size,0,none⟩=some (.int .i64 3):=cH h0);(have d1:((w.alloc (.cells #[.int .i64 3, .int .i64 g, .int .i64 x, .slice (some ⟨b,d,none⟩) 2 p] 109)).alloc (.cells (eY y) 277)).cell? ⟨w.heap.size,1,none⟩=some (.int .i64 g):=cH h0);(have d3:((w.alloc (.cells #[.int .i64 3, .int .i64 g, .int .i64 x, .slice (some ⟨b,d,none⟩) 2 p] 109)).alloc (.cells (eY y) 277)).cell? ⟨w.heap.size,3,none⟩=some (.slice (some ⟨b,d,none⟩) 2 p):=cH h0);have aj:=J.room _ _ HI.o;clear h0 h1 hb r ad J P
 go_enter Tryz.func246,Tryz.ntmps246
 go_upto_region 7 with fail;generalize ((w.alloc (.cells #[.int .i64 3, .int .i64 g, .int .i64 x, .slice (some ⟨b,d,none⟩) 2 p] 109)).alloc (.cells (eY y) 277))=w1 at *;cases F:vX g (fH y.j i) (fH y.j k)
 ·have a4:O _:=F;(have G:O (iR step s LL=(s,true)):=by show _=_;rw[a0.o,F];rfl);clear F a2 a0;refine kB (fun W Y _=>Y=bA3 y w.heap.size b d p g i k W) kR kR (fun _ _ _ _ _ h=>h) ?hopB ?hendB
  case hopB=>
   refine oC (fun a c h=>by have L:a.eval (.tmp 5)=(.pointer (some ⟨w.heap.size,0,none⟩):Value):=h.old 5;exact iQ (.pointer (some ⟨w.heap.size,1,none⟩))) ?_;refine oC (fun a c h=>by have aw:a.eval (.tmp 39)=(.pointer (some ⟨w.heap.size,1,none⟩):Value):=h.of 39;have K:=aB h.z d1;exact iQ (.int .i64 g)) ?_;refine oC (fun a c h=>by have D:a.eval (.tmp 6)=(.pointer (some ⟨w.heap.size+1,0,none⟩):Value):=h.old 6;refine ZW (v:=fY y) ?_;exact vK rfl D (mP.z H.o h.z) C) ?_;refine oC (fun a c h=>by have L:a.eval (.tmp 5)=(.pointer (some ⟨w.heap.size,0,none⟩):Value):=h.old 5;exact iQ (.pointer (some ⟨w.heap.size,3,none⟩))) ?_;refine oC (fun a c h=>by have az:a.eval (.tmp 42)=(.pointer (some ⟨w.heap.size,3,none⟩):Value):=h.of 42;have c3:=aB h.z d3;exact iQ (.slice (some ⟨b,d,none⟩) 2 p)) ?_;refine oC (fun a c h=>by have aC:a.eval (.tmp 43)=(.slice (some ⟨b,d,none⟩) 2 p:Value):=h.of 43;exact iQ (.pointer (some ⟨b,d,none⟩))) ?_;refine oC (fun a c h=>by have aD:a.eval (.tmp 44)=(.pointer (some ⟨b,d,none⟩):Value):=h.of 44;have c0:=aB h.z R;have K:=aB h.z S;exact iQ (jG i)) ?_;refine oC (fun a c h=>?_) ?_
   ·have ay:a.eval (.tmp 41)=(fY y:Value):=h.of 41;have aJ:a.eval (.tmp 45)=(jG i:Value):=h.of 45;refine fI (f:=268) (args:=#[fY y,jG i]) (bI rfl) ?_ ?_
    ·have ec:=kZ a;have M:=AO a;generalize a.eval=ev at *;clear h;go_simp
    refine Calls.mono (BK y i c C ab.o) ?_;rintro _ y2 ⟨rfl,E⟩;exact⟨_,rfl,fun t ht=>by cases ht;exact rfl,E⟩
   refine oC (fun a c h=>by have D:a.eval (.tmp 6)=(.pointer (some ⟨w.heap.size+1,0,none⟩):Value):=h.old 6;refine ZW (v:=fY y) ?_;exact vK rfl D (mP.z H.o h.z) C) ?_;refine oC (fun a c h=>by have L:a.eval (.tmp 5)=(.pointer (some ⟨w.heap.size,0,none⟩):Value):=h.old 5;exact iQ (.pointer (some ⟨w.heap.size,3,none⟩))) ?_;refine oC (fun a c h=>by have aO:a.eval (.tmp 48)=(.pointer (some ⟨w.heap.size,3,none⟩):Value):=h.of 48;have c3:=aB h.z d3;exact iQ (.slice (some ⟨b,d,none⟩) 2 p)) ?_;refine oC (fun a c h=>by have aR:a.eval (.tmp 49)=(.slice (some ⟨b,d,none⟩) 2 p:Value):=h.of 49;exact iQ (.pointer (some ⟨b,d+2,none⟩))) ?_;refine oC (fun a c h=>by have aS:a.eval (.tmp 50)=(.pointer (some ⟨b,d+2,none⟩):Value):=h.of 50;have c0:=aB h.z U;have K:=aB h.z V;exact iQ (jG k)) ?_;refine oC (fun a c h=>?_) ?_
   ·have aN:a.eval (.tmp 47)=(fY y:Value):=h.of 47;have aT:a.eval (.tmp 51)=(jG k:Value):=h.of 51;refine fI (f:=268) (args:=#[fY y,jG k]) (bI rfl) ?_ ?_
    ·have ec:=kZ a;have M:=AO a;generalize a.eval=ev at *;clear h;go_simp
    refine Calls.mono (BK y k c C ac.o) ?_;rintro _ y2 ⟨rfl,E⟩;exact⟨_,rfl,fun t ht=>by cases ht;exact rfl,E⟩
   refine oC (fun a c h=>?_) ?_
   ·have ax:a.eval (.tmp 40)=(.int .i64 g:Value):=h.of 40;have aL:a.eval (.tmp 46)=(.int .i64 (fH y.j i):Value):=h.of 46;have b0:a.eval (.tmp 52)=(.int .i64 (fH y.j k):Value):=h.of 52;refine fI (f:=267) (args:=#[.int .i64 g, .int .i64 (fH y.j i), .int .i64 (fH y.j k)]) (bI rfl) ?_ ?_
    ·have ec:=kZ a;have M:=AO a;generalize a.eval=ev at *;clear h;go_simp
    refine Calls.mono (aMC g (fH y.j i) (fH y.j k) c) ?_;rintro _ y2 ⟨rfl,rfl⟩;exact⟨_,rfl,fun t ht=>by cases ht;exact congrArg Value.bool a4.o,aG _ _⟩
   refine oC (fun a c h=>by have b1:a.eval (.tmp 53)=(.bool false:Value):=h.of 53;exact iQ (.bool true)) ?_;refine oC (fun a c h=>by have b2:a.eval (.tmp 54)=(.bool true:Value):=h.of 54;exact iQ (.bool true)) ?_;refine oC (fun a c h=>by exact opS (h.of 55)) ?_;refine oC (fun a c h=>by exact opS (h.of 55)) ?_;refine oC (fun a c h=>by exact opS (h.of 55)) ?_;refine oC (fun a c h=>by have a1:a.eval (.tmp 55)=(.bool true:Value):=h.of 55;have ba:a.eval (.tmp 58)=(undef:Value):=h.of 58;exact iQ (.bool true)) ?_;refine oC (fun a c h=>by have bb:a.eval (.tmp 59)=(.bool true:Value):=h.of 59;exact iQ (.bool true)) ?_;exact OI.nil
  case hendB=>rintro⟨X,q⟩ wE aa b8 al ao af;have N:X.getD 8 undef=.bool true:=tW (T:=fun W Y _=>Y=bA3 y w.heap.size b d p g i k W) (w:=wE) (a:=⟨X,q⟩) (t:=8) af kR;obtain rfl:q=[]:=b8;obtain⟨fQ,Q,a7⟩:=oR [39,40,41,42,43,44,45,46,47,48,49,50,51,52,53,54,55,56,57,58,59,8] X _ al ao;clear al ao af;simp only[List.foldl_cons,List.foldl_nil,(Q 8).trans N]at a7;clear N Q;simp only[List.setIfInBounds_toArray,List.set_cons_zero,List.set_cons_succ]at a7;subst a7;have a8:Kp w0.heap.size NB _ _:=Kp.of_below aa aj.1;have ar:O _:=a5.o.grow _ _ _ HI.o aa;clear aa;go_wp2_with fail;go_ret;exact⟨by rw[G.o];rfl,by rw[G.o];exact ar.o,HK.o.trans a8⟩
 have a4:O _:=F;(have a3:O (LL=[y]):=by show _=_;rw[a0.o,F];rfl);rw[a3.o]at a2;have au:O _:=a2.1;(have G:O (iR step s LL=((step s y).1,(step s y).2)):=by show _=_;rw[a3.o,uQ];cases hq:(step s y).2<;>rfl);clear F a2 a0 a3;refine qF (fun W Y _=>Y=bH1 y w.heap.size b d p g i k hh cb W) 19 dE kR kR kR (fun _ _ _ _ _ h=>h) ?hopA ?htailA
 case hopA=>
  refine oC (fun a c h=>by have L:a.eval (.tmp 5)=(.pointer (some ⟨w.heap.size,0,none⟩):Value):=h.old 5;exact iQ (.pointer (some ⟨w.heap.size,1,none⟩))) ?_;refine oC (fun a c h=>by have aw:a.eval (.tmp 39)=(.pointer (some ⟨w.heap.size,1,none⟩):Value):=h.of 39;have K:=aB h.z d1;exact iQ (.int .i64 g)) ?_;refine oC (fun a c h=>by have D:a.eval (.tmp 6)=(.pointer (some ⟨w.heap.size+1,0,none⟩):Value):=h.old 6;refine ZW (v:=fY y) ?_;exact vK rfl D (mP.z H.o h.z) C) ?_;refine oC (fun a c h=>by have L:a.eval (.tmp 5)=(.pointer (some ⟨w.heap.size,0,none⟩):Value):=h.old 5;exact iQ (.pointer (some ⟨w.heap.size,3,none⟩))) ?_;refine oC (fun a c h=>by have az:a.eval (.tmp 42)=(.pointer (some ⟨w.heap.size,3,none⟩):Value):=h.of 42;have c3:=aB h.z d3;exact iQ (.slice (some ⟨b,d,none⟩) 2 p)) ?_;refine oC (fun a c h=>by have aC:a.eval (.tmp 43)=(.slice (some ⟨b,d,none⟩) 2 p:Value):=h.of 43;exact iQ (.pointer (some ⟨b,d,none⟩))) ?_;refine oC (fun a c h=>by have aD:a.eval (.tmp 44)=(.pointer (some ⟨b,d,none⟩):Value):=h.of 44;have c0:=aB h.z R;have K:=aB h.z S;exact iQ (jG i)) ?_;refine oC (fun a c h=>?_) ?_
  ·have ay:a.eval (.tmp 41)=(fY y:Value):=h.of 41;have aJ:a.eval (.tmp 45)=(jG i:Value):=h.of 45;refine fI (f:=268) (args:=#[fY y,jG i]) (bI rfl) ?_ ?_
   ·have ec:=kZ a;have M:=AO a;generalize a.eval=ev at *;clear h;go_simp
   refine Calls.mono (BK y i c C ab.o) ?_;rintro _ y2 ⟨rfl,E⟩;exact⟨_,rfl,fun t ht=>by cases ht;exact rfl,E⟩
  refine oC (fun a c h=>by have D:a.eval (.tmp 6)=(.pointer (some ⟨w.heap.size+1,0,none⟩):Value):=h.old 6;refine ZW (v:=fY y) ?_;exact vK rfl D (mP.z H.o h.z) C) ?_;refine oC (fun a c h=>by have L:a.eval (.tmp 5)=(.pointer (some ⟨w.heap.size,0,none⟩):Value):=h.old 5;exact iQ (.pointer (some ⟨w.heap.size,3,none⟩))) ?_;refine oC (fun a c h=>by have aO:a.eval (.tmp 48)=(.pointer (some ⟨w.heap.size,3,none⟩):Value):=h.of 48;have c3:=aB h.z d3;exact iQ (.slice (some ⟨b,d,none⟩) 2 p)) ?_;refine oC (fun a c h=>by have aR:a.eval (.tmp 49)=(.slice (some ⟨b,d,none⟩) 2 p:Value):=h.of 49;exact iQ (.pointer (some ⟨b,d+2,none⟩))) ?_;refine oC (fun a c h=>by have aS:a.eval (.tmp 50)=(.pointer (some ⟨b,d+2,none⟩):Value):=h.of 50;have c0:=aB h.z U;have K:=aB h.z V;exact iQ (jG k)) ?_;refine oC (fun a c h=>?_) ?_
  ·have aN:a.eval (.tmp 47)=(fY y:Value):=h.of 47;have aT:a.eval (.tmp 51)=(jG k:Value):=h.of 51;refine fI (f:=268) (args:=#[fY y,jG k]) (bI rfl) ?_ ?_
   ·have ec:=kZ a;have M:=AO a;generalize a.eval=ev at *;clear h;go_simp
   refine Calls.mono (BK y k c C ac.o) ?_;rintro _ y2 ⟨rfl,E⟩;exact⟨_,rfl,fun t ht=>by cases ht;exact rfl,E⟩
  refine oC (fun a c h=>?_) ?_
  ·have ax:a.eval (.tmp 40)=(.int .i64 g:Value):=h.of 40;have aL:a.eval (.tmp 46)=(.int .i64 (fH y.j i):Value):=h.of 46;have b0:a.eval (.tmp 52)=(.int .i64 (fH y.j k):Value):=h.of 52;refine fI (f:=267) (args:=#[.int .i64 g, .int .i64 (fH y.j i), .int .i64 (fH y.j k)]) (bI rfl) ?_ ?_
   ·have ec:=kZ a;have M:=AO a;generalize a.eval=ev at *;clear h;go_simp
   refine Calls.mono (aMC g (fH y.j i) (fH y.j k) c) ?_;rintro _ y2 ⟨rfl,rfl⟩;exact⟨_,rfl,fun t ht=>by cases ht;exact congrArg Value.bool a4.o,aG _ _⟩
  refine oC (fun a c h=>by have b1:a.eval (.tmp 53)=(.bool true:Value):=h.of 53;exact iQ (.bool false)) ?_;refine oC (fun a c h=>by have b2:a.eval (.tmp 54)=(.bool false:Value):=h.of 54;exact iQ (.bool false)) ?_;refine oC (fun a c h=>by have e3:a.eval (.tmp 3)=(.func (.func hh) #[] cb:Value):=h.old 3;refine dG (v:=.func (.func hh) #[] cb) (w':=c) (wG (h.of 55)) ?_ tR (aG _ _);have ec:=kZ a;generalize a.eval=ev at *;clear h;go_simp) ?_;refine oC (fun a c h=>by have D:a.eval (.tmp 6)=(.pointer (some ⟨w.heap.size+1,0,none⟩):Value):=h.old 6;refine dG (v:=fY y) (w':=c) (wG (h.of 55)) ?_ tR (aG _ _);exact vK rfl D (mP.z H.o h.z) C) ?_;exact OI.nil
 case htailA=>
  rintro⟨m,q⟩ c r;have b3:Act.eval ⟨m,q⟩ (.tmp 56)=.func (.func hh) #[] cb:=r.all 17 _ 56 dE rfl rfl;have b4:Act.eval ⟨m,q⟩ (.tmp 57)=fY y:=r.all 18 _ 57 dE rfl rfl;have a1:m.getD 55 undef=.bool false:=r.all 16 _ 55 dE rfl rfl;have am:m.size=97:=r.size;show wpOps Tryz.prog _ _ [19,20,21] _ _;rw[lH];refine Nc (f:=hh) (args:=#[fY y]++cb) rfl (JK (j:=16) (t:=55) (b:=false) rfl rfl rfl a1) ?_ ?_
  ·show Sem.run Tryz.prog (execOp (Act.eval ⟨m,q⟩) _) c=_;generalize Act.eval ⟨m,q⟩=ev at *;clear r;go_simp
  refine Calls.mono (a5.o.call s c y (a5.o.grow _ _ _ HI.o r.z) au.o av.o) ?_;rintro eR Z ⟨ah,b5,b6⟩;refine⟨_,ah,?_⟩;rw[lH];refine xF (v:=(.bool (step s y).2)) (w':=Z) rfl (bI rfl) ?_ ?_
  ·have q1:Act.eval (Act.put ⟨m,q⟩ (some 58) (.bool (step s y).2)) (.tmp 55)=.bool false:=(jM (a:=⟨m,q⟩) (t:=58) (u:=55) dE).trans a1;have q2:Act.eval (Act.put ⟨m,q⟩ (some 58) (.bool (step s y).2)) (.tmp 58)=(.bool (step s y).2):=jV (by show 58<m.size;omega);have ec:∀v,Act.eval (Act.put ⟨m,q⟩ (some 58) (.bool (step s y).2)) (.const v)=v:=fun _=>rfl;show Sem.run Tryz.prog (execOp (Act.eval (Act.put ⟨m,q⟩ (some 58) (.bool (step s y).2))) _) Z=_;generalize Act.eval (Act.put ⟨m,q⟩ (some 58) (.bool (step s y).2))=ev at *;clear r;go_simp
  rw[lH];refine xF (v:=(.bool (step s y).2)) (w':=Z) rfl (bI rfl) ?_ ?_
  ·have q2:Act.eval (Act.put (Act.put ⟨m,q⟩ (some 58) (.bool (step s y).2)) (some 59) (.bool (step s y).2)) (.tmp 59)=(.bool (step s y).2):=jV (by rw[zX];show 59<m.size;omega);show Sem.run Tryz.prog (execOp (Act.eval (Act.put (Act.put ⟨m,q⟩ (some 58) (.bool (step s y).2)) (some 59) (.bool (step s y).2))) _) Z=_;generalize Act.eval (Act.put (Act.put ⟨m,q⟩ (some 58) (.bool (step s y).2)) (some 59) (.bool (step s y).2))=ev at *;clear r;go_simp
  (have an:∀t,t∉[39,40,41,42,43,44,45,46,47,48,49,50,51,52,53,54,55,56,57,58,59,8]->(((m.setIfInBounds 58 (.bool (step s y).2)).setIfInBounds 59 (.bool (step s y).2)).setIfInBounds 8 (.bool (step s y).2)).getD t undef=_:=fun t ht=>by have hA:t≠58:=fun e=>ht (by rw[e];decide);have hB:t≠59:=fun e=>ht (by rw[e];decide);have hC:t≠8:=fun e=>ht (by rw[e];decide);exact((jM (a:=(Act.put (Act.put ⟨m,q⟩ (some 58) (.bool (step s y).2)) (some 59) (.bool (step s y).2))) hC).trans ((jM (a:=Act.put ⟨m,q⟩ (some 58) (.bool (step s y).2)) hB).trans (jM (a:=⟨m,q⟩) hA))).trans (r.still t ht));have N:(((m.setIfInBounds 58 (.bool (step s y).2)).setIfInBounds 59 (.bool (step s y).2)).setIfInBounds 8 (.bool (step s y).2)).getD 8 undef=(.bool (step s y).2):=jV (a:=(Act.put (Act.put ⟨m,q⟩ (some 58) (.bool (step s y).2)) (some 59) (.bool (step s y).2))) (by rw[zX,zX];show 8<m.size;omega);have a8:Kp w0.heap.size NB _ _:=Kp.of_below r.z aj.1;obtain rfl:q=[]:=r.defers;(have ak:(((m.setIfInBounds 58 (.bool (step s y).2)).setIfInBounds 59 (.bool (step s y).2)).setIfInBounds 8 (.bool (step s y).2)).size=97:=by simp[am]);clear r b3 b4 a1 am ah;show Exit.then _ _ Exit.normal ⟨(((m.setIfInBounds 58 (.bool (step s y).2)).setIfInBounds 59 (.bool (step s y).2)).setIfInBounds 8 (.bool (step s y).2)),[]⟩ Z;generalize (((m.setIfInBounds 58 (.bool (step s y).2)).setIfInBounds 59 (.bool (step s y).2)).setIfInBounds 8 (.bool (step s y).2))=X at *;obtain⟨fQ,Q,a6⟩:=oR [39,40,41,42,43,44,45,46,47,48,49,50,51,52,53,54,55,56,57,58,59,8] X _ (ak.trans rF) an;clear ak an;simp only[List.foldl_cons,List.foldl_nil,(Q 8).trans N]at a6;clear N Q;simp only[List.setIfInBounds_toArray,List.set_cons_zero,List.set_cons_succ]at a6;subst a6;go_wp2_with fail;go_ret;exact⟨by rw[G.o];rfl,by rw[G.o];exact b5,HK.o.trans (a8.trans b6)⟩
def MO(b:Array Oper)(S i:Nat):Bool:=((b[S]?).map fun o=>o.after.toList.any fun e=>Region.binds .any e&&e.on==i).getD false
structure aZN (R:World->World->Prop) (ops:Array Oper) (T:Nat->Value->World->Prop) (a0:Act) (w0:World) (o:Oper) (a:Act) (w:World):Prop where
 z:R w0 w
 still:∀t,t∉ops.toList.filterMap (·.dst)->a.tmps.getD t undef=a0.tmps.getD t undef
 has:∀e,e∈o.after->Region.binds .any e=true->∀(o':Oper)(t:Nat),ops[e.on]?=some o'->o'.dst=some t->T t (a.tmps.getD t undef) w
 size:a.tmps.size=a0.tmps.size
def aS5(P:Program)(R:World->World->Prop)(c:Array Oper)(Q:Exit->Act->World->Prop)(T:Nat->Value->World->Prop)(S:Nat)(D:Act->World->Prop)(i:Nat)(o:Oper)(a:Act)(w:World):Prop:=
 Region.wanted o (yielded c a.tmps)=true/\o.wp P a w (fun d b=>∃v,d=a.put o.dst v/\(∀t,o.dst=some t->T t v b)/\R w b/\(i=S->D (a.put o.dst v) b)/\(MO c S i=false->¬i=S->D a w->D (a.put o.dst v) b)) Q
section
variable {P:Program} {ops:Array Oper} {Q:Exit->Act->World->Prop} {R:World->World->Prop} {T:Nat->Value->World->Prop} {a0:Act} {w0:World} {o:Oper} {a:Act} {w:World} {S i:Nat} {D:Act->World->Prop}
theorem aZN.of(h:aZN R ops T a0 w0 o a w)(t:Nat)(b:Jp ops o t=true:=by kernel_rfl):T t (a.tmps.getD t undef) w:=by
 unfold Jp at b;rw[jW]at b;obtain⟨e,d,b⟩:=b;rw[eI]at b
 cases c:ops[e.on]? with
 |none=>rw[c]at b;simp at b
 |some f=>
  rw[c]at b;exact h.has e (by simpa using d) b.1 f t c (by simpa using b.2)
theorem aZN.old(h:aZN R ops T a0 w0 o a w)(t:Nat)(b:ZZ ops t=true:=by kernel_rfl):a.tmps.getD t undef=a0.tmps.getD t undef:=by refine h.still t ?_;unfold ZZ at b;simpa[List.contains_iff_mem]using b
theorem yX{v:Value}{w':World}(f:Region.wanted o (yielded ops a.tmps)=true)(hr:(execOp a.eval o).run P w=.ok (.value v) w')(d:∀t,o.dst=some t->T t v w')(e:R w w')(c:i=S->D (a.put o.dst v) w')(b:MO ops S i=false->¬i=S->D a w->D (a.put o.dst v) w'):aS5 P R ops Q T S D i o a w:=by refine⟨f,?_⟩;unfold Oper.wp;rw[hr,Oper.upon_value];exact⟨v,rfl,d,e,c,b⟩
theorem aRQ{w':World}(k:Region.wanted o (yielded ops a.tmps)=true)(hr:(execOp a.eval o).run P w=.ok .skip w')(b:o.dst=none)(j:R w w')(g:i=S->D a w')(f:MO ops S i=false->¬i=S->D a w->D a w'):aS5 P R ops Q T S D i o a w:=by
 refine⟨k,?_⟩;unfold Oper.wp;rw[hr,Oper.upon_skip];refine⟨undef,rfl,fun t ht=>(by rw[b]at ht;cases ht),j,fun h=>?_,fun c d e=>?_⟩
 ·rw[b];exact g h
 rw[b];exact f c d e
theorem aRP{f:FuncId}{args:Array Value}(d:Region.wanted o (yielded ops a.tmps)=true)(hr:(execOp a.eval o).run P w=.ok (.enter f args) w)
 (c:Calls P f args w fun e b=>∃v,e=.returned v/\(∀t,o.dst=some t->T t v b)/\R w b/\(i=S->D (a.put o.dst v) b)/\(MO ops S i=false->¬i=S->D a w->D (a.put o.dst v) b)):aS5 P R ops Q T S D i o a w:=by
 refine⟨d,?_⟩;unfold Oper.wp;rw[hr,Oper.upon_enter];refine Calls.mono c ?_;rintro e b ⟨v,rfl,h⟩;exact⟨v,rfl,h⟩
def AM(Φ:Nat->Oper->Prop):Nat->List Oper->Prop
 |_,[]=>True
 |i,o::l=>Φ i o/\AM Φ (i+1) l
theorem AM.cons{Φ:Nat->Oper->Prop}{i:Nat}{o:Oper}{l:List Oper}(h:Φ i o)(b:AM Φ (i+1) l):AM Φ i (o::l):=⟨h,b⟩
theorem AM.nil{Φ:Nat->Oper->Prop}{i:Nat}:AM Φ i []:=trivial
theorem AM.get{Φ:Nat->Oper->Prop}:∀(l:List Oper)(i:Nat),AM Φ i l->∀j o,l[j]?=some o->Φ (i+j) o
 |[],_,_,j,o,h=>by simp at h
 |x::l,i,hA,j,o,h=>by
  cases j with
  |zero=>simp only[List.getElem?_cons_zero,Option.some.injEq]at h;subst h;exact hA.1
  |succ j=>
   simp only[List.getElem?_cons_succ]at h;have :=AM.get l (i+1) hA.2 j o h;rw[show i+(j+1)=i+1+j by omega];exact this
theorem aAY(R:World->World->Prop)(X:∀a b c,R a b->R b c->R a c)(W:∀w,R w {w with drawn:=w.drawn+1})(T:Nat->Value->World->Prop)(S:Nat)(D:Act->World->Prop)(Y:S<ops.size){id:Nat}{f:Act}{w0:World}(hm:P.follows .mixedOrders=true)
 (K:xX ops f.tmps.size=true)
 (a2:∀t v w x,R w x->T t v w->T t v x)
 (hopA:AM (fun i o=>∀a w,aZN R ops T f w0 o a w->aS5 P R ops Q T S D i o a w) 0 ops.toList)
 (hend:∀a w,R w0 w->D a w->a.defers=f.defers->a.tmps.size=f.tmps.size->(∀t,t∉ops.toList.filterMap (·.dst)->a.tmps.getD t undef=f.tmps.getD t undef)->(∀t,t∈ops.toList.filterMap (·.dst)->T t (a.tmps.getD t undef) w)->Q .normal a w):
 (Code.region id ops true).wp P Q f w0:=by
 have L:∀i j,SJ ops (fun _=>true) (fun _ _=>true) i j=false:=fun i j=>by
  unfold SJ
  cases g:ops[j]? with
  |none=>simp
  |some o=>cases l:o.dst<;>simp[l]
 refine MP (fun s a w=>IC R (fun _ _=>True) ops (fun _=>true) (fun _ _=>true) T f w0 s a w/\(s[S]?=some true->D a w/\∀i,MO ops S i=true->s[i]?=some true)) ops.size (aH _) (fun h=>absurd h (Nat.lt_irrefl _)) hm K ?_ ?_ ⟨IC.start (W w0),fun h=>by rw[KU]at h;split at h<;>simp at h⟩
 ·rintro s a w i o hs hC ⟨d,E⟩ a4 r g J;have M:=AM.get ops.toList 0 hopA i o (by rw[fZ];exact g);rw[eP]at M;obtain⟨hw,h⟩:=M a w ⟨d.z,d.still,fun e F p o' t a3 l=>d.done e.on o' t (J e F p) a3 l (fun k n=>by rw[L]at n;cases n),d.size⟩;refine XK g hw (Oper.wp_mono ?_ h);rintro a' x ⟨v,rfl,hv,p,Z,V⟩;refine⟨d.set X K r g hv p (fun _ h=>h) (fun _=>trivial) (fun h=>absurd rfl h) (fun _ _ t _ _ _ _ u hu=>a2 t u w x p hu),fun H=>?_⟩;by_cases q:i=S
  ·refine⟨Z q,fun j m=>Mp r ?_⟩;subst q;unfold MO at m;rw[g,nU,qA,jW]at m;obtain⟨e,F,C⟩:=m;rw[eI]at C;have :=J e (by simpa using F) C.1;rw[(by simpa using C.2:e.on=j)]at this;exact this
  rw[SO (Ne.symm q)]at H;obtain⟨U,I⟩:=E H;refine⟨?_,fun j m=>Mp r (I j m)⟩
  cases N:MO ops S i with
  |true=>
   have :=I i N;rw[r]at this;cases this
  |false=>exact V N q U
 rintro s a w l ⟨d,E⟩;rw[EH];refine hend a w d.z (E (l S Y)).1 d.defers d.size d.still (fun t ht=>?_);obtain⟨o,g,a1⟩:=lW.mp ht;obtain⟨i,G⟩:=FW.mp g;rw[fZ]at G;exact d.done i o t (l i (aK.mp G).1) G a1 (fun k n=>by rw[L]at n;cases n)
end
structure Rq (n:Nat) (w w':World):Prop where
 os:w'.os=w.os
 tape:w'.tape=w.tape
 output:w'.output=w.output
 size:w.heap.size<=w'.heap.size
 low:∀k,k<n->w'.heap[k]?=w.heap[k]?
 keep:∀(k:Nat)(c:Array Value)(t:TypeId),w.heap[k]?=some (.cells c t)->t≠277->w'.heap[k]?=some (.cells c t)
 way:∀(k:Nat)(y:cB),mP w k y->lI 8 y->∃y',lI 8 y'/\mP w' k y'
theorem Rq.refl(n:Nat)(w:World):Rq n w w:=⟨rfl,rfl,rfl,aH _,fun _ _=>rfl,fun _ _ _ h _=>h,fun _ y h b=>⟨y,b,h⟩⟩
theorem Rq.trans{n:Nat}{a b c:World}(h:Rq n a b)(k:Rq n b c):Rq n a c:=
 ⟨k.os.trans h.os,k.tape.trans h.tape,k.output.trans h.output,bP h.size k.size,fun j d=>(k.low j d).trans (h.low j d),fun j o t d ht=>k.keep j o t (h.keep j o t d ht) ht,fun j y d g=>by
  obtain⟨i,e,f⟩:=h.way j y d g
  exact k.way j i f e⟩
theorem Rq.of_below{n:Nat}{w w':World}(h:Below w.heap.size w w')(c:n<=w.heap.size):Rq n w w':=
 ⟨h.os,h.tape,h.output,h.size,fun k b=>h.block k (dS b c),fun k _ _ b _=>(h.block k (cV b)).trans b,fun _ y b d=>⟨y,d,b.z h⟩⟩
theorem Rq.to_below{n:Nat}{w w':World}(h:Rq n w w'){m:Nat}(c:m<=n):Below m w w':=⟨h.os,h.tape,h.output,h.size,fun k b=>h.low k (dS b c)⟩
theorem Rq.store{n:Nat}{w:World}{b:Nat}{y z:cB}(h:mP w b y)(j:n<=b)(g:lI 8 z):Rq n w (w.setRow b (eY z)):=by
 refine⟨rfl,rfl,rfl,by simp,fun k d=>PF oM,fun k c t d ht=>?_,fun k i d f=>?_⟩
 ·by_cases e:k=b
  ·subst e;rw[h]at d;injection d with d;injection d with _ d;exact absurd d.symm ht
  exact(PF e).trans d
 by_cases e:k=b
 ·subst e;exact⟨z,g,Tv h⟩
 exact⟨i,f,(PF e).trans d⟩
theorem aX0{a:Act}{o:Oper}{x u:Operand}{w:World}{b:Nat}{y z:cB}(e:o.op=.store 277 x u)(i:a.eval x=.pointer (some ⟨b,0,none⟩))(g:a.eval u=fY z)(d:mP w b y)(j:lI 8 y)(c:lI 8 z):(execOp a.eval o).run Tryz.prog w=.ok .skip (w.setRow b (eY z)):=by have f:=Tb (P:=Tryz.prog) w b 277 277 (eY y) (eY z) d (by rw[tM c];exact QE) (by rw[tM j,tM c]) (Dj z);unfold execOp;simp only[e,i,g,Instr.storeAt,Instr.sureAddr,Sem.run_bind,Sem.run_pure,Result.andThen_ok,f]
theorem bBO{w:World}{b:Nat}{m:Int}(h:w.heap[b]?=some (.cells #[.int .i64 m] 3)):eT w (.slice (some ⟨b,0,none⟩) 1 1) [m]:=by refine⟨_,_,rfl, .inr ⟨b,0,rfl,fun i c=>?_⟩⟩;(obtain rfl:i=0:=by simpa using c);rw[cM h];rfl
def aTN(y:cB)(X b off f:Nat)(e:Int)(c d:eE):Nat->Value
 |60=>.pointer (some ⟨X,1,none⟩)
 |61=>.int .i64 e
 |62=>fY y
 |63=>.pointer (some ⟨X,3,none⟩)
 |64=>.slice (some ⟨b,off,none⟩) 3 f
 |65=>.pointer (some ⟨b,off,none⟩)
 |66=>jG c
 |67=>.int .i64 (fH y.j c)
 |68=>fY y
 |69=>.pointer (some ⟨X,3,none⟩)
 |70=>.slice (some ⟨b,off,none⟩) 3 f
 |71=>.pointer (some ⟨b,off+2,none⟩)
 |72=>jG d
 |73=>.int .i64 (fH y.j d)
 |74=>.int .i64 (pV e (fH y.j c) (fH y.j d))
 |9=>.int .i64 (pV e (fH y.j c) (fH y.j d))
 |_=>.bool false
def bH2(y z:cB)(X b off d:Nat)(m:Int)(ok:Bool)(e:Nat)(c:Value):Prop:=
 match e with
 |76=>c=(fY y:Value)
 |77=>c=(.pointer (some ⟨X,3,none⟩):Value)
 |78=>c=(.slice (some ⟨b,off,none⟩) 3 d:Value)
 |79=>c=(.slice (some ⟨b,off+4,none⟩) 1 (d-2):Value)
 |80=>c=(.int .i64 m:Value)
 |82=>c=(.tuple #[fY z, .bool ok]:Value)
 |75=>c=(.tuple #[fY z, .bool ok]:Value)
 |83=>c=(fY z:Value)
 |84=>c=(.bool ok:Value)
 |11=>c=(.bool ok:Value)
 |_=>True
def Zh(y z:cB)(X b off i n:Nat)(m:Int)(ok:Bool)(d:Nat)(e:Value)(f:World):Prop:=
 if d=81 then∃c,e=.slice (some ⟨c,0,none⟩) 1 1/\f.heap[c]?=some (.cells #[.int .i64 m] 3)
 else if d=10 then∃c,e=.pointer (some ⟨c,0,none⟩)/\n<=c/\∃g,lI 8 g/\mP f c g else bH2 y z X b off i m ok d e
theorem aL0(y z:cB)(X b off i n:Nat)(m:Int)(ok:Bool)(c:Nat)(l:Value)(W g:World)(j:Rq n W g)(h:Zh y z X b off i n m ok c l W):Zh y z X b off i n m ok c l g:=by
 unfold Zh at h ⊢;by_cases ht:c=81
 ·rw[if_pos ht]at h ⊢;obtain⟨d,e,f⟩:=h;exact⟨d,e,j.keep _ _ _ f dE⟩
 rw[if_neg ht]at h ⊢;by_cases k:c=10
 ·rw[if_pos k]at h ⊢;obtain⟨d,e,f,w,p,q⟩:=h;obtain⟨u,r,s⟩:=j.way _ _ q p;exact⟨d,e,f,u,r,s⟩
 rw[if_neg k]at h ⊢;exact h
def aQ1(z:cB)(n:Nat)(a:Act)(w:World):Prop:=∃b,n<=b/\a.tmps.getD 10 undef=.pointer (some ⟨b,0,none⟩)/\mP w b z
theorem Zg{z:cB}{n:Nat}{a:Act}{w:World}{d:Nat}{v:Value}(g:(10:Nat)≠d)(h:aQ1 z n a w):aQ1 z n (a.put (some d) v) w:=by obtain⟨b,c,e,f⟩:=h;exact⟨b,c,(jM g).trans e,f⟩
theorem aWW{σ:Type}{step:σ->cB->σ×Bool}{aJ:σ->cB->Prop}{I:σ->World->Prop}{NB hh:Nat}{cb:Array Value}(facts:List aQ)(l:cX)(y:cB)(vf vt:Value)(w0 w:World)(s:σ)
 (al:Below w0.heap.size w0 w) (hT:iX w0 vt l.v) (a5:kV 8 l.v) (ar:l.v.length=3) (N:lI 8 y) (hk:l.kind=4) (am:dJ (fH y.j (cQ l.v 0))=true) (an:dJ (fH y.j (cQ l.v 1))=true)
 (R:Hg w0.heap.size NB hh cb step aJ I) (he:∀args w,(callFunc hh args).run Tryz.prog w=.ok (.enter hh args) w) (hI:I s w) (aa:JU step aJ s (mO facts l y)):
 Calls Tryz.prog 246 #[vf,sH l vt,fY y, .func (.func hh) #[] cb] w fun e w'=>e=.returned (.bool (iR step s (mO facts l y)).2)/\I (iR step s (mO facts l y)).1 w'/\Kp w0.heap.size NB w w':=by
 obtain⟨at_,p,rfl,av,aq⟩:=id hT;obtain⟨kd,q,E,ts⟩:=l;dsimp only at *;subst hk;obtain⟨r,u,x,rfl⟩:∃r u x,ts=[r,u,x]:=by
  match ts,ar with
  |[a,b,c],_=>exact⟨a,b,c,rfl⟩
 have av:3<=p:=av;(have ay:mO facts ⟨4,q,E,[r,u,x]⟩ y=match iB y [x] [(pV q (fH y.j r) (fH y.j u))]with |none=>[]|some w'=>if dJ (pV q (fH y.j r) (fH y.j u))=true then [w'] else []:=by unfold mO;rfl);generalize b9:mO facts ⟨4,q,E,[r,u,x]⟩ y=LL at *;have a2:O _:=ay;have aS:O (vA 8 r):=a5 r sI;have aT:O (vA 8 u):=a5 u sI;have b1:O (kV 8 [x]):=fun t ht=>a5 t (by simp at ht;subst ht;simp);have aO:O (-1000000<=fH y.j r/\fH y.j r<=1000000):=mK.mp am;have aR:O (-1000000<=fH y.j u/\fH y.j u<=1000000):=mK.mp an;have P:O (lI 8 (uR y [x] [(pV q (fH y.j r) (fH y.j u))])):=by
  show lI 8 _;unfold uR
  cases hx:iB y [x] [(pV q (fH y.j r) (fH y.j u))]with
  |none=>exact⟨rfl,rfl⟩
  |some z=>exact wH N hx
 have ai:O ((pV q (fH y.j r) (fH y.j u))=(pV q (fH y.j r) (fH y.j u))):=rfl;obtain⟨b,k,rfl,hc⟩:=uC aq 0 sI;obtain⟨p0,p1⟩:=hc 0 sI;obtain⟨p2,p3⟩:=hc 1 sI;obtain⟨p4,p5⟩:=hc 2 sI;rw[BR,BQ]at p0 p1;rw[Nat.one_mul]at p2 p3;clear ay b9 hc aq hT a5 ar am an;show Calls Tryz.prog 246 #[vf, .agg #[.int .i64 4, .int .i64 q, .int .i64 E, .slice (some ⟨b,k,none⟩) 3 p],fY y, .func (.func hh) #[] cb] w _;obtain⟨h0,h1,hb⟩:=PE w (.cells #[.int .i64 4, .int .i64 q, .int .i64 E, .slice (some ⟨b,k,none⟩) 3 p] 109) (.cells (eY y) 277);have aC:=R.room s w hI;have HW:O (mP ((w.alloc (.cells #[.int .i64 4, .int .i64 q, .int .i64 E, .slice (some ⟨b,k,none⟩) 3 p] 109)).alloc (.cells (eY y) 277)) (w.heap.size+1) y):=h1;have HI:O _:=R.grow _ _ _ hI hb;have HK:O (Kp w0.heap.size NB w ((w.alloc (.cells #[.int .i64 4, .int .i64 q, .int .i64 E, .slice (some ⟨b,k,none⟩) 3 p] 109)).alloc (.cells (eY y) 277))):=Kp.of_below hb aC.1;have K:=HK.o.z al;replace p0:((w.alloc (.cells #[.int .i64 4, .int .i64 q, .int .i64 E, .slice (some ⟨b,k,none⟩) 3 p] 109)).alloc (.cells (eY y) 277)).cell? ⟨b,k,none⟩=some (.int .i64 r.var):=aB K p0;replace p1:((w.alloc (.cells #[.int .i64 4, .int .i64 q, .int .i64 E, .slice (some ⟨b,k,none⟩) 3 p] 109)).alloc (.cells (eY y) 277)).cell? ⟨b,k+1,none⟩=some (.int .i64 r.n):=aB K p1;replace p2:((w.alloc (.cells #[.int .i64 4, .int .i64 q, .int .i64 E, .slice (some ⟨b,k,none⟩) 3 p] 109)).alloc (.cells (eY y) 277)).cell? ⟨b,k+2,none⟩=some (.int .i64 u.var):=aB K p2;replace p3:((w.alloc (.cells #[.int .i64 4, .int .i64 q, .int .i64 E, .slice (some ⟨b,k,none⟩) 3 p] 109)).alloc (.cells (eY y) 277)).cell? ⟨b,k+2+1,none⟩=some (.int .i64 u.n):=aB K p3;replace p4:((w.alloc (.cells #[.int .i64 4, .int .i64 q, .int .i64 E, .slice (some ⟨b,k,none⟩) 3 p] 109)).alloc (.cells (eY y) 277)).cell? ⟨b,k+4,none⟩=some (.int .i64 x.var):=aB K p4;replace p5:((w.alloc (.cells #[.int .i64 4, .int .i64 q, .int .i64 E, .slice (some ⟨b,k,none⟩) 3 p] 109)).alloc (.cells (eY y) 277)).cell? ⟨b,k+4+1,none⟩=some (.int .i64 x.n):=aB K p5;have a3:O _:=R;(have d0:((w.alloc (.cells #[.int .i64 4, .int .i64 q, .int .i64 E, .slice (some ⟨b,k,none⟩) 3 p] 109)).alloc (.cells (eY y) 277)).cell? ⟨w.heap.size,0,none⟩=some (.int .i64 4):=cH h0);(have d1:((w.alloc (.cells #[.int .i64 4, .int .i64 q, .int .i64 E, .slice (some ⟨b,k,none⟩) 3 p] 109)).alloc (.cells (eY y) 277)).cell? ⟨w.heap.size,1,none⟩=some (.int .i64 q):=cH h0);(have S:((w.alloc (.cells #[.int .i64 4, .int .i64 q, .int .i64 E, .slice (some ⟨b,k,none⟩) 3 p] 109)).alloc (.cells (eY y) 277)).cell? ⟨w.heap.size,3,none⟩=some (.slice (some ⟨b,k,none⟩) 3 p):=cH h0);have az:=R.room _ _ HI.o;clear h0 h1 hb hI al R K aC
 go_enter Tryz.func246,Tryz.ntmps246
 go_upto_region 8 with fail;generalize ((w.alloc (.cells #[.int .i64 4, .int .i64 q, .int .i64 E, .slice (some ⟨b,k,none⟩) 3 p] 109)).alloc (.cells (eY y) 277))=w1 at *;refine kB (fun tQ vQ _=>vQ=aTN y w.heap.size b k p q r u tQ) kR kR (fun _ _ _ _ _ h=>h) ?hopE ?hendE
 case hopE=>
  refine oC (fun a d h=>by have e5:a.eval (.tmp 5)=(.pointer (some ⟨w.heap.size,0,none⟩):Value):=h.old 5;exact iQ (.pointer (some ⟨w.heap.size,1,none⟩))) ?_;refine oC (fun a d h=>by have bd:a.eval (.tmp 60)=(.pointer (some ⟨w.heap.size,1,none⟩):Value):=h.of 60;have c1:=aB h.z d1;exact iQ (.int .i64 q)) ?_;refine oC (fun a d h=>by have V:a.eval (.tmp 6)=(.pointer (some ⟨w.heap.size+1,0,none⟩):Value):=h.old 6;refine ZW (v:=fY y) ?_;exact vK rfl V (mP.z HW.o h.z) N) ?_;refine oC (fun a d h=>by have e5:a.eval (.tmp 5)=(.pointer (some ⟨w.heap.size,0,none⟩):Value):=h.old 5;exact iQ (.pointer (some ⟨w.heap.size,3,none⟩))) ?_;refine oC (fun a d h=>by have bg:a.eval (.tmp 63)=(.pointer (some ⟨w.heap.size,3,none⟩):Value):=h.of 63;have c3:=aB h.z S;exact iQ (.slice (some ⟨b,k,none⟩) 3 p)) ?_;refine oC (fun a d h=>by have bh:a.eval (.tmp 64)=(.slice (some ⟨b,k,none⟩) 3 p:Value):=h.of 64;exact iQ (.pointer (some ⟨b,k,none⟩))) ?_;refine oC (fun a d h=>by have bi:a.eval (.tmp 65)=(.pointer (some ⟨b,k,none⟩):Value):=h.of 65;have c0:=aB h.z p0;have c1:=aB h.z p1;exact iQ (jG r)) ?_;refine oC (fun a d h=>?_) ?_
  ·have bf:a.eval (.tmp 62)=(fY y:Value):=h.of 62;have bj:a.eval (.tmp 66)=(jG r:Value):=h.of 66;refine fI (f:=268) (args:=#[fY y,jG r]) (bI rfl) ?_ ?_
   ·have ec:=kZ a;have ef:=AO a;generalize a.eval=ev at *;clear h;go_simp
   refine Calls.mono (BK y r d N aS.o) ?_;rintro _ y2 ⟨rfl,Y⟩;exact⟨_,rfl,fun t ht=>by cases ht;exact rfl,Y⟩
  refine oC (fun a d h=>by have V:a.eval (.tmp 6)=(.pointer (some ⟨w.heap.size+1,0,none⟩):Value):=h.old 6;refine ZW (v:=fY y) ?_;exact vK rfl V (mP.z HW.o h.z) N) ?_;refine oC (fun a d h=>by have e5:a.eval (.tmp 5)=(.pointer (some ⟨w.heap.size,0,none⟩):Value):=h.old 5;exact iQ (.pointer (some ⟨w.heap.size,3,none⟩))) ?_;refine oC (fun a d h=>by have bm:a.eval (.tmp 69)=(.pointer (some ⟨w.heap.size,3,none⟩):Value):=h.of 69;have c3:=aB h.z S;exact iQ (.slice (some ⟨b,k,none⟩) 3 p)) ?_;refine oC (fun a d h=>by have bn:a.eval (.tmp 70)=(.slice (some ⟨b,k,none⟩) 3 p:Value):=h.of 70;exact iQ (.pointer (some ⟨b,k+2,none⟩))) ?_;refine oC (fun a d h=>by have bo:a.eval (.tmp 71)=(.pointer (some ⟨b,k+2,none⟩):Value):=h.of 71;have c0:=aB h.z p2;have c1:=aB h.z p3;exact iQ (jG u)) ?_;refine oC (fun a d h=>?_) ?_
  ·have bl:a.eval (.tmp 68)=(fY y:Value):=h.of 68;have bp:a.eval (.tmp 72)=(jG u:Value):=h.of 72;refine fI (f:=268) (args:=#[fY y,jG u]) (bI rfl) ?_ ?_
   ·have ec:=kZ a;have ef:=AO a;generalize a.eval=ev at *;clear h;go_simp
   refine Calls.mono (BK y u d N aT.o) ?_;rintro _ y2 ⟨rfl,Y⟩;exact⟨_,rfl,fun t ht=>by cases ht;exact rfl,Y⟩
  refine oC (fun a d h=>?_) ?_
  ·have be:a.eval (.tmp 61)=(.int .i64 q:Value):=h.of 61;have bk:a.eval (.tmp 67)=(.int .i64 (fH y.j r):Value):=h.of 67;have bq:a.eval (.tmp 73)=(.int .i64 (fH y.j u):Value):=h.of 73;refine fI (f:=269) (args:=#[.int .i64 q, .int .i64 (fH y.j r), .int .i64 (fH y.j u)]) (bI rfl) ?_ ?_
   ·have ec:=kZ a;have ef:=AO a;generalize a.eval=ev at *;clear h;go_simp
   refine Calls.mono (aH4 q (fH y.j r) (fH y.j u) d aO.o aR.o) ?_;rintro _ y2 ⟨rfl,rfl⟩;exact⟨_,rfl,fun t ht=>by cases ht;exact rfl,aG _ _⟩
  refine oC (fun a d h=>by have br:a.eval (.tmp 74)=(.int .i64 (pV q (fH y.j r) (fH y.j u)):Value):=h.of 74;exact iQ (.int .i64 (pV q (fH y.j r) (fH y.j u)))) ?_;exact OI.nil
 case hendE=>
  rintro⟨C,U⟩ G L ad Z a0 X;have g:C.getD 9 undef=.int .i64 (pV q (fH y.j r) (fH y.j u)):=tW (T:=fun tQ vQ _=>vQ=aTN y w.heap.size b k p q r u tQ) (w:=G) (a:=⟨C,U⟩) (t:=9) X kR;obtain rfl:U=[]:=ad;obtain⟨fQ,hQ,D⟩:=oR [60,61,62,63,64,65,66,67,68,69,70,71,72,73,74,9] C _ Z a0;clear Z a0 X;simp only[List.foldl_cons,List.foldl_nil,(hQ 9).trans g]at D;clear g hQ;simp only[List.setIfInBounds_toArray,List.set_cons_zero,List.set_cons_succ]at D;subst D;have ag:O _:=a3.o.grow _ _ _ HI.o L;have aL:O _:=HK.o.trans (Kp.of_below L az.1);have b2:O (mP G (w.heap.size+1) y):=mP.z HW.o L;have aD:=a3.o.room _ _ ag.o;(have b0:O (∀W,Below G.heap.size G W->iX W (.slice (some ⟨b,k+4,none⟩) 1 (p-2)) [x]):=fun W hW=>by refine⟨_,_,rfl,by show 1<=p-2;omega, .inr ⟨b,k+4,rfl,fun i hi=>?_⟩⟩;(obtain rfl:i=0:=by simpa using hi);exact⟨by rw[BR,BQ];exact aB hW (aB L p4),by rw[BR,BQ];exact aB hW (aB L p5)⟩);(replace S:=aB L S;clear d0 d1 p0 p1 p2 p3 p4 p5 HI HK HW az L;generalize G=J at *;obtain⟨m,hm⟩:∃m,m=(pV q (fH y.j r) (fH y.j u)):=⟨_,rfl⟩;rw[<-hm]at a2 P ai ⊢;clear hm;obtain⟨z,hz⟩:∃z,z=uR y [x] [m]:=⟨_,rfl⟩;obtain⟨ok,ae⟩:∃ok,ok=(iB y [x] [m]).isSome:=⟨_,rfl⟩;(have HZ:O ((.tuple #[fY (uR y [x] [m]), .bool (iB y [x] [m]).isSome]:Value)=.tuple #[fY z, .bool ok]):=by show _=_;rw[hz,ae]);have ah:O ((ok=false->iB y [x] [m]=none)/\(ok=true->iB y [x] [m]=some z)):=by show(_->_)/\(_->_);rw[ae,hz];unfold uR;cases iB y [x] [m]<;>simp);rw[<-hz]at P;clear hz ae ai;go_upto_region 9 with fail;refine aAY (Rq J.heap.size) (fun _ _ _=>Rq.trans) (fun _=>⟨rfl,rfl,rfl,aH _,fun _ _=>rfl,fun _ _ _ h _=>h,fun _ y' h af=>⟨y',af,h⟩⟩) (Zh y z w.heap.size b k p J.heap.size m ok) 11 (aQ1 z J.heap.size) dE kR kR (aL0 y z w.heap.size b k p J.heap.size m ok) ?hopF ?hendF
  case hopF=>
   refine AM.cons (fun a d h=>by have V:a.eval (.tmp 6)=(.pointer (some ⟨w.heap.size+1,0,none⟩):Value):=h.old 6;refine yX (v:=fY y) (w':=d) (bI rfl) ?_ tR (Rq.refl _ _) (fun g=>absurd g dE) (fun g=>absurd g dE);exact vK rfl V (mP.z b2.o (h.z.to_below (aH _))) N) ?_;refine AM.cons (fun a d h=>by have e5:a.eval (.tmp 5)=(.pointer (some ⟨w.heap.size,0,none⟩):Value):=h.old 5;refine yX (v:=.pointer (some ⟨w.heap.size,3,none⟩)) (w':=d) (bI rfl) ?_ tR (Rq.refl _ _) (fun g=>absurd g dE) (fun g=>absurd g dE);have ec:=kZ a;generalize a.eval=ev at *;clear h;go_simp) ?_;refine AM.cons (fun a d h=>by have bt:a.eval (.tmp 77)=(.pointer (some ⟨w.heap.size,3,none⟩):Value):=h.of 77;have c3:=aB (h.z.to_below (aH _)) S;refine yX (v:=.slice (some ⟨b,k,none⟩) 3 p) (w':=d) (bI rfl) ?_ tR (Rq.refl _ _) (fun g=>absurd g dE) (fun g=>absurd g dE);have ec:=kZ a;generalize a.eval=ev at *;clear h;go_simp) ?_;refine AM.cons (fun a d h=>by have bu:a.eval (.tmp 78)=(.slice (some ⟨b,k,none⟩) 3 p:Value):=h.of 78;have bW:¬p=2:=oM;refine yX (v:=.slice (some ⟨b,k+4,none⟩) 1 (p-2)) (w':=d) (bI rfl) ?_ tR (Rq.refl _ _) (fun g=>absurd g dE) (fun g=>absurd g dE);have ec:=kZ a;generalize a.eval=ev at *;clear h;go_simp) ?_;refine AM.cons (fun a d h=>by have e9:a.eval (.tmp 9)=(.int .i64 m:Value):=h.old 9;refine yX (v:=.int .i64 m) (w':=d) (bI rfl) ?_ tR (Rq.refl _ _) (fun g=>absurd g dE) (fun g=>absurd g dE);have ec:=kZ a;generalize a.eval=ev at *;clear h;go_simp) ?_;refine AM.cons (fun a d h=>by have bw:a.eval (.tmp 80)=(.int .i64 m:Value):=h.of 80;refine yX (v:=.slice (some ⟨d.heap.size,0,none⟩) 1 1) (w':=d.alloc (.cells #[.int .i64 m] 3)) (bI rfl) ?_ (fun t ht=>by cases ht;exact⟨_,rfl,bA d _⟩) (Rq.of_below ((aG _ _).alloc (aH _) _) h.z.size) (fun g=>absurd g dE) (fun g=>absurd g dE);have ec:=kZ a;generalize a.eval=ev at *;clear h;go_simp) ?_;refine AM.cons (fun a d h=>?_) ?_
   ·have bs:a.eval (.tmp 76)=(fY y:Value):=h.of 76;have bv:a.eval (.tmp 79)=(.slice (some ⟨b,k+4,none⟩) 1 (p-2):Value):=h.of 79;obtain⟨F,bz,bb⟩:∃F,a.eval (.tmp 81)=.slice (some ⟨F,0,none⟩) 1 1/\d.heap[F]?=some (.cells #[.int .i64 m] 3):=h.of 81;refine aRP (f:=270) (args:=#[fY y, .slice (some ⟨b,k+4,none⟩) 1 (p-2), .slice (some ⟨F,0,none⟩) 1 1]) (bI rfl) ?_ ?_
    ·have ec:=kZ a;have ef:=AO a;generalize a.eval=ev at *;clear h;go_simp
    refine Calls.mono (aOK y [x] [m] _ _ d N (b0.o d (h.z.to_below (aH _))) (bBO bb) rfl sI b1.o) ?_;rintro _ y2 ⟨rfl,Y⟩;exact⟨_,rfl,fun t ht=>by cases ht;exact HZ.o,Rq.of_below Y h.z.size,fun g=>absurd g dE,fun g=>absurd g dE⟩
   refine AM.cons (fun a d h=>by have bN:a.eval (.tmp 82)=(.tuple #[fY z, .bool ok]:Value):=h.of 82;refine yX (v:=.tuple #[fY z, .bool ok]) (w':=d) (bI rfl) ?_ tR (Rq.refl _ _) (fun g=>absurd g dE) (fun g=>absurd g dE);have ec:=kZ a;generalize a.eval=ev at *;clear h;go_simp) ?_;refine AM.cons (fun a d h=>by have b4:a.eval (.tmp 75)=(.tuple #[fY z, .bool ok]:Value):=h.of 75;refine yX (v:=fY z) (w':=d) (bI rfl) ?_ tR (Rq.refl _ _) (fun g=>absurd g dE) (fun g=>absurd g dE);have ec:=kZ a;generalize a.eval=ev at *;clear h;go_simp) ?_;refine AM.cons (fun a d h=>by have b4:a.eval (.tmp 75)=(.tuple #[fY z, .bool ok]:Value):=h.of 75;refine yX (v:=.bool ok) (w':=d) (bI rfl) ?_ tR (Rq.refl _ _) (fun g=>absurd g dE) (fun _ _ hD=>Zg dE hD);have ec:=kZ a;generalize a.eval=ev at *;clear h;go_simp) ?_;refine AM.cons (fun a d h=>by refine yX (v:=.pointer (some ⟨d.heap.size,0,none⟩)) (w':=d.alloc (.cells #[.int .i64 0, .int .i64 0, .int .i64 0, .int .i64 0, .int .i64 0, .int .i64 0, .int .i64 0, .int .i64 0, .bool false, .bool false, .bool false, .bool false, .bool false, .bool false, .bool false, .bool false] 277)) (bI rfl) ?_ (fun t ht=>by cases ht;exact⟨_,rfl,h.z.size,yM,⟨rfl,rfl⟩,bA d _⟩) (Rq.of_below ((aG _ _).alloc (aH _) _) h.z.size) (fun g=>absurd g dE) (fun g=>absurd g dE);have ec:=kZ a;generalize a.eval=ev at *;clear h;go_simp) ?_;refine AM.cons (fun a d h=>by have b5:a.eval (.tmp 83)=(fY z:Value):=h.of 83;obtain⟨F,aj,aw,y',af,ab⟩:∃F,a.eval (.tmp 10)=.pointer (some ⟨F,0,none⟩)/\J.heap.size<=F/\∃y',lI 8 y'/\mP d F y':=h.of 10;exact aRQ (w':=d.setRow F (eY z)) (bI rfl) (aX0 rfl aj b5 ab af P.o) rfl (Rq.store ab aw P.o) (fun _=>⟨F,aw,aj,Tv ab⟩) (fun _ g=>absurd rfl g)) ?_;refine AM.cons (fun a d h=>by have bT:a.eval (.tmp 84)=(.bool ok:Value):=h.of 84;refine yX (v:=.bool ok) (w':=d) (bI rfl) ?_ tR (Rq.refl _ _) (fun g=>absurd g dE) (fun _ _ hD=>Zg dE hD);have ec:=kZ a;generalize a.eval=ev at *;clear h;go_simp) ?_;exact AM.nil
  case hendF=>
   rintro⟨C,U⟩ G ao b6 ad Z a0 X;obtain⟨ZB,ba,a4,au⟩:=b6;have a4:C.getD 10 undef=.pointer (some ⟨ZB,0,none⟩):=a4;have ak:C.getD 11 undef=.bool ok:=tW (T:=Zh y z w.heap.size b k p J.heap.size m ok) (w:=G) (a:=⟨C,U⟩) (t:=11) X kR;obtain rfl:U=[]:=ad;have D:=QC [76,77,78,79,80,81,82,75,83,84,10,11] C _ Z a0;clear Z a0 X;simp only[List.foldl_cons,List.foldl_nil,a4,ak]at D;clear a4 ak;generalize C.getD 76 undef=c2 at D;generalize C.getD 77 undef=c4 at D;generalize C.getD 78 undef=c5 at D;generalize C.getD 79 undef=c6 at D;generalize C.getD 80 undef=c7 at D;generalize C.getD 81 undef=c8 at D;generalize C.getD 82 undef=c9 at D;generalize C.getD 75 undef=bZ at D;generalize C.getD 83 undef=ca at D;generalize C.getD 84 undef=cc at D;simp only[List.setIfInBounds_toArray,List.set_cons_zero,List.set_cons_succ]at D;subst D;have ac:Below J.heap.size J G:=ao.to_below (aH _);have a7:O _:=a3.o.grow _ _ _ ag.o ac;have a8:O _:=aL.o.trans (Kp.of_below ac aD.1);have b3:O (mP G ZB z):=au;(have bU:ZB≠NB:=by have :=aD.2;omega);clear ao ac au ba;cases ax:ok
   ·(have H:O (iR step s LL=(s,true)):=by show _=_;rw[a2.o,ah.o.1 ax];rfl);go_wp2_with fail;go_ret;exact⟨by rw[H.o];rfl,by rw[H.o];exact a7.o,a8.o⟩
   have a6:=ah.o.2 ax;have a1:O _:=Lz m G;cases Q:dJ m
   ·(have H:O (iR step s LL=(s,true)):=by show _=_;rw[a2.o,a6];show iR step s (if dJ m=true then [z] else [])=_;rw[Q];rfl);rw[Q]at a1;clear Q a6;go_wp2_with(go_at_call 219;refine Calls.mono a1.o ?_;rintro _ wF ⟨rfl,M⟩;have M:=M.symm;subst M);go_ret;exact⟨by rw[H.o];rfl,by rw[H.o];exact a7.o,a8.o⟩
   (have a9:O (LL=[z]):=by show _=_;rw[a2.o,a6];show(if dJ m=true then [z] else [])=_;rw[Q];rfl);rw[a9.o]at aa;have aN:O _:=aa.1;(have H:O (iR step s LL=((step s z).1,(step s z).2)):=by show _=_;rw[a9.o,uQ];cases hq:(step s z).2<;>rfl);rw[Q]at a1;clear Q a6 aa a9
   go_wp2_with(first
    |(go_at_call 219;refine Calls.mono a1.o ?_;rintro _ wF ⟨rfl,M⟩;have M:=M.symm;subst M)
    |(refine pK (by first|exact bI rfl|exact JK rfl rfl rfl rfl) _ rfl _ rfl z b3.o P.o ?_))
   refine Calls.mono (a3.o.call s G z a7.o aN.o P.o) ?_;rintro eR w4 ⟨bc,b7,b8⟩;subst bc;go_wp2_with fail;go_ret;exact⟨by rw[H.o];rfl,by rw[H.o];exact b7,a8.o.trans b8⟩
structure aFG (facts:List aQ) (l:cX) (y:cB):Prop where
 li:Vw 8 facts l
 tl:l.v.length<=1000
 n0:l.kind=4->dJ (fH y.j (cQ l.v 0))=true
 n1:l.kind=4->dJ (fH y.j (cQ l.v 1))=true
theorem aWT{σ:Type}{step:σ->cB->σ×Bool}{L:σ->cB->Prop}{I:σ->World->Prop}{NB hh:Nat}{cb:Array Value}(facts:List aQ)(l:cX)(y:cB)(r M:Value)(w0 w:World)(s:σ)
 (D:Below w0.heap.size w0 w) (E:bS w0 r facts) (V:facts.length<=1000000) (p:iX w0 M l.v) (G:kV 8 l.v) (C:∀f,f∈facts->f.g=l.g->l.v.length=f.args.length) (X:l.v.length<=1000) (K:lI 8 y) (H:l.kind=1)
 (k:Hg w0.heap.size NB hh cb step L I) (Y:∀args w,(callFunc hh args).run Tryz.prog w=.ok (.enter hh args) w) (m:I s w) (n:JU step L s (mO facts l y)):
 Calls Tryz.prog 246 #[r,sH l M,fY y, .func (.func hh) #[] cb] w fun e N=>e=.returned (.bool (iR step s (mO facts l y)).2)/\I (iR step s (mO facts l y)).1 N/\Kp w0.heap.size NB w N:=by
 rw[aVH H]at n ⊢;obtain⟨at_,i,a0,_⟩:=id p;subst a0;obtain⟨kd,c,d,b⟩:=l;dsimp only at *;subst H;obtain⟨j,x,q⟩:=PE w (.cells #[.int .i64 1, .int .i64 c, .int .i64 d, .slice at_ b.length i] 109) (.cells (eY y) 277);have J:=k.room s w m;have Q:O (mP ((w.alloc (.cells #[.int .i64 1, .int .i64 c, .int .i64 d, .slice at_ b.length i] 109)).alloc (.cells (eY y) 277)) (w.heap.size+1) y):=x;have HK:O (Kp w0.heap.size NB w ((w.alloc (.cells #[.int .i64 1, .int .i64 c, .int .i64 d, .slice at_ b.length i] 109)).alloc (.cells (eY y) 277))):=Kp.of_below q J.1;have u:O _:=aL1 facts ⟨1,c,d,b⟩ y r (.slice at_ b.length i) w0 _ s (HK.o.z D) E V p G C X K k Y (k.grow _ _ _ m q) n;(have R:((w.alloc (.cells #[.int .i64 1, .int .i64 c, .int .i64 d, .slice at_ b.length i] 109)).alloc (.cells (eY y) 277)).cell? ⟨w.heap.size,0,none⟩=some (.int .i64 1):=cH j);(have S:((w.alloc (.cells #[.int .i64 1, .int .i64 c, .int .i64 d, .slice at_ b.length i] 109)).alloc (.cells (eY y) 277)).cell? ⟨w.heap.size,1,none⟩=some (.int .i64 c):=cH j);(have T:((w.alloc (.cells #[.int .i64 1, .int .i64 c, .int .i64 d, .slice at_ b.length i] 109)).alloc (.cells (eY y) 277)).cell? ⟨w.heap.size,2,none⟩=some (.int .i64 d):=cH j);(have U:((w.alloc (.cells #[.int .i64 1, .int .i64 c, .int .i64 d, .slice at_ b.length i] 109)).alloc (.cells (eY y) 277)).cell? ⟨w.heap.size,3,none⟩=some (.slice at_ b.length i):=cH j);clear j x q m D k E p G C n J;generalize List.filterMap (vG ⟨1,c,d,b⟩ y) facts=LL at *
 go_enter Tryz.func246,Tryz.ntmps246
 go_upto_region 3 with fail;generalize (w.alloc (.cells #[.int .i64 1, .int .i64 c, .int .i64 d, .slice at_ b.length i] 109)).alloc (.cells (eY y) 277)=w1 at *;go_wp2_with(refine pK (bI rfl) _ rfl _ rfl y Q.o K ?_);refine Calls.mono u.o ?_;rintro e w4 ⟨Z,F,W⟩;subst Z;have P:O _:=F;clear F R S T U u;go_wp2_with fail;go_ret;exact⟨rfl,P.o,HK.o.trans W⟩
theorem aL2{σ:Type}{step:σ->cB->σ×Bool}{C:σ->cB->Prop}{I:σ->World->Prop}{NB hh:Nat}{cb:Array Value}(facts:List aQ)(l:cX)(y:cB)(d g:Value)(w0 w:World)(s:σ)
 (j:Below w0.heap.size w0 w) (u:bS w0 d facts) (x:facts.length<=1000000) (E:∀f,f∈facts->gD f) (p:iX w0 g l.v) (b:aFG facts l y) (r:lI 8 y)
 (i:Hg w0.heap.size NB hh cb step C I) (q:∀args w,(callFunc hh args).run Tryz.prog w=.ok (.enter hh args) w) (m:I s w) (n:JU step C s (mO facts l y)):
 Calls Tryz.prog 246 #[d,sH l g,fY y, .func (.func hh) #[] cb] w fun e D=>e=.returned (.bool (iR step s (mO facts l y)).2)/\I (iR step s (mO facts l y)).1 D/\Kp w0.heap.size NB w D:=by
 rcases b.li.k with c|c|c|c
 ·exact aWT facts l y d g w0 w s j u x p b.li.t (b.li.a c) b.tl r c i q m n
 ·exact aWU facts l y d g w0 w s j u x E p b.li.t b.tl r c i q m n
 ·exact aWV facts l y d g w0 w s j p b.li.t (b.li.k3 c) r c i q m n
 exact aWW facts l y d g w0 w s j p b.li.t (b.li.k4 c) r c (b.n0 c) (b.n1 c) i q m n
theorem Cp(q:List Lv):(pJ q).length=q.length*4:=by unfold pJ;rw[Qc 4 _ (fun c b=>by obtain⟨t,_,rfl⟩:=cJ.mp b;rfl),aY]
theorem Ck(q r:List Lv):pJ (q++r)=pJ q++pJ r:=by unfold pJ;rw[dC,iL]
def QAt(w:World)(a:Addr)(q:List Lv):Prop:=∀j u,(pJ q)[j]?=some u->w.cell? (a.add j)=some u
theorem WL{w w':World}(b:Below w.heap.size w w'){a:Addr}{v:Value}(h:w.cell? a=some v):w'.cell? a=some v:=(qI (b.block _ (jR w _ h))).trans h
theorem Zv{q:List Lv}(h:∀p,p∈q->∃d n c,p.2=.slice d n c):∀u,u∈pJ q->u.oneCell'=true:=by
 intro u b;unfold pJ at b;obtain⟨c,f,b⟩:=zT.mp b;obtain⟨p,g,rfl⟩:=cJ.mp f;obtain⟨d,n,i,e⟩:=h p g;unfold yO at b;simp only[List.mem_cons,List.not_mem_nil,or_false]at b;rcases b with rfl|rfl|rfl|rfl
 ·rfl
 ·rfl
 ·rfl
 rw[e];rfl
theorem aWL(w:World)(n:Nat)(C:n<=1048576):
 Calls Tryz.prog 264 #[.slice none 0 0, .int .i64 n] w fun e f=>∃d,e=.returned d/\f.ownsRow w.heap.size 109 4 d 0 []/\Below w.heap.size w f:=by
 obtain⟨u,m,q,r,s⟩:=jY aD7;by_cases j:n=0
 ·subst j
  go_enter Tryz.func264,Tryz.ntmps264
  go_wp2_with fail;go_ret;exact⟨_,rfl,eS _ _ _ _,aG _ _⟩
 have p:0<n:=oM;have i:O _:=Jw w 95 3 95 109 u _ .i64 .i64 Tryz.underlying95 Tryz.underlying3 m q n p (by rw[r];decide) oM (by rw[s];omega)
 go_enter Tryz.func264,Tryz.ntmps264
 go_wp2_with(at_builtin;refine Lib.wpList_append_run _ rfl _ _ 95 3 rfl _ _ rfl rfl _ _ i.o ?_);(have g:O (∀b:Array Value,b.size=grownCap w n 0 109*4->(w.alloc (.cells b 109)).drew.ownsRow w.heap.size 109 4 (.slice (some ⟨w.heap.size,0,none⟩) 0 (grownCap w n 0 109)) 0 []/\Below w.heap.size w (w.alloc (.cells b 109)).drew):=by intro b l;have k:=mQ (base:=w.heap.size) (e:=109) (size:=4) w b (grownCap w n 0 109) (aH _) (grownCap_le_maxLen _ _ _ _ (by unfold maxLen;omega)) l;have c:Below w.heap.size w (w.alloc (.cells b 109)):=(aG _ _).alloc (aH _) _;exact⟨k,c.os,c.tape,c.output,c.size,c.block⟩);have x:=grownCap_ge w n 0 109;go_ret;refine⟨_,rfl,g.o _ ?_⟩;simp[Builtin.zeroCells];omega
theorem aLL(d l:List Lv)(b:Nat)(E F:Addr)(c1 c2:Nat)(w:World)(U:QAt w E d)(V:QAt w F l)(h1:∀p,p∈d->∃G n c,p.2=.slice G n c)(T:∀p,p∈l->∃G n c,p.2=.slice G n c)
 (H:w.cell? ⟨b,0,none⟩=some (.slice (some E) d.length c1)) (I:w.cell? ⟨b,1,none⟩=some (.slice (some F) l.length c2)) (hl:d.length<=1000) (hm:l.length<=1000):
 Calls Tryz.prog 245 #[.slice (some ⟨b,0,none⟩) 2 2] w fun e w'=>∃v',e=.returned v'/\w'.ownsRow w.heap.size 109 4 v' (d.length+l.length) (pJ (d++l))/\Below w.heap.size w w':=by
 obtain⟨i0,W,Y,Z,a0⟩:=jY aD7;have HA:O _:=U;have HB:O _:=V;have H1:O _:=Zv h1;have H2:O _:=Zv T;clear U V h1 T
 go_enter Tryz.func245,Tryz.ntmps245
 go_wp2_with fail;go_loopw [3,11] (fun N i wr=>w=wr/\((i=.int .i64 (0:Nat)/\N=.int .i64 0)\/(i=.int .i64 (1:Nat)/\N=.int .i64 (d.length:Nat))\/(i=.int .i64 (2:Nat)/\N=.int .i64 ((d.length+l.length:Nat):Int)))) (fun _ i _=>2-(intOf i).toNat);case atStart=>exact⟨rfl, .inl ⟨rfl,rfl⟩⟩
 case round=>
  obtain⟨rfl,⟨rfl,rfl⟩|⟨rfl,rfl⟩|⟨rfl,rfl⟩⟩:=hrel
  ·go_wp2_with fail;go_roundw;(case rel=>exact⟨by trivial, .inr (.inl ⟨by first|rfl|go_num,by first|rfl|go_num|simp⟩)⟩);case measure=>simp[intOf]
  ·go_wp2_with fail;go_roundw;(case rel=>exact⟨by trivial, .inr (.inr ⟨by first|rfl|go_num,by first|rfl|go_num|simp⟩)⟩);case measure=>simp[intOf]
  go_wp2_with fail;refine Calls.mono (aWL _ (d.length+l.length) oM) ?_;rintro e w1 ⟨v1,rfl,X,K⟩;obtain⟨a3,c3,rfl⟩:=bR X;have r:=aB K H;have s:=aB K I;go_wp2_with fail;clear r s;go_loopw [6,27] (fun ns i wr=>(i=.int .i64 (0:Nat)/\wr.ownsRow w.heap.size 109 4 ns 0 []/\Below w.heap.size w wr)\/(i=.int .i64 (1:Nat)/\wr.ownsRow w.heap.size 109 4 ns d.length (pJ d)/\Below w.heap.size w wr)\/(i=.int .i64 (2:Nat)/\wr.ownsRow w.heap.size 109 4 ns (d.length+l.length) (pJ d++pJ l)/\Below w.heap.size w wr)) (fun _ i _=>2-(intOf i).toNat);case atStart=>exact .inl ⟨rfl,X,K⟩
  case round=>
   rcases hrel with⟨rfl,g,f⟩|⟨rfl,g,f⟩|⟨rfl,g,f⟩
   ·have r:=aB f H;have s:=aB f I;obtain⟨P,R,rfl⟩:=bR g;go_wp2_with(at_builtin;refine iD _ rfl _ _ 95 rfl w.heap.size 109 i0 _ 4 48 Tryz.underlying95 W Y Z a0 rfl dE _ _ _ rfl g E d.length c1 (pJ d) rfl (Cp d) ?c1 H1.o ?c3 ?c4 ?c5 ?_);(case c1=>exact fun j u L=>(WL f (HA.o j u L)));(case c3=>unfold maxLen;omega);(case c4=>omega);(case c5=>exact f.size);intro v2 D m x _;obtain⟨Q,S,rfl⟩:=bR m;have J:Below w.heap.size w D:=f.grown x f.size (fun k M=>(World.ownsRow.lt g k M).1);(have C:D.ownsRow w.heap.size 109 4 (.slice Q (0+d.length) S) d.length (pJ d):=by simpa using m);have q:O _:=C;rw[eP]at C;have a6:O _:=C;clear C m x g r s;go_wp2_with fail;go_roundw;(case rel=>exact .inr (.inl ⟨by first|rfl|go_num,by first|exact q.o|exact a6.o,J⟩));case measure=>simp[intOf]
   ·have r:=aB f H;have s:=aB f I;obtain⟨P,R,rfl⟩:=bR g;go_wp2_with(at_builtin;refine iD _ rfl _ _ 95 rfl w.heap.size 109 i0 _ 4 48 Tryz.underlying95 W Y Z a0 rfl dE _ _ _ rfl g F l.length c2 (pJ l) rfl (Cp l) ?c1 H2.o ?c3 ?c4 ?c5 ?_);(case c1=>exact fun j u L=>(WL f (HB.o j u L)));(case c3=>unfold maxLen;omega);(case c4=>omega);(case c5=>exact f.size);intro v2 D m x _;obtain⟨Q,S,rfl⟩:=bR m;have J:Below w.heap.size w D:=f.grown x f.size (fun k M=>(World.ownsRow.lt g k M).1);have q:O _:=m;clear m x g r s;go_wp2_with fail;go_roundw;(case rel=>exact .inr (.inr ⟨by first|rfl|go_num,q.o,J⟩));case measure=>simp[intOf]
   obtain⟨P,R,rfl⟩:=bR g;have q:O _:=g;clear g;go_wp2_with fail;go_ret;exact⟨_,rfl,by rw[Ck];exact q.o,f⟩
def Gq(s:Nat)(_:cB):Nat×Bool:=(s+1,true)
def Wd(s:Nat)(_:cB):Prop:=s<=1000000
theorem Ov:∀(L:List cB)(s:Nat),s+L.length<=1000001->JU Gq Wd s L
 |[],_,_=>trivial
 |x::L,s,h=>⟨by unfold Wd;simp only[List.length_cons]at h;omega,fun _=>Ov L (s+1) (by simp only[List.length_cons]at h;omega)⟩
theorem Gh:∀(L:List cB)(s:Nat),iR Gq s L=(s+L.length,true)
 |[],_=>rfl
 |x::L,s=>by
  rw[uQ];show(if true=true then iR Gq (s+1) L else _)=_;rw[if_pos rfl,Gh L (s+1),nJ]
  congr 1
  omega
theorem Gb(facts:List aQ)(l:cX)(y:cB):(mO facts l y).length<=facts.length+1:=by
 unfold mO;split
 ·have :=KV (fun f=>if f.g=l.g then iB y l.v f.args else none) facts;omega
 split
 ·split<;>simp
 split
 ·split<;>simp
 split
 ·simp
 split<;>simp
theorem Rw(facts:List aQ)(y:cB)(body:List cX)(k:Nat)(h:k<body.length)(a:Nat×Int):uB facts y (body.drop k) k a=uB facts y (body.drop (k+1)) (k+1) (tI facts y (dR body k) k a):=by(have e:dR body k=body[k]:=by unfold dR;rw[aI,aM h];rfl);rw[dA h,e];rfl
theorem aW7(NB n:Nat)(x:cB)(w:World)(b:w.heap[NB]?=some (.cells #[.int .i64 n] 3))(p:n<=1000000):
 Calls Tryz.prog 263 #[fY x, .pointer (some ⟨NB,0,none⟩)] w fun e i=>e=.returned (.bool true)/\i.heap[NB]?=some (.cells #[.int .i64 ((n+1:Nat):Int)] 3)/\Kp NB NB w i:=by
 have f:=(aG w.heap.size w).alloc (aH _) (.cells (eY x) 277);have d:=(f.block _ (cV b)).trans b;(have c0:(w.alloc (.cells (eY x) 277)).cell? ⟨NB,0,none⟩=some (.int .i64 n):=cH d);have m:=bM d 0;have j:O _:=d;have HK:O (Kp NB NB w (w.alloc (.cells (eY x) 277))):=Kp.of_below f (wK (cV b));clear d b f
 go_enter Tryz.func263,Tryz.ntmps263
 go_upto_region 1 with fail;generalize w.alloc (.cells (eY x) 277)=q at *;go_wp2_with fail;go_ret;refine⟨rfl,by rw[bD j.o];rfl,HK.o.trans ⟨rfl,rfl,rfl,by simp,fun k g=>eC oM,fun k c t g l _=>?_⟩⟩;rw[eC l];exact g
theorem bLC(NB:Nat):Hg NB NB 263 #[.pointer (some ⟨NB,0,none⟩)] Gq Wd (fun n w=>w.heap[NB]?=some (.cells #[.int .i64 (n:Int)] 3)):=
 ⟨fun s w x b d _=>aW7 NB s x w b d,fun _ _ _ b c=>(c.block _ (cV b)).trans b,fun _ _ b=>⟨wK (cV b),cV b⟩⟩
structure PN (w0:World) (NB:Nat) (w:World) (v:Value) (q:List Lv):Prop where
 sl:∃a cap,v=.slice a q.length cap/\q.length<=cap/\(q≠[]->∃b off,a=some ⟨b,off,none⟩/\QAt w ⟨b,off,none⟩ q/\(b<w0.heap.size\/(b≠NB/\∃c,w.heap[b]?=some (.cells c 109))))
 tm:∀p,p∈q->iX w0 p.2 p.1.v
theorem QAt.lit{w:World}{b off:Nat}{q:List Lv}(h:QAt w ⟨b,off,none⟩ q){k:Nat}(j:k<q.length):w.cell? ⟨b,off+k*4,none⟩=some (.int .i64 q[k].1.kind)/\w.cell? ⟨b,off+k*4+1,none⟩=some (.int .i64 q[k].1.op)/\w.cell? ⟨b,off+k*4+2,none⟩=some (.int .i64 q[k].1.g)/\w.cell? ⟨b,off+k*4+3,none⟩=some q[k].2:=by(have m:(q.map yO)[k]?=some (yO q[k]):=by rw[dW,aM j];rfl);(have l:∀c,c∈q.map yO->c.length=4:=fun c f=>by obtain⟨t,_,rfl⟩:=cJ.mp f;rfl);(have d:∀(i:Nat)(u:Value),(yO q[k])[i]?=some u->w.cell? ⟨b,off+(k*4+i),none⟩=some u:=fun i u n=>by have e:=h (k*4+i) u (WO 4 _ l k _ i u m n);rw[Addr.add_lit]at e;exact e);exact⟨d 0 _ rfl,d 1 _ rfl,d 2 _ rfl,d 3 _ rfl⟩
theorem aME{q:List Lv}{k:Nat}(h:k<q.length):dR (q.map (·.1)) k=q[k].1:=by unfold dR;rw[aI,dW,aM h];rfl
theorem bBJ(facts:List aQ)(q:List Lv)(y:cB)(vf vb:Value)(w0 w:World)(NB:Nat)(ae:Below w0.heap.size w0 w)(hF:bS w0 vf facts)(aC:facts.length<=1000)(af:∀f,f∈facts->gD f)(hQ:PN w0 NB w vb q)(aO:q.length<=1000)(Y:lI 8 y)
 (hL:∀p,p∈q->Vw 8 facts p.1/\p.1.v.length<=1000) (hH:∀p,p∈q->iT y p.1=true->aFG facts p.1 y):
 Calls Tryz.prog 244 #[vf,vb,fY y] w fun e w'=>e=.returned (.int .i64 (sS facts (q.map (·.1)) y))/\Below w.heap.size w w':=by
 obtain⟨⟨ab,cb,rfl,aD,al⟩,an⟩:=hQ;have bW:=(aG w.heap.size w).alloc (aH _) (.cells (eY y) 277);have M:O (mP (w.alloc (.cells (eY y) 277)) w.heap.size y):=bA w _;have a9:O _:=bW;have a8:O _:=ae;have HF:O _:=hF;have ao:O _:=af;have aw:O _:=al;have ax:O _:=an;have av:O _:=hL;have aq:O _:=hH;have he:∀args w,(callFunc 263 args).run Tryz.prog w=.ok (.enter 263 args) w:=oQ Tryz.func263 kR rfl;have aL:∀(fn:Fn)(first cap:Array Value)(w:World),(Instr.makeFunc fn first cap).run Tryz.prog w=.ok (.func fn first cap) w:=fun _ _ _ _=>rfl;clear ae hF af al an hL hH bW
 go_enter Tryz.func244,Tryz.ntmps244
 go_wp2_with fail;generalize w.alloc (.cells (eY y) 277)=w1 at *;go_loopw [7,8,14] (fun ay az i wr=>∃(k:Nat)(a:Nat×Int),k<=q.length/\i=.int .i64 k/\ay=.int .i64 (a.1:Nat)/\az=.int .i64 a.2/\a.1<=q.length/\ -1<=a.2/\a.2<=2000/\O (sS facts (q.map (·.1)) y=(uB facts y ((q.map (·.1)).drop k) k a).1)/\O (Below w.heap.size w wr)/\O (mP wr w.heap.size y)) (fun _ _ i _=>q.length-(intOf i).toNat);case atStart=>exact⟨0,(0, -1),bL _,rfl,rfl,rfl,bL _,dE,dE,rfl,a9.o,M.o⟩
 case round=>
  clear a9 M;obtain⟨k,⟨r,c⟩,hk,rfl,rfl,rfl,ah,ai,aj,K,s,M⟩:=hrel;dsimp only at *;by_cases n:k<q.length
  ·obtain⟨b,aR,rfl,am,_⟩:=aw.o (fun e=>by rw[e]at n;exact absurd n (yR _));obtain⟨p0,p1,p2,p3⟩:=QAt.lit am n;have J:O _:=Rw facts y (q.map (·.1)) k (by rw[aY];exact n) (r,c);have X:q[k]∈q:=fG n;have a3:O _:=ax.o _ X;have a1:O _:=av.o _ X;have au:O _:=aq.o _ X;rw[aME n]at J;have q0:=aB s.o p0;have q1:=aB s.o p1;have q2:=aB s.o p2;have q3:=aB s.o p3;clear p0 p1 p2 p3 X am;generalize q[k]=p at *;obtain⟨⟨g,j,l,d⟩,vt⟩:=p;dsimp only at *;obtain⟨at_,D,rfl,_⟩:=id a3.o;go_upto_region 5 with fail;have bT:=(aG wr.heap.size wr).alloc (aH _) (.cells #[.int .i64 g, .int .i64 j, .int .i64 l, .slice at_ d.length D] 109);have x:O _:=bA wr (.cells #[.int .i64 g, .int .i64 j, .int .i64 l, .slice at_ d.length D] 109);have U:O _:=s.o.trans (bT.mono s.o.size);have a6:O (mP (wr.alloc (.cells #[.int .i64 g, .int .i64 j, .int .i64 l, .slice at_ d.length D] 109)) w.heap.size y):=mP.z M.o bT;clear q0 q1 q2 q3 bT s M;generalize wr.alloc (.cells #[.int .i64 g, .int .i64 j, .int .i64 l, .slice at_ d.length D] 109)=H at *;generalize wr.heap.size=u at *;(have l0:H.cell? ⟨u,0,none⟩=some (.int .i64 g):=cH x.o);(have l1:H.cell? ⟨u,1,none⟩=some (.int .i64 j):=cH x.o);(have l2:H.cell? ⟨u,2,none⟩=some (.int .i64 l):=cH x.o);(have l3:H.cell? ⟨u,3,none⟩=some (.slice at_ d.length D):=cH x.o);have S:O (Below w0.heap.size w0 H):=a8.o.trans (U.o.mono a8.o.size);go_wp2_with(refine pK (bI rfl) _ rfl _ rfl y a6.o Y ?_);refine Calls.mono (aXK ⟨g,j,l,d⟩ _ y H (fV a3.o S.o) Y a1.o.1.t a1.o.1.k4 (by have :=a1.o.2;dsimp only at this ⊢;omega)) ?_;rintro _ m ⟨rfl,P⟩;have T:O _:=U.o.trans (P.mono U.o.size);have V:O (mP m w.heap.size y):=mP.z a6.o P;have a2:O _:=(P.block _ (cV x.o)).trans x.o;have a0:O (Below w0.heap.size w0 m):=S.o.trans (P.mono S.o.size);clear P l0 l1 l2 l3 U a6 x S;cases R:iT y ⟨g,j,l,d⟩
   ·(have G:O (tI facts y ⟨g,j,l,d⟩ k (r,c)=(r,c)):=by show _=_;unfold tI;rw[R];rfl);clear R;go_wp2_with fail;go_roundw;(case rel=>exact⟨k+1,(r,c),n,gN,rfl,rfl,ah,ai,aj,by show _=_;rw[K.o,J.o,G.o],T.o,V.o⟩);case measure=>exact mI
   have ar:O _:=au.o R;have ac:O _:=R;clear R;go_upto_region 7 with fail;have N:=(aG m.heap.size m).alloc (aH _) (.cells #[.int .i64 0] 3);have ag:=bA m (.cells #[.int .i64 0] 3);have HC:O _:=aL2 (NB:=m.heap.size) (hh:=263) (cb:=#[.pointer (some ⟨m.heap.size,0,none⟩)]) facts ⟨g,j,l,d⟩ y vf (.slice at_ d.length D) m (m.alloc (.cells #[.int .i64 0] 3)) 0 N (bQ HF.o a0.o) oM ao.o (fV a3.o a0.o) ar.o Y (bLC m.heap.size) he ag (Ov _ 0 (by have :=Gb facts ⟨g,j,l,d⟩ y;omega));have a4:O (mP (m.alloc (.cells #[.int .i64 0] 3)) w.heap.size y):=mP.z V.o N;have L:O _:=(N.block _ (cV a2.o)).trans a2.o;have F:O _:=T.o.trans (N.mono T.o.size);have ad:O (w.heap.size<m.heap.size):=cV V.o;have aN:=Gb facts ⟨g,j,l,d⟩ y;rw[Gh]at HC;generalize ak:(mO facts ⟨g,j,l,d⟩ y).length=C at *;have aa:O _:=ak;clear N ag ak;generalize m.alloc (.cells #[.int .i64 0] 3)=Z at *;(have l0:Z.cell? ⟨u,0,none⟩=some (.int .i64 g):=cH L.o);(have l1:Z.cell? ⟨u,1,none⟩=some (.int .i64 j):=cH L.o);(have l2:Z.cell? ⟨u,2,none⟩=some (.int .i64 l):=cH L.o);(have l3:Z.cell? ⟨u,3,none⟩=some (.slice at_ d.length D):=cH L.o);go_wp2_with(refine pK (bI rfl) _ rfl _ rfl y a4.o Y ?_);refine Calls.mono HC.o ?_;rintro _ w4 ⟨rfl,a7,E⟩;rw[eP]at a7;have I:O (Below w.heap.size w w4):=⟨E.os.trans F.o.os,E.tape.trans F.o.tape,E.output.trans F.o.output,bP F.o.size E.size,fun k hk=>(E.low k (by have :=ad.o;omega)).trans (F.o.block k hk)⟩;have a5:O (mP w4 w.heap.size y):=(E.low _ ad.o).trans a4.o;(have n0:w4.cell? ⟨m.heap.size,0,none⟩=some (.int .i64 C):=cH a7);clear l0 l1 l2 l3 a7 E HC L F a4 T V a2 a0;generalize m.heap.size=NX at *;by_cases Q:c<0\/(C:Int)<c
   ·(have G:O (tI facts y ⟨g,j,l,d⟩ k (r,c)=(k,(C:Int))):=by show _=_;unfold tI;rw[ac.o,if_pos rfl,aa.o,if_pos Q]);by_cases W:c<0
    ·have g1:decide (c<0)=true:=aP W;clear Q W;go_wp2_with fail;go_quiet(fail);go_wp2_with fail;go_roundw;(case rel=>exact⟨k+1,(k,(C:Int)),n,gN,rfl,rfl,by dsimp only;omega,by dsimp only;omega,by dsimp only;omega,by show _=_;rw[K.o,J.o,G.o],I.o.trans ((fB _ _).mono I.o.size),mP.z a5.o (fB _ _)⟩);case measure=>exact mI
    have g1:decide (c<0)=false:=aF W;have g2:decide ((C:Int)<c)=true:=aP oM;clear Q W;go_wp2_with fail;go_quiet(fail);go_wp2_with fail;go_roundw;(case rel=>exact⟨k+1,(k,(C:Int)),n,gN,rfl,rfl,by dsimp only;omega,by dsimp only;omega,by dsimp only;omega,by show _=_;rw[K.o,J.o,G.o],I.o.trans ((fB _ _).mono I.o.size),mP.z a5.o (fB _ _)⟩);case measure=>exact mI
   (have G:O (tI facts y ⟨g,j,l,d⟩ k (r,c)=(r,c)):=by show _=_;unfold tI;rw[ac.o,if_pos rfl,aa.o,if_neg Q]);have g1:decide (c<0)=false:=aF oM;have g2:decide ((C:Int)<c)=false:=aF oM;clear Q;go_wp2_with fail;go_roundw;(case rel=>exact⟨k+1,(r,c),n,gN,rfl,rfl,ah,ai,aj,by show _=_;rw[K.o,J.o,G.o],I.o,a5.o⟩);case measure=>exact mI
  have aJ:decide (k<q.length)=false:=aF n;(have HE:O (sS facts (q.map (·.1)) y=r):=by show _=_;rw[K.o,bG (by rw[aY];omega)];rfl);go_wp2_with fail;go_ret;exact⟨by rw[HE.o];rfl,s.o⟩
theorem aDS{σ:Type}{step:σ->cB->σ×Bool}{b:σ->cB->Prop}{P:cB->Prop}:∀(L:List cB)(s:σ),JU step b s L->(∀x,x∈L->P x)->JU step (fun s x=>b s x/\P x) s L
 |[],_,_,_=>trivial
 |x::L,_,h,hp=>⟨⟨h.1,hp x dL⟩,fun c=>aDS L _ (h.2 c) (fun z d=>hp z (bY _ d))⟩
theorem RI{σ:Type}(step:σ->cB->σ×Bool)(s:σ)(x:cB):iR step s [x]=step s x:=by
 rw[uQ];show(if(step s x).2=true then((step s x).1,true)else((step s x).1,false))=_
 cases h:step s x with
 |mk a b=>cases b<;>rfl
def KZ(l:cX):Prop:=∀t,t∈l.v->t.var<0->dJ t.n=true
theorem Fq{m:Nat}{y:cB}{t:eE}(hg:sQ m y)(c:t.var<0->dJ t.n=true)(b:cY y.q t=true):dJ (fH y.j t)=true:=by
 unfold fH;by_cases h:t.var<0
 ·rw[if_pos h];exact c h
 rw[if_neg h];refine hg.nm _ ?_;unfold cY at b;rw[yQ]at b;rcases b with b|b
 ·exact absurd (by simpa using b) h
 exact b
theorem aEG{facts:List aQ}{l:cX}{y:cB}{m:Nat}(hg:sQ m y)(f:m<=8)(b:Vw m facts l)(ht:l.v.length<=1000)(c:KZ l)(hr:iT y l=true):aFG facts l y:=by
 (have d:l.kind=4->(cY y.q (cQ l.v 0)&&cY y.q (cQ l.v 1))=true:=fun h=>by unfold iT at hr;rw[if_neg oM,if_pos h]at hr;exact hr);refine⟨b.mono f,ht,fun h=>?_,fun h=>?_⟩
 ·have e:=b.k4 h;exact Fq hg (c _ (pD oM)) (by have :=d h;rw[eI]at this;exact this.1)
 have e:=b.k4 h;exact Fq hg (c _ (pD oM)) (by have :=d h;rw[eI]at this;exact this.2)
theorem QAt.block{w w':World}{b off:Nat}{q:List Lv}(h:QAt w ⟨b,off,none⟩ q)(d:w'.heap[b]?=w.heap[b]?):QAt w' ⟨b,off,none⟩ q:=by intro j u e;have c:=h j u e;rw[Addr.add_lit]at c ⊢;exact(qI d).trans c
theorem QAt.take{w:World}{b off:Nat}{q:List Lv}(h:QAt w ⟨b,off,none⟩ q)(i:Nat):QAt w ⟨b,off,none⟩ (q.take i):=by intro j u c;refine h j u ?_;(have e:pJ q=pJ (q.take i)++pJ (q.drop i):=by rw[<-Ck,rB]);rw[e,lB (gH.mp c).1];exact c
theorem QAt.drop{w:World}{b off:Nat}{q:List Lv}(h:QAt w ⟨b,off,none⟩ q)(i:Nat)(d:i<=q.length):QAt w ⟨b,off+i*4,none⟩ (q.drop i):=by intro j u f;(have e:pJ q=pJ (q.take i)++pJ (q.drop i):=by rw[<-Ck,rB]);(have g:(pJ (q.take i)).length=i*4:=by rw[Cp,dV,FT d]);have c:=h (i*4+j) u (by rw[e,kS oM,g,yG];exact f);rw[Addr.add_lit]at c ⊢;rw[FY];exact c
theorem PN.kp{w0:World}{NB:Nat}{w w':World}{v:Value}{q:List Lv}(h:PN w0 NB w v q)(g:Kp w0.heap.size NB w w'):PN w0 NB w' v q:=by
 obtain⟨⟨a,cap,e,m,p⟩,ht⟩:=h;refine⟨⟨a,cap,e,m,fun n=>?_⟩,ht⟩;obtain⟨b,l,f,i,d⟩:=p n;rcases d with d|⟨d,c,j⟩
 ·exact⟨b,l,f,i.block (g.low b d), .inl d⟩
 have k:=g.keep b c 109 j d dE;exact⟨b,l,f,i.block (k.trans j.symm), .inr ⟨d,c,k⟩⟩
theorem aV1{w0 w:World}{NB X co:Nat}{ao:Option Addr}{r:List Lv}(h:w.ownsRow X 109 4 (.slice ao r.length co) r.length (pJ r))(m:NB<X)(ht:∀p,p∈r->iX w0 p.2 p.1.v):PN w0 NB w (.slice ao r.length co) r:=by
 refine⟨⟨ao,co,rfl,?_,fun l=>?_⟩,ht⟩
 ·rcases h.2 with⟨b,c⟩|⟨g,cap,d,b,c,i,j,_⟩
  ·rw[c];exact bL _
  injection b with e k f;rw[f];exact j
 rcases id h.2 with⟨b,c⟩|⟨g,cap,d,b,c,i,j,_⟩
 ·exact absurd (oJ.mp c) l
 injection b with e k f;subst e;exact⟨g,0,rfl,h.cells rfl, .inr ⟨oM,d,i⟩⟩
structure Uj {σ:Type} (I:σ->World->Prop) (w0:World) (NB X OB:Nat) (vf vo:Value) (hh:Nat) (cb:Array Value) (r:List Lv) (s:σ) (w:World):Prop where
 i:I s w
 f:w.heap[X]?=some (.cells #[vf] 30)
 o:w.heap[OB]?=some (.cells #[vo] 95)
 t:w.heap[X+2]?=some (.cells #[.func (.func hh) #[] cb] 278)
 b:PN w0 NB w vo r
 l:Below w0.heap.size w0 w
theorem Uj.kp{σ:Type}{I:σ->World->Prop}{w0:World}{NB X OB:Nat}{e g:Value}{hh:Nat}{cb:Array Value}{r:List Lv}{s d:σ}{w w':World}(h:Uj I w0 NB X OB e g hh cb r s w)(j:NB<X)(hO:NB<OB)(i:I d w')(c:Kp w0.heap.size NB w w'):Uj I w0 NB X OB e g hh cb r d w':=
 ⟨i,c.keep _ _ _ h.f oM dE,c.keep _ _ _ h.o oM dE,c.keep _ _ _ h.t oM dE,h.b.kp c,c.z h.l⟩
theorem aWA{σ:Type}{step:σ->cB->σ×Bool}{m:σ->cB->Prop}{I:σ->World->Prop}{NB hh X OB:Nat}{cb:Array Value}{facts:List aQ}{ru:cA}{r:List Lv}{n cf co:Nat}{af ao:Option Addr}{w0:World}
 (j:Hg w0.heap.size NB hh cb step m I)
 (u:∀(y:cB)(w:World)(s:σ),Below w0.heap.size w0 w->PN w0 NB w (.slice ao r.length co) r->sQ ru.vars.toNat y->uZ ru y.q (r.map (·.1))->I s w->JU step m s (lA facts n (r.map (·.1)) y)->Calls Tryz.prog 234 #[.slice af facts.length cf, .slice ao r.length co,fY y, .func (.func hh) #[] cb] w fun e d=>e=.returned (.bool (iR step s (lA facts n (r.map (·.1)) y)).2)/\I (iR step s (lA facts n (r.map (·.1)) y)).1 d/\Kp w0.heap.size NB w d)
 (E:NB<X) (hO:NB<OB) (s:σ) (w:World) (x:cB) (g:Uj I w0 NB X OB (.slice af facts.length cf) (.slice ao r.length co) hh cb r s w) (G:JU step m s (lA facts n (r.map (·.1)) x)) (hg:sQ ru.vars.toNat x) (F:uZ ru x.q (r.map (·.1))):
 Calls Tryz.prog 247 (#[fY x]++#[.pointer (some ⟨X,0,none⟩), .pointer (some ⟨OB,0,none⟩), .pointer (some ⟨X+2,0,none⟩)]) w fun e d=>e=.returned (.bool (iR step s (lA facts n (r.map (·.1)) x)).2)/\Uj I w0 NB X OB (.slice af facts.length cf) (.slice ao r.length co) hh cb r (iR step s (lA facts n (r.map (·.1)) x)).1 d/\Kp w0.heap.size NB w d:=by
 show Calls Tryz.prog 247 #[fY x, .pointer (some ⟨X,0,none⟩), .pointer (some ⟨OB,0,none⟩), .pointer (some ⟨X+2,0,none⟩)] w _;have k:=(aG w.heap.size w).alloc (aH _) (.cells (eY x) 277);have HK:O (Kp w0.heap.size NB w (w.alloc (.cells (eY x) 277))):=Kp.of_below k (j.room _ _ g.i).1;have c:O (Uj I w0 NB X OB (.slice af facts.length cf) (.slice ao r.length co) hh cb r s (w.alloc (.cells (eY x) 277))):=Uj.kp g E hO (j.grow _ _ _ g.i k) HK.o;have J:O (mP (w.alloc (.cells (eY x) 277)) w.heap.size x):=bA w _;have p:O _:=u x _ s c.o.l c.o.b hg F c.o.i G;have N:=hg.wf;(have c0:(w.alloc (.cells (eY x) 277)).cell? ⟨X,0,none⟩=some (.slice af facts.length cf):=cH c.o.f);(have K:(w.alloc (.cells (eY x) 277)).cell? ⟨OB,0,none⟩=some (.slice ao r.length co):=cH c.o.o);(have L:(w.alloc (.cells (eY x) 277)).cell? ⟨X+2,0,none⟩=some (.func (.func hh) #[] cb):=cH c.o.t);clear k j u g G hg F;generalize iR step s (lA facts n (r.map (·.1)) x)=R at *
 go_enter Tryz.func247,Tryz.ntmps247
 go_upto_region 1 with fail;generalize w.alloc (.cells (eY x) 277)=P at *;go_wp2_with(refine pK (bI rfl) _ rfl _ rfl x J.o N ?_);refine Calls.mono p.o ?_;rintro e Q ⟨M,C,D⟩;subst M;have H:O _:=C;clear C c0 K L p;go_wp2_with fail;go_ret;exact⟨rfl,Uj.kp c.o E hO H.o D,HK.o.trans D⟩
theorem bAO{σ:Type}{step:σ->cB->σ×Bool}{f:σ->cB->Prop}{I:σ->World->Prop}{NB hh X OB:Nat}{cb:Array Value}{facts:List aQ}{ru:cA}{r:List Lv}{n cf co:Nat}{af ao:Option Addr}{w0:World}
 (c:Hg w0.heap.size NB hh cb step f I)
 (l:∀(y:cB)(w:World)(s:σ),Below w0.heap.size w0 w->PN w0 NB w (.slice ao r.length co) r->sQ ru.vars.toNat y->uZ ru y.q (r.map (·.1))->I s w->JU step f s (lA facts n (r.map (·.1)) y)->Calls Tryz.prog 234 #[.slice af facts.length cf, .slice ao r.length co,fY y, .func (.func hh) #[] cb] w fun e k=>e=.returned (.bool (iR step s (lA facts n (r.map (·.1)) y)).2)/\I (iR step s (lA facts n (r.map (·.1)) y)).1 k/\Kp w0.heap.size NB w k)
 (g:NB<X) (hO:NB<OB):Hg w0.heap.size NB 247 #[.pointer (some ⟨X,0,none⟩), .pointer (some ⟨OB,0,none⟩), .pointer (some ⟨X+2,0,none⟩)] (fun s x=>iR step s (lA facts n (r.map (·.1)) x)) (fun s x=>JU step f s (lA facts n (r.map (·.1)) x)/\sQ ru.vars.toNat x/\uZ ru x.q (r.map (·.1))) (Uj I w0 NB X OB (.slice af facts.length cf) (.slice ao r.length co) hh cb r):=
 ⟨fun s w x b d _=>aWA c l g hO s w x b d.1 d.2.1 d.2.2,fun _ _ _ b j=>Uj.kp b g hO (c.grow _ _ _ b.i j) (Kp.of_below j (c.room _ _ b.i).1),fun _ _ b=>c.room _ _ b.i⟩
theorem QAt.z{w w':World}{a:Addr}{q:List Lv}(h:QAt w a q)(b:Below w.heap.size w w'):QAt w' a q:=fun j u c=>WL b (h j u c)
theorem XJ(w:World)(a b c:Obj):Below w.heap.size w (((w.alloc a).alloc b).alloc c):=(((aG _ _).alloc (aH _) _).alloc sI _).alloc sO _
theorem ZV{α β:Type}(f:α->β):∀(l:List α)(i:Nat),(l.eraseIdx i).map f=(l.map f).eraseIdx i
 |[],_=>by simp
 |_::_,0=>rfl
 |x::l,i+1=>by show f x::(l.eraseIdx i).map f=f x::(l.map f).eraseIdx i;rw[ZV f l i]
def IE(off b i:Nat):Nat:=if b=i+1 then off else off+(i+1)*4
def bHL(b off n d i:Nat)(e:Nat)(c:Value):Prop:=
 match e with
 |21=>c=(.slice (some ⟨b,off,none⟩) n d:Value)
 |22=>c=(.int .i64 i:Value)
 |23=>c=(.slice (some ⟨b,off,none⟩) i d:Value)
 |24=>c=(.slice (some ⟨b,off,none⟩) n d:Value)
 |25=>c=(.int .i64 i:Value)
 |26=>c=(.int .i64 ((i+1:Nat):Int):Value)
 |27=>c=(.slice (some ⟨b,IE off d i,none⟩) (n-(i+1)) (d-(i+1)):Value)
 |_=>True
def aHO(b off n d i B:Nat)(r:List Lv)(e:Nat)(f:Value)(g:World):Prop:=
 if e=28 then∃c,f=.slice (some ⟨c,0,none⟩) 2 2/\g.heap[c]?=some (.cells #[.slice (some ⟨b,off,none⟩) i d, .slice (some ⟨b,IE off d i,none⟩) (n-(i+1)) (d-(i+1))] 95)
 else if e=29 then g.ownsRow B 109 4 f r.length (pJ r)
 else if e=10 then∃c,f=.pointer (some ⟨c,0,none⟩)/\B<=c/\g.heap[c]?=some (.cells #[.slice none 0 0] 95)else bHL b off n d i e f
theorem aLP(b off n k i B:Nat)(r:List Lv)(e:Nat)(p:Value)(W j:World)(g:Below W.heap.size W j)(h:aHO b off n k i B r e p W):aHO b off n k i B r e p j:=by
 unfold aHO at h ⊢;by_cases ht:e=28
 ·rw[if_pos ht]at h ⊢;obtain⟨c,f,d⟩:=h;exact⟨c,f,(g.block c (aK.mp d).1).trans d⟩
 rw[if_neg ht]at h ⊢;by_cases l:e=29
 ·rw[if_pos l]at h ⊢;exact bO h g
 rw[if_neg l]at h ⊢;by_cases m:e=10
 ·rw[if_pos m]at h ⊢;obtain⟨c,f,q,d⟩:=h;exact⟨c,f,q,(g.block c (aK.mp d).1).trans d⟩
 rw[if_neg m]at h ⊢;exact h
def bEF(d:Value)(b off n c i X OB:Nat)(x:cX)(e:Value)(y:cB):Nat->Value
 |30=>d
 |31=>.slice (some ⟨b,off,none⟩) n c
 |32=>.int .i64 i
 |33=>.pointer (some ⟨b,off+i*4,none⟩)
 |34=>.agg #[.int .i64 x.kind, .int .i64 x.op, .int .i64 x.g,e]
 |35=>fY y
 |36=>.func (.func 247) #[] #[.pointer (some ⟨X,0,none⟩), .pointer (some ⟨OB,0,none⟩), .pointer (some ⟨X+2,0,none⟩)]
 |_=>.bool false
theorem aV9{σ:Type}{step:σ->cB->σ×Bool}{m:σ->cB->Prop}{I:σ->World->Prop}{NB hh:Nat}{cb:Array Value}{facts:List aQ}{w0:World}{af:Option Addr}{cf:Nat}(b:Hg w0.heap.size NB hh cb step m I)(H:∀args w,(callFunc hh args).run Tryz.prog w=.ok (.enter hh args) w)(y:cB)(n:Value)(w:World)(s:σ)(D:PN w0 NB w n [])(l:lI 8 y)(c:I s w)(k:m s y):
 Calls Tryz.prog 234 #[.slice af facts.length cf,n,fY y, .func (.func hh) #[] cb] w fun e p=>e=.returned (.bool (step s y).2)/\I (step s y).1 p/\Kp w0.heap.size NB w p:=by
 obtain⟨⟨F,G,rfl,_,_⟩,_⟩:=D;obtain⟨x,g,i⟩:=YI w (.cells #[.slice af facts.length cf] 30) (.cells (eY y) 277) (.cells #[.func (.func hh) #[] cb] 278);have d:=XJ w (.cells #[.slice af facts.length cf] 30) (.cells (eY y) 277) (.cells #[.func (.func hh) #[] cb] 278);have r:O (mP (((w.alloc (.cells #[.slice af facts.length cf] 30)).alloc (.cells (eY y) 277)).alloc (.cells #[.func (.func hh) #[] cb] 278)) (w.heap.size+1) y):=g;have HK:O (Kp w0.heap.size NB w (((w.alloc (.cells #[.slice af facts.length cf] 30)).alloc (.cells (eY y) 277)).alloc (.cells #[.func (.func hh) #[] cb] 278))):=Kp.of_below d (b.room _ _ c).1;have f:O _:=b.call s _ y (b.grow _ _ _ c d) k l;(have u:(((w.alloc (.cells #[.slice af facts.length cf] 30)).alloc (.cells (eY y) 277)).alloc (.cells #[.func (.func hh) #[] cb] 278)).cell? ⟨w.heap.size+2,0,none⟩=some (.func (.func hh) #[] cb):=cH i);clear x g i d b c k
 go_enter Tryz.func234,Tryz.ntmps234
 go_upto_region 1 with fail;generalize (((w.alloc (.cells #[.slice af facts.length cf] 30)).alloc (.cells (eY y) 277)).alloc (.cells #[.func (.func hh) #[] cb] 278))=J at *;go_wp2_with(refine pK (bI rfl) _ rfl _ rfl y r.o l ?_);refine Calls.mono f.o ?_;rintro e K ⟨E,j,C⟩;subst E;have q:O _:=j;clear j u f;go_wp2_with fail;go_ret;exact⟨rfl,q.o,HK.o.trans C⟩
theorem aWB{σ:Type}{step:σ->cB->σ×Bool}{a6:σ->cB->Prop}{I:σ->World->Prop}{NB hh:Nat}{cb:Array Value}{facts:List aQ}{ru:cA}{w0:World}{af:Option Addr}{cf:Nat}(hF:bS w0 (.slice af facts.length cf) facts)(ci:facts.length<=1000)(aT:∀f,f∈facts->gD f)(T:aDR facts ru)(hN:∀f,f∈facts->∀n,n∈f.args->dJ n=true)(am:∀l,l∈ru.body->l.v.length<=1000)(hC:∀l,l∈ru.body->KZ l)(TL:Hg w0.heap.size NB hh cb step a6 I)(n:Nat)(IH:∀(q:List Lv)(y:cB)(vb:Value)(w:World)(s:σ),q.length=n->n<=1000->Below w0.heap.size w0 w->PN w0 NB w vb q->sQ ru.vars.toNat y->uZ ru y.q (q.map (·.1))->I s w->JU step a6 s (lA facts n (q.map (·.1)) y)->Calls Tryz.prog 234 #[.slice af facts.length cf,vb,fY y, .func (.func hh) #[] cb] w fun e M=>e=.returned (.bool (iR step s (lA facts n (q.map (·.1)) y)).2)/\I (iR step s (lA facts n (q.map (·.1)) y)).1 M/\Kp w0.heap.size NB w M):
 ∀(q:List Lv)(y:cB)(vb:Value)(w:World)(s:σ),q.length=(n+1)->(n+1)<=1000->Below w0.heap.size w0 w->PN w0 NB w vb q->sQ ru.vars.toNat y->uZ ru y.q (q.map (·.1))->I s w->JU step a6 s (lA facts (n+1) (q.map (·.1)) y)->Calls Tryz.prog 234 #[.slice af facts.length cf,vb,fY y, .func (.func hh) #[] cb] w fun e M=>e=.returned (.bool (iR step s (lA facts (n+1) (q.map (·.1)) y)).2)/\I (iR step s (lA facts (n+1) (q.map (·.1)) y)).1 M/\Kp w0.heap.size NB w M:=by
 intro q y vb w s aq cr ai hQ U hL E bq;obtain⟨⟨ab,m,rfl,cq,bz⟩,a5⟩:=hQ;obtain⟨b,D,rfl,ar,bN⟩:=bz (fun e=>by rw[e]at aq;cases aq);(have bv:(q.map (·.1)).length=n+1:=by rw[aY];exact aq);obtain⟨hi,hr,ak⟩:=KE T bv U.wf hL;obtain⟨h0,h1,h2⟩:=YI w (.cells #[.slice af facts.length cf] 30) (.cells (eY y) 277) (.cells #[.func (.func hh) #[] cb] 278);have an:=XJ w (.cells #[.slice af facts.length cf] 30) (.cells (eY y) 277) (.cells #[.func (.func hh) #[] cb] 278);have au:=TL.room _ _ E;have a3:∀p,p∈q->p.1∈ru.body:=fun p N=>hL.sub _ (nW N);have HC:O _:=bBJ facts q y (.slice af facts.length cf) (.slice (some ⟨b,D,none⟩) q.length m) w0 (((w.alloc (.cells #[.slice af facts.length cf] 30)).alloc (.cells (eY y) 277)).alloc (.cells #[.func (.func hh) #[] cb] 278)) NB (ai.trans (an.mono ai.size)) hF ci aT (PN.kp ⟨⟨_,m,rfl,cq,fun _=>⟨b,D,rfl,ar,bN⟩⟩,a5⟩ (Kp.of_below an au.1)) oM U.wf (fun p N=>⟨(T.lit _ (a3 p N)).mono T.v8,am _ (a3 p N)⟩) (fun p N cs=>aEG U T.v8 (T.lit _ (a3 p N)) (am _ (a3 p N)) (hC _ (a3 p N)) cs);have al:iR step s (lA facts (n+1) (q.map (·.1)) y)=iR (fun s z=>iR step s (lA facts n ((q.map (·.1)).eraseIdx (sS facts (q.map (·.1)) y)) z)) s (mO facts (dR (q.map (·.1)) (sS facts (q.map (·.1)) y)) y):=Pd step _ _ s;have br:JU step a6 s ((mO facts (dR (q.map (fun p:Lv=>p.1)) (sS facts (q.map (fun p:Lv=>p.1)) y)) y).flatMap (lA facts n ((q.map (fun p:Lv=>p.1)).eraseIdx (sS facts (q.map (fun p:Lv=>p.1)) y)))):=bq;have aj:=aDS (P:=fun z=>sQ ru.vars.toNat z/\uZ ru z.q ((q.map (·.1)).eraseIdx (sS facts (q.map (·.1)) y))) _ s (Wg step a6 _ _ s br) (fun z hz=>⟨Wj T.v8 U ak hN hz,zN hL hi hr hz ak⟩);have b1:=BW hi;generalize iR step s (lA facts (n+1) (q.map (·.1)) y)=H at *;generalize sS facts (q.map (·.1)) y=i at *;(have aa:i<q.length:=by rw[aY]at hi;exact hi);have aC:O (aFG facts (dR (q.map (·.1)) i) y):=aEG U T.v8 ak (am _ (hL.sub _ b1)) (hC _ (hL.sub _ b1)) hr;rw[<-ZV]at al aj;rw[aME aa]at al aj aC;obtain⟨bU,bW,bZ,c4⟩:=QAt.lit ar aa;have b2:=a5 _ (fG aa);generalize q[i]=p at *;obtain⟨x,vx⟩:=p;dsimp only at *;obtain⟨at_,Y,rfl,_⟩:=id b2;have HP:O _:=TO bU (TO bW (TO bZ c4));have bl:O (iX w0 (.slice at_ x.v.length Y) x.v):=b2;have bf:O _:=al;have bd:O _:=aj;have bk:O (∀p,p∈q.eraseIdx i->iX w0 p.2 p.1.v):=fun p N=>a5 p (Jy N);(have bw:(q.eraseIdx i).length=n:=by rw[List.length_eraseIdx,if_pos aa];omega);have bb:O (∀(z:cB)(vo:Value)(M:World)(V:σ),Below w0.heap.size w0 M->PN w0 NB M vo (q.eraseIdx i)->sQ ru.vars.toNat z->uZ ru z.q ((q.eraseIdx i).map (·.1))->I V M->JU step a6 V (lA facts n ((q.eraseIdx i).map (·.1)) z)->Calls Tryz.prog 234 #[.slice af facts.length cf,vo,fY z, .func (.func hh) #[] cb] M fun e K=>e=.returned (.bool (iR step V (lA facts n ((q.eraseIdx i).map (·.1)) z)).2)/\I (iR step V (lA facts n ((q.eraseIdx i).map (·.1)) z)).1 K/\Kp w0.heap.size NB M K):=fun z vo M V=>IH (q.eraseIdx i) z vo M V bw oM;have be:O (QAt w ⟨b,D,none⟩ q):=ar;have bh:O ((∀p,p∈q.take i->∃J n c,p.2=.slice J n c)/\(∀p,p∈q.drop (i+1)->∃J n c,p.2=.slice J n c)):=⟨fun p N=>by obtain⟨a1,c1,e1,_⟩:=a5 p (mC N);exact⟨_,_,_,e1⟩,fun p N=>by obtain⟨a1,c1,e1,_⟩:=a5 p (uV N);exact⟨_,_,_,e1⟩⟩;have ag:O ((q.take i).length=i/\(q.drop (i+1)).length=q.length-(i+1)):=⟨by rw[dV];omega,xJ⟩;have b6:O (q.take i++q.drop (i+1)=q.eraseIdx i/\(q.eraseIdx i).length=(q.take i).length+(q.drop (i+1)).length):=⟨(List.eraseIdx_eq_take_drop_succ ..).symm,by rw[List.eraseIdx_eq_take_drop_succ,aV]⟩;have aR:O (mP (((w.alloc (.cells #[.slice af facts.length cf] 30)).alloc (.cells (eY y) 277)).alloc (.cells #[.func (.func hh) #[] cb] 278)) (w.heap.size+1) y):=h1;have ax:O _:=h0;have aJ:O _:=h2;have aw:O _:=an;have aN:O _:=TL;have av:O _:=ai;have b9:O _:=hF;have b8:O _:=aT;have bc:O _:=E;have c9:O _:=U;have b3:=U.wf;have b0:=au.2;have cn:=au.1;have cN:q.length<=1000:=oM;(have c0:(((w.alloc (.cells #[.slice af facts.length cf] 30)).alloc (.cells (eY y) 277)).alloc (.cells #[.func (.func hh) #[] cb] 278)).cell? ⟨w.heap.size,0,none⟩=some (.slice af facts.length cf):=cH h0);have gl:decide (q.length=0)=false:=aF oM;have cL:((q.length:Int)==0)=false:=gT.mpr oM;clear hF aT T hN am hC TL IH bz ar bN a5 bv hi hr ak h0 h1 h2 an au a3 al aj b1 bU bW bZ c4 b2 bw E bq br ai hL U aq cr
 go_enter Tryz.func234,Tryz.ntmps234
 go_upto_region 1 with fail;generalize (((w.alloc (.cells #[.slice af facts.length cf] 30)).alloc (.cells (eY y) 277)).alloc (.cells #[.func (.func hh) #[] cb] 278))=w1 at *;go_wp2_with(refine pK (bI rfl) _ rfl _ rfl y aR.o b3 ?_);refine Calls.mono HC.o ?_;rintro _ K ⟨rfl,a0⟩;have ae:O (Below w.heap.size w K):=aw.o.trans (a0.mono aw.o.size);have aD:O (w.heap.size<=K.heap.size):=ae.o.size;have az:O (K.heap[w.heap.size]?=some (.cells #[.slice af facts.length cf] 30)):=(a0.block _ (cV ax.o)).trans ax.o;have bn:O (mP K (w.heap.size+1) y):=mP.z aR.o a0;have aL:O (K.heap[w.heap.size+2]?=some (.cells #[.func (.func hh) #[] cb] 278)):=(a0.block _ (cV aJ.o)).trans aJ.o;have c6:O (∀d,Below K.heap.size K d->QAt d ⟨b,D,none⟩ (q.take i)):=fun d Z=>((QAt.take be.o i).z ae.o).z Z;have c7:O (∀d,Below K.heap.size K d->QAt d ⟨b,IE D m i,none⟩ (q.drop (i+1))):=fun d Z=>by
  unfold IE;by_cases a2:m=i+1
  ·rw[bG oM];intro j u hj;simp[pJ]at hj
  rw[if_neg a2];exact((QAt.drop be.o (i+1) aa).z ae.o).z Z
 clear a0 c0 HC aR ax aJ aw;go_upto_region 4 with fail;refine qF (aHO b D q.length m i w.heap.size (q.eraseIdx i)) 10 dE kR kR kR (aLP b D q.length m i w.heap.size (q.eraseIdx i)) ?hopA ?htailA
 case hopA=>
  refine oC (fun a d h=>by have e1:a.eval (.tmp 1)=(.slice (some ⟨b,D,none⟩) q.length m:Value):=h.old 1;exact iQ (.slice (some ⟨b,D,none⟩) q.length m)) ?_;refine oC (fun a d h=>by have e9:a.eval (.tmp 9)=(.int .i64 i:Value):=h.old 9;exact iQ (.int .i64 i)) ?_;refine oC (fun a d h=>by have cu:a.eval (.tmp 21)=(.slice (some ⟨b,D,none⟩) q.length m:Value):=h.of 21;have cv:a.eval (.tmp 22)=(.int .i64 i:Value):=h.of 22;refine ZW (v:=.slice (some ⟨b,D,none⟩) i m) ?_;have ec:=kZ a;generalize a.eval=ev at *;clear h;go_simp;exact fun hx=>absurd hx oM) ?_;refine oC (fun a d h=>by have e1:a.eval (.tmp 1)=(.slice (some ⟨b,D,none⟩) q.length m:Value):=h.old 1;exact iQ (.slice (some ⟨b,D,none⟩) q.length m)) ?_;refine oC (fun a d h=>by have e9:a.eval (.tmp 9)=(.int .i64 i:Value):=h.old 9;exact iQ (.int .i64 i)) ?_;refine oC (fun a d h=>by have cy:a.eval (.tmp 25)=(.int .i64 i:Value):=h.of 25;refine ZW (v:=.int .i64 ((i+1:Nat):Int)) ?_;have ec:=kZ a;generalize a.eval=ev at *;clear h;go_simp;simp[IntKind.wrap,IntKind.bits,IntKind.signed];omega) ?_;refine oC (fun a d h=>?_) ?_
  ·have cx:a.eval (.tmp 24)=(.slice (some ⟨b,D,none⟩) q.length m:Value):=h.of 24;have cz:a.eval (.tmp 26)=(.int .i64 ((i+1:Nat):Int):Value):=h.of 26;refine ZW (v:=.slice (some ⟨b,IE D m i,none⟩) (q.length-(i+1)) (m-(i+1))) ?_;have ec:=kZ a;generalize a.eval=ev at *;clear h;go_simp;rw[if_pos ⟨oM,oM⟩];unfold IE;by_cases a2:m=i+1
   ·rw[if_pos a2,if_pos a2]
   rw[if_neg a2,if_neg a2]
  refine oC (fun a d h=>by have cw:a.eval (.tmp 23)=(.slice (some ⟨b,D,none⟩) i m:Value):=h.of 23;have cD:a.eval (.tmp 27)=(.slice (some ⟨b,IE D m i,none⟩) (q.length-(i+1)) (m-(i+1)):Value):=h.of 27;refine dG (v:=.slice (some ⟨d.heap.size,0,none⟩) 2 2) (w':=d.alloc (.cells #[.slice (some ⟨b,D,none⟩) i m, .slice (some ⟨b,IE D m i,none⟩) (q.length-(i+1)) (m-(i+1))] 95)) (bI rfl) ?_ (fun t ht=>by cases ht;exact⟨_,rfl,bA d _⟩) ((aG _ _).alloc (aH _) _);have ec:=kZ a;generalize a.eval=ev at *;clear h;go_simp) ?_;refine oC (fun a d h=>?_) ?_
  ·obtain⟨R,cE,bt⟩:∃R,a.eval (.tmp 28)=.slice (some ⟨R,0,none⟩) 2 2/\d.heap[R]?=some (.cells #[.slice (some ⟨b,D,none⟩) i m, .slice (some ⟨b,IE D m i,none⟩) (q.length-(i+1)) (m-(i+1))] 95):=h.of 28;refine fI (f:=245) (args:=#[(.slice (some ⟨R,0,none⟩) 2 2)]) (bI rfl) ?_ ?_
   ·have ec:=kZ a;have ef:=AO a;generalize a.eval=ev at *;clear h;go_simp
   refine Calls.mono (aLL (q.take i) (q.drop (i+1)) R ⟨b,D,none⟩ ⟨b,IE D m i,none⟩ m (m-(i+1)) d (c6.o d h.z) (c7.o d h.z) bh.o.1 bh.o.2 (by rw[ag.o.1,cM bt];rfl) (by rw[ag.o.2,cM bt];rfl) (by rw[ag.o.1];omega) (by rw[ag.o.2];omega)) ?_;rintro _ y2 ⟨v',rfl,a4,a0⟩;refine⟨_,rfl,fun t ht=>?_,a0⟩;cases ht;show y2.ownsRow _ _ _ _ (q.eraseIdx i).length (pJ (q.eraseIdx i));rw[b6.o.2,<-b6.o.1];exact gP a4 (bP aD.o h.z.size)
  refine oC (fun a d h=>by refine dG (v:=.pointer (some ⟨d.heap.size,0,none⟩)) (w':=d.alloc (.cells #[.slice none 0 0] 95)) (bI rfl) ?_ (fun t ht=>by cases ht;exact⟨_,rfl,bP aD.o h.z.size,bA d _⟩) ((aG _ _).alloc (aH _) _);have ec:=kZ a;generalize a.eval=ev at *;clear h;go_simp) ?_;exact OI.nil
 case htailA=>
  rintro⟨C,G⟩ d E;obtain⟨F,aS,bs,a9⟩:∃R,Act.eval ⟨C,G⟩ (.tmp 10)=.pointer (some ⟨R,0,none⟩)/\w.heap.size<=R/\d.heap[R]?=some (.cells #[.slice none 0 0] 95):=E.all 9 _ 10 dE rfl rfl;have a4:d.ownsRow w.heap.size 109 4 (Act.eval ⟨C,G⟩ (.tmp 29)) (q.eraseIdx i).length (pJ (q.eraseIdx i)):=E.all 8 _ 29 dE rfl rfl;obtain⟨J,Q,eo⟩:=bR a4;have bo:Act.eval ⟨C,G⟩ (.tmp 29)=.slice J (q.eraseIdx i).length Q:=eo;rw[bo]at a4;(have c0:d.cell? ⟨F,0,none⟩=some (.slice none 0 0):=cH a9);have f0:=bM a9 0;show wpOps Tryz.prog _ _ [10] _ _;rw[lH];refine LG rfl (bI rfl) rfl (w':=d.setCell ⟨F,0,none⟩ (.slice J (q.eraseIdx i).length Q)) ?_ ?_
  ·show Sem.run Tryz.prog (execOp (Act.eval ⟨C,G⟩) _) d=_;generalize Act.eval ⟨C,G⟩=ev at *;clear E;go_simp
  have a8:Below K.heap.size K d:=E.z;have cm:K.heap.size<=F\/F<K.heap.size:=oM;(have b4:O ((d.setCell ⟨F,0,none⟩ (.slice J (q.eraseIdx i).length Q)).heap[F]?=some (.cells #[.slice J (q.eraseIdx i).length Q] 95)):=by show _=_;rw[bD a9];rfl);have ah:O (∀(k:Nat)(c:Array Value)(t:TypeId),d.heap[k]?=some (.cells c t)->t≠95->(d.setCell ⟨F,0,none⟩ (.slice J (q.eraseIdx i).length Q)).heap[k]?=some (.cells c t)):=fun k c t hk ht=>by
   rw[eC (fun e=>?_)]
   ·exact hk
   subst e;rw[a9]at hk;injection hk with hk;injection hk with _ hk;exact ht hk.symm
  have bg:O ((d.setCell ⟨F,0,none⟩ (.slice J (q.eraseIdx i).length Q)).ownsRow w.heap.size 109 4 (.slice J (q.eraseIdx i).length Q) (q.eraseIdx i).length (pJ (q.eraseIdx i))):=pY a4 (fun k a ha=>ah.o k a 109 ha dE);have W:O (Below w.heap.size w (d.setCell ⟨F,0,none⟩ (.slice J (q.eraseIdx i).length Q))):=(ae.o.trans (a8.mono aD.o)).setCell (p:=⟨F,0,none⟩) bs _;have ad:=E.still;have ac:C.size=38:=E.size;obtain rfl:G=[]:=E.defers;have bp:C.getD 10 undef=.pointer (some ⟨F,0,none⟩):=aS;have b7:O (d.heap[w.heap.size]?=some (.cells #[(.slice af facts.length cf)] 30)):=(a8.block _ (cV az.o)).trans az.o;have bm:O (mP d (w.heap.size+1) y):=mP.z bn.o a8;have bi:O (d.heap[w.heap.size+2]?=some (.cells #[.func (.func hh) #[] cb] 278)):=(a8.block _ (cV aL.o)).trans aL.o;have ay:O _:=ah.o _ _ _ b7.o dE;have c8:O (mP _ (w.heap.size+1) y):=ah.o _ (eY y) 277 bm.o dE;have bj:O _:=ah.o _ _ _ bi.o dE;have ba:O (I s (d.setCell ⟨F,0,none⟩ (.slice J (q.eraseIdx i).length Q))):=aN.o.grow _ _ _ bc.o W.o;clear E a4 eo bo c0 f0 aS a8 cm b7 bm bi az bn aL a9;generalize d.setCell ⟨F,0,none⟩ (.slice J (q.eraseIdx i).length Q)=w5 at *;show Exit.then _ _ Exit.normal ⟨C,[]⟩ w5;obtain⟨fQ,hQ,L⟩:=oR [21,22,23,24,25,26,27,28,29,10] C _ (ac.trans rF) ad;clear ad ac;simp only[List.foldl_cons,List.foldl_nil,(hQ 10).trans bp]at L;clear bp hQ;simp only[List.setIfInBounds_toArray,List.set_cons_zero,List.set_cons_succ]at L;subst L;have a7:O (Below w0.heap.size w0 w5):=av.o.trans (W.o.mono av.o.size);have aO:O _:=bAO (ru:=ru) (r:=q.eraseIdx i) (n:=n) (facts:=facts) (af:=af) (cf:=cf) (ao:=J) (co:=Q) (X:=w.heap.size) (OB:=F) aN.o (fun z M V=>bb.o z _ M V) b0 (dS b0 bs);have b5:O (Uj I w0 NB w.heap.size F (.slice af facts.length cf) (.slice J (q.eraseIdx i).length Q) hh cb (q.eraseIdx i) s w5):=⟨ba.o,ay.o,b4.o,bj.o,aV1 bg.o b0 bk.o,a7.o⟩;(have c5:O (∀d,Below w5.heap.size w5 d->Calls Tryz.prog 246 #[.slice af facts.length cf, .agg #[.int .i64 x.kind, .int .i64 x.op, .int .i64 x.g, .slice at_ x.v.length Y],fY y, .func (.func 247) #[] #[.pointer (some ⟨w.heap.size,0,none⟩), .pointer (some ⟨F,0,none⟩), .pointer (some ⟨w.heap.size+2,0,none⟩)]] d fun e w6=>e=.returned (.bool H.2)/\I H.1 w6/\Kp w0.heap.size NB w w6):=fun d Z=>by refine Calls.mono (aL2 (NB:=NB) (hh:=247) (cb:=#[.pointer (some ⟨w.heap.size,0,none⟩), .pointer (some ⟨F,0,none⟩), .pointer (some ⟨w.heap.size+2,0,none⟩)]) facts x y (.slice af facts.length cf) (.slice at_ x.v.length Y) w0 d s (a7.o.trans (Z.mono a7.o.size)) b9.o oM b8.o bl.o aC.o b3 aO.o (oQ Tryz.func247 kR rfl) (aO.o.grow _ _ _ b5.o Z) bd.o) ?_;rintro e w6 ⟨h1,h2,h3⟩;rw[<-bf.o]at h1 h2;exact⟨h1,h2.i,((Kp.of_below W.o cn).trans (Kp.of_below Z a7.o.size)).trans h3⟩);(have cg:w5.cell? ⟨w.heap.size,0,none⟩=some (.slice af facts.length cf):=cH ay.o);have p0:=aB W.o HP.o.1;have p1:=aB W.o HP.o.2.1;have p2:=aB W.o HP.o.2.2.1;have p3:=aB W.o HP.o.2.2.2;clear a7 aO b5 bb bf bd bl aC HP bk bg b4 ay bj ba aN av b9 b8 bc c9;go_upto_region 5 with fail;refine qF (fun tQ vQ _=>vQ=bEF (.slice af facts.length cf) b D q.length m i w.heap.size F x (.slice at_ x.v.length Y) y tQ) 7 dE kR kR kR (fun _ _ _ _ _ h=>h) ?hopB ?htailB;case hopB=>refine oC (fun a d h=>by have e4:a.eval (.tmp 4)=(.pointer (some ⟨w.heap.size,0,none⟩):Value):=h.old 4;have c0:=aB h.z cg;exact iQ (.slice af facts.length cf)) ?_;refine oC (fun a d h=>by have e1:a.eval (.tmp 1)=(.slice (some ⟨b,D,none⟩) q.length m:Value):=h.old 1;exact iQ (.slice (some ⟨b,D,none⟩) q.length m)) ?_;refine oC (fun a d h=>by have e9:a.eval (.tmp 9)=(.int .i64 i:Value):=h.old 9;exact iQ (.int .i64 i)) ?_;refine oC (fun a d h=>by have cF:a.eval (.tmp 31)=(.slice (some ⟨b,D,none⟩) q.length m:Value):=h.of 31;have cG:a.eval (.tmp 32)=(.int .i64 i:Value):=h.of 32;exact iQ (.pointer (some ⟨b,D+i*4,none⟩))) ?_;refine oC (fun a d h=>by have cK:a.eval (.tmp 33)=(.pointer (some ⟨b,D+i*4,none⟩):Value):=h.of 33;have c0:=aB h.z p0;have c1:=aB h.z p1;have c2:=aB h.z p2;have c3:=aB h.z p3;exact iQ (.agg #[.int .i64 x.kind, .int .i64 x.op, .int .i64 x.g, .slice at_ x.v.length Y])) ?_;refine oC (fun a d h=>by have e6:a.eval (.tmp 6)=(.pointer (some ⟨w.heap.size+1,0,none⟩):Value):=h.old 6;refine ZW (v:=fY y) ?_;exact vK rfl e6 (mP.z c8.o h.z) b3) ?_;refine oC (fun a d h=>by have e4:a.eval (.tmp 4)=(.pointer (some ⟨w.heap.size,0,none⟩):Value):=h.old 4;have aS:a.eval (.tmp 10)=(.pointer (some ⟨F,0,none⟩):Value):=h.old 10;have e7:a.eval (.tmp 7)=(.pointer (some ⟨w.heap.size+2,0,none⟩):Value):=h.old 7;exact iQ (.func (.func 247) #[] #[.pointer (some ⟨w.heap.size,0,none⟩), .pointer (some ⟨F,0,none⟩), .pointer (some ⟨w.heap.size+2,0,none⟩)])) ?_;exact OI.nil
  case htailB=>
   rintro⟨C,G⟩ d E;have ca:Act.eval ⟨C,G⟩ (.tmp 30)=(.slice af facts.length cf):=E.all 0 _ 30 dE rfl rfl;have cc:Act.eval ⟨C,G⟩ (.tmp 34)=(.agg #[.int .i64 x.kind, .int .i64 x.op, .int .i64 x.g, .slice at_ x.v.length Y]:Value):=E.all 4 _ 34 dE rfl rfl;have cd:Act.eval ⟨C,G⟩ (.tmp 35)=fY y:=E.all 5 _ 35 dE rfl rfl;have ce:Act.eval ⟨C,G⟩ (.tmp 36)=.func (.func 247) #[] #[.pointer (some ⟨w.heap.size,0,none⟩), .pointer (some ⟨F,0,none⟩), .pointer (some ⟨w.heap.size+2,0,none⟩)]:=E.all 6 _ 36 dE rfl rfl;have ef:=AO ⟨C,G⟩;have ac:C.size=38:=E.size;show wpOps Tryz.prog _ _ [7,8] _ _;rw[lH];refine Nc (f:=246) (args:=#[(.slice af facts.length cf), .agg #[.int .i64 x.kind, .int .i64 x.op, .int .i64 x.g, .slice at_ x.v.length Y],fY y, .func (.func 247) #[] #[.pointer (some ⟨w.heap.size,0,none⟩), .pointer (some ⟨F,0,none⟩), .pointer (some ⟨w.heap.size+2,0,none⟩)]]) rfl (bI rfl) ?_ ?_
   ·show Sem.run Tryz.prog (execOp (Act.eval ⟨C,G⟩) _) d=_;generalize Act.eval ⟨C,G⟩=ev at *;clear E;go_simp
   refine Calls.mono (c5.o d E.z) ?_;rintro eR w6 ⟨bu,cj,ck⟩;refine⟨_,bu,?_⟩;rw[lH];refine xF (v:=.bool H.2) (w':=w6) rfl (bI rfl) ?_ ?_
   ·have q2:Act.eval (Act.put ⟨C,G⟩ (some 37) (.bool H.2)) (.tmp 37)=.bool H.2:=jV (by show 37<C.size;omega);show Sem.run Tryz.prog (execOp (Act.eval (Act.put ⟨C,G⟩ (some 37) (.bool H.2))) _) w6=_;generalize Act.eval (Act.put ⟨C,G⟩ (some 37) (.bool H.2))=ev at *;clear E;go_simp
   (have ad:∀t,t∉[30,31,32,33,34,35,36,37,8]->((C.setIfInBounds 37 (.bool H.2)).setIfInBounds 8 (.bool H.2)).getD t undef=_:=fun t ht=>by have hA:t≠37:=fun e=>ht (by rw[e];decide);have hB:t≠8:=fun e=>ht (by rw[e];decide);exact((jM (a:=Act.put ⟨C,G⟩ (some 37) (.bool H.2)) hB).trans (jM (a:=⟨C,G⟩) hA)).trans (E.still t ht));have h8:((C.setIfInBounds 37 (.bool H.2)).setIfInBounds 8 (.bool H.2)).getD 8 undef=.bool H.2:=jV (a:=Act.put ⟨C,G⟩ (some 37) (.bool H.2)) (by rw[zX];show 8<C.size;omega);obtain rfl:G=[]:=E.defers;(have bT:((C.setIfInBounds 37 (.bool H.2)).setIfInBounds 8 (.bool H.2)).size=38:=by simp[ac]);clear E ca cc cd ce ef ac bu;show Exit.then _ _ Exit.normal ⟨(C.setIfInBounds 37 (.bool H.2)).setIfInBounds 8 (.bool H.2),[]⟩ w6;generalize (C.setIfInBounds 37 (.bool H.2)).setIfInBounds 8 (.bool H.2)=S at *;have L:=QC [30,31,32,33,34,35,36,37,8] S _ (bT.trans rF) ad;clear bT ad;simp only[List.foldl_cons,List.foldl_nil,h8]at L;clear h8;generalize S.getD 30 undef=cO at L;generalize S.getD 31 undef=cR at L;generalize S.getD 32 undef=cS at L;generalize S.getD 33 undef=cT at L;generalize S.getD 34 undef=cU at L;generalize S.getD 35 undef=d0 at L;generalize S.getD 36 undef=d1 at L;generalize S.getD 37 undef=d2 at L;simp only[List.setIfInBounds_toArray,List.set_cons_zero,List.set_cons_succ]at L;subst L;go_wp2_with fail;go_ret;exact⟨rfl,cj,ck⟩
theorem bAP{σ:Type}{step:σ->cB->σ×Bool}{j:σ->cB->Prop}{I:σ->World->Prop}{NB hh:Nat}{cb:Array Value}{facts:List aQ}{ru:cA}{w0:World}(k:Value)(g:bS w0 k facts)(C:facts.length<=1000)(x:∀f,f∈facts->gD f)(H:aDR facts ru)(F:∀f,f∈facts->∀n,n∈f.args->dJ n=true)(J:∀l,l∈ru.body->l.v.length<=1000)(u:∀l,l∈ru.body->KZ l)(d:Hg w0.heap.size NB hh cb step j I)(K:∀args w,(callFunc hh args).run Tryz.prog w=.ok (.enter hh args) w):∀n,∀(q:List Lv)(y:cB)(b:Value)(w:World)(s:σ),q.length=n->n<=1000->Below w0.heap.size w0 w->PN w0 NB w b q->sQ ru.vars.toNat y->uZ ru y.q (q.map (·.1))->I s w->JU step j s (lA facts n (q.map (·.1)) y)->Calls Tryz.prog 234 #[k,b,fY y, .func (.func hh) #[] cb] w fun e c=>e=.returned (.bool (iR step s (lA facts n (q.map (·.1)) y)).2)/\I (iR step s (lA facts n (q.map (·.1)) y)).1 c/\Kp w0.heap.size NB w c:=by
 obtain⟨P,Q,rfl,R⟩:=id g;intro n
 induction n with
 |zero=>
  intro q y b w s L _ _ G M _ D E;have :q=[]:=oJ.mp L;subst this;refine Calls.mono (aV9 d K y b w s G M.wf D E.1) ?_;rintro e c ⟨m,p,r⟩;have i:=RI step s y;exact⟨m.trans (by show _=Ending.returned (.bool (iR step s [y]).2);rw[i]),by show I (iR step s [y]).1 c;rw[i];exact p,r⟩
 |succ n N=>exact aWB g C x H F J u d n N
theorem aE0:(Tryz.prog.info? 22).map (fun i=>(i.zero,i.size,i.bytes))=some (some (.slice none 0 0),1,24):=kR
def LY(m:Nat)(s:List (List Int))(x:cB):List (List Int)×Bool:=(s++[x.j.take m],decide (s.length+1<=2000))
def aJ5(s:List (List Int))(_:cB):Prop:=s.length<=2000
theorem Ow(m:Nat):∀(L:List cB)(s:List (List Int)),s.length<=2000->JU (LY m) aJ5 s L
 |[],_,_=>trivial
 |_::L,s,h=>⟨h,fun c=>Ow m L _ (by have b:decide (s.length+1<=2000)=true:=c;have :=fJ b;show(s++[_]).length<=2000;rw[aV];exact this)⟩
theorem Gj(m:Nat):∀(L:List cB)(s:List (List Int)),s.length<=2000->(iR (LY m) s L).1=s++(L.take (2001-s.length)).map (fun x=>x.j.take m)
 |[],s,_=>by rw[List.take_nil];show s=s++[];rw[iZ]
 |x::L,s,h=>by
  rw[uQ];by_cases b:s.length+1<=2000
  ·have e:(LY m s x).2=true:=aP b;rw[if_pos e,Gj m L _ (by show(s++[_]).length<=2000;rw[aV];exact b)];show(s++[x.j.take m])++(L.take (2001-(s++[x.j.take m]).length)).map _=_;rw[aV,fM,show 2001-s.length=(2001-(s.length+[x.j.take m].length))+1 from by simp;omega,JT];rfl
  have e:¬(LY m s x).2=true:=fun c=>b (fJ c);rw[if_neg e,show 2001-s.length=0+1 from by omega,JT];rfl
theorem mP.takeV{w:World}{b m:Nat}{y:cB}(h:mP w b y)(e:lI 8 y)(f:m<=8):eT w (.slice (some ⟨b,0,none⟩) m 8) (y.j.take m):=by(have d:(y.j.take m).length=m:=by rw[dV,e.n];omega);refine⟨some ⟨b,0,none⟩,8,by rw[d], .inr ⟨b,0,rfl,fun i c=>?_⟩⟩;rw[d]at c;rw[eP,show cI (y.j.take m) i=cI y.j i from by unfold cI;rw[aI,List.getElem?_take_of_lt c,aI]];exact h.num e oM
def aFF(NB RB:Nat)(b:Array Value)(s:List (List Int))(w:World):Prop:=
 ∃(q:List (List Int×Value))(v:Value),q.map (·.1)=s/\w.heap[NB]?=some (.cells #[v] 143)/\w.ownsRow (NB+1) 22 1 v q.length (q.map (·.2))/\(∀p,p∈q->w.ownsRow (NB+1) 3 1 p.2 p.1.length (p.1.map (Value.int .i64)))/\w.heap[RB]?=some (.cells b 97)
def bEJ(c:Value)(X RB m:Nat)(d:Nat)(b:Value):Prop:=
 match d with
 |5=>b=(c:Value)
 |6=>b=(.pointer (some ⟨X,0,none⟩):Value)
 |7=>b=(.pointer (some ⟨RB,4,none⟩):Value)
 |8=>b=(.int .i64 (m:Nat):Value)
 |9=>b=(.slice (some ⟨X,0,none⟩) m 8:Value)
 |_=>True
def Tp(g:Value)(X RB m B:Nat)(l:List Int)(c:Nat)(d:Value)(b:World):Prop:=
 if c=10 then b.ownsRow B 3 1 d l.length (l.map (Value.int .i64))
 else if c=11 then∃e f,d=.slice (some ⟨e,0,none⟩) 1 1/\b.heap[e]?=some (.cells #[f] 22)/\b.ownsRow B 3 1 f l.length (l.map (Value.int .i64))else bEJ g X RB m c d
theorem aHR(d:Value)(X RB m B:Nat)(l:List Int)(b:Nat)(j:Value)(W e:World)(c:Below W.heap.size W e)(h:Tp d X RB m B l b j W):Tp d X RB m B l b j e:=by
 unfold Tp at h ⊢;by_cases ht:b=10
 ·rw[if_pos ht]at h ⊢;exact bO h c
 rw[if_neg ht]at h ⊢;by_cases i:b=11
 ·rw[if_pos i]at h ⊢;obtain⟨f,p,k,g,n⟩:=h;exact⟨f,p,k,(c.block f (aK.mp g).1).trans g,bO n c⟩
 rw[if_neg i]at h ⊢;exact h
theorem aQW(w0:World)(NB RB m:Nat)(rc:Array Value)(ac:rc[4]?=some (.int .i64 (m:Nat)))(aC:m<=8)(ak:w0.heap.size<=NB)(ay:RB≠NB)(s:List (List Int))(w:World)(x:cB)(r:aFF NB RB rc s w)(hs:s.length<=2000)(hy:lI 8 x):
 Calls Tryz.prog 235 #[fY x, .pointer (some ⟨NB,0,none⟩), .pointer (some ⟨RB,0,none⟩)] w fun e w'=>e=.returned (.bool (decide (s.length+1<=2000)))/\aFF NB RB rc (s++[x.j.take m]) w'/\Kp w0.heap.size NB w w':=by
 obtain⟨i0,hi,aJ,aL,aN⟩:=jY aE0;obtain⟨q,v,a4,P,K,ad,hR⟩:=r;obtain⟨F,G,rfl⟩:=bR K;have L:=(aG w.heap.size w).alloc (aH _) (.cells (eY x) 277);(have aO:q.length<=2000:=by rw[<-a4,aY]at hs;exact hs);have HS:O _:=a4;have M:O _:=(L.block _ (cV P)).trans P;have X:O _:=(L.block _ (cV hR)).trans hR;have HO:O _:=bO K L;have aq:O (∀p,p∈q->(w.alloc (.cells (eY x) 277)).ownsRow (NB+1) 3 1 p.2 p.1.length (p.1.map (Value.int .i64))):=fun p H=>bO (ad p H) L;have HK:O (Kp w0.heap.size NB w (w.alloc (.cells (eY x) 277))):=Kp.of_below L (bP ak (wK (cV P)));have HW:O (mP (w.alloc (.cells (eY x) 277)) w.heap.size x):=bA w _;have aw:O (NB+1<=(w.alloc (.cells (eY x) 277)).heap.size):=cV M.o;(have n0:(w.alloc (.cells (eY x) 277)).cell? ⟨NB,0,none⟩=some (.slice F q.length G):=cH M.o);(have r4:(w.alloc (.cells (eY x) 277)).cell? ⟨RB,4,none⟩=some (.int .i64 (m:Nat)):=by rw[cM X.o];exact ac);clear a4 P hR K ad L hs ac
 go_enter Tryz.func235,Tryz.ntmps235
 go_upto_region 1 with fail;generalize w.alloc (.cells (eY x) 277)=w1 at *;refine qF (Tp (.slice F q.length G) w.heap.size RB m (NB+1) (x.j.take m)) 7 dE kR kR kR (aHR (.slice F q.length G) w.heap.size RB m (NB+1) (x.j.take m)) ?hopA ?htailA
 case hopA=>
  refine oC (fun a b h=>by have Y:a.eval (.tmp 1)=(.pointer (some ⟨NB,0,none⟩):Value):=h.old 1;have c0:=aB h.z n0;exact iQ (.slice F q.length G)) ?_;refine oC (fun a b h=>by have e3:a.eval (.tmp 3)=(.pointer (some ⟨w.heap.size,0,none⟩):Value):=h.old 3;exact iQ (.pointer (some ⟨w.heap.size,0,none⟩))) ?_;refine oC (fun a b h=>by have e2:a.eval (.tmp 2)=(.pointer (some ⟨RB,0,none⟩):Value):=h.old 2;exact iQ (.pointer (some ⟨RB,4,none⟩))) ?_;refine oC (fun a b h=>by have e7:a.eval (.tmp 7)=(.pointer (some ⟨RB,4,none⟩):Value):=h.of 7;have c0:=aB h.z r4;exact iQ (.int .i64 (m:Nat))) ?_;refine oC (fun a b h=>by have e6:a.eval (.tmp 6)=(.pointer (some ⟨w.heap.size,0,none⟩):Value):=h.of 6;have e8:a.eval (.tmp 8)=(.int .i64 (m:Nat):Value):=h.of 8;have g0:(0:Int)<=(m:Int):=oM;have g8:(m:Int)<=8:=oM;exact iQ (.slice (some ⟨w.heap.size,0,none⟩) m 8)) ?_;refine oC (fun a b h=>?_) ?_
  ·have e9:a.eval (.tmp 9)=(.slice (some ⟨w.heap.size,0,none⟩) m 8:Value):=h.of 9;refine fI (f:=107) (args:=#[.slice (some ⟨w.heap.size,0,none⟩) m 8]) (bI rfl) ?_ ?_
   ·have ec:=kZ a;have ef:=AO a;generalize a.eval=ev at *;clear h;go_simp
   refine Calls.mono (SD (x.j.take m) _ b (by have :=mP.takeV (mP.z HW.o h.z) hy aC;exact this) (by rw[dV];omega)) ?_;rintro _ y2 ⟨I,rfl,aD,az⟩;refine⟨_,rfl,fun t ht=>?_,az⟩;cases ht;exact gP aD (bP aw.o h.z.size)
  refine oC (fun a b h=>by have K:b.ownsRow (NB+1) 3 1 (a.eval (.tmp 10)) (x.j.take m).length ((x.j.take m).map (Value.int .i64)):=h.of 10;obtain⟨ao,co,ax⟩:=bR K;rw[ax]at K;refine dG (v:=.slice (some ⟨b.heap.size,0,none⟩) 1 1) (w':=b.alloc (.cells #[.slice ao (x.j.take m).length co] 22)) (bI rfl) ?_ (fun t ht=>by cases ht;exact⟨_,_,rfl,bA b _,K.alloc _⟩) ((aG _ _).alloc (aH _) _);have ec:=kZ a;generalize a.eval=ev at *;clear h;go_simp) ?_;exact OI.nil
 case htailA=>
  rintro⟨C,E⟩ b r;have e5:Act.eval ⟨C,E⟩ (.tmp 5)=(.slice F q.length G):=r.all 0 _ 5 dE rfl rfl;obtain⟨N,I,a6,aa,a3⟩:∃N I,Act.eval ⟨C,E⟩ (.tmp 11)=.slice (some ⟨N,0,none⟩) 1 1/\b.heap[N]?=some (.cells #[I] 22)/\b.ownsRow (NB+1) 3 1 I (x.j.take m).length ((x.j.take m).map (Value.int .i64)):=r.all 6 _ 11 dE rfl rfl;have Y:Act.eval ⟨C,E⟩ (.tmp 1)=.pointer (some ⟨NB,0,none⟩):=r.still 1 dE;have U:=bO HO.o r.z;have R:=(r.z.block _ (cV M.o)).trans M.o;have a9:=(r.z.block _ (cV X.o)).trans X.o;have ae:∀p,p∈q->b.ownsRow (NB+1) 3 1 p.2 p.1.length (p.1.map (Value.int .i64)):=fun p H=>bO (aq.o p H) r.z;have a8:Kp w0.heap.size NB w b:=HK.o.trans (Kp.of_below r.z (bP ak (wK (cV M.o))));have aj:NB+1<=b.heap.size:=cV R;obtain⟨ai,ci,a7⟩:=bR a3;show wpOps Tryz.prog _ _ [7,8] _ _;rw[lH];refine KT rfl (bI rfl) (FZ b (.tmp 5) (.tmp 11) 143 rfl (NB+1) 22 i0 _ 1 24 Tryz.underlying143 hi aJ aL aN rfl dE (.slice F q.length G) q.length (q.map (·.2)) e5 U ⟨N,0,none⟩ 1 1 (#[I]:Array Value).toList a6 rfl (JG aa) ?h1A ?h63A ?hbyA aj ?_);(case h1A=>intro u V;simp only[List.mem_cons,List.not_mem_nil,or_false]at V;subst V;rw[a7];rfl);(case h63A=>unfold maxLen;omega);(case hbyA=>omega);intro v9 D S J _;obtain⟨d,i,rfl⟩:=bR S;have ab:∀W,((.slice F q.length G):Value).ownBlock=some W->NB+1<=W:=fun W n=>(U.lt W n).1;have a2:∀(k:Nat)(c:Array Value)(t:TypeId),b.heap[k]?=some (.cells c t)->t≠22->D.heap[k]?=some (.cells c t):=fun k c t n ht=>(J.block k (cV n) (fun e=>ht (FN U e.symm n))).trans n;have Q:D.heap[NB]?=some (.cells #[.slice F q.length G] 143):=a2 _ _ _ R dE;(have c9:D.cell? ⟨NB,0,none⟩=some (.slice F q.length G):=cH Q);have f9:=bM Q 0;have ag:C.size=16:=r.size;rw[lH];refine LG rfl (bI rfl) rfl (w':=D.setCell ⟨NB,0,none⟩ (.slice d (q.length+1) i)) ?_ ?_
  ·have q1:Act.eval (Act.put ⟨C,E⟩ (some 12) (.slice d (q.length+1) i)) (.tmp 1)=.pointer (some ⟨NB,0,none⟩):=(jM (a:=⟨C,E⟩) (t:=12) (u:=1) dE).trans Y;have q2:Act.eval (Act.put ⟨C,E⟩ (some 12) (.slice d (q.length+1) i)) (.tmp 12)=(.slice d (q.length+1) i):=jV (by show 12<C.size;omega);show Sem.run Tryz.prog (execOp (Act.eval (Act.put ⟨C,E⟩ (some 12) (.slice d (q.length+1) i))) _) D=_;generalize Act.eval (Act.put ⟨C,E⟩ (some 12) (.slice d (q.length+1) i))=ev at *;clear r;go_simp
  have T:∀(k:Nat)(c:Array Value)(t:TypeId),b.heap[k]?=some (.cells c t)->k≠NB->t≠22->(D.setCell ⟨NB,0,none⟩ (.slice d (q.length+1) i)).heap[k]?=some (.cells c t):=fun k c t n a1 ht=>(eC a1).trans (a2 k c t n ht);(have a5:O ((D.setCell ⟨NB,0,none⟩ (.slice d (q.length+1) i)).heap[NB]?=some (.cells #[(.slice d (q.length+1) i)] 143)):=by show _=_;rw[bD Q];rfl);(have am:O ((D.setCell ⟨NB,0,none⟩ (.slice d (q.length+1) i)).ownsRow (NB+1) 22 1 (.slice d (q.length+1) i) (q.length+1) (q.map (·.2)++[I])):=by refine oF S (fun g hg=>eC (fun e=>?_));have :=(S.lt g hg).1;omega);have Z:∀(l:List Int)(u:Value),b.ownsRow (NB+1) 3 1 u l.length (l.map (Value.int .i64))->(D.setCell ⟨NB,0,none⟩ (.slice d (q.length+1) i)).ownsRow (NB+1) 3 1 u l.length (l.map (Value.int .i64)):=fun l u V=>pY V (fun k c n=>T k c 3 n (fun e=>by rw[e,R]at n;injection n with n;injection n with _ n;cases n) dE);have an:O _:=T _ _ _ a9 ay dE;have ar:O (∀p,p∈q++[((x.j.take m),I)]->(D.setCell ⟨NB,0,none⟩ (.slice d (q.length+1) i)).ownsRow (NB+1) 3 1 p.2 p.1.length (p.1.map (Value.int .i64))):=fun p H=>by
   rcases cW.mp H with H|H
   ·exact Z _ _ (ae p H)
   rcases cP.mp H with rfl;exact Z _ _ a3
  have al:O (Kp w0.heap.size NB w (D.setCell ⟨NB,0,none⟩ (.slice d (q.length+1) i))):=a8.trans ⟨J.os,J.tape,J.output,by simpa using J.size,fun k n=>(eC oM).trans (J.block k oM (fun e=>by have :=ab k e.symm;omega)),fun k c t n a1 ht=>T k c t n a1 ht⟩;(have ah:∀t,t∉[5,6,7,8,9,10,11,12]->(C.setIfInBounds 12 (.slice d (q.length+1) i)).getD t undef=_:=fun t ht=>by have hA:t≠12:=fun e=>ht (by rw[e];decide);exact(jM (a:=⟨C,E⟩) hA).trans (r.still t ht));obtain rfl:E=[]:=r.defers;(have af:(C.setIfInBounds 12 (.slice d (q.length+1) i)).size=16:=by simp[ag]);clear r e5 a6 aa a3 Y U R a9 ae a8 aj a7 S J ab a2 Q c9 f9 ag T Z;show Exit.then _ _ Exit.normal ⟨C.setIfInBounds 12 (.slice d (q.length+1) i),[]⟩ _;generalize D.setCell ⟨NB,0,none⟩ (.slice d (q.length+1) i)=w5 at *;generalize C.setIfInBounds 12 (.slice d (q.length+1) i)=tm at *;obtain⟨fQ,hQ,a0⟩:=oR [5,6,7,8,9,10,11,12] tm _ (af.trans rF) ah;clear af ah;simp only[List.foldl_cons,List.foldl_nil]at a0;clear hQ;simp only[List.setIfInBounds_toArray,List.set_cons_zero,List.set_cons_succ]at a0;subst a0;(have c5:w5.cell? ⟨NB,0,none⟩=some (.slice d (q.length+1) i):=cH a5.o);have HD:O (decide ((q.length:Int)+1<=2000)=decide (q.length+1<=2000)):=decide_eq_decide.mpr oM;go_wp2_with fail;go_ret;refine⟨?_,⟨q++[((x.j.take m),I)],_,by rw[dC,<-HS.o];rfl,a5.o,by rw[aV,dC];exact am.o,ar.o,an.o⟩,al.o⟩;rw[<-HS.o,aY];show Ending.returned (.bool (decide ((q.length:Int)+1<=2000)))=_;rw[HD.o]
theorem bLB(w0:World)(NB RB m:Nat)(e:Array Value)(u:e[4]?=some (.int .i64 (m:Nat)))(n:m<=8)(C:w0.heap.size<=NB)(k:RB≠NB):Hg w0.heap.size NB 235 #[.pointer (some ⟨NB,0,none⟩), .pointer (some ⟨RB,0,none⟩)] (LY m) aJ5 (aFF NB RB e):=
 ⟨fun s w x b l D=>aQW w0 NB RB m e u n C k s w x b l D,fun _ _ _ b d=>by
  obtain⟨q,v,f,c,i,j,g⟩:=b
  exact⟨q,v,f,(d.block _ (cV c)).trans c,bO i d,fun p r=>bO (j p r) d,(d.block _ (cV g)).trans g⟩,fun _ _ b=>by
  obtain⟨q,v,f,c,_⟩:=b;have :=cV c
  exact⟨oM,this⟩⟩
def aDB(v:Value):Prop:=∀b n cap,v=.slice b n cap->n<=cap
theorem aRU{w:World}{v:Value}{l:List cX}(h:uA w v l)(M:aDB v)(NB:Nat):∃q:List Lv,q.map (·.1)=l/\PN w NB w v q:=by
 obtain⟨F,cap,rfl,J⟩:=h;have L:=M _ _ _ rfl;rcases J with rfl|⟨b,c,rfl,s⟩
 ·exact⟨[],rfl,⟨F,cap,rfl,bL _,fun C=>absurd rfl C⟩,fun p e=>absurd e sI⟩
 obtain⟨f,D⟩:=Deep.choose_lt (n:=l.length) (p:=fun i u=>w.cell? ⟨b,c+i*4+3,none⟩=some u/\iX w u (dR l i).v) (fun i k=>by
  obtain⟨_,_,_,u,r,I⟩:=s i k
  exact⟨u,r,I⟩)
 (have E:((List.range l.length).map fun i=>(dR l i,f i)).length=l.length:=by rw[aY,PJ]);have K:QAt w ⟨b,c,none⟩ ((List.range l.length).map fun i=>(dR l i,f i)):=by
  intro j u N;obtain⟨p,e,g⟩:=aWI yO 4 dE (fun _=>rfl) _ j u N;(have x:j/4<l.length:=by have :=(gH.mp e).1;simpa using this);rw[dW,CR x]at e;(obtain rfl:(dR l (j/4),f (j/4))=p:=by simpa using e);obtain⟨m,G,H,_⟩:=s (j/4) x;have r:=(D (j/4) x).1;rw[Addr.add_lit];have d:j% 4=0\/j% 4=1\/j% 4=2\/j% 4=3:=oM;rcases d with d|d|d|d
  ·rw[d]at g;rw[show c+j=c+j/4*4 by omega,m];exact g
  ·rw[d]at g;rw[show c+j=c+j/4*4+1 by omega,G];exact g
  ·rw[d]at g;rw[show c+j=c+j/4*4+2 by omega,H];exact g
  rw[d]at g;rw[show c+j=c+j/4*4+3 by omega,r];exact g
 refine⟨(List.range l.length).map fun i=>(dR l i,f i),?_,⟨_,cap,by rw[E],by rw[E];exact L,fun C=>⟨b,c,rfl,K, .inl ?_⟩⟩,?_⟩
 ·apply kP;intro i;rw[List.map_map,dW];by_cases k:i<l.length
  ·rw[CR k];simp[dR,k]
  rw[dK sO,dK oM];rfl
 ·have e:0<l.length:=by
   rcases Dm l.length with m|m
   ·exact absurd (by rw[m];rfl) C
   exact m
  exact jR w _ (s 0 e).1
 intro p e;obtain⟨i,k,rfl⟩:=cJ.mp e;exact(D i (lL.mp k)).2
def AU(B:Nat)(w:World)(v:Value)(q:List (List Int×Value)):Prop:=w.ownsRow B 22 1 v q.length (q.map (·.2))/\∀p,p∈q->w.ownsRow B 3 1 p.2 p.1.length (p.1.map (Value.int .i64))
theorem aWJ(facts:List aQ)(r:cA)(Z E F:Value)(w:World)(s:bS w F facts)(a1:facts.length<=1000)(M:∀f,f∈facts->gD f)(x:aDR facts r)(N:∀f,f∈facts->∀n,n∈f.args->dJ n=true)(S:∀l,l∈r.body->l.v.length<=1000)(L:∀l,l∈r.body->KZ l)
 (Q:iX w Z r.v) (u:uA w E r.body) (T:aDB E) (a3:r.body.length<=1000) (a4:0<=r.vars):
 Calls Tryz.prog 214 #[rZ r Z E,F] w fun e w'=>∃v q,e=.returned v/\AU w.heap.size w' v q/\q.map (·.1)=(kF facts r).take 2001/\Below w.heap.size w w':=by
 obtain⟨k,j,K⟩:=aRU u T (w.heap.size+1);obtain⟨at_,d,rfl,_⟩:=id Q;obtain⟨b,c,rfl,_⟩:=id u;obtain⟨af,cf,a5,_⟩:=id s;obtain⟨m,J,i⟩:=PE w (.cells #[.int .i64 r.g, .slice at_ r.v.length d, .int .i64 r.h, .slice b r.body.length c, .int .i64 r.vars] 97) (.cells #[.slice none 0 0] 143);have W:r.vars=((r.vars.toNat:Nat):Int):=(YO a4).symm;have H:=bLB w (w.heap.size+1) w.heap.size r.vars.toNat #[.int .i64 r.g, .slice at_ r.v.length d, .int .i64 r.h, .slice b r.body.length c, .int .i64 r.vars] (by show some (Value.int .i64 r.vars)=_;rw[<-W]) x.v8 (tC _) oM;have U:aFF (w.heap.size+1) w.heap.size #[.int .i64 r.g, .slice at_ r.v.length d, .int .i64 r.h, .slice b r.body.length c, .int .i64 r.vars] [] ((w.alloc (.cells #[.int .i64 r.g, .slice at_ r.v.length d, .int .i64 r.h, .slice b r.body.length c, .int .i64 r.vars] 97)).alloc (.cells #[.slice none 0 0] 143)):=⟨[],_,rfl,J,eS _ _ _ _,fun p D=>absurd D sI,m⟩;(have V:k.length=r.body.length:=by rw[<-j,aY]);have G:O _:=bAP F s a1 M x N S L H (oQ Tryz.func235 kR rfl) r.body.length k yM (.slice b r.body.length c) _ [] V a3 i (K.kp (Kp.of_below i (aH _))) (vY _) (by rw[j];exact vZ r) U (Ow _ _ _ (bL _));(have HE:O ((iR (LY r.vars.toNat) [] (lA facts r.body.length (k.map (·.1)) yM)).1=(kF facts r).take 2001):=by show _=_;rw[Gj _ _ _ (bL _),j];show []++((uM facts r.body yM).take 2001).map _=_;rw[uN,List.map_take];rfl);have HK:O (Kp w.heap.size (w.heap.size+1) w ((w.alloc (.cells #[.int .i64 r.g, .slice at_ r.v.length d, .int .i64 r.h, .slice b r.body.length c, .int .i64 r.vars] 97)).alloc (.cells #[.slice none 0 0] 143))):=Kp.of_below i (aH _);(have c3:((w.alloc (.cells #[.int .i64 r.g, .slice at_ r.v.length d, .int .i64 r.h, .slice b r.body.length c, .int .i64 r.vars] 97)).alloc (.cells #[.slice none 0 0] 143)).cell? ⟨w.heap.size,3,none⟩=some (.slice b r.body.length c):=cH m);clear m J i H U s M x N S L Q u K T j V W a5;generalize iR (LY r.vars.toNat) [] (lA facts r.body.length (k.map (·.1)) yM)=R at *;generalize (kF facts r).take 2001=WS at *
 go_enter Tryz.func214,Tryz.ntmps214
 go_upto_region 2 with fail;generalize (w.alloc (.cells #[.int .i64 r.g, .slice at_ r.v.length d, .int .i64 r.h, .slice b r.body.length c, .int .i64 r.vars] 97)).alloc (.cells #[.slice none 0 0] 143)=w1 at *;have a6:∀(I:Fn)(first cap:Array Value)(w:World),(Instr.makeFunc I first cap).run Tryz.prog w=.ok (.func I first cap) w:=fun _ _ _ _=>rfl;go_wp2_with fail;refine Calls.mono G.o ?_;rintro _ w4 ⟨rfl,⟨q,v,X,P,C,Y,_⟩,a2⟩;obtain⟨ao,co,rfl⟩:=bR C;have HO:O _:=C;have a0:O (∀p,p∈q->w4.ownsRow (w.heap.size+1+1) 3 1 p.2 p.1.length (p.1.map (Value.int .i64))):=Y;have HQ:O _:=X;(have c4:w4.cell? ⟨w.heap.size+1,0,none⟩=some (.slice ao q.length co):=cH P);clear C Y X P c3 G;go_wp2_with fail;go_ret;exact⟨_,q,rfl,⟨gP HO.o oM,fun p D=>gP (a0.o p D) oM⟩,HQ.o.trans HE.o,(HK.o.trans a2).z (aG _ _)⟩
end Go.Proofs.YtfljoehbbncooaaGreat
