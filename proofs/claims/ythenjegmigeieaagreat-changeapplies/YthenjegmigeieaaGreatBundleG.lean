/- Own texts, one behind the other (part 7). -/
import Derived.Test.YthenjegmigeieaaGreatBundleF
import Derived.Test.YthenjegmigeieaaGreatRows
import Derived.Shelf.SlSortCmp.NoneTotal
set_option maxRecDepth 100000
set_option maxHeartbeats 8000000
namespace Go.Proofs.YthenjegmigeieaaGreat
open Go.RowKit
theorem QAt.below{w w':World}{a:Addr}{q:List Lv}(h:QAt w a q)(hb:Below w.heap.size w w'):QAt w' a q:=fun j u hj=>mP hb (h j u hj)
theorem pB(w:World)(a b c:Obj):Below w.heap.size w (((w.alloc a).alloc b).alloc c):=(((aH _ _).alloc (aF _) _).alloc sI _).alloc sO _
theorem nB{α β:Type}(f:α→β):∀(l:List α)(i:Nat),(l.eraseIdx i).map f=(l.map f).eraseIdx i
 |[],_=>by simp
 |_::_,0=>rfl
 |x::l,i+1=>by show f x::(l.eraseIdx i).map f=f x::(l.map f).eraseIdx i;rw[nB f l i]
def dropOff(off cp i:Nat):Nat:=if cp=i+1 then off else off+(i+1)*4
def each4V(b off n cp i:Nat)(tQ:Nat)(vQ:Value):Prop:=
 match tQ with
 |21=>vQ=(.slice (some ⟨b,off,none⟩) n cp:Value)
 |22=>vQ=(.int .i64 i:Value)
 |23=>vQ=(.slice (some ⟨b,off,none⟩) i cp:Value)
 |24=>vQ=(.slice (some ⟨b,off,none⟩) n cp:Value)
 |25=>vQ=(.int .i64 i:Value)
 |26=>vQ=(.int .i64 ((i+1:Nat):Int):Value)
 |27=>vQ=(.slice (some ⟨b,dropOff off cp i,none⟩) (n-(i+1)) (cp-(i+1)):Value)
 |_=>True
def each4T(b off n cp i B:Nat)(r:List Lv)(tQ:Nat)(vQ:Value)(WQ:World):Prop:=
 if tQ=28 then∃b',vQ=.slice (some ⟨b',0,none⟩) 2 2∧WQ.heap[b']?=some (.cells #[.slice (some ⟨b,off,none⟩) i cp, .slice (some ⟨b,dropOff off cp i,none⟩) (n-(i+1)) (cp-(i+1))] 38)
 else if tQ=29 then WQ.ownsRow B 49 4 vQ r.length (lCells r)
 else if tQ=10 then∃b',vQ=.pointer (some ⟨b',0,none⟩)∧B≤b'∧WQ.heap[b']?=some (.cells #[.slice none 0 0] 38)else each4V b off n cp i tQ vQ
theorem zA(b off n cp i B:Nat)(r:List Lv)(tQ:Nat)(vQ:Value)(W W':World)(hb:Below W.heap.size W W')(h:each4T b off n cp i B r tQ vQ W):each4T b off n cp i B r tQ vQ W':=by
 unfold each4T at h ⊢;by_cases ht:tQ=28
 ·rw[if_pos ht]at h ⊢;obtain⟨b',h1,h2⟩:=h;exact⟨b',h1,(hb.block b' (aJ.mp h2).1).trans h2⟩
 rw[if_neg ht]at h ⊢;by_cases ht2:tQ=29
 ·rw[if_pos ht2]at h ⊢;exact aU h hb
 rw[if_neg ht2]at h ⊢;by_cases ht3:tQ=10
 ·rw[if_pos ht3]at h ⊢;obtain⟨b',h1,h0,h2⟩:=h;exact⟨b',h1,h0,(hb.block b' (aJ.mp h2).1).trans h2⟩
 rw[if_neg ht3]at h ⊢;exact h
def each5Tv(vf:Value)(b off n cp i X OB:Nat)(x:Sc.Lit)(vt:Value)(y:Ru.Way):Nat→Value
 |30=>vf
 |31=>.slice (some ⟨b,off,none⟩) n cp
 |32=>.int .i64 i
 |33=>.pointer (some ⟨b,off+i*4,none⟩)
 |34=>.agg #[.int .i64 x.kind, .int .i64 x.op, .int .i64 x.pred,vt]
 |35=>wayVal y
 |36=>.func (.func 146) #[] #[.pointer (some ⟨X,0,none⟩), .pointer (some ⟨OB,0,none⟩), .pointer (some ⟨X+2,0,none⟩)]
 |_=>.bool false
theorem aBJ{σ:Type}{step:σ→Ru.Way→σ×Bool}{live:σ→Ru.Way→Prop}{I:σ→World→Prop}{NB hh:Nat}{cb:Array Value}{facts:List Rl.Fc}{w0:World}{af:Option Addr}{cf:Nat}(TL:Tell w0.heap.size NB hh cb step live I)(he:∀args w,(callFunc hh args).run Tryz.prog w=.ok (.enter hh args) w)(y:Ru.Way)(vb:Value)(w:World)(s:σ)(hQ:BodyV w0 NB w vb [])(hy:Ru.Wf 8 y)(hI:I s w)(hLv:live s y):
 Calls Tryz.prog 98 #[.slice af facts.length cf,vb,wayVal y, .func (.func hh) #[] cb] w fun e w'=>e=.returned (.bool (step s y).2)∧I (step s y).1 w'∧Kp w0.heap.size NB w w':=by
 obtain⟨⟨ab,cp,rfl,_,_⟩,_⟩:=hQ;obtain⟨h0,h1,h2⟩:=tV w (.cells #[.slice af facts.length cf] 27) (.cells (wayArr y) 138) (.cells #[.func (.func hh) #[] cb] 139);have hb:=pB w (.cells #[.slice af facts.length cf] 27) (.cells (wayArr y) 138) (.cells #[.func (.func hh) #[] cb] 139);have HW:Hid (WayAt (((w.alloc (.cells #[.slice af facts.length cf] 27)).alloc (.cells (wayArr y) 138)).alloc (.cells #[.func (.func hh) #[] cb] 139)) (w.heap.size+1) y):=h1;have HK:Hid (Kp w0.heap.size NB w (((w.alloc (.cells #[.slice af facts.length cf] 27)).alloc (.cells (wayArr y) 138)).alloc (.cells #[.func (.func hh) #[] cb] 139))):=Kp.of_below hb (TL.room _ _ hI).1;have HC:Hid _:=TL.call s _ y (TL.grow _ _ _ hI hb) hLv hy;(have c2:(((w.alloc (.cells #[.slice af facts.length cf] 27)).alloc (.cells (wayArr y) 138)).alloc (.cells #[.func (.func hh) #[] cb] 139)).cell? ⟨w.heap.size+2,0,none⟩=some (.func (.func hh) #[] cb):=by rw[aC h2];rfl);clear h0 h1 h2 hb TL hI hLv
 go_enter Tryz.func98,Tryz.ntmps98
 go_upto_region 1 with fail;generalize (((w.alloc (.cells #[.slice af facts.length cf] 27)).alloc (.cells (wayArr y) 138)).alloc (.cells #[.func (.func hh) #[] cb] 139))=w1 at *;go_wp2_with(refine eK (aM rfl) _ rfl _ rfl y HW.out hy ?_);refine Calls.mono HC.out ?_;rintro e w4 ⟨he4,hI4,hK4⟩;subst he4;have HI4:Hid _:=hI4;clear hI4 c2 HC;go_wp2_with fail;go_ret;exact⟨rfl,HI4.out,HK.out.trans hK4⟩
theorem aBH{σ:Type}{step:σ→Ru.Way→σ×Bool}{live:σ→Ru.Way→Prop}{I:σ→World→Prop}{NB hh:Nat}{cb:Array Value}{facts:List Rl.Fc}{ru:Sc.Rule}{w0:World}{af:Option Addr}{cf:Nat}(hF:FactsV w0 (.slice af facts.length cf) facts)(hFl:facts.length≤1000)(hFF:∀f,f∈facts→FFit f)(hR:Ru.RuleIn facts ru)(hN:∀f,f∈facts→∀n,n∈f.args→Sc.isNum n=true)(hTl:∀l,l∈ru.body→l.terms.length≤1000)(hC:∀l,l∈ru.body→Ru.LitNum l)(TL:Tell w0.heap.size NB hh cb step live I)(n:Nat)(IH:∀(q:List Lv)(y:Ru.Way)(vb:Value)(w:World)(s:σ),q.length=n→n≤1000→Below w0.heap.size w0 w→BodyV w0 NB w vb q→Ru.Good ru.vars.toNat y→Ru.Left ru y.known (q.map (·.1))→I s w→Ru.Lv step live s (Ru.eachN facts n (q.map (·.1)) y)→Calls Tryz.prog 98 #[.slice af facts.length cf,vb,wayVal y, .func (.func hh) #[] cb] w fun e w'=>e=.returned (.bool (Ru.run step s (Ru.eachN facts n (q.map (·.1)) y)).2)∧I (Ru.run step s (Ru.eachN facts n (q.map (·.1)) y)).1 w'∧Kp w0.heap.size NB w w'):
 ∀(q:List Lv)(y:Ru.Way)(vb:Value)(w:World)(s:σ),q.length=(n+1)→(n+1)≤1000→Below w0.heap.size w0 w→BodyV w0 NB w vb q→Ru.Good ru.vars.toNat y→Ru.Left ru y.known (q.map (·.1))→I s w→Ru.Lv step live s (Ru.eachN facts (n+1) (q.map (·.1)) y)→Calls Tryz.prog 98 #[.slice af facts.length cf,vb,wayVal y, .func (.func hh) #[] cb] w fun e w'=>e=.returned (.bool (Ru.run step s (Ru.eachN facts (n+1) (q.map (·.1)) y)).2)∧I (Ru.run step s (Ru.eachN facts (n+1) (q.map (·.1)) y)).1 w'∧Kp w0.heap.size NB w w':=by
 intro q y vb w s hlen hn1 hB0 hQ hy hL hI hLv;obtain⟨⟨ab,cp,rfl,hcp,hqa⟩,htm⟩:=hQ;obtain⟨b,off,rfl,hqat,hqb⟩:=hqa (fun e=>by rw[e]at hlen;cases hlen);(have hlm:(q.map (·.1)).length=n+1:=by rw[aO];exact hlen);obtain⟨hi,hr,hLi⟩:=Ru.each_step hR hlm hy.wf hL;obtain⟨h0,h1,h2⟩:=tV w (.cells #[.slice af facts.length cf] 27) (.cells (wayArr y) 138) (.cells #[.func (.func hh) #[] cb] 139);have hb3:=pB w (.cells #[.slice af facts.length cf] 27) (.cells (wayArr y) 138) (.cells #[.func (.func hh) #[] cb] 139);have hroom:=TL.room _ _ hI;have hlit:∀p,p∈q→p.1∈ru.body:=fun p hp=>hL.sub _ (jE hp);have HC:Hid _:=aCn facts q y (.slice af facts.length cf) (.slice (some ⟨b,off,none⟩) q.length cp) w0 (((w.alloc (.cells #[.slice af facts.length cf] 27)).alloc (.cells (wayArr y) 138)).alloc (.cells #[.func (.func hh) #[] cb] 139)) NB (hB0.trans (hb3.mono hB0.size)) hF hFl hFF (BodyV.kp ⟨⟨_,cp,rfl,hcp,fun _=>⟨b,off,rfl,hqat,hqb⟩⟩,htm⟩ (Kp.of_below hb3 hroom.1)) oM hy.wf (fun p hp=>⟨(hR.lit _ (hlit p hp)).mono hR.v8,hTl _ (hlit p hp)⟩) (fun p hp hrd=>uJ hy hR.v8 (hR.lit _ (hlit p hp)) (hTl _ (hlit p hp)) (hC _ (hlit p hp)) hrd);have hRUN:Ru.run step s (Ru.eachN facts (n+1) (q.map (·.1)) y)=Ru.run (fun s z=>Ru.run step s (Ru.eachN facts n ((q.map (·.1)).eraseIdx (Ru.next facts (q.map (·.1)) y)) z)) s (Ru.on facts (Sc.litD (q.map (·.1)) (Ru.next facts (q.map (·.1)) y)) y):=Ru.run_flat step _ _ s;have hLv2:Ru.Lv step live s ((Ru.on facts (Sc.litD (q.map (fun p:Lv=>p.1)) (Ru.next facts (q.map (fun p:Lv=>p.1)) y)) y).flatMap (Ru.eachN facts n ((q.map (fun p:Lv=>p.1)).eraseIdx (Ru.next facts (q.map (fun p:Lv=>p.1)) y)))):=hLv;have hLV':=Ru.lv_mem (P:=fun z=>Ru.Good ru.vars.toNat z∧Ru.Left ru z.known ((q.map (·.1)).eraseIdx (Ru.next facts (q.map (·.1)) y))) _ s (Ru.lv_flat step live _ _ s hLv2) (fun z hz=>⟨Ru.on_good hR.v8 hy hLi hN hz,Ru.left_next hL hi hr hz hLi⟩);have hmem:=Ru.litD_mem' hi;generalize Ru.run step s (Ru.eachN facts (n+1) (q.map (·.1)) y)=RS at *;generalize Ru.next facts (q.map (·.1)) y=i at *;(have hi2:i<q.length:=by rw[aO]at hi;exact hi);have HHI:Hid (HoldIn facts (Sc.litD (q.map (·.1)) i) y):=uJ hy hR.v8 hLi (hTl _ (hL.sub _ hmem)) (hC _ (hL.sub _ hmem)) hr;rw[←nB]at hRUN hLV';rw[yN hi2]at hRUN hLV' HHI;obtain⟨pp0,pp1,pp2,pp3⟩:=QAt.lit hqat hi2;have htx:=htm _ (cR hi2);generalize q[i]=p at *;obtain⟨x,vx⟩:=p;dsimp only at *;obtain⟨at_,ct,rfl,_⟩:=id htx;have HP:Hid _:=And.intro pp0 (And.intro pp1 (And.intro pp2 pp3));have HTX:Hid (PTermsV w0 (.slice at_ x.terms.length ct) x.terms):=htx;have HRUN:Hid _:=hRUN;have HLV':Hid _:=hLV';have HTMR:Hid (∀p,p∈q.eraseIdx i→PTermsV w0 p.2 p.1.terms):=fun p hp=>htm p (List.mem_of_mem_eraseIdx hp);(have hlr:(q.eraseIdx i).length=n:=by rw[List.length_eraseIdx,if_pos hi2];omega);have HIH:Hid (∀(z:Ru.Way)(vo:Value)(w':World)(s':σ),Below w0.heap.size w0 w'→BodyV w0 NB w' vo (q.eraseIdx i)→Ru.Good ru.vars.toNat z→Ru.Left ru z.known ((q.eraseIdx i).map (·.1))→I s' w'→Ru.Lv step live s' (Ru.eachN facts n ((q.eraseIdx i).map (·.1)) z)→Calls Tryz.prog 98 #[.slice af facts.length cf,vo,wayVal z, .func (.func hh) #[] cb] w' fun e w2=>e=.returned (.bool (Ru.run step s' (Ru.eachN facts n ((q.eraseIdx i).map (·.1)) z)).2)∧I (Ru.run step s' (Ru.eachN facts n ((q.eraseIdx i).map (·.1)) z)).1 w2∧Kp w0.heap.size NB w' w2):=fun z vo w' s'=>IH (q.eraseIdx i) z vo w' s' hlr oM;have HQAT:Hid (QAt w ⟨b,off,none⟩ q):=hqat;have HSL:Hid ((∀p,p∈q.take i→∃ao n c,p.2=.slice ao n c)∧(∀p,p∈q.drop (i+1)→∃ao n c,p.2=.slice ao n c)):=⟨fun p hp=>by obtain⟨a1,c1,e1,_⟩:=htm p (eM hp);exact⟨_,_,_,e1⟩,fun p hp=>by obtain⟨a1,c1,e1,_⟩:=htm p (gC hp);exact⟨_,_,_,e1⟩⟩;have HLEN:Hid ((q.take i).length=i∧(q.drop (i+1)).length=q.length-(i+1)):=⟨by rw[bC];omega,fT⟩;have HER:Hid (q.take i++q.drop (i+1)=q.eraseIdx i∧(q.eraseIdx i).length=(q.take i).length+(q.drop (i+1)).length):=⟨(List.eraseIdx_eq_take_drop_succ ..).symm,by rw[List.eraseIdx_eq_take_drop_succ,aN]⟩;have HW3:Hid (WayAt (((w.alloc (.cells #[.slice af facts.length cf] 27)).alloc (.cells (wayArr y) 138)).alloc (.cells #[.func (.func hh) #[] cb] 139)) (w.heap.size+1) y):=h1;have HF3:Hid _:=h0;have HT3:Hid _:=h2;have HB3:Hid _:=hb3;have HTL:Hid _:=TL;have HB0:Hid _:=hB0;have HFV:Hid _:=hF;have HFF:Hid _:=hFF;have HIW:Hid _:=hI;have HYG:Hid _:=hy;have hyw:=hy.wf;have hNBX:=hroom.2;have hR0:=hroom.1;have hql:q.length≤1000:=oM;(have c0:(((w.alloc (.cells #[.slice af facts.length cf] 27)).alloc (.cells (wayArr y) 138)).alloc (.cells #[.func (.func hh) #[] cb] 139)).cell? ⟨w.heap.size,0,none⟩=some (.slice af facts.length cf):=by rw[aC h0];rfl);have gl:decide (q.length=0)=false:=decide_eq_false oM;have gl2:((q.length:Int)==0)=false:=beq_eq_false_iff_ne.mpr oM;clear hF hFF hR hN hTl hC TL IH hqa hqat hqb htm hlm hi hr hLi h0 h1 h2 hb3 hroom hlit hRUN hLV' hmem pp0 pp1 pp2 pp3 htx hlr hI hLv hLv2 hB0 hL hy hlen hn1
 go_enter Tryz.func98,Tryz.ntmps98
 go_upto_region 1 with fail;generalize (((w.alloc (.cells #[.slice af facts.length cf] 27)).alloc (.cells (wayArr y) 138)).alloc (.cells #[.func (.func hh) #[] cb] 139))=w1 at *;go_wp2_with(refine eK (aM rfl) _ rfl _ rfl y HW3.out hyw ?_);refine Calls.mono HC.out ?_;rintro _ w2 ⟨rfl,hb2⟩;have HB2:Hid (Below w.heap.size w w2):=HB3.out.trans (hb2.mono HB3.out.size);have HSZ:Hid (w.heap.size≤w2.heap.size):=HB2.out.size;have HFB:Hid (w2.heap[w.heap.size]?=some (.cells #[.slice af facts.length cf] 27)):=(hb2.block _ (aY HF3.out)).trans HF3.out;have HWB:Hid (WayAt w2 (w.heap.size+1) y):=WayAt.below HW3.out hb2;have HTB:Hid (w2.heap[w.heap.size+2]?=some (.cells #[.func (.func hh) #[] cb] 139)):=(hb2.block _ (aY HT3.out)).trans HT3.out;have HQ1:Hid (∀y_,Below w2.heap.size w2 y_→QAt y_ ⟨b,off,none⟩ (q.take i)):=fun y_ hb=>((QAt.take HQAT.out i).below HB2.out).below hb;have HQ2:Hid (∀y_,Below w2.heap.size w2 y_→QAt y_ ⟨b,dropOff off cp i,none⟩ (q.drop (i+1))):=fun y_ hb=>by
  unfold dropOff;by_cases hcc:cp=i+1
  ·rw[aL oM];intro j u hj;simp[lCells]at hj
  rw[if_neg hcc];exact((QAt.drop HQAT.out (i+1) hi2).below HB2.out).below hb
 clear hb2 c0 HC HW3 HF3 HT3 HB3;go_upto_region 4 with fail;refine eS (each4T b off q.length cp i w.heap.size (q.eraseIdx i)) 10 dE kR kR kR (zA b off q.length cp i w.heap.size (q.eraseIdx i)) ?hopA ?htailA
 case hopA=>
  refine oC (fun a y_ h=>by have e1:a.eval (.tmp 1)=(.slice (some ⟨b,off,none⟩) q.length cp:Value):=h.old 1;exact opX (.slice (some ⟨b,off,none⟩) q.length cp)) ?_;refine oC (fun a y_ h=>by have e9:a.eval (.tmp 9)=(.int .i64 i:Value):=h.old 9;exact opX (.int .i64 i)) ?_;refine oC (fun a y_ h=>by have e21:a.eval (.tmp 21)=(.slice (some ⟨b,off,none⟩) q.length cp:Value):=h.of 21;have e22:a.eval (.tmp 22)=(.int .i64 i:Value):=h.of 22;refine opV (v:=.slice (some ⟨b,off,none⟩) i cp) ?_;have ec:=evc a;generalize a.eval=ev at *;clear h;go_simp;exact fun hx=>absurd hx oM) ?_;refine oC (fun a y_ h=>by have e1:a.eval (.tmp 1)=(.slice (some ⟨b,off,none⟩) q.length cp:Value):=h.old 1;exact opX (.slice (some ⟨b,off,none⟩) q.length cp)) ?_;refine oC (fun a y_ h=>by have e9:a.eval (.tmp 9)=(.int .i64 i:Value):=h.old 9;exact opX (.int .i64 i)) ?_;refine oC (fun a y_ h=>by have e25:a.eval (.tmp 25)=(.int .i64 i:Value):=h.of 25;refine opV (v:=.int .i64 ((i+1:Nat):Int)) ?_;have ec:=evc a;generalize a.eval=ev at *;clear h;go_simp;simp[IntKind.wrap,IntKind.bits,IntKind.signed];omega) ?_;refine oC (fun a y_ h=>?_) ?_
  ·have e24:a.eval (.tmp 24)=(.slice (some ⟨b,off,none⟩) q.length cp:Value):=h.of 24;have e26:a.eval (.tmp 26)=(.int .i64 ((i+1:Nat):Int):Value):=h.of 26;refine opV (v:=.slice (some ⟨b,dropOff off cp i,none⟩) (q.length-(i+1)) (cp-(i+1))) ?_;have ec:=evc a;generalize a.eval=ev at *;clear h;go_simp;rw[if_pos ⟨oM,oM⟩];unfold dropOff;by_cases hcc:cp=i+1
   ·rw[if_pos hcc,if_pos hcc]
   rw[if_neg hcc,if_neg hcc]
  refine oC (fun a y_ h=>by have e23:a.eval (.tmp 23)=(.slice (some ⟨b,off,none⟩) i cp:Value):=h.of 23;have e27:a.eval (.tmp 27)=(.slice (some ⟨b,dropOff off cp i,none⟩) (q.length-(i+1)) (cp-(i+1)):Value):=h.of 27;refine cP (v:=.slice (some ⟨y_.heap.size,0,none⟩) 2 2) (w':=y_.alloc (.cells #[.slice (some ⟨b,off,none⟩) i cp, .slice (some ⟨b,dropOff off cp i,none⟩) (q.length-(i+1)) (cp-(i+1))] 38)) (aM rfl) ?_ (fun t ht=>by cases ht;exact⟨_,rfl,heap_alloc_new y_ _⟩) ((aH _ _).alloc (aF _) _);have ec:=evc a;generalize a.eval=ev at *;clear h;go_simp) ?_;refine oC (fun a y_ h=>?_) ?_
  ·obtain⟨b',e28,hb'⟩:∃b',a.eval (.tmp 28)=.slice (some ⟨b',0,none⟩) 2 2∧y_.heap[b']?=some (.cells #[.slice (some ⟨b,off,none⟩) i cp, .slice (some ⟨b,dropOff off cp i,none⟩) (q.length-(i+1)) (cp-(i+1))] 38):=h.of 28;refine dD (f:=144) (args:=#[(.slice (some ⟨b',0,none⟩) 2 2)]) (aM rfl) ?_ ?_
   ·have ec:=evc a;have ef:=evf a;generalize a.eval=ev at *;clear h;go_simp
   refine Calls.mono (zB (q.take i) (q.drop (i+1)) b' ⟨b,off,none⟩ ⟨b,dropOff off cp i,none⟩ cp (cp-(i+1)) y_ (HQ1.out y_ h.below) (HQ2.out y_ h.below) HSL.out.1 HSL.out.2 (by rw[HLEN.out.1,aC hb'];rfl) (by rw[HLEN.out.2,aC hb'];rfl) (by rw[HLEN.out.1];omega) (by rw[HLEN.out.2];omega)) ?_;rintro _ y2 ⟨v',rfl,hown,hb2⟩;refine⟨_,rfl,fun t ht=>?_,hb2⟩;cases ht;show y2.ownsRow _ _ _ _ (q.eraseIdx i).length (lCells (q.eraseIdx i));rw[HER.out.2,←HER.out.1];exact dP hown (aX HSZ.out h.below.size)
  refine oC (fun a y_ h=>by refine cP (v:=.pointer (some ⟨y_.heap.size,0,none⟩)) (w':=y_.alloc (.cells #[.slice none 0 0] 38)) (aM rfl) ?_ (fun t ht=>by cases ht;exact⟨_,rfl,aX HSZ.out h.below.size,heap_alloc_new y_ _⟩) ((aH _ _).alloc (aF _) _);have ec:=evc a;generalize a.eval=ev at *;clear h;go_simp) ?_;exact AllOps.nil
 case htailA=>
  rintro⟨tm0,df⟩ y_ hI;obtain⟨OB,e10,hOB,hbox⟩:∃b',Act.eval ⟨tm0,df⟩ (.tmp 10)=.pointer (some ⟨b',0,none⟩)∧w.heap.size≤b'∧y_.heap[b']?=some (.cells #[.slice none 0 0] 38):=hI.all 9 _ 10 dE rfl rfl;have hown:y_.ownsRow w.heap.size 49 4 (Act.eval ⟨tm0,df⟩ (.tmp 29)) (q.eraseIdx i).length (lCells (q.eraseIdx i)):=hI.all 8 _ 29 dE rfl rfl;obtain⟨ao,co,eo⟩:=aZ hown;have e29:Act.eval ⟨tm0,df⟩ (.tmp 29)=.slice ao (q.eraseIdx i).length co:=eo;rw[e29]at hown;(have c0:y_.cell? ⟨OB,0,none⟩=some (.slice none 0 0):=by rw[aC hbox];rfl);have f0:=bQ hbox 0;show wpOps Tryz.prog _ _ [10] _ _;rw[wpOps_cons];refine lL rfl (aM rfl) rfl (w':=y_.setCell ⟨OB,0,none⟩ (.slice ao (q.eraseIdx i).length co)) ?_ ?_
  ·show Sem.run Tryz.prog (execOp (Act.eval ⟨tm0,df⟩) _) y_=_;generalize Act.eval ⟨tm0,df⟩=ev at *;clear hI;go_simp
  have hbE:Below w2.heap.size w2 y_:=hI.below;have hO2:w2.heap.size≤OB∨OB<w2.heap.size:=oM;(have HBX:Hid ((y_.setCell ⟨OB,0,none⟩ (.slice ao (q.eraseIdx i).length co)).heap[OB]?=some (.cells #[.slice ao (q.eraseIdx i).length co] 38)):=by show _=_;rw[bL hbox];rfl);have HOT:Hid (∀(k:Nat)(c:Array Value)(t:TypeId),y_.heap[k]?=some (.cells c t)→t≠38→(y_.setCell ⟨OB,0,none⟩ (.slice ao (q.eraseIdx i).length co)).heap[k]?=some (.cells c t)):=fun k c t hk ht=>by
   rw[bH (fun e=>?_)]
   ·exact hk
   subst e;rw[hbox]at hk;injection hk with hk;injection hk with _ hk;exact ht hk.symm
  have HRW:Hid ((y_.setCell ⟨OB,0,none⟩ (.slice ao (q.eraseIdx i).length co)).ownsRow w.heap.size 49 4 (.slice ao (q.eraseIdx i).length co) (q.eraseIdx i).length (lCells (q.eraseIdx i))):=fF hown (fun k a ha=>HOT.out k a 49 ha dE);have HBE:Hid (Below w.heap.size w (y_.setCell ⟨OB,0,none⟩ (.slice ao (q.eraseIdx i).length co))):=(HB2.out.trans (hbE.mono HSZ.out)).setCell (p:=⟨OB,0,none⟩) hOB _;have hst:=hI.still;have hsN:tm0.size=38:=hI.size;obtain rfl:df=[]:=hI.defers;have h10:tm0.getD 10 undef=.pointer (some ⟨OB,0,none⟩):=e10;have HF4:Hid (y_.heap[w.heap.size]?=some (.cells #[(.slice af facts.length cf)] 27)):=(hbE.block _ (aY HFB.out)).trans HFB.out;have HW4:Hid (WayAt y_ (w.heap.size+1) y):=WayAt.below HWB.out hbE;have HT4:Hid (y_.heap[w.heap.size+2]?=some (.cells #[.func (.func hh) #[] cb] 139)):=(hbE.block _ (aY HTB.out)).trans HTB.out;have HF5:Hid _:=HOT.out _ _ _ HF4.out dE;have HW5:Hid (WayAt _ (w.heap.size+1) y):=HOT.out _ (wayArr y) 138 HW4.out dE;have HT5:Hid _:=HOT.out _ _ _ HT4.out dE;have HI5:Hid (I s (y_.setCell ⟨OB,0,none⟩ (.slice ao (q.eraseIdx i).length co))):=HTL.out.grow _ _ _ HIW.out HBE.out;clear hI hown eo e29 c0 f0 e10 hbE hO2 HF4 HW4 HT4 HFB HWB HTB hbox;generalize y_.setCell ⟨OB,0,none⟩ (.slice ao (q.eraseIdx i).length co)=w5 at *;show Exit.then _ _ Exit.normal ⟨tm0,[]⟩ w5;obtain⟨fQ,hQ,hF8⟩:=fH [21,22,23,24,25,26,27,28,29,10] tm0 _ (hsN.trans rF) hst;clear hst hsN;simp only[cL,dB,(hQ 10).trans h10]at hF8;clear h10 hQ;simp only[aV,bS,bV]at hF8;subst hF8;have HB05:Hid (Below w0.heap.size w0 w5):=HB0.out.trans (HBE.out.mono HB0.out.size);have HTL':Hid _:=eachTell (ru:=ru) (r:=q.eraseIdx i) (n:=n) (facts:=facts) (af:=af) (cf:=cf) (ao:=ao) (co:=co) (X:=w.heap.size) (OB:=OB) HTL.out (fun z w' s'=>HIH.out z _ w' s') hNBX (bP hNBX hOB);have HE5:Hid (EachI I w0 NB w.heap.size OB (.slice af facts.length cf) (.slice ao (q.eraseIdx i).length co) hh cb (q.eraseIdx i) s w5):=⟨HI5.out,HF5.out,HBX.out,HT5.out,aBN HRW.out hNBX HTMR.out,HB05.out⟩;(have HHOLD:Hid (∀y_,Below w5.heap.size w5 y_→Calls Tryz.prog 145 #[.slice af facts.length cf, .agg #[.int .i64 x.kind, .int .i64 x.op, .int .i64 x.pred, .slice at_ x.terms.length ct],wayVal y, .func (.func 146) #[] #[.pointer (some ⟨w.heap.size,0,none⟩), .pointer (some ⟨OB,0,none⟩), .pointer (some ⟨w.heap.size+2,0,none⟩)]] y_ fun e w6=>e=.returned (.bool RS.2)∧I RS.1 w6∧Kp w0.heap.size NB w w6):=fun y_ hb=>by refine Calls.mono (yT (NB:=NB) (hh:=146) (cb:=#[.pointer (some ⟨w.heap.size,0,none⟩), .pointer (some ⟨OB,0,none⟩), .pointer (some ⟨w.heap.size+2,0,none⟩)]) facts x y (.slice af facts.length cf) (.slice at_ x.terms.length ct) w0 y_ s (HB05.out.trans (hb.mono HB05.out.size)) HFV.out oM HFF.out HTX.out HHI.out hyw HTL'.out (eQ Tryz.func146 kR rfl) (HTL'.out.grow _ _ _ HE5.out hb) HLV'.out) ?_;rintro e w6 ⟨h1,h2,h3⟩;rw[←HRUN.out]at h1 h2;exact⟨h1,h2.i,((Kp.of_below HBE.out hR0).trans (Kp.of_below hb HB05.out.size)).trans h3⟩);(have fb0:w5.cell? ⟨w.heap.size,0,none⟩=some (.slice af facts.length cf):=by rw[aC HF5.out];rfl);have p0:=aD HBE.out HP.out.1;have p1:=aD HBE.out HP.out.2.1;have p2:=aD HBE.out HP.out.2.2.1;have p3:=aD HBE.out HP.out.2.2.2;clear HB05 HTL' HE5 HIH HRUN HLV' HTX HHI HP HTMR HRW HBX HF5 HT5 HI5 HTL HB0 HFV HFF HIW HYG;go_upto_region 5 with fail;refine eS (fun tQ vQ _=>vQ=each5Tv (.slice af facts.length cf) b off q.length cp i w.heap.size OB x (.slice at_ x.terms.length ct) y tQ) 7 dE kR kR kR (fun _ _ _ _ _ h=>h) ?hopB ?htailB;case hopB=>refine oC (fun a y_ h=>by have e4:a.eval (.tmp 4)=(.pointer (some ⟨w.heap.size,0,none⟩):Value):=h.old 4;have c0:=aD h.below fb0;exact opX (.slice af facts.length cf)) ?_;refine oC (fun a y_ h=>by have e1:a.eval (.tmp 1)=(.slice (some ⟨b,off,none⟩) q.length cp:Value):=h.old 1;exact opX (.slice (some ⟨b,off,none⟩) q.length cp)) ?_;refine oC (fun a y_ h=>by have e9:a.eval (.tmp 9)=(.int .i64 i:Value):=h.old 9;exact opX (.int .i64 i)) ?_;refine oC (fun a y_ h=>by have e31:a.eval (.tmp 31)=(.slice (some ⟨b,off,none⟩) q.length cp:Value):=h.of 31;have e32:a.eval (.tmp 32)=(.int .i64 i:Value):=h.of 32;exact opX (.pointer (some ⟨b,off+i*4,none⟩))) ?_;refine oC (fun a y_ h=>by have e33:a.eval (.tmp 33)=(.pointer (some ⟨b,off+i*4,none⟩):Value):=h.of 33;have c0:=aD h.below p0;have c1:=aD h.below p1;have c2:=aD h.below p2;have c3:=aD h.below p3;exact opX (.agg #[.int .i64 x.kind, .int .i64 x.op, .int .i64 x.pred, .slice at_ x.terms.length ct])) ?_;refine oC (fun a y_ h=>by have e6:a.eval (.tmp 6)=(.pointer (some ⟨w.heap.size+1,0,none⟩):Value):=h.old 6;refine opV (v:=wayVal y) ?_;exact fO rfl e6 (WayAt.below HW5.out h.below) hyw) ?_;refine oC (fun a y_ h=>by have e4:a.eval (.tmp 4)=(.pointer (some ⟨w.heap.size,0,none⟩):Value):=h.old 4;have e10:a.eval (.tmp 10)=(.pointer (some ⟨OB,0,none⟩):Value):=h.old 10;have e7:a.eval (.tmp 7)=(.pointer (some ⟨w.heap.size+2,0,none⟩):Value):=h.old 7;exact opX (.func (.func 146) #[] #[.pointer (some ⟨w.heap.size,0,none⟩), .pointer (some ⟨OB,0,none⟩), .pointer (some ⟨w.heap.size+2,0,none⟩)])) ?_;exact AllOps.nil
  case htailB=>
   rintro⟨tm0,df⟩ y_ hI;have e30:Act.eval ⟨tm0,df⟩ (.tmp 30)=(.slice af facts.length cf):=hI.all 0 _ 30 dE rfl rfl;have e34:Act.eval ⟨tm0,df⟩ (.tmp 34)=(.agg #[.int .i64 x.kind, .int .i64 x.op, .int .i64 x.pred, .slice at_ x.terms.length ct]:Value):=hI.all 4 _ 34 dE rfl rfl;have e35:Act.eval ⟨tm0,df⟩ (.tmp 35)=wayVal y:=hI.all 5 _ 35 dE rfl rfl;have e36:Act.eval ⟨tm0,df⟩ (.tmp 36)=.func (.func 146) #[] #[.pointer (some ⟨w.heap.size,0,none⟩), .pointer (some ⟨OB,0,none⟩), .pointer (some ⟨w.heap.size+2,0,none⟩)]:=hI.all 6 _ 36 dE rfl rfl;have ef:=evf ⟨tm0,df⟩;have hsN:tm0.size=38:=hI.size;show wpOps Tryz.prog _ _ [7,8] _ _;rw[wpOps_cons];refine oL (f:=145) (args:=#[(.slice af facts.length cf), .agg #[.int .i64 x.kind, .int .i64 x.op, .int .i64 x.pred, .slice at_ x.terms.length ct],wayVal y, .func (.func 146) #[] #[.pointer (some ⟨w.heap.size,0,none⟩), .pointer (some ⟨OB,0,none⟩), .pointer (some ⟨w.heap.size+2,0,none⟩)]]) rfl (aM rfl) ?_ ?_
   ·show Sem.run Tryz.prog (execOp (Act.eval ⟨tm0,df⟩) _) y_=_;generalize Act.eval ⟨tm0,df⟩=ev at *;clear hI;go_simp
   refine Calls.mono (HHOLD.out y_ hI.below) ?_;rintro eR w6 ⟨he6,hI6,hK6⟩;refine⟨_,he6,?_⟩;rw[wpOps_cons];refine gL (v:=.bool RS.2) (w':=w6) rfl (aM rfl) ?_ ?_
   ·have q2:Act.eval (Act.put ⟨tm0,df⟩ (some 37) (.bool RS.2)) (.tmp 37)=.bool RS.2:=dC (by show 37<tm0.size;omega);show Sem.run Tryz.prog (execOp (Act.eval (Act.put ⟨tm0,df⟩ (some 37) (.bool RS.2))) _) w6=_;generalize Act.eval (Act.put ⟨tm0,df⟩ (some 37) (.bool RS.2))=ev at *;clear hI;go_simp
   (have hst:∀t,t∉[30,31,32,33,34,35,36,37,8]→((tm0.setIfInBounds 37 (.bool RS.2)).setIfInBounds 8 (.bool RS.2)).getD t undef=_:=fun t ht=>by have hA:t≠37:=fun e=>ht (by rw[e];decide);have hB:t≠8:=fun e=>ht (by rw[e];decide);exact((cI (a:=Act.put ⟨tm0,df⟩ (some 37) (.bool RS.2)) hB).trans (cI (a:=⟨tm0,df⟩) hA)).trans (hI.still t ht));have h8:((tm0.setIfInBounds 37 (.bool RS.2)).setIfInBounds 8 (.bool RS.2)).getD 8 undef=.bool RS.2:=dC (a:=Act.put ⟨tm0,df⟩ (some 37) (.bool RS.2)) (by rw[fI];show 8<tm0.size;omega);obtain rfl:df=[]:=hI.defers;(have hs2:((tm0.setIfInBounds 37 (.bool RS.2)).setIfInBounds 8 (.bool RS.2)).size=38:=by simp[hsN]);clear hI e30 e34 e35 e36 ef hsN he6;show Exit.then _ _ Exit.normal ⟨(tm0.setIfInBounds 37 (.bool RS.2)).setIfInBounds 8 (.bool RS.2),[]⟩ w6;generalize (tm0.setIfInBounds 37 (.bool RS.2)).setIfInBounds 8 (.bool RS.2)=tm at *;have hF8:=lM [30,31,32,33,34,35,36,37,8] tm _ (hs2.trans rF) hst;clear hs2 hst;simp only[cL,dB,h8]at hF8;clear h8;generalize tm.getD 30 undef=z30 at hF8;generalize tm.getD 31 undef=z31 at hF8;generalize tm.getD 32 undef=z32 at hF8;generalize tm.getD 33 undef=z33 at hF8;generalize tm.getD 34 undef=z34 at hF8;generalize tm.getD 35 undef=z35 at hF8;generalize tm.getD 36 undef=z36 at hF8;generalize tm.getD 37 undef=z37 at hF8;simp only[aV,bS,bV]at hF8;subst hF8;go_wp2_with fail;go_ret;exact⟨rfl,hI6,hK6⟩
theorem aCB{σ:Type}{step:σ→Ru.Way→σ×Bool}{live:σ→Ru.Way→Prop}{I:σ→World→Prop}{NB hh:Nat}{cb:Array Value}{facts:List Rl.Fc}{ru:Sc.Rule}{w0:World}(vf:Value)(hF:FactsV w0 vf facts)(hFl:facts.length≤1000)(hFF:∀f,f∈facts→FFit f)(hR:Ru.RuleIn facts ru)(hN:∀f,f∈facts→∀n,n∈f.args→Sc.isNum n=true)(hTl:∀l,l∈ru.body→l.terms.length≤1000)(hC:∀l,l∈ru.body→Ru.LitNum l)(TL:Tell w0.heap.size NB hh cb step live I)(he:∀args w,(callFunc hh args).run Tryz.prog w=.ok (.enter hh args) w):∀n,∀(q:List Lv)(y:Ru.Way)(vb:Value)(w:World)(s:σ),q.length=n→n≤1000→Below w0.heap.size w0 w→BodyV w0 NB w vb q→Ru.Good ru.vars.toNat y→Ru.Left ru y.known (q.map (·.1))→I s w→Ru.Lv step live s (Ru.eachN facts n (q.map (·.1)) y)→Calls Tryz.prog 98 #[vf,vb,wayVal y, .func (.func hh) #[] cb] w fun e w'=>e=.returned (.bool (Ru.run step s (Ru.eachN facts n (q.map (·.1)) y)).2)∧I (Ru.run step s (Ru.eachN facts n (q.map (·.1)) y)).1 w'∧Kp w0.heap.size NB w w':=by
 obtain⟨af,cf,rfl,hf2⟩:=id hF;intro n
 induction n with
 |zero=>
  intro q y vb w s hlen _ _ hQ hy _ hI hLv;have :q=[]:=gG.mp hlen;subst this;refine Calls.mono (aBJ TL he y vb w s hQ hy.wf hI hLv.1) ?_;rintro e w' ⟨h1,h2,h3⟩;have hr:=Ru.run_one step s y;exact⟨h1.trans (by show _=Ending.returned (.bool (Ru.run step s [y]).2);rw[hr]),by show I (Ru.run step s [y]).1 w';rw[hr];exact h2,h3⟩
 |succ n ih=>exact aBH hF hFl hFF hR hN hTl hC TL n ih
theorem tY:(Tryz.prog.info? 22).map (fun i=>(i.zero,i.size,i.bytes))=some (some (.slice none 0 0),1,24):=kR
namespace Ru
def stepF(m:Nat)(s:List (List Int))(x:Way):List (List Int)×Bool:=(s++[x.nums.take m],decide (s.length+1≤2000))
def liveF(s:List (List Int))(_:Way):Prop:=s.length≤2000
theorem lv_found(m:Nat):∀(L:List Way)(s:List (List Int)),s.length≤2000→Lv (stepF m) liveF s L
 |[],_,_=>trivial
 |_::L,s,h=>⟨h,fun hs=>lv_found m L _ (by have h9:decide (s.length+1≤2000)=true:=hs;have :=of_decide_eq_true h9;show(s++[_]).length≤2000;rw[aN];exact this)⟩
theorem run_found(m:Nat):∀(L:List Way)(s:List (List Int)),s.length≤2000→(run (stepF m) s L).1=s++(L.take (2001-s.length)).map (fun x=>x.nums.take m)
 |[],s,_=>by rw[List.take_nil];show s=s++[];rw[fE]
 |x::L,s,h=>by
  rw[run_cons];by_cases hs:s.length+1≤2000
  ·have e:(stepF m s x).2=true:=decide_eq_true hs;rw[if_pos e,run_found m L _ (by show(s++[_]).length≤2000;rw[aN];exact hs)];show(s++[x.nums.take m])++(L.take (2001-(s++[x.nums.take m]).length)).map _=_;rw[aN,dT,show 2001-s.length=(2001-(s.length+[x.nums.take m].length))+1 from by simp;omega,nU];rfl
  have e:¬(stepF m s x).2=true:=fun h9=>hs (of_decide_eq_true h9);rw[if_neg e,show 2001-s.length=0+1 from by omega,nU];rfl
end Ru
theorem WayAt.takeV{w:World}{b m:Nat}{y:Ru.Way}(h:WayAt w b y)(hy:Ru.Wf 8 y)(hm:m≤8):IntsV w (.slice (some ⟨b,0,none⟩) m 8) (y.nums.take m):=by(have hl:(y.nums.take m).length=m:=by rw[bC,hy.n];omega);refine⟨some ⟨b,0,none⟩,8,by rw[hl], .inr ⟨b,0,rfl,fun i hi=>?_⟩⟩;rw[hl]at hi;rw[cV,show Sc.intD (y.nums.take m) i=Sc.intD y.nums i from by unfold Sc.intD;rw[aE,List.getElem?_take_of_lt hi,aE]];exact h.num hy oM
def FoundI(NB RB:Nat)(rc:Array Value)(s:List (List Int))(w:World):Prop:=
 ∃(q:List (List Int×Value))(v:Value),q.map (·.1)=s∧w.heap[NB]?=some (.cells #[v] 28)∧w.ownsRow (NB+1) 22 1 v q.length (q.map (·.2))∧(∀p,p∈q→w.ownsRow (NB+1) 3 1 p.2 p.1.length (p.1.map (Value.int .i64)))∧w.heap[RB]?=some (.cells rc 40)
def found1V(RV:Value)(X RB m:Nat)(tQ:Nat)(vQ:Value):Prop:=
 match tQ with
 |5=>vQ=(RV:Value)
 |6=>vQ=(.pointer (some ⟨X,0,none⟩):Value)
 |7=>vQ=(.pointer (some ⟨RB,4,none⟩):Value)
 |8=>vQ=(.int .i64 (m:Nat):Value)
 |9=>vQ=(.slice (some ⟨X,0,none⟩) m 8:Value)
 |_=>True
def found1T(RV:Value)(X RB m B:Nat)(l:List Int)(tQ:Nat)(vQ:Value)(WQ:World):Prop:=
 if tQ=10 then WQ.ownsRow B 3 1 vQ l.length (l.map (Value.int .i64))
 else if tQ=11 then∃b' v',vQ=.slice (some ⟨b',0,none⟩) 1 1∧WQ.heap[b']?=some (.cells #[v'] 22)∧WQ.ownsRow B 3 1 v' l.length (l.map (Value.int .i64))else found1V RV X RB m tQ vQ
theorem wK(RV:Value)(X RB m B:Nat)(l:List Int)(tQ:Nat)(vQ:Value)(W W':World)(hb:Below W.heap.size W W')(h:found1T RV X RB m B l tQ vQ W):found1T RV X RB m B l tQ vQ W':=by
 unfold found1T at h ⊢;by_cases ht:tQ=10
 ·rw[if_pos ht]at h ⊢;exact aU h hb
 rw[if_neg ht]at h ⊢;by_cases ht2:tQ=11
 ·rw[if_pos ht2]at h ⊢;obtain⟨b',v',h1,h2,h3⟩:=h;exact⟨b',v',h1,(hb.block b' (aJ.mp h2).1).trans h2,aU h3 hb⟩
 rw[if_neg ht2]at h ⊢;exact h
theorem aAD(w0:World)(NB RB m:Nat)(rc:Array Value)(hrc:rc[4]?=some (.int .i64 (m:Nat)))(hm8:m≤8)(hw0:w0.heap.size≤NB)(hRB:RB≠NB)(s:List (List Int))(w:World)(x:Ru.Way)(hI:FoundI NB RB rc s w)(hs:s.length≤2000)(hy:Ru.Wf 8 x):
 Calls Tryz.prog 99 #[wayVal x, .pointer (some ⟨NB,0,none⟩), .pointer (some ⟨RB,0,none⟩)] w fun e w'=>e=.returned (.bool (decide (s.length+1≤2000)))∧FoundI NB RB rc (s++[x.nums.take m]) w'∧Kp w0.heap.size NB w w':=by
 obtain⟨i0,hi,hz0,hz1,hz2⟩:=info_parts tY;obtain⟨q,v,hqs,hN,ho,hro,hR⟩:=hI;obtain⟨au,cu,rfl⟩:=aZ ho;have bT:=(aH w.heap.size w).alloc (aF _) (.cells (wayArr x) 138);(have hql:q.length≤2000:=by rw[←hqs,aO]at hs;exact hs);have HS:Hid _:=hqs;have HN:Hid _:=(bT.block _ (aY hN)).trans hN;have HR:Hid _:=(bT.block _ (aY hR)).trans hR;have HO:Hid _:=aU ho bT;have HRO:Hid (∀p,p∈q→(w.alloc (.cells (wayArr x) 138)).ownsRow (NB+1) 3 1 p.2 p.1.length (p.1.map (Value.int .i64))):=fun p hp=>aU (hro p hp) bT;have HK:Hid (Kp w0.heap.size NB w (w.alloc (.cells (wayArr x) 138))):=Kp.of_below bT (aX hw0 (Nat.le_of_lt (aY hN)));have HW:Hid (WayAt (w.alloc (.cells (wayArr x) 138)) w.heap.size x):=heap_alloc_new w _;have HSZ:Hid (NB+1≤(w.alloc (.cells (wayArr x) 138)).heap.size):=aY HN.out;(have n0:(w.alloc (.cells (wayArr x) 138)).cell? ⟨NB,0,none⟩=some (.slice au q.length cu):=by rw[aC HN.out];rfl);(have r4:(w.alloc (.cells (wayArr x) 138)).cell? ⟨RB,4,none⟩=some (.int .i64 (m:Nat)):=by rw[aC HR.out];exact hrc);clear hqs hN hR ho hro bT hs hrc
 go_enter Tryz.func99,Tryz.ntmps99
 go_upto_region 1 with fail;generalize w.alloc (.cells (wayArr x) 138)=w1 at *;refine eS (found1T (.slice au q.length cu) w.heap.size RB m (NB+1) (x.nums.take m)) 7 dE kR kR kR (wK (.slice au q.length cu) w.heap.size RB m (NB+1) (x.nums.take m)) ?hopA ?htailA
 case hopA=>
  refine oC (fun a y_ h=>by have e1:a.eval (.tmp 1)=(.pointer (some ⟨NB,0,none⟩):Value):=h.old 1;have c0:=aD h.below n0;exact opX (.slice au q.length cu)) ?_;refine oC (fun a y_ h=>by have e3:a.eval (.tmp 3)=(.pointer (some ⟨w.heap.size,0,none⟩):Value):=h.old 3;exact opX (.pointer (some ⟨w.heap.size,0,none⟩))) ?_;refine oC (fun a y_ h=>by have e2:a.eval (.tmp 2)=(.pointer (some ⟨RB,0,none⟩):Value):=h.old 2;exact opX (.pointer (some ⟨RB,4,none⟩))) ?_;refine oC (fun a y_ h=>by have e7:a.eval (.tmp 7)=(.pointer (some ⟨RB,4,none⟩):Value):=h.of 7;have c0:=aD h.below r4;exact opX (.int .i64 (m:Nat))) ?_;refine oC (fun a y_ h=>by have e6:a.eval (.tmp 6)=(.pointer (some ⟨w.heap.size,0,none⟩):Value):=h.of 6;have e8:a.eval (.tmp 8)=(.int .i64 (m:Nat):Value):=h.of 8;have g0:(0:Int)≤(m:Int):=oM;have g8:(m:Int)≤8:=oM;exact opX (.slice (some ⟨w.heap.size,0,none⟩) m 8)) ?_;refine oC (fun a y_ h=>?_) ?_
  ·have e9:a.eval (.tmp 9)=(.slice (some ⟨w.heap.size,0,none⟩) m 8:Value):=h.of 9;refine dD (f:=77) (args:=#[.slice (some ⟨w.heap.size,0,none⟩) m 8]) (aM rfl) ?_ ?_
   ·have ec:=evc a;have ef:=evf a;generalize a.eval=ev at *;clear h;go_simp
   refine Calls.mono (nO (x.nums.take m) _ y_ (by have :=WayAt.takeV (WayAt.below HW.out h.below) hy hm8;exact this) (by rw[bC];omega)) ?_;rintro _ y2 ⟨v',rfl,hown,hb2⟩;refine⟨_,rfl,fun t ht=>?_,hb2⟩;cases ht;exact dP hown (aX HSZ.out h.below.size)
  refine oC (fun a y_ h=>by have ho:y_.ownsRow (NB+1) 3 1 (a.eval (.tmp 10)) (x.nums.take m).length ((x.nums.take m).map (Value.int .i64)):=h.of 10;obtain⟨ao,co,e10⟩:=aZ ho;rw[e10]at ho;refine cP (v:=.slice (some ⟨y_.heap.size,0,none⟩) 1 1) (w':=y_.alloc (.cells #[.slice ao (x.nums.take m).length co] 22)) (aM rfl) ?_ (fun t ht=>by cases ht;exact⟨_,_,rfl,heap_alloc_new y_ _,ho.alloc _⟩) ((aH _ _).alloc (aF _) _);have ec:=evc a;generalize a.eval=ev at *;clear h;go_simp) ?_;exact AllOps.nil
 case htailA=>
  rintro⟨tm0,df⟩ y_ hI;have e5:Act.eval ⟨tm0,df⟩ (.tmp 5)=(.slice au q.length cu):=hI.all 0 _ 5 dE rfl rfl;obtain⟨b',v',e11,hb',hov⟩:∃b' v',Act.eval ⟨tm0,df⟩ (.tmp 11)=.slice (some ⟨b',0,none⟩) 1 1∧y_.heap[b']?=some (.cells #[v'] 22)∧y_.ownsRow (NB+1) 3 1 v' (x.nums.take m).length ((x.nums.take m).map (Value.int .i64)):=hI.all 6 _ 11 dE rfl rfl;have e1:Act.eval ⟨tm0,df⟩ (.tmp 1)=.pointer (some ⟨NB,0,none⟩):=hI.still 1 dE;have hoy:=aU HO.out hI.below;have hNy:=(hI.below.block _ (aY HN.out)).trans HN.out;have hRy:=(hI.below.block _ (aY HR.out)).trans HR.out;have hrows:∀p,p∈q→y_.ownsRow (NB+1) 3 1 p.2 p.1.length (p.1.map (Value.int .i64)):=fun p hp=>aU (HRO.out p hp) hI.below;have hKy:Kp w0.heap.size NB w y_:=HK.out.trans (Kp.of_below hI.below (aX hw0 (Nat.le_of_lt (aY HN.out))));have hszF:NB+1≤y_.heap.size:=aY hNy;obtain⟨ai,ci,evi⟩:=aZ hov;show wpOps Tryz.prog _ _ [7,8] _ _;rw[wpOps_cons];refine kK rfl (aM rfl) (wp_append_own y_ (.tmp 5) (.tmp 11) 28 rfl (NB+1) 22 i0 _ 1 24 Tryz.underlying28 hi hz0 hz1 hz2 rfl dE (.slice au q.length cu) q.length (q.map (·.2)) e5 hoy ⟨b',0,none⟩ 1 1 (#[v']:Array Value).toList e11 rfl (kB hb') ?h1A ?h63A ?hbyA hszF ?_);(case h1A=>intro u hu;simp only[bD,eN,or_false]at hu;subst hu;rw[evi];rfl);(case h63A=>unfold maxLen;omega);(case hbyA=>omega);intro v9 w9 ho9 hg9 _;obtain⟨av,cv,rfl⟩:=aZ ho9;have hown9:∀kQ,((.slice au q.length cu):Value).ownBlock=some kQ→NB+1≤kQ:=fun kQ hk=>(hoy.lt kQ hk).1;have hot9:∀(k:Nat)(c:Array Value)(t:TypeId),y_.heap[k]?=some (.cells c t)→t≠22→w9.heap[k]?=some (.cells c t):=fun k c t hk ht=>(hg9.block k (aY hk) (fun e=>ht (jL hoy e.symm hk))).trans hk;have hN9:w9.heap[NB]?=some (.cells #[.slice au q.length cu] 28):=hot9 _ _ _ hNy dE;(have c9:w9.cell? ⟨NB,0,none⟩=some (.slice au q.length cu):=by rw[aC hN9];rfl);have f9:=bQ hN9 0;have hsN:tm0.size=16:=hI.size;rw[wpOps_cons];refine lL rfl (aM rfl) rfl (w':=w9.setCell ⟨NB,0,none⟩ (.slice av (q.length+1) cv)) ?_ ?_
  ·have q1:Act.eval (Act.put ⟨tm0,df⟩ (some 12) (.slice av (q.length+1) cv)) (.tmp 1)=.pointer (some ⟨NB,0,none⟩):=(cI (a:=⟨tm0,df⟩) (t:=12) (u:=1) dE).trans e1;have q2:Act.eval (Act.put ⟨tm0,df⟩ (some 12) (.slice av (q.length+1) cv)) (.tmp 12)=(.slice av (q.length+1) cv):=dC (by show 12<tm0.size;omega);show Sem.run Tryz.prog (execOp (Act.eval (Act.put ⟨tm0,df⟩ (some 12) (.slice av (q.length+1) cv))) _) w9=_;generalize Act.eval (Act.put ⟨tm0,df⟩ (some 12) (.slice av (q.length+1) cv))=ev at *;clear hI;go_simp
  have hoth:∀(k:Nat)(c:Array Value)(t:TypeId),y_.heap[k]?=some (.cells c t)→k≠NB→t≠22→(w9.setCell ⟨NB,0,none⟩ (.slice av (q.length+1) cv)).heap[k]?=some (.cells c t):=fun k c t hk hne ht=>(bH hne).trans (hot9 k c t hk ht);(have HN9:Hid ((w9.setCell ⟨NB,0,none⟩ (.slice av (q.length+1) cv)).heap[NB]?=some (.cells #[(.slice av (q.length+1) cv)] 28)):=by show _=_;rw[bL hN9];rfl);(have HO9:Hid ((w9.setCell ⟨NB,0,none⟩ (.slice av (q.length+1) cv)).ownsRow (NB+1) 22 1 (.slice av (q.length+1) cv) (q.length+1) (q.map (·.2)++[v'])):=by refine dY ho9 (fun g hg=>bH (fun e=>?_));have :=(ho9.lt g hg).1;omega);have h3:∀(l:List Int)(u:Value),y_.ownsRow (NB+1) 3 1 u l.length (l.map (Value.int .i64))→(w9.setCell ⟨NB,0,none⟩ (.slice av (q.length+1) cv)).ownsRow (NB+1) 3 1 u l.length (l.map (Value.int .i64)):=fun l u hu=>fF hu (fun k c hk=>hoth k c 3 hk (fun e=>by rw[e,hNy]at hk;injection hk with hk;injection hk with _ hk;cases hk) dE);have HR9:Hid _:=hoth _ _ _ hRy hRB dE;have HRO9:Hid (∀p,p∈q++[((x.nums.take m),v')]→(w9.setCell ⟨NB,0,none⟩ (.slice av (q.length+1) cv)).ownsRow (NB+1) 3 1 p.2 p.1.length (p.1.map (Value.int .i64))):=fun p hp=>by
   rcases bX.mp hp with hp|hp
   ·exact h3 _ _ (hrows p hp)
   rcases bI.mp hp with rfl;exact h3 _ _ hov
  have HK9:Hid (Kp w0.heap.size NB w (w9.setCell ⟨NB,0,none⟩ (.slice av (q.length+1) cv))):=hKy.trans ⟨hg9.os,hg9.tape,hg9.output,by simpa using hg9.size,fun k hk=>(bH oM).trans (hg9.block k oM (fun e=>by have :=hown9 k e.symm;omega)),fun k c t hk hne ht=>hoth k c t hk hne ht⟩;(have hst:∀t,t∉[5,6,7,8,9,10,11,12]→(tm0.setIfInBounds 12 (.slice av (q.length+1) cv)).getD t undef=_:=fun t ht=>by have hA:t≠12:=fun e=>ht (by rw[e];decide);exact(cI (a:=⟨tm0,df⟩) hA).trans (hI.still t ht));obtain rfl:df=[]:=hI.defers;(have hs2:(tm0.setIfInBounds 12 (.slice av (q.length+1) cv)).size=16:=by simp[hsN]);clear hI e5 e11 hb' hov e1 hoy hNy hRy hrows hKy hszF evi ho9 hg9 hown9 hot9 hN9 c9 f9 hsN hoth h3;show Exit.then _ _ Exit.normal ⟨tm0.setIfInBounds 12 (.slice av (q.length+1) cv),[]⟩ _;generalize w9.setCell ⟨NB,0,none⟩ (.slice av (q.length+1) cv)=w5 at *;generalize tm0.setIfInBounds 12 (.slice av (q.length+1) cv)=tm at *;obtain⟨fQ,hQ,hF8⟩:=fH [5,6,7,8,9,10,11,12] tm _ (hs2.trans rF) hst;clear hs2 hst;simp only[cL,dB]at hF8;clear hQ;simp only[aV,bS,bV]at hF8;subst hF8;(have c5:w5.cell? ⟨NB,0,none⟩=some (.slice av (q.length+1) cv):=by rw[aC HN9.out];rfl);have HD:Hid (decide ((q.length:Int)+1≤2000)=decide (q.length+1≤2000)):=decide_eq_decide.mpr oM;go_wp2_with fail;go_ret;refine⟨?_,⟨q++[((x.nums.take m),v')],_,by rw[bJ,←HS.out];rfl,HN9.out,by rw[aN,bJ];exact HO9.out,HRO9.out,HR9.out⟩,HK9.out⟩;rw[←HS.out,aO];show Ending.returned (.bool (decide ((q.length:Int)+1≤2000)))=_;rw[HD.out]
theorem tellF(w0:World)(NB RB m:Nat)(rc:Array Value)(hrc:rc[4]?=some (.int .i64 (m:Nat)))(hm8:m≤8)(hw0:w0.heap.size≤NB)(hRB:RB≠NB):Tell w0.heap.size NB 99 #[.pointer (some ⟨NB,0,none⟩), .pointer (some ⟨RB,0,none⟩)] (Ru.stepF m) Ru.liveF (FoundI NB RB rc):=
 ⟨fun s w x hI hl hy=>aAD w0 NB RB m rc hrc hm8 hw0 hRB s w x hI hl hy,fun _ _ _ hI hb=>by
  obtain⟨q,v,h1,h2,h3,h4,h5⟩:=hI
  exact⟨q,v,h1,(hb.block _ (aY h2)).trans h2,aU h3 hb,fun p hp=>aU (h4 p hp) hb,(hb.block _ (aY h5)).trans h5⟩,fun _ _ hI=>by
  obtain⟨q,v,h1,h2,_⟩:=hI;have :=aY h2
  exact⟨oM,this⟩⟩
def CapOk(v:Value):Prop:=∀ao n cap,v=.slice ao n cap→n≤cap
theorem aAk{w:World}{v:Value}{l:List Sc.Lit}(h:PLitsV w v l)(hcap:CapOk v)(NB:Nat):∃q:List Lv,q.map (·.1)=l∧BodyV w NB w v q:=by
 obtain⟨ao,cap,rfl,hA⟩:=h;have hc:=hcap _ _ _ rfl;rcases hA with rfl|⟨b,off,rfl,hc4⟩
 ·exact⟨[],rfl,⟨ao,cap,rfl,aR _,fun hne=>absurd rfl hne⟩,fun p hp=>absurd hp sI⟩
 obtain⟨f,hf⟩:=Deep.choose_lt (n:=l.length) (p:=fun i u=>w.cell? ⟨b,off+i*4+3,none⟩=some u∧PTermsV w u (Sc.litD l i).terms) (fun i hi=>by
  obtain⟨_,_,_,u,h3,h4⟩:=hc4 i hi
  exact⟨u,h3,h4⟩)
 (have hlen:((List.range l.length).map fun i=>(Sc.litD l i,f i)).length=l.length:=by rw[aO,List.length_range]);have hQ:QAt w ⟨b,off,none⟩ ((List.range l.length).map fun i=>(Sc.litD l i,f i)):=by
  intro j u hj;obtain⟨p,hp,hu⟩:=aBF lvCells 4 dE (fun _=>rfl) _ j u hj;(have hjl:j/4<l.length:=by have :=(dA.mp hp).1;simpa using this);rw[bK,kZ hjl]at hp;(obtain rfl:(Sc.litD l (j/4),f (j/4))=p:=by simpa using hp);obtain⟨h0,h1,h2,_⟩:=hc4 (j/4) hjl;have h3:=(hf (j/4) hjl).1;rw[Addr.add_lit];have hm:j% 4=0∨j% 4=1∨j% 4=2∨j% 4=3:=oM;rcases hm with hm|hm|hm|hm
  ·rw[hm]at hu;rw[show off+j=off+j/4*4 by omega,h0];exact hu
  ·rw[hm]at hu;rw[show off+j=off+j/4*4+1 by omega,h1];exact hu
  ·rw[hm]at hu;rw[show off+j=off+j/4*4+2 by omega,h2];exact hu
  rw[hm]at hu;rw[show off+j=off+j/4*4+3 by omega,h3];exact hu
 refine⟨(List.range l.length).map fun i=>(Sc.litD l i,f i),?_,⟨_,cap,by rw[hlen],by rw[hlen];exact hc,fun hne=>⟨b,off,rfl,hQ, .inl ?_⟩⟩,?_⟩
 ·apply eZ;intro i;rw[List.map_map,bK];by_cases hi:i<l.length
  ·rw[kZ hi];simp[Sc.litD,hi]
  rw[bR sO,bR oM];rfl
 ·have hp:0<l.length:=by
   rcases Nat.eq_zero_or_pos l.length with h0|h0
   ·exact absurd (by rw[h0];rfl) hne
   exact h0
  exact dX w _ (hc4 0 hp).1
 intro p hp;obtain⟨i,hi,rfl⟩:=bO.mp hp;exact(hf i (cZ.mp hi)).2
def NumsP(B:Nat)(w:World)(v:Value)(q:List (List Int×Value)):Prop:=w.ownsRow B 22 1 v q.length (q.map (·.2))∧∀p,p∈q→w.ownsRow B 3 1 p.2 p.1.length (p.1.map (Value.int .i64))
theorem aBE(facts:List Rl.Fc)(r:Sc.Rule)(vt vb vf:Value)(w:World)(hF:FactsV w vf facts)(hFl:facts.length≤1000)(hFF:∀f,f∈facts→FFit f)(hR:Ru.RuleIn facts r)(hN:∀f,f∈facts→∀n,n∈f.args→Sc.isNum n=true)(hTl:∀l,l∈r.body→l.terms.length≤1000)(hC:∀l,l∈r.body→Ru.LitNum l)
 (hT:PTermsV w vt r.terms) (hL:PLitsV w vb r.body) (hcap:CapOk vb) (hbl:r.body.length≤1000) (hv0:0≤r.vars):
 Calls Tryz.prog 53 #[pruleVal r vt vb,vf] w fun e w'=>∃v q,e=.returned v∧NumsP w.heap.size w' v q∧q.map (·.1)=(Ru.ways facts r).take 2001∧Below w.heap.size w w':=by
 obtain⟨q0,hq0,hB⟩:=aAk hL hcap (w.heap.size+1);obtain⟨at_,ct,rfl,_⟩:=id hT;obtain⟨ab,cb,rfl,_⟩:=id hL;obtain⟨af,cf,hvf,_⟩:=id hF;obtain⟨h0,h1,hb⟩:=lI w (.cells #[.int .i64 r.pred, .slice at_ r.terms.length ct, .int .i64 r.fold, .slice ab r.body.length cb, .int .i64 r.vars] 40) (.cells #[.slice none 0 0] 28);have hm:r.vars=((r.vars.toNat:Nat):Int):=(Int.toNat_of_nonneg hv0).symm;have TL:=tellF w (w.heap.size+1) w.heap.size r.vars.toNat #[.int .i64 r.pred, .slice at_ r.terms.length ct, .int .i64 r.fold, .slice ab r.body.length cb, .int .i64 r.vars] (by show some (Value.int .i64 r.vars)=_;rw[←hm]) hR.v8 (iB _) oM;have hfi:FoundI (w.heap.size+1) w.heap.size #[.int .i64 r.pred, .slice at_ r.terms.length ct, .int .i64 r.fold, .slice ab r.body.length cb, .int .i64 r.vars] [] ((w.alloc (.cells #[.int .i64 r.pred, .slice at_ r.terms.length ct, .int .i64 r.fold, .slice ab r.body.length cb, .int .i64 r.vars] 40)).alloc (.cells #[.slice none 0 0] 28)):=⟨[],_,rfl,h1,cM _ _ _ _,fun p hp=>absurd hp sI,h0⟩;(have hlen:q0.length=r.body.length:=by rw[←hq0,aO]);have HC:Hid _:=aCB vf hF hFl hFF hR hN hTl hC TL (eQ Tryz.func99 kR rfl) r.body.length q0 Ru.way0 (.slice ab r.body.length cb) _ [] hlen hbl hb (hB.kp (Kp.of_below hb (aF _))) (Ru.way0_good _) (by rw[hq0];exact Ru.way0_left r) hfi (Ru.lv_found _ _ _ (aR _));(have HE:Hid ((Ru.run (Ru.stepF r.vars.toNat) [] (Ru.eachN facts r.body.length (q0.map (·.1)) Ru.way0)).1=(Ru.ways facts r).take 2001):=by show _=_;rw[Ru.run_found _ _ _ (aR _),hq0];show []++((Ru.each facts r.body Ru.way0).take 2001).map _=_;rw[eW,List.map_take];rfl);have HK:Hid (Kp w.heap.size (w.heap.size+1) w ((w.alloc (.cells #[.int .i64 r.pred, .slice at_ r.terms.length ct, .int .i64 r.fold, .slice ab r.body.length cb, .int .i64 r.vars] 40)).alloc (.cells #[.slice none 0 0] 28))):=Kp.of_below hb (aF _);(have c3:((w.alloc (.cells #[.int .i64 r.pred, .slice at_ r.terms.length ct, .int .i64 r.fold, .slice ab r.body.length cb, .int .i64 r.vars] 40)).alloc (.cells #[.slice none 0 0] 28)).cell? ⟨w.heap.size,3,none⟩=some (.slice ab r.body.length cb):=by rw[aC h0];rfl);clear h0 h1 hb TL hfi hF hFF hR hN hTl hC hT hL hB hcap hq0 hlen hm hvf;generalize Ru.run (Ru.stepF r.vars.toNat) [] (Ru.eachN facts r.body.length (q0.map (·.1)) Ru.way0)=R at *;generalize (Ru.ways facts r).take 2001=WS at *
 go_enter Tryz.func53,Tryz.ntmps53
 go_upto_region 2 with fail;generalize (w.alloc (.cells #[.int .i64 r.pred, .slice at_ r.terms.length ct, .int .i64 r.fold, .slice ab r.body.length cb, .int .i64 r.vars] 40)).alloc (.cells #[.slice none 0 0] 28)=w1 at *;have hmf:∀(fn:Fn)(first cap:Array Value)(w:World),(Instr.makeFunc fn first cap).run Tryz.prog w=.ok (.func fn first cap) w:=fun _ _ _ _=>rfl;go_wp2_with fail;refine Calls.mono HC.out ?_;rintro _ w4 ⟨rfl,⟨q,v,hq,hN4,ho4,hr4,_⟩,hK4⟩;obtain⟨ao,co,rfl⟩:=aZ ho4;have HO:Hid _:=ho4;have HRO:Hid (∀p,p∈q→w4.ownsRow (w.heap.size+1+1) 3 1 p.2 p.1.length (p.1.map (Value.int .i64))):=hr4;have HQ:Hid _:=hq;(have c4:w4.cell? ⟨w.heap.size+1,0,none⟩=some (.slice ao q.length co):=by rw[aC hN4];rfl);clear ho4 hr4 hq hN4 c3 HC;go_wp2_with fail;go_ret;exact⟨_,q,rfl,⟨dP HO.out oM,fun p hp=>dP (HRO.out p hp) oM⟩,HQ.out.trans HE.out,(HK.out.trans hK4).below (aH _ _)⟩
theorem enters132:Enters 132:=eQ Tryz.func132 kR rfl
theorem enters127:Enters 127:=eQ Tryz.func127 kR rfl
theorem aAr(n:Int)(w:World):Calls Tryz.prog 132 #[.int .i64 n] w fun e w'=>e=.returned (.bool (!Sc.isNum n))∧w'=w:=by
 go_enter Tryz.func132,Tryz.ntmps132
 go_wp2_with fail;refine(oA n _).mono ?_;rintro e w1 ⟨rfl,rfl⟩;go_wp2_with fail;go_ret;exact⟨rfl,rfl⟩
theorem yR(w:World)(ao:Option Addr)(cap:Nat):Calls Tryz.prog 177 #[.slice ao 0 cap, .func (.func 132) #[] #[]] w fun e w'=>e=.returned (.int .i64 (-1))∧Below w.heap.size w w':=by
 go_enter Tryz.func177,Tryz.ntmps177
 go_wp2_with fail;refine wp_loop_rounds 1 ?_;rw[rounds_succ];go_wp2_with fail;go_ret;exact⟨rfl,aH _ _⟩
theorem yQ(l:List Int)(n b off cap:Nat)(w:World)(hn:l.length=n)(hmax:n≤9223372036854775807)(hB:∀i,i<n→w.cell? ⟨b,off+i,none⟩=some (.int .i64 (Sc.intD l i))):
 Calls Tryz.prog 177 #[.slice (some ⟨b,off,none⟩) n cap, .func (.func 132) #[] #[]] w fun e w'=>∃r:Int,e=.returned (.int .i64 r)∧decide (0≤r)= !(l.all Sc.isNum)∧Below w.heap.size w w':=by
 have HN:Hid (l.length=n):=hn;have he:=enters132;unfold Enters at he;clear hn
 go_enter Tryz.func177,Tryz.ntmps177
 go_wp2_with fail;go_loopw [8] (fun i wr=>∃k:Nat,k≤n∧i=.int .i64 k∧l.all Sc.isNum=(l.drop k).all Sc.isNum∧Below w.heap.size w wr) (fun i _=>n-(intOf i).toNat);case atStart=>exact⟨0,aR _,rfl,rfl,aH _ _⟩
 case round=>
  obtain⟨k,hk,rfl,hall,hbel⟩:=hrel;have HA:Hid (l.all Sc.isNum=(l.drop k).all Sc.isNum):=hall;clear hall;by_cases hlt:k<n
  ·have hc:=aD hbel (hB k hlt);have HD:Hid (l.all Sc.isNum=(Sc.isNum (Sc.intD l k)&&(l.drop (k+1)).all Sc.isNum)):=HA.out.trans (all_drop _ _ _ k (by rw[HN.out];exact hlt));clear hB HA;generalize Sc.intD l k=x at *;go_wp2_with fail;refine(aAr x _).mono ?_;rintro e w1 ⟨he1,rfl⟩;cases hx:Sc.isNum x
   ·rw[hx]at he1;subst he1;(have HV:Hid (l.all Sc.isNum=false):=by show _=_;rw[HD.out,hx];rfl);clear HD;go_wp2_with fail;go_ret;exact⟨k,rfl,by rw[HV.out];simp,hbel⟩
   rw[hx]at he1;subst he1;(have HV:Hid (l.all Sc.isNum=(l.drop (k+1)).all Sc.isNum):=by show _=_;rw[HD.out,hx];rfl);clear HD;go_wp2_with fail;go_roundw;(case rel=>exact⟨k+1,oM,gN,HV.out,hbel⟩);case measure=>exact mI
  (have HV:Hid (l.all Sc.isNum=true):=by show _=_;rw[HA.out,aL (by rw[HN.out];omega)];rfl);clear hB;go_wp2_with fail;go_ret;exact⟨-1,rfl,rV,hbel⟩
theorem pQ(l:List Int)(v:Value)(w:World)(hV:IntsV w v l)(hmax:l.length≤9223372036854775807):
 Calls Tryz.prog 131 #[v, .func (.func 132) #[] #[]] w fun e w'=>e=.returned (.bool (!(l.all Sc.isNum)))∧Below w.heap.size w w':=by
 obtain⟨ao,cap,rfl,h⟩:=hV;have HI:Hid (Calls Tryz.prog 177 #[.slice ao l.length cap, .func (.func 132) #[] #[]] w fun e w'=>∃r:Int,e=.returned (.int .i64 r)∧decide (0≤r)= !(l.all Sc.isNum)∧Below w.heap.size w w'):=by
  rcases h with rfl|⟨b,off,rfl,h⟩
  ·exact(yR w ao cap).mono fun e w' ⟨h1,h2⟩=>⟨-1,h1,rfl,h2⟩
  exact yQ l l.length b off cap w rfl hmax h
 go_enter Tryz.func131,Tryz.ntmps131
 go_wp2_with fail;refine Calls.mono HI.out ?_;rintro e w1 ⟨r,rfl,hr,hb⟩;go_wp2_with fail;go_ret;exact⟨rfl,hb⟩
abbrev factVal(pred:Int)(v:Value):Value:=.agg #[.int .i64 pred,v]
theorem aBG(p:Sc.Prog)(va vn vr:Value)(X Y:Nat)(pred:Int)(args:List Int)(v:Value)(w:World)(hX:w.heap[X]?=some (.cells #[va,vn,vr] 26))(hY:w.heap[Y]?=some (.cells #[.int .i64 pred,v] 55))(hP:ProgV w va vn vr p)(hF:ProgFit p)(hV:IntsV w v args)(hmax:args.length≤9223372036854775807):
 Calls Tryz.prog 127 #[.pointer (some ⟨X,0,none⟩), .pointer (some ⟨Y,0,none⟩)] w fun e w'=>e=finE (Sc.fact p pred args)∧Below w.heap.size w w':=by
 have HPV:Hid (ProgV w va vn vr p):=hP;have HV0:Hid (IntsV w v args):=hV;obtain⟨ao,cap,rfl,hA⟩:=hP.ar;obtain⟨ag,cg,rfl,_⟩:=hV;(have c0:w.cell? ⟨X,0,none⟩=some (.slice ao p.arity.length cap):=by rw[aC hX];rfl);(have c1:w.cell? ⟨X,1,none⟩=some vn:=by rw[aC hX];rfl);(have c2:w.cell? ⟨X,2,none⟩=some vr:=by rw[aC hX];rfl);have HE:Hid (Sc.fact p pred args=Sc.thn (Sc.check p) (Sc.factErr p pred args)):=rfl;clear hP
 go_enter Tryz.func127,Tryz.ntmps127
 go_wp2_with fail;refine Calls.mono (pC p _ _ _ _ HPV.out hF) ?_;rintro e w1 ⟨he,hb1⟩;by_cases h:Sc.check p=0;rotate_left
 ·rw[iQ h]at he;subst he;(have HV:Hid (Sc.fact p pred args=Sc.check p):=by show _=_;rw[HE.out,Sc.thn_ne _ h]);go_wp2_with fail;exact⟨rfl,by rw[HV.out,iQ h],hb1⟩
 rw[h,kO]at he;subst he;rw[h,Sc.thn_zero]at HE;have hX1:=(hb1.block _ (aY hX)).trans hX;have hY1:=(hb1.block _ (aY hY)).trans hY;clear c0 c1 c2;(have c0:w1.cell? ⟨X,0,none⟩=some (.slice ao p.arity.length cap):=by rw[aC hX1];rfl);(have c1:w1.cell? ⟨X,1,none⟩=some vn:=by rw[aC hX1];rfl);(have c2:w1.cell? ⟨X,2,none⟩=some vr:=by rw[aC hX1];rfl);(have d0:w1.cell? ⟨Y,0,none⟩=some (.int .i64 pred):=by rw[aC hY1];rfl);(have d1:w1.cell? ⟨Y,1,none⟩=some (.slice ag args.length cg):=by rw[aC hY1];rfl);clear hX hY h hF HPV;unfold Sc.factErr at HE;go_wp2_with fail;refine Calls.mono (jP p.arity ao cap vn vr pred _) ?_;rintro e w2 ⟨he,hb2⟩;have hb12:=hb1.trans (hb2.mono hb1.size);have hX2:=(hb2.block _ (aY hX1)).trans hX1;have hY2:=(hb2.block _ (aY hY1)).trans hY1;cases g1:Sc.isPred p.arity pred
 ·rw[g1]at he;subst he;(have HV:Hid (Sc.fact p pred args=5):=by show _=_;rw[HE.out,g1];rfl);go_wp2_with fail;refine(cX 5 _).mono ?_;rintro e w3 ⟨rfl,hb3⟩;go_wp2_with fail;exact⟨rfl,rV,hb12.trans (hb3.mono hb12.size)⟩
 rw[g1]at he;subst he;obtain⟨k,rfl,hk⟩:=nI g1;obtain⟨b,off,rfl,hc⟩:=fS hA k hk;have hq:=aD hb12 hc;rw[g1,if_pos rfl,dI]at HE;clear c0 c1 c2 d0 d1;(have c0:w2.cell? ⟨X,0,none⟩=some (.slice (some ⟨b,off,none⟩) p.arity.length cap):=by rw[aC hX2];rfl);(have d0:w2.cell? ⟨Y,0,none⟩=some (.int .i64 k):=by rw[aC hY2];rfl);(have d1:w2.cell? ⟨Y,1,none⟩=some (.slice ag args.length cg):=by rw[aC hY2];rfl);clear hc hA hX1 hY1 hb1 hb2;go_wp2_with fail;refine(dJ 5 _).mono ?_;rintro e w3 ⟨rfl,rfl⟩;go_upto_region 3 with fail;cases g2:((args.length:Int) != Sc.intD p.arity k)
 ·(have h2:(args.length:Int)=Sc.intD p.arity k:=by simpa using g2);rw[if_neg (by simp[h2]),Sc.thn_zero]at HE;clear h2;go_region_held3 (fun y=>y.cell? ⟨X,0,none⟩=some (.slice (some ⟨b,off,none⟩) p.arity.length cap)∧y.cell? ⟨Y,0,none⟩=some (.int .i64 k)∧y.cell? ⟨Y,1,none⟩=some (.slice ag args.length cg)∧y.cell? ⟨b,off+k,none⟩=some (.int .i64 (Sc.intD p.arity k))) (go_keep) ((go_at_call 129;refine Calls.mono (dJ 1 _) ?_;rintro e y ⟨rfl,rfl⟩));have hY3:w3.drew.heap[Y]?=some (.cells #[.int .i64 k, .slice ag args.length cg] 55):=hY2;have hb3:=hb12.drew;clear hq c0 d0 d1 hX2 hY2 hb12;generalize w3.drew=w4 at *;(have d1:w4.cell? ⟨Y,1,none⟩=some (.slice ag args.length cg):=by rw[aC hY3];rfl);have hmf:∀(fn:Fn)(first cap:Array Value)(w:World),(Instr.makeFunc fn first cap).run Tryz.prog w=.ok (.func fn first cap) w:=fun _ _ _ _=>rfl;go_wp2_with fail;refine Calls.mono (pQ args _ _ (aK HV0.out hb3) hmax) ?_;rintro e w5 ⟨he,hb5⟩;have hb35:=hb3.trans (hb5.mono hb3.size);cases g3:args.all Sc.isNum
  ·rw[g3]at he HE;subst he;(have HV:Hid (Sc.fact p k args=3):=by show _=_;rw[HE.out];rfl);go_wp2_with fail;refine(cX 3 _).mono ?_;rintro e w6 ⟨rfl,hb6⟩;go_wp2_with fail;exact⟨rfl,rV,hb35.trans (hb6.mono hb35.size)⟩
  rw[g3]at he HE;subst he;(have HV:Hid (Sc.fact p k args=0):=by show _=_;rw[HE.out];rfl);go_wp2_with fail;refine(dJ 3 _).mono ?_;rintro e w6 ⟨rfl,rfl⟩;go_wp2_with fail;exact⟨rfl, .tuple #[],by simp[results,Tryz.results127],rV,hb35⟩
 (have h2:¬(args.length:Int)=Sc.intD p.arity k:=by simpa using g2);(have HV:Hid (Sc.fact p k args=1):=by show _=_;rw[HE.out,if_pos h2];rfl);clear HE h2;refine wp_region_held_drew (S:=(fun y=>y.cell? ⟨X,0,none⟩=some (.slice (some ⟨b,off,none⟩) p.arity.length cap)∧y.cell? ⟨Y,0,none⟩=some (.int .i64 k)∧y.cell? ⟨Y,1,none⟩=some (.slice ag args.length cg)∧y.cell? ⟨b,off+k,none⟩=some (.int .i64 (Sc.intD p.arity k)))) kR (by go_keep) (fun hHeld=>?_);refine wpAnyH_take (i:=0) (v:=?v0x0) rfl kR kR kR (fun _ _ _ h=>h) (Or.inl ⟨by rfl,?hy0x0⟩) (by assumption) ?_;(case hy0x0=>intro w hSw;(try dsimp only at hSw);go_simp;try with_reducible rfl);(try simp only[Act.put,aV]);refine wpAnyH_take (i:=1) (v:=?v1x1) rfl kR kR kR (fun _ _ _ h=>h) (Or.inl ⟨by rfl,?hy1x1⟩) (by assumption) ?_;(case hy1x1=>intro w hSw;(try dsimp only at hSw);go_simp;try with_reducible rfl);(try simp only[Act.put]);refine wpAnyH_take (i:=2) (v:=?v2x2) rfl kR kR kR (fun _ _ _ h=>h) (Or.inl ⟨by rfl,?hy2x2⟩) (by assumption) ?_;(case hy2x2=>intro w hSw;(try dsimp only at hSw);go_simp;try with_reducible rfl);(try simp only[Act.put]);refine wpAnyH_take (i:=3) (v:=?v3x3) rfl kR kR kR (fun _ _ _ h=>h) (Or.inl ⟨by rfl,?hy3x3⟩) (by assumption) ?_;(case hy3x3=>intro w hSw;(try dsimp only at hSw);go_simp;try with_reducible rfl);(try simp only[Act.put]);refine wpAnyH_take (i:=4) (v:=?v4x4) rfl kR kR kR (fun _ _ _ h=>h) (Or.inl ⟨by rfl,?hy4x4⟩) (by assumption) ?_;(case hy4x4=>intro w hSw;(try dsimp only at hSw);go_simp;try with_reducible rfl);(try simp only[Act.put]);refine wpAnyH_take (i:=5) (v:=?v5x5) rfl kR kR kR (fun _ _ _ h=>h) (Or.inl ⟨by rfl,?hy5x5⟩) (by assumption) ?_;(case hy5x5=>intro w hSw;(try dsimp only at hSw);go_simp;try with_reducible rfl);(try simp only[Act.put]);refine wpAnyH_take (i:=6) (v:=?v6x6) rfl kR kR kR (fun _ _ _ h=>h) (Or.inl ⟨by rfl,?hy6x6⟩) (by assumption) ?_;(case hy6x6=>intro w hSw;(try dsimp only at hSw);go_simp;try with_reducible rfl);(try simp only[Act.put]);refine wpAnyH_take (i:=7) (v:=?v7x7) rfl kR kR kR (fun _ _ _ h=>h) (Or.inl ⟨by rfl,?hy7x7⟩) (by assumption) ?_;(case hy7x7=>intro w hSw;(try dsimp only at hSw);go_simp;try with_reducible rfl);(try simp only[Act.put]);refine wpAnyH_take (i:=8) (v:=?v8x8) rfl kR kR kR (fun _ _ _ h=>h) (Or.inl ⟨by rfl,?hy8x8⟩) (by assumption) ?_;(case hy8x8=>intro w hSw;(try dsimp only at hSw);go_simp;try with_reducible rfl);(try simp only[Act.put]);refine wpAnyH_take (i:=9) (v:=?v9x9) rfl kR kR kR (fun _ _ _ h=>h) (Or.inl ⟨by rfl,?hy9x9⟩) (by assumption) ?_;(case hy9x9=>intro w hSw;(try dsimp only at hSw);go_simp;try with_reducible rfl);(try simp only[Act.put]);refine wpAnyH_ready (rs:=[10]) kR sI ?_;refine AllReadyH.cons rfl (fun K hK=>?_) AllReadyH.nil;go_simp;go_at_call 129;refine Calls.mono (cX 1 _) ?_;rintro e y2 ⟨rfl,hb4⟩;exact⟨rfl,rV,hb12.drew.trans (hb4.mono hb12.size)⟩
theorem nQ(p:Sc.Prog)(va vn vr:Value)(pred:Int)(args:List Int)(v:Value)(w:World)(hP:ProgV w va vn vr p)(hF:ProgFit p)(hV:IntsV w v args)(hmax:args.length≤9223372036854775807):
 Calls Tryz.prog 87 #[progVal va vn vr,factVal pred v] w fun e w'=>e=.returned (.int .i64 (Sc.fact p pred args))∧Below w.heap.size w w':=by
 obtain⟨a0,n0,rfl,_⟩:=id hP.ar;obtain⟨a1,n1,rfl,_⟩:=id hP.nm;obtain⟨a2,n2,rfl,_⟩:=id hP.rl;obtain⟨a3,n3,rfl,_⟩:=id hV;have hmf:∀(fn:Fn)(first cap:Array Value)(w:World),(Instr.makeFunc fn first cap).run Tryz.prog w=.ok (.func fn first cap) w:=fun _ _ _ _=>rfl;have hb0:∀(u:World)(o:Obj),Below u.heap.size u (u.alloc o):=fun u o=>(aH _ _).alloc (aF _) o;have hR:=RB.start w (.cells #[.slice a0 p.arity.length n0, .slice a1 p.names.length n1, .slice a2 p.rules.length n2] 26) (.cells #[.int .i64 pred, .slice a3 args.length n3] 55)
 go_enter Tryz.func87,Tryz.ntmps87
 go_wp2_with fail;generalize (w.alloc (.cells #[.slice a0 p.arity.length n0, .slice a1 p.names.length n1, .slice a2 p.rules.length n2] 26)).alloc (.cells #[.int .i64 pred, .slice a3 args.length n3] 55)=w1 at *;refine Calls.mono (sB 127 _ none 0 (Sc.fact p pred args) (fun _=>True) w1 enters127 (fun _ e=>by cases e) (fun _ _ _ _ _=>trivial) ?_) ?_
 ·have hR1:=hR.below (hb0 w1 (.cells #[.int .i64 0, .int .i64 0] 168));refine Calls.mono (aBG p _ _ _ w.heap.size (w.heap.size+1) pred args _ _ hR1.b1 hR1.b2 (hP.below hR1.bel) hF (aK hV hR1.bel) hmax) ?_;rintro e w2 ⟨rfl,hb⟩;exact⟨rfl,iH hb _,trivial⟩
 rintro e w2 ⟨rfl,hg,_⟩;have hbb:=hR.bel.trans ((mQ hg).mono hR.bel.size);go_wp2_with fail;simp only[fldF];go_wp2_with fail;go_ret;exact⟨rfl,hbb⟩
namespace Ru
def factsErr(p:Sc.Prog)(l:List Rl.Fc):Int:=Sc.first (fun f:Rl.Fc=>Sc.fact p f.pred f.args) l
def check(p:Sc.Prog)(i:Int)(l:List Rl.Fc):Int:=
 if Sc.check p≠0 then Sc.check p else if i<0∨(p.rules.length:Int)≤i then 5 else if 60<l.length then 2 else factsErr p l
theorem factsErr_drop(p:Sc.Prog)(l:List Rl.Fc)(k:Nat)(h:k<l.length):factsErr p (l.drop k)=if Sc.fact p (Rl.factD l k).pred (Rl.factD l k).args≠0 then Sc.fact p (Rl.factD l k).pred (Rl.factD l k).args else factsErr p (l.drop (k+1)):=by
 rw[lU l k h];unfold factsErr;rw[Sc.first];by_cases h9:Sc.fact p (Rl.factD l k).pred (Rl.factD l k).args=0
 ·simp[h9]
 simp[h9]
end Ru
theorem xL(p:Sc.Prog)(i:Int)(facts:List Rl.Fc)(va vn vr vf:Value)(w:World)(hP:ProgV w va vn vr p)(hF:ProgFit p)(hV:FactsV w vf facts)(hFl:facts.length≤9223372036854775807)(hFF:∀f,f∈facts→FFit f):
 Calls Tryz.prog 52 #[progVal va vn vr, .int .i64 i,vf] w fun e w'=>e=.returned (.int .i64 (Ru.check p i facts))∧Below w.heap.size w w':=by
 obtain⟨a0,n0,rfl,_⟩:=id hP.ar;obtain⟨a1,n1,rfl,_⟩:=id hP.nm;obtain⟨a2,n2,rfl,_⟩:=id hP.rl;obtain⟨af,cf,rfl,_,hFA⟩:=id hV;have bT:=(aH w.heap.size w).alloc (aF _) (.cells #[.slice a0 p.arity.length n0, .slice a1 p.names.length n1, .slice a2 p.rules.length n2] 26);have HBX:Hid _:=heap_alloc_new w (.cells #[.slice a0 p.arity.length n0, .slice a1 p.names.length n1, .slice a2 p.rules.length n2] 26);have HB:Hid _:=bT;have HP:Hid (ProgV w (.slice a0 p.arity.length n0) (.slice a1 p.names.length n1) (.slice a2 p.rules.length n2) p):=hP;have HF:Hid _:=hF;have HFA:Hid _:=hFA;have HFF:Hid _:=hFF;have hrl:=hF.rl;clear hP hF hV hFA hFF bT
 go_enter Tryz.func52,Tryz.ntmps52
 go_upto_region 1 with fail;generalize w.alloc (.cells #[.slice a0 p.arity.length n0, .slice a1 p.names.length n1, .slice a2 p.rules.length n2] 26)=w1 at *;(have c0:w1.cell? ⟨w.heap.size,0,none⟩=some (.slice a0 p.arity.length n0):=by rw[aC HBX.out];rfl);(have c1:w1.cell? ⟨w.heap.size,1,none⟩=some (.slice a1 p.names.length n1):=by rw[aC HBX.out];rfl);(have c2:w1.cell? ⟨w.heap.size,2,none⟩=some (.slice a2 p.rules.length n2):=by rw[aC HBX.out];rfl);go_wp2_with fail;refine Calls.mono (pP p _ _ _ w1 (ProgV.below HP.out HB.out) HF.out) ?_;rintro _ w2 ⟨rfl,hb2⟩;have HB2:Hid (Below w.heap.size w w2):=HB.out.trans (hb2.mono HB.out.size);have HBX2:Hid _:=(hb2.block _ (aY HBX.out)).trans HBX.out;clear c0 c1 c2 hb2 HB HBX;(have c2:w2.cell? ⟨w.heap.size,2,none⟩=some (.slice a2 p.rules.length n2):=by rw[aC HBX2.out];rfl);by_cases hc:Sc.check p=0
 ·(have g1:(Sc.check p != 0)=false:=by simpa using hc);(have HCK:Hid (Ru.check p i facts=if i<0∨(p.rules.length:Int)≤i then 5 else if 60<facts.length then 2 else Ru.factsErr p facts):=by show _=_;unfold Ru.check;rw[if_neg (by simpa using hc)]);clear hc;by_cases hi:i<0∨(p.rules.length:Int)≤i
  ·(have HR:Hid (Ru.check p i facts=5):=by show _=_;rw[HCK.out,if_pos hi]);by_cases h0:i<0
   ·have g2:decide (i<0)=true:=decide_eq_true h0;clear hi h0;go_wp2_with fail;go_ret;exact⟨by rw[HR.out];rfl,HB2.out⟩
   have g2:decide (i<0)=false:=decide_eq_false h0;have g3:decide ((p.rules.length:Int)≤i)=true:=decide_eq_true oM;have g4:decide (i<(p.rules.length:Int))=false:=decide_eq_false oM;clear hi h0;go_wp2_with fail;go_ret;exact⟨by rw[HR.out];rfl,HB2.out⟩
  (have HR:Hid (Ru.check p i facts=if 60<facts.length then 2 else Ru.factsErr p facts):=by show _=_;rw[HCK.out,if_neg hi]);have g2:decide (i<0)=false:=decide_eq_false oM;have g3:decide ((p.rules.length:Int)≤i)=false:=decide_eq_false oM;have g4:decide (i<(p.rules.length:Int))=true:=decide_eq_true oM;clear hi HCK;by_cases h6:60<facts.length
  ·(have HR2:Hid (Ru.check p i facts=2):=by show _=_;rw[HR.out,if_pos h6]);have g6:decide (60<facts.length)=true:=decide_eq_true h6;go_wp2_with fail;go_ret;exact⟨by rw[HR2.out];rfl,HB2.out⟩
  (have HR2:Hid (Ru.check p i facts=Ru.factsErr p facts):=by show _=_;rw[HR.out,if_neg h6]);have g6:decide (60<facts.length)=false:=decide_eq_false h6;clear HR;go_wp2_with fail;go_loopw [30] (fun iv wr=>∃k:Nat,k≤facts.length∧iv=.int .i64 k∧Hid (Ru.factsErr p facts=Ru.factsErr p (facts.drop k))∧Hid (Below w.heap.size w wr)∧Hid (wr.heap[w.heap.size]?=some (.cells #[.slice a0 p.arity.length n0, .slice a1 p.names.length n1, .slice a2 p.rules.length n2] 26))) (fun iv _=>facts.length-(intOf iv).toNat);case atStart=>exact⟨0,aR _,rfl,rfl,HB2.out,HBX2.out⟩
  case round=>
   clear HB2 HBX2 c2;obtain⟨k,hk,rfl,HD,HB,HBX⟩:=hrel;by_cases hlt:k<facts.length
   ·obtain⟨b,off,rfl,p0,fv,p1,hIv⟩:=eY HFA.out k hlt;have q0:=aD HB.out p0;have q1:=aD HB.out p1;have HIV:Hid (IntsV w fv (Rl.factD facts k).args):=hIv;obtain⟨ag,cg,rfl,_⟩:=hIv;have HFk:Hid (FFit (Rl.factD facts k)):=HFF.out _ (eP facts k hlt);have HDD:Hid _:=Ru.factsErr_drop p facts k hlt;clear p0 p1;generalize Rl.factD facts k=f at *;go_upto_region 11 with fail;have bT:=(aH wr.heap.size wr).alloc (aF _) (.cells #[.int .i64 f.pred, .slice ag f.args.length cg] 55);have HTB:Hid _:=heap_alloc_new wr (.cells #[.int .i64 f.pred, .slice ag f.args.length cg] 55);have HBq:Hid _:=HB.out.trans (bT.mono HB.out.size);have HBXq:Hid _:=(bT.block _ (aY HBX.out)).trans HBX.out;clear q0 q1 bT HB HBX;generalize wr.alloc (.cells #[.int .i64 f.pred, .slice ag f.args.length cg] 55)=wq at *;generalize wr.heap.size=TB at *;(have c0:wq.cell? ⟨w.heap.size,0,none⟩=some (.slice a0 p.arity.length n0):=by rw[aC HBXq.out];rfl);(have c1:wq.cell? ⟨w.heap.size,1,none⟩=some (.slice a1 p.names.length n1):=by rw[aC HBXq.out];rfl);(have c2:wq.cell? ⟨w.heap.size,2,none⟩=some (.slice a2 p.rules.length n2):=by rw[aC HBXq.out];rfl);(have f0:wq.cell? ⟨TB,0,none⟩=some (.int .i64 f.pred):=by rw[aC HTB.out];rfl);(have f1:wq.cell? ⟨TB,1,none⟩=some (.slice ag f.args.length cg):=by rw[aC HTB.out];rfl);go_wp2_with fail;refine Calls.mono (nQ p _ _ _ f.pred f.args _ wq (ProgV.below HP.out HBq.out) HF.out (aK HIV.out HBq.out) HFk.out) ?_;rintro _ w3 ⟨rfl,hb3⟩;have HB3:Hid _:=HBq.out.trans (hb3.mono HBq.out.size);have HBX3:Hid _:=(hb3.block _ (aY HBXq.out)).trans HBXq.out;clear c0 c1 c2 f0 f1 hb3 HBq HBXq HTB;by_cases he:Sc.fact p f.pred f.args=0
    ·(have ge:(Sc.fact p f.pred f.args != 0)=false:=by simpa using he);(have HDN:Hid (Ru.factsErr p facts=Ru.factsErr p (facts.drop (k+1))):=by show _=_;rw[HD.out,HDD.out,if_neg (by simpa using he)]);clear he HD HDD;go_wp2_with fail;go_roundw;(case rel=>exact⟨k+1,hlt,gN,HDN.out,HB3.out,HBX3.out⟩);case measure=>exact mI
    (have ge:(Sc.fact p f.pred f.args != 0)=true:=by simpa using he);(have HDN:Hid (Ru.check p i facts=Sc.fact p f.pred f.args):=by show _=_;rw[HR2.out,HD.out,HDD.out,if_pos (by simpa using he)]);clear he HD HDD;go_wp2_with fail;go_ret;exact⟨by rw[HDN.out];rfl,HB3.out⟩
   have hdd:decide (k<facts.length)=false:=decide_eq_false hlt;(have HDN:Hid (Ru.check p i facts=0):=by show _=_;rw[HR2.out,HD.out,aL oM];rfl);go_wp2_with fail;go_ret;exact⟨by rw[HDN.out];rfl,HB.out⟩
 (have g1:(Sc.check p != 0)=true:=by simpa using hc);(have HCK:Hid (Ru.check p i facts=Sc.check p):=by show _=_;unfold Ru.check;rw[if_pos (by simpa using hc)]);clear hc;go_wp2_with fail;go_ret;exact⟨by rw[HCK.out];rfl,HB2.out⟩
end Go.Proofs.YthenjegmigeieaaGreat
namespace Go.Proofs.YthenjegmigeieaaGreat
open Go.Shelf Go.RowKit Go.Lib Go.Sort
abbrev Nv:=List Int×Value
def NvOk(w:World)(g:Nat)(x:Nv):Prop:=(∀w':World,(∀k,k<w.heap.size→¬k=g→w'.heap[k]?=w.heap[k]?)→IntsV w' x.2 x.1)∧x.1.length≤9223372036854775807
abbrev NvS(w:World)(g:Nat):={x:Nv//NvOk w g x}
theorem aCl(w:World)(g:Nat):NvOk w g ([], .slice none 0 0):=⟨fun _ _=>⟨none,0,rfl, .inl rfl⟩,by show([]:List Int).length≤_;decide⟩
theorem aCX{w:World}{g:Nat}:∀{q:List Nv},(∀p,p∈q→NvOk w g p)→∃Q:List (NvS w g),Q.map (·.1)=q:=by
 intro q
 induction q with
 |nil=>intro _;exact⟨[],rfl⟩
 |cons a r ih=>
  intro h;obtain⟨Q,hQ⟩:=ih (fun p hp=>h p (by simp[hp]));exact⟨⟨a,h a sI⟩::Q,by simp[hQ]⟩
abbrev nvInh(w:World)(g:Nat):Inhabited (NvS w g):=⟨⟨_,aCl w g⟩⟩
def nvEnc{w:World}{g:Nat}(x:NvS w g):Value:=x.1.2
def nvCmp{w:World}{g:Nat}(x y:NvS w g):Int:=Rl.cmpL x.1.1 y.1.1
theorem ord0(a b:List Int):Rl.ord ⟨0,a⟩ ⟨0,b⟩=Rl.cmpL a b:=by unfold Rl.ord;rw[if_pos (Rl.cmpI_zero.mpr rfl)]
theorem aDb(w:World)(g:Nat):SWO (ltOf (nvCmp (w:=w) (g:=g)))where
 irrefl x:=by unfold ltOf nvCmp;rw[←ord0,Rl.ord_self];decide
 trans x y z h1 h2:=by unfold ltOf nvCmp at *;simp only[decide_eq_true_eq,←ord0]at *;exact Rl.ord_trans h1 h2
 ntrans x y z h1 h2:=by
  unfold ltOf nvCmp at *;simp only[decide_eq_false_iff_not,←ord0]at *;intro h3;rcases Rl.lt_or ⟨0,x.1.1⟩ ⟨0,y.1.1⟩with h4|h4|h4
  ·exact h1 h4
  ·rw[h4]at h3;exact h2 h3
  exact h2 (Rl.ord_trans h4 h3)
theorem aDc{w:World}{g:Nat}:OneCell (nvEnc (w:=w) (g:=g)):=by intro x;obtain⟨⟨a,u⟩,h⟩:=x;obtain⟨ao,cap,hu,_⟩:=h.1 w (fun _ _ _=>rfl);have hu:u=.slice ao a.length cap:=hu;subst hu;rfl
theorem mD{α:Type}[Inhabited α](enc:α→Value)(w:World)(g m:Nat)(d:Array α)(os:Array Obj)(i:Nat)(hi:i<w.heap.size)(hne:¬i=g):(sortWorld enc w g 0 m d os).heap[i]?=w.heap[i]?:=by unfold sortWorld putRow mapBlock Sort.ahead grow;show((w.heap.modify g _)++os)[i]?=_;rw[fU (by simpa using hi),jX,if_neg (fun e=>hne e.symm)]
theorem qG{α:Type}[Inhabited α](enc:α→Value)(w:World)(g m:Nat)(d:Array α)(os:Array Obj):w.heap.size≤(sortWorld enc w g 0 m d os).heap.size:=by unfold sortWorld putRow mapBlock Sort.ahead grow;show _≤((w.heap.modify g _)++os).size;simp
theorem aCY(w:World)(g size:Nat):@CmpLays1 (NvS w g) (nvInh w g) Tryz.prog 56 #[] nvEnc nvCmp g 0 size w:=by
 letI:Inhabited (NvS w g):=nvInh w g
 intro m os dk _ x y;have hl:∀k,k<w.heap.size→¬k=g→(sortWorld (nvEnc (w:=w) (g:=g)) w g 0 m dk os).heap[k]?=w.heap[k]?:=fun k hk hne=>mD _ _ _ _ _ _ k hk hne;refine Calls.mono (pM x.1.1 y.1.1 x.1.2 y.1.2 _ (x.2.1 _ hl) (y.2.1 _ hl) x.2.2) ?_;rintro e w' ⟨rfl,rfl⟩;exact⟨rfl,0,#[],by simp[grow,World.drewN]⟩
theorem aA9(w:World)(B g cap:Nat)(q:List Nv)(hown:w.ownsRow B 22 1 (.slice (some ⟨g,0,none⟩) q.length cap) q.length (q.map (·.2)))(hq:∀p,p∈q→NvOk w g p)(hn:q.length<4611686018427387904):
 Calls Tryz.prog 55 #[.slice (some ⟨g,0,none⟩) q.length cap, .func (.func 56) #[] #[]] w fun e w'=>e=.returned (.tuple #[])∧∃q':List Nv,q'.Perm q∧(q'.map (·.1)).Pairwise (fun a b=>¬Rl.cmpL b a<0)∧w'.ownsRow B 22 1 (.slice (some ⟨g,0,none⟩) q'.length cap) q'.length (q'.map (·.2))∧w.grownBy w' (some g):=by
 obtain⟨Q,rfl⟩:=aCX hq
 letI:Inhabited (NvS w g):=nvInh w g
 have eg:∀args w,(callFunc 56 args).run Tryz.prog w=.ok (.enter 56 args) w:=eQ Tryz.func56 kR rfl;(have hsz:Q.toArray.size=Q.length:=by simp);have hlt:g<w.heap.size:=(hown.lt g rfl).2;rw[aO]at hown;(have hH:Holds (nvEnc (w:=w) (g:=g)) w g 0 Q.toArray:=by intro j hj;(have hj2:j<Q.length:=by simpa using hj);refine⟨?_,by rw[cV];exact World.ownsRow.frozenAt hown j⟩;rw[cV,World.ownsRow.cellAt hown j oM,bK,bK,aG hj2];(have h2:(Q.toArray)[j]! =Q[j]:=by simp[hj2]);rw[h2];rfl);have hcon:=Any.slices_SortFunc Tryz.sortI nvEnc aDc nvCmp (aDb w g) 56 #[] g 0 cap Q.toArray w eg (aCY w g _) hH hlt (by rw[hsz];simpa using hn);rw[hsz]at hcon;change Calls Tryz.prog 55 _ _ _ at hcon;rw[aO];refine hcon.mono ?_;rintro e w' ⟨rfl,d',n,os,hp,hs,rfl⟩;obtain⟨p1,p2,p3⟩:=hp;(have hds:d'.size=Q.length:=by rw[p1];simp);(have e1:d'.extract 0 Q.length=d':=by rw[←hds];simp);(have e2:Q.toArray.extract 0 Q.length=Q.toArray:=by simp);rw[e1,e2]at p3;refine⟨rfl,d'.toList.map (·.1),p3.map _,?_,?_,rfl,rfl,rfl,qG _ _ _ _ _ _,fun k hk hne=>mD _ _ _ _ _ _ k hk (fun e=>hne (by rw[e]))⟩
 ·rw[kE,kE,iC];intro i j hi hj hij;(have hi2:i<d'.size:=by simpa using hi);(have hj2:j<d'.size:=by simpa using hj);have :=hs i j (aR _) hij oM;rw[getElem!_pos d' j hj2,getElem!_pos d' i hi2]at this;unfold ltOf nvCmp at this;simp only[decide_eq_false_iff_not]at this;simpa using this
 (have hl:(d'.toList.map (·.1)).length=Q.length:=by rw[aO,nW,hds]);obtain⟨h1,h2⟩:=hown;rcases h2 with⟨h2,_⟩|⟨g',cap',cur,hv,hb,hh,hc1,hc2,hc3,hc4⟩
 ·cases h2
 injection hv with e1 _ e3;injection e1 with e1;injection e1 with e1;subst e1 e3;refine⟨by rw[aO,Nat.mul_one], .inr ⟨g,cap,putCells nvEnc 0 d' cur,rfl,hb,?_,by rw[hl];exact hc1,hc2,by simpa[putCells]using hc3,?_⟩⟩
 ·unfold sortWorld putRow mapBlock Sort.ahead grow;show((w.heap.modify g _)++os)[g]?=_;rw[fU (by simpa using hlt),jX,if_pos rfl,hh];rfl
 apply eZ;intro t;rw[dN,bF,hl,Nat.mul_one];by_cases ht:t<Q.length
 ·rw[if_pos ht];(have hcs:t<cur.size:=by rw[hc3];omega);have h4:t<d'.size:=oM;unfold putCells;rw[Array.getElem?_mapIdx,cD hcs,dG,if_pos oM,Nat.sub_zero,getElem!_pos d' _ h4,bK,bK,bF,cD h4];rfl
 rw[if_neg ht,bR];rw[aO,hl];omega
theorem zU(p:Option Addr)(cap:Nat)(fv:Value)(w:World):Calls Tryz.prog 55 #[.slice p 0 cap,fv] w fun e w'=>e=.returned (.tuple #[])∧w'=w:=
 AnyF.slices_SortFunc_none (P:=Tryz.prog) (ρ:=Tryz.sortI_ren) {Tryz.sortI with } p cap fv w
end Go.Proofs.YthenjegmigeieaaGreat
namespace Go.Proofs.YthenjegmigeieaaGreat
open Go.RowKit
theorem kV{w w':World}{ao:Option Addr}{l:List Rl.Fc}(h:FactsAt w ao l)(hb:Below w.heap.size w w'):FactsAt w' ao l:=by
 rcases h with h|⟨b,off,rfl,h⟩
 ·exact .inl h
 exact .inr ⟨b,off,rfl,fun i hi=>lT (h i hi) hb⟩
theorem aB7{l:List Rl.Fc}(h:Rl.Up l){a b:Nat}(hab:a<b)(hb:b<l.length):Rl.ord (Rl.factD l a) (Rl.factD l b)<0:=by have h1:=iC.mp h a b oM hb hab;(have ea:Rl.factD l a=l[a]'oM:=by simp[Rl.factD,show a<l.length by omega]);(have eb:Rl.factD l b=l[b]'hb:=by simp[Rl.factD,hb]);rw[ea,eb];exact h1
theorem aDe{l:List Rl.Fc}{f:Rl.Fc}{i:Nat}(h:Rl.Up l)(hlo:∀a,a<i→Rl.ord (Rl.factD l a) f<0)(hhi:∀a,i≤a→a<l.length→0≤Rl.ord (Rl.factD l a) f):Rl.has l f=(decide (i<l.length)&&Rl.ord (Rl.factD l i) f==0):=by
 rw[nV,Rl.has_iff,aW,decide_eq_true_eq,beq_iff_eq,Rl.ord_zero];constructor
 ·intro hm;obtain⟨a,ha,he⟩:=jF hm;(have ea:Rl.factD l a=f:=by simp[Rl.factD,ha,he]);rcases Nat.lt_trichotomy a i with h1|h1|h1
  ·have h2:=hlo a h1;rw[ea,Rl.ord_self]at h2;omega
  ·subst h1;exact⟨ha,ea⟩
  have h2:=aB7 h h1 ha;rw[ea]at h2;have h3:=hhi i (aF _) oM;omega
 rintro⟨hi,he⟩;rw[←he];exact eP l i hi
theorem wS(l:List Rl.Fc)(f:Rl.Fc)(ao fa:Option Addr)(cap fc:Nat)(w:World)(hup:Rl.Up l)(hA:FactsAt w ao l)(hI:IntsV w (.slice fa f.args.length fc) f.args)(hl:l.length≤4398046511103)(hf:∀f,f∈l→FFit f)(hF:FFit f):
 Calls Tryz.prog 141 #[.slice ao l.length cap,fcVal f.pred (.slice fa f.args.length fc), .func (.func 71) #[] #[]] w fun e w'=>∃i:Int,e=.returned (.tuple #[.int .i64 i, .bool (Rl.has l f)])∧Below w.heap.size w w':=by
 have HA:Hid (FactsAt w ao l):=hA;have HI:Hid (IntsV w (.slice fa f.args.length fc) f.args∧FFit f∧∀f,f∈l→FFit f):=⟨hI,hF,hf⟩;have HUP:Hid (Rl.Up l):=hup;clear hA hI hf hF hup
 go_enter Tryz.func141,Tryz.ntmps141
 have hba:Below w.heap.size w (w.alloc (.cells #[.int .i64 f.pred, .slice fa f.args.length fc] 55)):=(aH _ _).alloc (aF _) _;have hFB:=fC w (.cells #[.int .i64 f.pred, .slice fa f.args.length fc] 55);go_wp2_with fail;generalize hwa:w.alloc (.cells #[.int .i64 f.pred, .slice fa f.args.length fc] 55)=wa at *;(have e0:wa.cell? ⟨w.heap.size,0,none⟩=some (.int .i64 f.pred):=by rw[aC hFB];rfl);(have e1:wa.cell? ⟨w.heap.size,1,none⟩=some (.slice fa f.args.length fc):=by rw[aC hFB];rfl);have HE:Hid (wa.cell? ⟨w.heap.size,0,none⟩=some (.int .i64 f.pred)∧wa.cell? ⟨w.heap.size,1,none⟩=some (.slice fa f.args.length fc)):=⟨e0,e1⟩;clear hwa hFB e0 e1;go_loopw [9,10] (fun iv jv wr=>∃i j:Nat,i≤j∧j≤l.length∧iv=.int .i64 i∧jv=.int .i64 j∧(∀a,a<i→Rl.ord (Rl.factD l a) f<0)∧(∀a,j≤a→a<l.length→0≤Rl.ord (Rl.factD l a) f)∧Below wa.heap.size wa wr) (fun iv jv _=>(intOf jv).toNat-(intOf iv).toNat);case atStart=>exact⟨0,l.length,aR _,aF _,rfl,rfl,fun a h=>absurd h (fD _),fun a h1 h2=>absurd h2 oM,aH _ _⟩
 case round=>
  obtain⟨wo,hwo⟩:∃wo,wo=wr:=⟨_,rfl⟩;subst hwo;obtain⟨i,j,hij,hj,rfl,rfl,hlo,hhi,hb⟩:=hrel;have HLO:Hid _:=hlo;have HHI:Hid _:=hhi;clear hlo hhi;by_cases hlt:i<j
  ·go_upto_region 5 with fail;obtain⟨h,hhe⟩:∃h:Nat,h=(i+j)/2:=⟨_,rfl⟩;have hh:((i:Int)+(j:Int))/2=(h:Int):=oM;have hih:i≤h:=oM;have hhj:h<j:=oM;have hhl:h<l.length:=oM;obtain⟨b,off,rfl,p0,fv,p1,hIv⟩:=eY HA.out h hhl;have HG:Hid (FFit (Rl.factD l h)):=HI.out.2.2 _ (eP l h hhl);have hbo:=hba.trans (hb.mono hba.size);obtain⟨ga,gc,rfl,_⟩:=id hIv;have c0:=aD hbo p0;have c1:=aD hbo p1;have d0:=aD hb HE.out.1;have d1:=aD hb HE.out.2;(have HN:Hid (∀yy,yy.cell? ⟨b,off+h*2,none⟩=some (.int .i64 (Rl.factD l h).pred)∧yy.cell? ⟨b,off+h*2+1,none⟩=some (.slice ga (Rl.factD l h).args.length gc)∧yy.cell? ⟨w.heap.size,0,none⟩=some (.int .i64 f.pred)∧yy.cell? ⟨w.heap.size,1,none⟩=some (.slice fa f.args.length fc)∧Below wo.heap.size wo yy→Calls Tryz.prog 71 #[fcVal (Rl.factD l h).pred (.slice ga (Rl.factD l h).args.length gc),fcVal f.pred (.slice fa f.args.length fc)] yy fun e w'=>e=.returned (.int .i64 (Rl.ord (Rl.factD l h) f))∧Below wo.heap.size wo w'∧w'.cell? ⟨b,off+h*2,none⟩=some (.int .i64 (Rl.factD l h).pred)∧w'.cell? ⟨b,off+h*2+1,none⟩=some (.slice ga (Rl.factD l h).args.length gc)∧w'.cell? ⟨w.heap.size,0,none⟩=some (.int .i64 f.pred)∧w'.cell? ⟨w.heap.size,1,none⟩=some (.slice fa f.args.length fc)):=by intro yy hyy;obtain⟨y0,y1,y2,y3,y4⟩:=hyy;have hby:=hbo.trans (y4.mono hbo.size);refine Calls.mono (kP _ f _ _ yy (aK hIv hby) (aK HI.out.1 hby) HG.out HI.out.2.1) ?_;rintro e w' ⟨rfl,hg⟩;have hb9:=hg.below;exact⟨rfl,y4.trans (hb9.mono y4.size),aD hb9 y0,aD hb9 y1,aD hb9 y2,aD hb9 y3⟩);have HGA:∀b o,Below wo.heap.size wo b→Below wo.heap.size wo (b.alloc o):=fun _ o h=>h.alloc h.size o;have HGD:∀b,Below wo.heap.size wo b→Below wo.heap.size wo b.drew:=fun _ h=>⟨h.os,h.tape,h.output,h.size,h.block⟩;have HGR:Below wo.heap.size wo wo:=aH _ _;obtain⟨g,hg⟩:∃g,g=Rl.factD l h:=⟨_,rfl⟩;have HGE:Hid (g=Rl.factD l h):=hg;rw[←hg]at HN c0 c1;clear hg p0 p1 hIv;rw[hh];clear hh hhe
   go_region_held3 (fun yy=>yy.cell? ⟨b,off+h*2,none⟩=some (.int .i64 g.pred)∧yy.cell? ⟨b,off+h*2+1,none⟩=some (.slice ga g.args.length gc)∧yy.cell? ⟨w.heap.size,0,none⟩=some (.int .i64 f.pred)∧yy.cell? ⟨w.heap.size,1,none⟩=some (.slice fa f.args.length fc)∧Below wo.heap.size wo yy) (go_keep) (
    (go_at_call 71;refine Calls.mono (HN.out _ ?_) ?_;(simp[*]);rintro e w2 ⟨rfl,hb2,hz2,hz3,hz4,hz5⟩))
   have hbz:=hb.trans (hb2.mono hb.size);clear HGA HGD HGR HN hz2 hz3 hz4 hz5 c0 c1 d0 d1 hb hbo hb2;by_cases ho:Rl.ord g f<0
   ·have HL2:Hid (∀a,a<h+1→Rl.ord (Rl.factD l a) f<0):=by
     intro a ha;rw[HGE.out]at ho;rcases dF a h with h1|h1
     ·exact Rl.ord_trans (aB7 HUP.out h1 hhl) ho
     rw[show a=h by omega];exact ho
    go_wp2_with fail;go_roundw;(case rel=>exact⟨h+1,j,oM,hj,gN,rfl,HL2.out,HHI.out,hbz⟩);case measure=>exact mI
   have HH2:Hid (∀a,h≤a→a<l.length→0≤Rl.ord (Rl.factD l a) f):=by
    intro a ha1 ha2;rw[HGE.out]at ho;rcases dF h a with h1|h1
    ·rcases(show Rl.ord (Rl.factD l a) f<0∨0≤Rl.ord (Rl.factD l a) f by omega)with h2|h2
     ·exact absurd (Rl.ord_trans (aB7 HUP.out h1 ha2) h2) ho
     exact h2
    rw[show a=h by omega];omega
   go_wp2_with fail;go_roundw;(case rel=>exact⟨i,h,hih,oM,rfl,rfl,HLO.out,HH2.out,hbz⟩);case measure=>exact mI
  have hji:j=i:=oM;subst hji;have HR:Hid _:=aDe HUP.out HLO.out HHI.out;go_upto_region 8 with fail;by_cases hjl:j<l.length
  ·rw[decide_eq_true hjl,Bool.true_and]at HR;obtain⟨b,off,rfl,p0,fv,p1,hIv⟩:=eY HA.out j hjl;have HG:Hid (FFit (Rl.factD l j)):=HI.out.2.2 _ (eP l j hjl);have hbo:=hba.trans (hb.mono hba.size);obtain⟨ga,gc,rfl,_⟩:=id hIv;have c0:=aD hbo p0;have c1:=aD hbo p1;have d0:=aD hb HE.out.1;have d1:=aD hb HE.out.2;(have HN:Hid (∀yy,yy.cell? ⟨b,off+j*2,none⟩=some (.int .i64 (Rl.factD l j).pred)∧yy.cell? ⟨b,off+j*2+1,none⟩=some (.slice ga (Rl.factD l j).args.length gc)∧yy.cell? ⟨w.heap.size,0,none⟩=some (.int .i64 f.pred)∧yy.cell? ⟨w.heap.size,1,none⟩=some (.slice fa f.args.length fc)∧Below wo.heap.size wo yy→Calls Tryz.prog 71 #[fcVal (Rl.factD l j).pred (.slice ga (Rl.factD l j).args.length gc),fcVal f.pred (.slice fa f.args.length fc)] yy fun e w'=>e=.returned (.int .i64 (Rl.ord (Rl.factD l j) f))∧Below wo.heap.size wo w'∧w'.cell? ⟨b,off+j*2,none⟩=some (.int .i64 (Rl.factD l j).pred)∧w'.cell? ⟨b,off+j*2+1,none⟩=some (.slice ga (Rl.factD l j).args.length gc)∧w'.cell? ⟨w.heap.size,0,none⟩=some (.int .i64 f.pred)∧w'.cell? ⟨w.heap.size,1,none⟩=some (.slice fa f.args.length fc)):=by intro yy hyy;obtain⟨y0,y1,y2,y3,y4⟩:=hyy;have hby:=hbo.trans (y4.mono hbo.size);refine Calls.mono (kP _ f _ _ yy (aK hIv hby) (aK HI.out.1 hby) HG.out HI.out.2.1) ?_;rintro e w' ⟨rfl,hg⟩;have hb9:=hg.below;exact⟨rfl,y4.trans (hb9.mono y4.size),aD hb9 y0,aD hb9 y1,aD hb9 y2,aD hb9 y3⟩);have HGA:∀b o,Below wo.heap.size wo b→Below wo.heap.size wo (b.alloc o):=fun _ o h=>h.alloc h.size o;have HGD:∀b,Below wo.heap.size wo b→Below wo.heap.size wo b.drew:=fun _ h=>⟨h.os,h.tape,h.output,h.size,h.block⟩;have HGR:Below wo.heap.size wo wo:=aH _ _;obtain⟨g,hg⟩:∃g,g=Rl.factD l j:=⟨_,rfl⟩;have HGE:Hid (g=Rl.factD l j):=hg;rw[←hg]at HN c0 c1;clear hg p0 p1 hIv;rw[←HGE.out]at HR
   go_region_held3 (fun yy=>yy.cell? ⟨b,off+j*2,none⟩=some (.int .i64 g.pred)∧yy.cell? ⟨b,off+j*2+1,none⟩=some (.slice ga g.args.length gc)∧yy.cell? ⟨w.heap.size,0,none⟩=some (.int .i64 f.pred)∧yy.cell? ⟨w.heap.size,1,none⟩=some (.slice fa f.args.length fc)∧Below wo.heap.size wo yy) (go_keep) (
    (go_at_call 71;refine Calls.mono (HN.out _ ?_) ?_;(simp[*]);rintro e w2 ⟨rfl,hb2,hz2,hz3,hz4,hz5⟩))
   have hbz:=hba.trans ((hb.trans (hb2.mono hb.size)).mono hba.size);clear HGA HGD HGR HN hz2 hz3 hz4 hz5 c0 c1 d0 d1 hb hbo hb2;go_wp2_with fail;go_ret2;exact⟨j,by rw[HR.out];rfl,hbz⟩
  have hjd:decide (j<l.length)=false:=decide_eq_false hjl;rw[hjd,Bool.false_and]at HR;(have hbz:Below w.heap.size w wo.drew:=by have h9:=hba.trans (hb.mono hba.size);exact⟨h9.os,h9.tape,h9.output,h9.size,h9.block⟩);go_region;go_wp2_with fail;go_ret2;exact⟨j,by rw[HR.out];rfl,hbz⟩
theorem yK(w:World)(B:Nat)(m:List Rl.Fc)(bo:Option Addr)(cbp:Nat)(h0:w.cell? ⟨B,0,none⟩=some (.slice bo (Rl.set m).length cbp))(hB:FactsAt w bo (Rl.set m))(hl:(Rl.set m).length≤4398046511103)(hf:∀f,f∈Rl.set m→FFit f):
 Keeps1 140 #[.pointer (some ⟨B,0,none⟩)] w (fun x=> !Rl.has m x):=by
 intro v g ao cap hv hIg hFg;show Calls Tryz.prog 140 #[fcVal g.pred (.slice ao g.args.length cap), .pointer (some ⟨B,0,none⟩)] v _;have hba:Below v.heap.size v (v.alloc (.cells #[.int .i64 g.pred, .slice ao g.args.length cap] 55)):=(aH _ _).alloc (aF _) _;have c0:=aD hba (aD hv h0);have c1:=aD hv h0;have hGa:=fC v (.cells #[.int .i64 g.pred, .slice ao g.args.length cap] 55);(have d0:(v.alloc (.cells #[.int .i64 g.pred, .slice ao g.args.length cap] 55)).cell? ⟨v.heap.size,0,none⟩=some (.int .i64 g.pred):=by rw[aC hGa];rfl);(have d1:(v.alloc (.cells #[.int .i64 g.pred, .slice ao g.args.length cap] 55)).cell? ⟨v.heap.size,1,none⟩=some (.slice ao g.args.length cap):=by rw[aC hGa];rfl);(have HH:Hid (Rl.has (Rl.set m) g=Rl.has m g):=by show _=_;rw[nV,Rl.has_iff,Rl.has_iff,Rl.mem_set]);(have HC:Hid (∀yy,Below v.heap.size v yy→Calls Tryz.prog 141 #[.slice bo (Rl.set m).length cbp,fcVal g.pred (.slice ao g.args.length cap), .func (.func 71) #[] #[]] yy fun e w'=>∃i:Int,e=.returned (.tuple #[.int .i64 i, .bool (Rl.has m g)])∧Below v.heap.size v w'):=by intro yy hy;refine Calls.mono (wS (Rl.set m) g bo ao cbp cap yy (Rl.set_isSet m).1 (kV (kV hB hv) hy) (aK hIg hy) hl hf hFg) ?_;rintro e w' ⟨i,rfl,hb⟩;exact⟨i,by rw[HH.out],hy.trans (hb.mono hy.size)⟩);have hmf:∀(fn:Fn)(first cap:Array Value)(w:World),(Instr.makeFunc fn first cap).run Tryz.prog w=.ok (.func fn first cap) w:=fun _ _ _ _=>rfl;clear hB hf hGa h0 hIg HH;generalize (Rl.set m).length=n at *
 go_enter Tryz.func140,Tryz.ntmps140
 go_wp2_with fail;refine Calls.mono (HC.out _ hba) ?_;rintro e w1 ⟨i,rfl,hb1⟩;clear HC hba c0 c1 d0 d1 hv;go_wp2_with fail;go_ret;exact⟨rfl,hb1⟩
theorem xP:∀args w,(callFunc 140 args).run Tryz.prog w=.ok (.enter 140 args) w:=eQ Tryz.func140 kR rfl
theorem set_length(l:List Rl.Fc):(Rl.set l).length≤l.length:=by
 have ins_len:∀(f:Rl.Fc)(s:List Rl.Fc),(Rl.ins f s).length≤s.length+1:=by
  intro f s
  induction s with
  |nil=>simp[Rl.ins]
  |cons a s ih=>
   unfold Rl.ins;split
   ·simp
   split
   ·simp
   simp only[dK];omega
 induction l with
 |nil=>exact aF _
 |cons a l ih=>
  have h1:=ins_len a (Rl.set l);show(Rl.ins a (Rl.set l)).length≤l.length+1;omega
theorem lX(l m:List Rl.Fc)(v u:Value)(w:World)(hV:FactsV w v l)(hU:FactsV w u m)(hl:l.length≤4398046511103)(hm:m.length≤4398046511103)(hf:∀f,f∈l→f.args.length≤17592186044416)(hg:∀f,f∈m→f.args.length≤17592186044416):
 Calls Tryz.prog 96 #[v,u] w fun e w'=>∃v',e=.returned v'∧FactsV w' v' (Rl.minus l m)∧Below w.heap.size w w':=by
 have hmf:∀(fn:Fn)(first cap:Array Value)(w:World),(Instr.makeFunc fn first cap).run Tryz.prog w=.ok (.func fn first cap) w:=fun _ _ _ _=>rfl;have HS:Hid _:=sD m u w hU oM hg;have HF:Hid ((∀f,f∈l→f.args.length≤17592186044416)∧(∀f,f∈Rl.set m→FFit f)∧(Rl.set m).length≤4398046511103):=⟨hf,fun f h=>aX (hg f (Rl.mem_set.mp h)) dE,by have :=set_length m;omega⟩;have HV:Hid (FactsV w v l):=hV;obtain⟨ao,cap,rfl,_,_⟩:=id hV;obtain⟨bo,cbp,rfl,_,_⟩:=id hU;clear hV hU hf hg
 go_enter Tryz.func96,Tryz.ntmps96
 go_wp2_with fail;refine Calls.mono HS.out ?_;rintro e w1 ⟨v1,rfl,hP,hb1⟩;obtain⟨a1,c1,rfl,_,hA1⟩:=hP.toV;have HA1:Hid (FactsAt w1 a1 (Rl.set m)):=hA1;clear hP hA1 HS;generalize hn:(Rl.set m).length=n at *;have HN:Hid ((Rl.set m).length=n):=hn;clear hn;go_wp2_with fail;have hb2:Below w1.heap.size w1 (w1.alloc (Obj.cells #[Value.slice a1 n c1] 27)):=(aH _ _).alloc (aF _) _;have hb3:=hb1.trans (hb2.mono hb1.size);(have e0:(w1.alloc (Obj.cells #[Value.slice a1 n c1] 27)).cell? ⟨w1.heap.size,0,none⟩=some (.slice a1 (Rl.set m).length c1):=by rw[aC (fC w1 _),HN.out];rfl);refine Calls.mono (uG l _ _ 140 _ (fun x=> !Rl.has m x) (aI HV.out hb3) oM HF.out.1 xP (yK _ w1.heap.size m a1 c1 e0 (kV HA1.out hb2) (by rw[HN.out];exact HF.out.2.2) HF.out.2.1)) ?_;rintro e w3 ⟨v3,rfl,hS,hbk⟩;have HS:Hid (FactsV w3 v3 (Rl.minus l m)):=hS.toV;obtain⟨q3,_,hown3,_⟩:=id hS;obtain⟨a3,c3,rfl⟩:=aZ hown3;have hb4:=hb3.trans (hbk.mono hb3.size);clear hown3 hS hbk hb1 hb2 hb3 e0 HV HF HA1 HN;go_wp2_with fail;go_ret;exact⟨_,rfl,HS.out,hb4⟩
theorem aB1(l m:List Rl.Fc)(v u:Value)(w:World)(hV:FactsV w v l)(hU:FactsV w u m)(hl:l.length≤1048576)(hm:m.length≤1048576)(hf:∀f,f∈l→f.args.length≤1048576)(hg:∀f,f∈m→f.args.length≤1048576):
 Calls Tryz.prog 96 #[v,u] w fun e w'=>∃v',e=.returned v'∧FactsV w' v' (Rl.minus l m)∧Below w.heap.size w w':=
 lX l m v u w hV hU oM oM (fun f h=>aX (hf f h) dE) (fun f h=>aX (hg f h) dE)
namespace Ru
def rule(p:Sc.Prog)(i:Int):Sc.Rule:=Sc.ruleD p.rules i.toNat
def waysErr(p:Sc.Prog)(i:Int)(l:List Rl.Fc):Int:=if check p i l≠0 then check p i l else if 2000<(ways (Rl.set l) (rule p i)).length then 2 else 0
def waysOut(p:Sc.Prog)(i:Int)(l:List Rl.Fc):List (List Int):=if waysErr p i l≠0 then [] else srt (ways (Rl.set l) (rule p i))
structure In (p:Sc.Prog) (i:Int) (l:List Rl.Fc):Prop where
 ok:ProgOk p
 lo:0≤i
 hi:i<(p.rules.length:Int)
 len:l.length≤60
 fs:∀f,f∈l→Right p.arity f
theorem check_in{p:Sc.Prog}{i:Int}{l:List Rl.Fc}(h:check p i l=0):In p i l:=by
 unfold check at h;by_cases h1:Sc.check p=0
 ·rw[if_neg (by simpa using h1)]at h;by_cases h2:i<0∨(p.rules.length:Int)≤i
  ·rw[if_pos h2]at h;cases h
  rw[if_neg h2]at h;by_cases h3:60<l.length
  ·rw[if_pos h3]at h;cases h
  rw[if_neg h3]at h;exact⟨progOk_of h1,oM,oM,oM,fun f hf=>right_iff.mp (thn0 (first0 h f hf)).2⟩
 rw[if_pos h1]at h;exact absurd h h1
theorem ruleD_mem{l:List Sc.Rule}{k:Nat}(h:k<l.length):Sc.ruleD l k∈l:=by unfold Sc.ruleD;rw[aE,aG h];exact cR h
theorem In.rule{p:Sc.Prog}{i:Int}{l:List Rl.Fc}(h:In p i l):RuleOk p.arity (Ru.rule p i):=h.ok.rule _ (ruleD_mem (by have :=h.lo;have :=h.hi;omega))
theorem In.set{p:Sc.Prog}{i:Int}{l:List Rl.Fc}(h:In p i l):∀f,f∈Rl.set l→Right p.arity f:=fun f hf=>h.fs f (Rl.mem_set.mp hf)
theorem right_short{p:Sc.Prog}(h:ProgOk p){f:Rl.Fc}(hf:Right p.arity f):f.args.length≤3:=by have h1:=hf.al;have h2:=h.ar f.pred.toNat (by have :=hf.p0;have :=hf.p1;omega);omega
theorem lit_short{p:Sc.Prog}(h:ProgOk p){r:Sc.Rule}(hr:RuleOk p.arity r){l:Sc.Lit}(hl:l∈r.body):l.terms.length≤3:=by
 have hi:=litIn_of hr (facts:=[]) (fun f hf=>absurd hf sI) hl;rcases hi.k with hk|hk|hk|hk
 ·obtain⟨h1,h2,h3⟩:=lit_preds hr hl (.inl hk);have :=h.ar l.pred.toNat oM;omega
 ·obtain⟨h1,h2,h3⟩:=lit_preds hr hl (.inr hk);have :=h.ar l.pred.toNat oM;omega
 ·have :=hi.k3 hk;omega
 have :=hi.k4 hk;omega
theorem lit_num{ar:List Int}{r:Sc.Rule}(hr:RuleOk ar r){l:Sc.Lit}(hl:l∈r.body):LitNum l:=fun t ht _=>((hr.lit l hl).2 t ht).num
theorem set_nodup(l:List Rl.Fc):(Rl.set l).Nodup:=(Rl.set_isSet l).1.imp fun {a b} h e=>by subst e;exact Rl.Lt.irrefl _ h
theorem sorted_srt{L M:List (List Int)}(hp:L.Perm M)(hn:M.Nodup)(hs:L.Pairwise fun a b=>¬Rl.cmpL b a<0):L=srt M:=by
 refine srt_eq ?_ (fun x=>hp.mem_iff);have hnd:L.Nodup:=hp.nodup_iff.mpr hn;refine(hs.and hnd).imp ?_;rintro a b ⟨h1,h2⟩;rcases Rl.lt_or ⟨0,a⟩ ⟨0,b⟩with h|h|h
 ·unfold Rl.Lt at h;rw[ord0]at h;exact h
 ·injection h with _ h;exact absurd h h2
 unfold Rl.Lt at h;rw[ord0]at h;exact absurd h h1
end Ru
def RulesCap(w:World)(vr:Value):Prop:=∀b off n cap,vr=.slice (some ⟨b,off,none⟩) n cap→∀k,k<n→∀v,w.cell? ⟨b,off+k*5+3,none⟩=some v→CapOk v
theorem sortWays{w y:World}{ao:Option Addr}{co:Nat}{q:List (List Int×Value)}{WS:List (List Int)}(hN:NumsP w.heap.size y (.slice ao q.length co) q)(hl:q.length≤2000)(hq:q.map (·.1)=WS)(hn:WS.Nodup)(hb:Below w.heap.size w y)(hsh:∀x,x∈WS→x.length≤8):
 Calls Tryz.prog 55 #[.slice ao q.length co, .func (.func 56) #[] #[]] y fun e w'=>e=.returned (.tuple #[])∧∃q':List (List Int×Value),NumsP w.heap.size w' (.slice ao q.length co) q'∧q'.map (·.1)=Ru.srt WS∧Below w.heap.size w w':=by
 obtain⟨ho,hr⟩:=hN;rcases id ho.2 with⟨hv,h0⟩|⟨g,cap,cur,hv,hbg,hg,_⟩
 ·injection hv with e1 e2 e3;subst e1 e3;have hq0:q=[]:=cQ h0;subst hq0;refine Calls.mono (zU none 0 _ y) ?_;rintro e w' ⟨rfl,rfl⟩;have hW:WS=[]:=hq.symm;subst hW;exact⟨rfl,[],⟨ho,hr⟩,rfl,hb⟩
 injection hv with e1 e2 e3;subst e1 e3;(have hne:∀(k:Nat)(a:Array Value),y.heap[k]?=some (.cells a 3)→¬k=g:=fun k a hk e=>by rw[e,hg]at hk;injection hk with hk;injection hk with _ hk;cases hk);refine Calls.mono (aA9 y w.heap.size g co q ho (fun p hp=>⟨fun w' hk=>gE (fF (hr p hp) (fun k a ha=>(hk k (aY ha) (hne k a ha)).trans ha)),?_⟩) oM) ?_
 ·have :=hsh p.1 (by rw[←hq];exact jE hp);omega
 rintro e w' ⟨rfl,q',hp,hs,ho',hgr⟩;have hlen:=hp.length_eq;refine⟨rfl,q',⟨by rw[←hlen];exact ho',fun p hpq=>fF (hr p (hp.mem_iff.mp hpq)) (fun k a ha=>(hgr.block k (aY ha) (fun e=>hne k a ha (Option.some.inj e))).trans ha)⟩,Ru.sorted_srt (by rw[←hq];exact hp.map _) hn hs,hb.grown hgr hb.size (fun k hk=>(Option.some.inj hk)▸hbg)⟩
def ways4V(PV RV VF:Value)(X b off k:Nat)(tQ:Nat)(vQ:Value):Prop:=
 match tQ with
 |17=>vQ=(.pointer (some ⟨X,2,none⟩):Value)
 |18=>vQ=(PV:Value)
 |19=>vQ=(.int .i64 (k:Nat):Value)
 |20=>vQ=(.pointer (some ⟨b,off+k*5,none⟩):Value)
 |21=>vQ=(RV:Value)
 |22=>vQ=(VF:Value)
 |_=>True
def ways4T(PV RV VF:Value)(X b off k:Nat)(L:List Rl.Fc)(WS:List (List Int))(tQ:Nat)(vQ:Value)(WQ:World):Prop:=
 if tQ=23 then FactsV WQ vQ L
 else if tQ=24 then∃q,NumsP X WQ vQ q∧q.map (·.1)=WS else ways4V PV RV VF X b off k tQ vQ
theorem NumsP.below{B:Nat}{w w':World}{v:Value}{q:List (List Int×Value)}(h:NumsP B w v q)(hb:Below w.heap.size w w'):NumsP B w' v q:=⟨aU h.1 hb,fun p hp=>aU (h.2 p hp) hb⟩
theorem wZ(PV RV VF:Value)(X b off k:Nat)(L:List Rl.Fc)(WS:List (List Int))(tQ:Nat)(vQ:Value)(W W':World)(hb:Below W.heap.size W W')(h:ways4T PV RV VF X b off k L WS tQ vQ W):ways4T PV RV VF X b off k L WS tQ vQ W':=by
 unfold ways4T at h ⊢;by_cases ht:tQ=23
 ·rw[if_pos ht]at h ⊢;exact aI h hb
 rw[if_neg ht]at h ⊢;by_cases ht2:tQ=24
 ·rw[if_pos ht2]at h ⊢;obtain⟨q,h1,h2⟩:=h;exact⟨q,h1.below hb,h2⟩
 rw[if_neg ht2]at h ⊢;exact h
theorem aCH(p:Sc.Prog)(i:Int)(facts:List Rl.Fc)(va vn vr vf:Value)(w:World)(hP:ProgV w va vn vr p)(hF:ProgFit p)(hcap:RulesCap w vr)(hV:FactsV w vf facts)(hFl:facts.length≤9223372036854775807)(hFF:∀f,f∈facts→FFit f):
 Calls Tryz.prog 14 #[progVal va vn vr, .int .i64 i,vf] w fun e w'=>∃v q,e=.returned (.tuple #[v, .int .i64 (Ru.waysErr p i facts)])∧NumsP w.heap.size w' v q∧q.map (·.1)=Ru.waysOut p i facts∧Below w.heap.size w w':=by
 obtain⟨a0,n0,rfl,_⟩:=id hP.ar;obtain⟨a1,n1,rfl,_⟩:=id hP.nm;obtain⟨a2,n2,rfl,hRA⟩:=id hP.rl;obtain⟨af,cf,rfl,_,hFA⟩:=id hV;have bT:=(aH w.heap.size w).alloc (aF _) (.cells #[.slice a0 p.arity.length n0, .slice a1 p.names.length n1, .slice a2 p.rules.length n2] 26);have HBX:Hid _:=heap_alloc_new w (.cells #[.slice a0 p.arity.length n0, .slice a1 p.names.length n1, .slice a2 p.rules.length n2] 26);have HB:Hid _:=bT;have HC:Hid _:=xL p i facts _ _ _ _ _ (hP.below bT) hF (aI hV bT) hFl hFF;have HFV:Hid (FactsV w (.slice af facts.length cf) facts):=hV;have HFF:Hid _:=hFF;have HRA:Hid _:=hRA;have HCAP:Hid (RulesCap w (.slice a2 p.rules.length n2)):=hcap;clear hP hF hV hFA hFF bT hcap hRA
 go_enter Tryz.func14,Tryz.ntmps14
 go_upto_region 1 with fail;generalize w.alloc (.cells #[.slice a0 p.arity.length n0, .slice a1 p.names.length n1, .slice a2 p.rules.length n2] 26)=w1 at *;(have c0:w1.cell? ⟨w.heap.size,0,none⟩=some (.slice a0 p.arity.length n0):=by rw[aC HBX.out];rfl);(have c1:w1.cell? ⟨w.heap.size,1,none⟩=some (.slice a1 p.names.length n1):=by rw[aC HBX.out];rfl);(have c2:w1.cell? ⟨w.heap.size,2,none⟩=some (.slice a2 p.rules.length n2):=by rw[aC HBX.out];rfl);go_wp2_with fail;refine Calls.mono HC.out ?_;rintro _ w2 ⟨rfl,hb2⟩;have HB2:Hid (Below w.heap.size w w2):=HB.out.trans (hb2.mono HB.out.size);have HBX2:Hid _:=(hb2.block _ (aY HBX.out)).trans HBX.out;have HSZ:Hid (w.heap.size≤w2.heap.size):=HB2.out.size;clear c0 c1 c2 hb2 HB HBX HC;by_cases hc:Ru.check p i facts=0
 ·(have g0:(Ru.check p i facts != 0)=false:=by simpa using hc);have hin:=Ru.check_in hc;obtain⟨k,rfl⟩:∃k:Nat,i=k:=⟨i.toNat,by have :=hin.lo;omega⟩;(have hk:k<p.rules.length:=by have :=hin.hi;omega);have HCK:Hid _:=hc;(have HRU:Hid (Ru.rule p (k:Int)=Sc.ruleD p.rules k):=by show _=_;unfold Ru.rule;rw[dI]);(have hro:Ru.RuleOk p.arity (Sc.ruleD p.rules k):=by have :=hin.rule;rw[HRU.out]at this;exact this);have hri:=Ru.ruleIn_of hro hin.set;have hnums:=Ru.right_nums hin.set;have HND:Hid ((Ru.ways (Rl.set facts) (Sc.ruleD p.rules k)).Nodup):=Ru.ways_nodup hri hnums (Ru.set_nodup facts);(have HSZ0:Hid (∀x,x∈Ru.ways (Rl.set facts) (Sc.ruleD p.rules k)→x.length≤8):=fun x hx=>by have :=((Ru.mem_ways hri hnums x).mp hx).1;have :=hri.v8;omega);(obtain⟨b,off,rfl,q0,⟨vt,q1,hT⟩,q2,⟨vb,q3,hL⟩,q4⟩:=iG HRA.out k hk;have hcb:=HCAP.out _ _ _ _ rfl k hk _ q3;obtain⟨at_,ct,rfl,_⟩:=id hT;obtain⟨ab,cb,rfl,_⟩:=id hL;have HSET:Hid (∀y_,Below w2.heap.size w2 y_→Calls Tryz.prog 54 #[.slice af facts.length cf] y_ fun e w'=>∃v',e=.returned v'∧FactsP y_.heap.size w' v' (Rl.set facts)∧Below y_.heap.size y_ w'):=fun y_ hb=>oI facts _ y_ (aI HFV.out (HB2.out.trans (hb.mono HB2.out.size))) (by have :=hin.len;omega) (fun f hf=>by have :=Ru.right_short hin.ok (hin.fs f hf);omega);have HFND:Hid (∀y_ v,Below w2.heap.size w2 y_→FactsV y_ v (Rl.set facts)→Calls Tryz.prog 53 #[pruleVal (Sc.ruleD p.rules k) (.slice at_ (Sc.ruleD p.rules k).terms.length ct) (.slice ab (Sc.ruleD p.rules k).body.length cb),v] y_ fun e w'=>∃v' q,e=.returned v'∧NumsP y_.heap.size w' v' q∧q.map (·.1)=(Ru.ways (Rl.set facts) (Sc.ruleD p.rules k)).take 2001∧Below y_.heap.size y_ w'):=fun y_ v hb hv=>by have hb':Below w.heap.size w y_:=HB2.out.trans (hb.mono HB2.out.size);exact aBE (Rl.set facts) (Sc.ruleD p.rules k) _ _ v y_ hv (by have :=set_length facts;have :=hin.len;omega) (fun f hf=>by unfold FFit;have :=Ru.right_short hin.ok (hin.set f hf);omega) hri hnums (fun l hl=>by have :=Ru.lit_short hin.ok hro hl;omega) (fun l hl=>Ru.lit_num hro hl) (bM hT hb') (fR hL hb') hcb (by have :=hro.b4;omega) hro.v0);have p0:=aD HB2.out q0;have p1:=aD HB2.out q1;have p2:=aD HB2.out q2;have p3:=aD HB2.out q3;have p4:=aD HB2.out q4;(have c2:w2.cell? ⟨w.heap.size,2,none⟩=some (.slice (some ⟨b,off,none⟩) p.rules.length n2):=by rw[aC HBX2.out];rfl);clear q0 q1 q2 q3 q4 hT hL hcb hin hro hri hnums hc HBX2 HFV HFF HRA HCAP;generalize Sc.ruleD p.rules k=r at *;go_upto_region 4 with fail;refine eS (ways4T (.slice (some ⟨b,off,none⟩) p.rules.length n2) (pruleVal r (.slice at_ r.terms.length ct) (.slice ab r.body.length cb)) (.slice af facts.length cf) w.heap.size b off k (Rl.set facts) ((Ru.ways (Rl.set facts) r).take 2001)) 8 dE kR kR kR (wZ (.slice (some ⟨b,off,none⟩) p.rules.length n2) (pruleVal r (.slice at_ r.terms.length ct) (.slice ab r.body.length cb)) (.slice af facts.length cf) w.heap.size b off k (Rl.set facts) ((Ru.ways (Rl.set facts) r).take 2001)) ?hopA ?htailA
  case hopA=>
   refine oC (fun a y_ h=>by have e3:a.eval (.tmp 3)=(.pointer (some ⟨w.heap.size,0,none⟩):Value):=h.old 3;exact opX (.pointer (some ⟨w.heap.size,2,none⟩))) ?_;refine oC (fun a y_ h=>by have e17:a.eval (.tmp 17)=(.pointer (some ⟨w.heap.size,2,none⟩):Value):=h.of 17;have c0:=aD h.below c2;exact opX (.slice (some ⟨b,off,none⟩) p.rules.length n2)) ?_;refine oC (fun a y_ h=>by have e1:a.eval (.tmp 1)=(.int .i64 (k:Nat):Value):=h.old 1;exact opX (.int .i64 (k:Nat))) ?_;refine oC (fun a y_ h=>by have e18:a.eval (.tmp 18)=(.slice (some ⟨b,off,none⟩) p.rules.length n2:Value):=h.of 18;have e19:a.eval (.tmp 19)=(.int .i64 (k:Nat):Value):=h.of 19;exact opX (.pointer (some ⟨b,off+k*5,none⟩))) ?_;refine oC (fun a y_ h=>by have e20:a.eval (.tmp 20)=(.pointer (some ⟨b,off+k*5,none⟩):Value):=h.of 20;have c0:=aD h.below p0;have c1:=aD h.below p1;have c2:=aD h.below p2;have c3:=aD h.below p3;have c4:=aD h.below p4;exact opX (pruleVal r (.slice at_ r.terms.length ct) (.slice ab r.body.length cb))) ?_;refine oC (fun a y_ h=>by have e2:a.eval (.tmp 2)=(.slice af facts.length cf:Value):=h.old 2;exact opX (.slice af facts.length cf)) ?_;refine oC (fun a y_ h=>?_) ?_
   ·have e22:a.eval (.tmp 22)=(.slice af facts.length cf:Value):=h.of 22;refine dD (f:=54) (args:=#[.slice af facts.length cf]) (aM rfl) ?_ ?_
    ·have ec:=evc a;have ef:=evf a;generalize a.eval=ev at *;clear h;go_simp
    refine Calls.mono (HSET.out y_ h.below) ?_;rintro _ y2 ⟨v',rfl,hfp,hb2⟩;refine⟨_,rfl,fun t ht=>?_,hb2⟩;cases ht;exact hfp.toV
   refine oC (fun a y_ h=>?_) ?_
   ·have e21:a.eval (.tmp 21)=(pruleVal r (.slice at_ r.terms.length ct) (.slice ab r.body.length cb):Value):=h.of 21;have hfv:FactsV y_ (a.eval (.tmp 23)) (Rl.set facts):=h.of 23;refine dD (f:=53) (args:=#[pruleVal r (.slice at_ r.terms.length ct) (.slice ab r.body.length cb),a.eval (.tmp 23)]) (aM rfl) ?_ ?_
    ·have ec:=evc a;have ef:=evf a;generalize a.eval=ev at *;clear h;go_simp
    refine Calls.mono (HFND.out y_ _ h.below hfv) ?_;rintro _ y2 ⟨v',q,rfl,hnp,hqe,hb2⟩;refine⟨_,rfl,fun t ht=>?_,hb2⟩;cases ht;exact⟨q,⟨dP hnp.1 (aX HSZ.out h.below.size),fun p hp=>dP (hnp.2 p hp) (aX HSZ.out h.below.size)⟩,hqe⟩
   exact AllOps.nil
  case htailA=>
   rintro⟨tm0,df⟩ y_ hI;obtain⟨q,hNP,hqe⟩:∃q,NumsP w.heap.size y_ (Act.eval ⟨tm0,df⟩ (.tmp 24)) q∧q.map (·.1)=(Ru.ways (Rl.set facts) r).take 2001:=hI.all 7 _ 24 dE rfl rfl;obtain⟨ao,co,eo⟩:=aZ hNP.1;have e24:Act.eval ⟨tm0,df⟩ (.tmp 24)=.slice ao q.length co:=eo;rw[e24]at hNP;have hsN:tm0.size=31:=hI.size;have HBy:Hid (Below w.heap.size w y_):=HB2.out.trans (hI.below.mono HB2.out.size);show wpOps Tryz.prog _ _ [8] _ _;rw[wpOps_cons];refine gL (v:=.slice ao q.length co) (w':=y_) rfl (aM rfl) ?_ ?_
   ·show Sem.run Tryz.prog (execOp (Act.eval ⟨tm0,df⟩) _) y_=_;generalize Act.eval ⟨tm0,df⟩=ev at *;clear hI;go_simp
   (have hst:∀t,t∉[17,18,19,20,21,22,23,24,9]→(tm0.setIfInBounds 9 (.slice ao q.length co)).getD t undef=_:=fun t ht=>by have hA:t≠9:=fun e=>ht (by rw[e];decide);exact(cI (a:=⟨tm0,df⟩) hA).trans (hI.still t ht));have h9:(tm0.setIfInBounds 9 (.slice ao q.length co)).getD 9 undef=.slice ao q.length co:=dC (a:=⟨tm0,df⟩) (by show 9<tm0.size;omega);obtain rfl:df=[]:=hI.defers;(have hs2:(tm0.setIfInBounds 9 (.slice ao q.length co)).size=31:=by simp[hsN]);have HNP:Hid (NumsP w.heap.size y_ (.slice ao q.length co) q):=hNP;have HQE:Hid _:=hqe;clear hI hNP hqe e24 eo hsN;show Exit.then _ _ Exit.normal ⟨tm0.setIfInBounds 9 (.slice ao q.length co),[]⟩ y_;generalize tm0.setIfInBounds 9 (.slice ao q.length co)=tm at *;obtain⟨fQ,hQ,hF8⟩:=fH [17,18,19,20,21,22,23,24,9] tm _ (hs2.trans rF) hst;clear hs2 hst;simp only[cL,dB,(hQ 9).trans h9]at hF8;clear h9 hQ;simp only[aV,bS,bV]at hF8;subst hF8;clear p0 p1 p2 p3 p4 c2;(have hmin:q.length=min 2001 (Ru.ways (Rl.set facts) r).length:=by have h9:=congrArg List.length HQE.out;rw[aO,bC]at h9;exact h9);by_cases hm:2000<q.length
   ·have g1:decide (2000<q.length)=true:=decide_eq_true hm;have g1i:decide ((2000:Int)<(q.length:Int))=true:=decide_eq_true oM;(have HER:Hid (Ru.waysErr p k facts=2):=by show _=_;unfold Ru.waysErr;rw[if_neg (by rw[HCK.out];simp),HRU.out,if_pos oM]);clear hm hmin;go_wp2_with fail;refine bodyPost_ret (results_tmp2 rfl _ _ _) rfl ?_;exact⟨_,[],by rw[HER.out];rfl,⟨cM _ _ _ _,fun p hp=>absurd hp sI⟩,by unfold Ru.waysOut;rw[if_pos (by rw[HER.out];decide)];rfl,HBy.out⟩
   have g1:decide (2000<q.length)=false:=decide_eq_false hm;have g1i:decide ((2000:Int)<(q.length:Int))=false:=decide_eq_false oM;(have HER:Hid (Ru.waysErr p k facts=0):=by show _=_;unfold Ru.waysErr;rw[if_neg (by rw[HCK.out];simp),HRU.out,if_neg oM]);(have HQE2:Hid (q.map (·.1)=Ru.ways (Rl.set facts) r):=by show _=_;rw[HQE.out,cH oM]);have HSO:Hid (Calls Tryz.prog 55 #[.slice ao q.length co, .func (.func 56) #[] #[]] y_ fun e w'=>e=.returned (.tuple #[])∧∃q',NumsP w.heap.size w' (.slice ao q.length co) q'∧q'.map (·.1)=Ru.srt (Ru.ways (Rl.set facts) r)∧Below w.heap.size w w'):=sortWays HNP.out oM HQE2.out HND.out HBy.out HSZ0.out;clear hm hmin;go_wp2_with fail;refine Calls.mono HSO.out ?_;rintro _ w5 ⟨rfl,q',hN5,hq5,hb5⟩;have HN5:Hid _:=hN5;clear hN5 HSO;go_wp2_with fail;refine bodyPost_ret (results_tmp2 rfl _ _ _) rfl ?_;exact⟨_,q',by rw[HER.out];rfl,HN5.out,by unfold Ru.waysOut;rw[if_neg (by rw[HER.out];simp),HRU.out];exact hq5,hb5⟩
 (have g0:(Ru.check p i facts != 0)=true:=by simpa using hc);(have HER:Hid (Ru.waysErr p i facts=Ru.check p i facts):=by show _=_;unfold Ru.waysErr;rw[if_pos (by simpa using hc)]);have HNE:Hid _:=hc;clear hc;go_wp2_with fail;refine bodyPost_ret (results_tmp2 rfl _ _ _) rfl ?_;exact⟨_,[],by rw[HER.out];rfl,⟨cM _ _ _ _,fun p hp=>absurd hp sI⟩,by unfold Ru.waysOut;rw[if_pos (by rw[HER.out];exact HNE.out)];rfl,HB2.out⟩
namespace Ru
theorem take_succ_last{r:List Int}{j:Nat}(h:j<r.length):r.take (j+1)=r.take j++[Sc.intD r j]:=by rw[cY,aG h];unfold Sc.intD;rw[aE,aG h];rfl
theorem minL_take{l:List Int}{k:Nat}(h0:0<k)(h:k<l.length):minL (l.take (k+1))=min (minL (l.take k)) (Sc.intD l k):=by
 rw[show min (minL (l.take k)) (Sc.intD l k)=if Sc.intD l k<minL (l.take k)then Sc.intD l k else minL (l.take k)from by split<;>omega,take_succ_last h]
 cases l with
 |nil=>simp at h
 |cons a r=>
  obtain⟨j,rfl⟩:∃j,k=j+1:=⟨k-1,oM⟩;rw[nU];show(r.take j++[_]).foldl _ a=_;rw[kF];rfl
theorem maxL_take{l:List Int}{k:Nat}(h0:0<k)(h:k<l.length):maxL (l.take (k+1))=max (maxL (l.take k)) (Sc.intD l k):=by
 rw[show max (maxL (l.take k)) (Sc.intD l k)=if maxL (l.take k)<Sc.intD l k then Sc.intD l k else maxL (l.take k)from by split<;>omega,take_succ_last h]
 cases l with
 |nil=>simp at h
 |cons a r=>
  obtain⟨j,rfl⟩:∃j,k=j+1:=⟨k-1,oM⟩;rw[nU];show(r.take j++[_]).foldl _ a=_;rw[kF];rfl
theorem minL_one{l:List Int}(h:0<l.length):minL (l.take 1)=Sc.intD l 0:=by
 cases l with
 |nil=>simp at h
 |cons a r=>rfl
theorem maxL_one{l:List Int}(h:0<l.length):maxL (l.take 1)=Sc.intD l 0:=by
 cases l with
 |nil=>simp at h
 |cons a r=>rfl
end Ru
theorem fX{w:World}{ao:Option Addr}{l:List Int}(h:IntsAt w ao l){k:Nat}(hk:k<l.length):∃b off,ao=some ⟨b,off,none⟩∧w.cell? ⟨b,off+k,none⟩=some (.int .i64 (Sc.intD l k)):=by
 rcases h with h|⟨b,off,ha,hc⟩
 ·rw[h]at hk;exact absurd hk sI
 exact⟨b,off,ha,hc k hk⟩
theorem aC7(l:List Int)(v:Value)(w:World)(hV:IntsV w v l)(h0:0<l.length)(hl:l.length≤1000000):Calls Tryz.prog 161 #[v] w fun e w'=>e=.returned (.int .i64 (Ru.minL l))∧w'=w:=by
 obtain⟨ao,cap,rfl,hA⟩:=hV;obtain⟨b,off,rfl,hc0⟩:=fX hA h0;have HA:Hid _:=hA;have HM1:Hid _:=Ru.minL_one h0;have g0:decide ((l.length:Int)<1)=false:=decide_eq_false oM;have g0n:decide (l.length<1)=false:=decide_eq_false oM;clear hA;rw[iV]at hc0
 go_enter Tryz.func161,Tryz.ntmps161
 go_wp2_with fail;go_loopw [3,4] (fun mv iv wr=>w=wr∧∃k:Nat,0<k∧k≤l.length∧iv=.int .i64 k∧mv=.int .i64 (Ru.minL (l.take k))) (fun _ iv _=>l.length-(intOf iv).toNat);case atStart=>exact⟨rfl,1,oM,oM,rfl,by rw[HM1.out]⟩
 case round=>
  obtain⟨rfl,k,hk0,hk,rfl,rfl⟩:=hrel;by_cases hlt:k<l.length
  ·obtain⟨b',off',hb',hck⟩:=fX HA.out hlt;injection hb' with hb';injection hb' with e1 e2;subst e1 e2;have HT:Hid _:=Ru.minL_take hk0 hlt;generalize Ru.minL (l.take k)=m at *;generalize Sc.intD l k=x at *;go_wp2_with fail;go_roundw;(case rel=>exact⟨trivial,k+1,oM,hlt,gN,by rw[HT.out]⟩);case measure=>exact mI
  have hdd:decide (k<l.length)=false:=decide_eq_false hlt;(have HE:Hid (Ru.minL (l.take k)=Ru.minL l):=by show _=_;rw[cH oM]);go_wp2_with fail;go_ret;exact⟨by rw[←HE.out];rfl,rfl⟩
theorem aC8(l:List Int)(v:Value)(w:World)(hV:IntsV w v l)(h0:0<l.length)(hl:l.length≤1000000):Calls Tryz.prog 162 #[v] w fun e w'=>e=.returned (.int .i64 (Ru.maxL l))∧w'=w:=by
 obtain⟨ao,cap,rfl,hA⟩:=hV;obtain⟨b,off,rfl,hc0⟩:=fX hA h0;have HA:Hid _:=hA;have HM1:Hid _:=Ru.maxL_one h0;have g0:decide ((l.length:Int)<1)=false:=decide_eq_false oM;have g0n:decide (l.length<1)=false:=decide_eq_false oM;clear hA;rw[iV]at hc0
 go_enter Tryz.func162,Tryz.ntmps162
 go_wp2_with fail;go_loopw [3,4] (fun mv iv wr=>w=wr∧∃k:Nat,0<k∧k≤l.length∧iv=.int .i64 k∧mv=.int .i64 (Ru.maxL (l.take k))) (fun _ iv _=>l.length-(intOf iv).toNat);case atStart=>exact⟨rfl,1,oM,oM,rfl,by rw[HM1.out]⟩
 case round=>
  obtain⟨rfl,k,hk0,hk,rfl,rfl⟩:=hrel;by_cases hlt:k<l.length
  ·obtain⟨b',off',hb',hck⟩:=fX HA.out hlt;injection hb' with hb';injection hb' with e1 e2;subst e1 e2;have HT:Hid _:=Ru.maxL_take hk0 hlt;generalize Ru.maxL (l.take k)=m at *;generalize Sc.intD l k=x at *;go_wp2_with fail;go_roundw;(case rel=>exact⟨trivial,k+1,oM,hlt,gN,by rw[HT.out]⟩);case measure=>exact mI
  have hdd:decide (k<l.length)=false:=decide_eq_false hlt;(have HE:Hid (Ru.maxL (l.take k)=Ru.maxL l):=by show _=_;rw[cH oM]);go_wp2_with fail;go_ret;exact⟨by rw[←HE.out];rfl,rfl⟩
theorem aCa{l:List Int}{k:Nat}(h:k<l.length):(l.take (k+1)).sum=(l.take k).sum+Sc.intD l k:=by rw[Ru.take_succ_last h,List.sum_append];simp
theorem zT:∀{l:List Int},(∀n,n∈l→Sc.isNum n=true)→l.sum≤1000000*(l.length:Int)∧ -(1000000*(l.length:Int))≤l.sum
 |[],_=>by simp
 |a::r,h=>by have h1:=zT (l:=r) (fun n hn=>h n (aP _ hn));have h2:=h a bA;unfold Sc.isNum at h2;have h3:=Ru.between_iff.mp h2;rw[List.sum_cons,dK];omega
theorem lO(f:Int)(l:List Int)(v:Value)(w:World)(hV:IntsV w v l)(h0:0<l.length)(hl:l.length≤1000000)(hN:∀n,n∈l→Sc.isNum n=true):Calls Tryz.prog 108 #[.int .i64 f,v] w fun e w'=>e=.returned (.int .i64 (Ru.foldN f l))∧w'=w:=by
 have HV:Hid _:=hV;obtain⟨ao,cap,rfl,hA⟩:=id hV;by_cases h1:f=1
 ·subst h1
  go_enter Tryz.func108,Tryz.ntmps108
  go_wp2_with fail;go_ret;exact⟨rfl,rfl⟩
 by_cases h3:f=3
 ·subst h3
  go_enter Tryz.func108,Tryz.ntmps108
  go_wp2_with fail;refine Calls.mono (aC7 l _ w HV.out h0 hl) ?_;rintro _ w2 ⟨rfl,rfl⟩;go_wp2_with fail;go_ret;exact⟨rfl,rfl⟩
 by_cases h4:f=4
 ·subst h4
  go_enter Tryz.func108,Tryz.ntmps108
  go_wp2_with fail;refine Calls.mono (aC8 l _ w HV.out h0 hl) ?_;rintro _ w2 ⟨rfl,rfl⟩;go_wp2_with fail;go_ret;exact⟨rfl,rfl⟩
 (have HE:Hid (Ru.foldN f l=l.sum):=by show _=_;unfold Ru.foldN;rw[if_neg h1,if_neg h3,if_neg h4]);(have g1:(f==1)=false:=by simpa using h1);(have g3:(f==3)=false:=by simpa using h3);(have g4:(f==4)=false:=by simpa using h4);have HA:Hid _:=hA;have HN:Hid _:=hN;clear h1 h3 h4 hA hV hN
 go_enter Tryz.func108,Tryz.ntmps108
 go_wp2_with fail;go_loopw [5,23] (fun sv iv wr=>w=wr∧∃k:Nat,k≤l.length∧iv=.int .i64 k∧sv=.int .i64 (l.take k).sum) (fun _ iv _=>l.length-(intOf iv).toNat);case atStart=>exact⟨rfl,0,oM,rfl,rfl⟩
 case round=>
  obtain⟨rfl,k,hk,rfl,rfl⟩:=hrel;by_cases hlt:k<l.length
  ·obtain⟨b',off',rfl,hck⟩:=fX HA.out hlt;have HT:Hid _:=aCa hlt;have hs1:=zT (l:=l.take (k+1)) (fun n hn=>HN.out n (eM hn));rw[HT.out,bC,jV hlt]at hs1;(have hwr:IntKind.i64.wrap ((l.take k).sum+Sc.intD l k)=(l.take k).sum+Sc.intD l k:=by simp[IntKind.wrap,IntKind.bits,IntKind.signed];omega);clear hs1;generalize (l.take k).sum=m at *;generalize Sc.intD l k=x at *;go_wp2_with fail;go_roundw;(case rel=>exact⟨trivial,k+1,hlt,gN,by rw[HT.out]⟩);case measure=>exact mI
  have hdd:decide (k<l.length)=false:=decide_eq_false hlt;(have HE2:Hid ((l.take k).sum=l.sum):=by show _=_;rw[cH oM]);go_wp2_with fail;go_ret;exact⟨by rw[HE.out,←HE2.out];rfl,rfl⟩
namespace Ru
theorem eq_step{x y:List Int}(hl:x.length=y.length){k:Nat}(hk:k<x.length):(x.drop k=y.drop k)↔(Sc.intD x k=Sc.intD y k∧x.drop (k+1)=y.drop (k+1)):=by(have e1:x.drop k=Sc.intD x k::x.drop (k+1):=by rw[bG hk];unfold Sc.intD;rw[aE,aG hk];rfl);(have e2:y.drop k=Sc.intD y k::y.drop (k+1):=by rw[bG oM];unfold Sc.intD;rw[aE,aG oM];rfl);rw[e1,e2,List.cons.injEq]
end Ru
end Go.Proofs.YthenjegmigeieaaGreat
namespace Go.Proofs.YthenjegmigeieaaGreat
open Go.Shelf Go.RowKit Go.Lib Go.Sort
def FwOk(w:World)(g:Nat)(x:Fv):Prop:=(∀w':World,(∀k,k<w.heap.size→¬k=g→w'.heap[k]?=w.heap[k]?)→IntsV w' x.2 x.1.args)∧FFit x.1
abbrev FwS(w:World)(g:Nat):={x:Fv//FwOk w g x}
theorem aCu(w:World)(g:Nat):FwOk w g (⟨0,[]⟩, .slice none 0 0):=⟨fun _ _=>⟨none,0,rfl, .inl rfl⟩,by show([]:List Int).length≤_;decide⟩
theorem aC1{w:World}{g:Nat}:∀{q:List Fv},(∀p,p∈q→FwOk w g p)→∃Q:List (FwS w g),Q.map (·.1)=q:=by
 intro q
 induction q with
 |nil=>intro _;exact⟨[],rfl⟩
 |cons a r ih=>
  intro h;obtain⟨Q,hQ⟩:=ih (fun p hp=>h p (by simp[hp]));exact⟨⟨a,h a sI⟩::Q,by simp[hQ]⟩
abbrev fwInh(w:World)(g:Nat):Inhabited (FwS w g):=⟨⟨_,aCu w g⟩⟩
def fwEnc{w:World}{g:Nat}(x:FwS w g):List Value:=fcCells x.1
def fwCmp{w:World}{g:Nat}(x y:FwS w g):Int:=Rl.ord x.1.1 y.1.1
theorem aDf(w:World)(g:Nat):SWO (ltOf (fwCmp (w:=w) (g:=g)))where
 irrefl x:=by unfold ltOf fwCmp;rw[Rl.ord_self];decide
 trans x y z h1 h2:=by unfold ltOf fwCmp at *;simp only[decide_eq_true_eq]at *;exact Rl.ord_trans h1 h2
 ntrans x y z h1 h2:=by
  unfold ltOf fwCmp at *;simp only[decide_eq_false_iff_not]at *;intro h3;rcases Rl.lt_or x.1.1 y.1.1 with h4|h4|h4
  ·exact h1 h4
  ·rw[h4]at h3;exact h2 h3
  exact h2 (Rl.ord_trans h4 h3)
theorem aDg{w:World}{g:Nat}(x:FwS w g):∀v∈fwEnc x,v.oneCell'=true:=by intro v hv;obtain⟨⟨⟨p,a⟩,u⟩,h⟩:=x;obtain⟨ao,cap,hu,_⟩:=h.1 w (fun _ _ _=>rfl);have hu:u=.slice ao a.length cap:=hu;subst hu;simp[fwEnc,fcCells]at hv;rcases hv with rfl|rfl<;>rfl
theorem aC2(w:World)(g size:Nat):@CmpLays (FwS w g) (fwInh w g) Tryz.prog 71 #[] fwEnc 2 fwCmp g 0 size w:=by
 letI:Inhabited (FwS w g):=fwInh w g
 intro m os dk _ x y;have hl:∀k,k<w.heap.size→¬k=g→(sortWorldK (fwEnc (w:=w) (g:=g)) 2 w g 0 m dk os).heap[k]?=w.heap[k]?:=fun k hk hne=>iD _ _ _ _ _ _ _ k hk hne;exact kP x.1.1 y.1.1 x.1.2 y.1.2 _ (x.2.1 _ hl) (y.2.1 _ hl) x.2.2 y.2.2
theorem aAA{w1 w:World}{B g cap:Nat}{Q:List (FwS w1 g)}(h:FRow w B g cap (Q.map (·.1))):@HoldsK (FwS w1 g) (fwInh w1 g) fwEnc 2 w g 0 Q.toArray:=by
 letI:Inhabited (FwS w1 g):=fwInh w1 g
 intro t ht;(have ht2:t<Q.length*2:=by simpa using ht);refine⟨?_,by rw[cV];exact h.frozen t⟩;rw[cV];have hc:=World.ownsRow.cellAt h t (by rw[aO];exact ht2);obtain⟨x,hx,hx2⟩:=mF (Q.map (·.1)) t (by rw[aO];exact ht2);rw[hc,hx2];have h1:t/2<Q.length:=oM;rw[bK,aG h1]at hx;(have hx3:Q[t/2].1=x:=by simpa using hx);show(fcCells x)[t% 2]?=some ((flatK fwEnc 2 Q.toArray)[t]!);rw[get_flatK fwEnc 2 Q.toArray t (by simpa using ht2)];(have h2:(Q.toArray)[t/2]! =Q[t/2]:=by simp[h1]);rw[h2];show _=some ((fcCells Q[t/2].1)[t% 2]!);rw[hx3];(have h3:t% 2<(fcCells x).length:=by show t% 2<2;omega);rw[aG h3,getElem!_pos (fcCells x) (t% 2) h3]
theorem xM{w1 w:World}{B g cap n:Nat}{Q:List (FwS w1 g)}{d:Array (FwS w1 g)}{os:Array Obj}(h:FRow w B g cap (Q.map (·.1)))(hd:d.size=Q.length):
 FRow (@sortWorldK (FwS w1 g) (fwInh w1 g) fwEnc 2 w g 0 n d os) B g cap (d.toList.map (·.1)):=by
 letI:Inhabited (FwS w1 g):=fwInh w1 g
 have hg:=h.lt;obtain⟨h1,h2⟩:=h;rcases h2 with⟨h2,_⟩|⟨g',cap',cur,hv,hb,hh,hc1,hc2,hc3,hc4⟩
 ·cases h2
 injection hv with e1 _ e3;injection e1 with e1;injection e1 with e1;subst e1 e3;(have hl:(d.toList.map (·.1)).length=Q.length:=by rw[aO,nW,hd]);refine⟨fJ _, .inr ⟨g,cap,putCells id 0 (flatK fwEnc 2 d) cur,rfl,hb,?_,by rw[hl];simpa using hc1,hc2,by simpa[putCells]using hc3,?_⟩⟩
 ·unfold sortWorldK putRowK putRow mapBlock Sort.ahead grow;show((w.heap.modify g _)++os)[g]?=_;rw[fU (by simpa using hg.2),jX,if_pos rfl,hh];rfl
 apply eZ;intro t;rw[dN,bF,hl];by_cases ht:t<Q.length*2
 ·rw[if_pos ht];have hq:(Q.map (·.1)).length=Q.length:=aO _;(have hcs:t<cur.size:=by rw[hc3];(have :Q.length≤cap:=by simpa using hc1);omega);obtain⟨x,hx,hx2⟩:=mF (d.toList.map (·.1)) t (by rw[hl];exact ht);rw[hx2];unfold putCells;rw[Array.getElem?_mapIdx,cD hcs,dG,if_pos (by rw[size_flatK,hd];omega)];have h4:t/2<d.size:=oM;rw[bK,bF,cD h4]at hx;(have hx3:d[t/2].1=x:=by simpa using hx);rw[Nat.sub_zero,get_flatK fwEnc 2 d t (by rw[hd];exact ht),getElem!_pos d _ h4];show some ((fcCells d[t/2].1)[t% 2]!)=_;rw[hx3];(have h3:t% 2<(fcCells x).length:=by show t% 2<2;omega);rw[aG h3,getElem!_pos (fcCells x) (t% 2) h3]
 rw[if_neg ht,bR];rw[fJ,hl];omega
theorem aBa(w:World)(B g cap:Nat)(q:List Fv)(hown:FRow w B g cap q)(hq:∀p,p∈q→FwOk w g p)(hn:q.length<4611686018427387904):
 Calls Tryz.prog 106 #[.slice (some ⟨g,0,none⟩) q.length cap, .func (.func 71) #[] #[]] w fun e w'=>e=.returned (.tuple #[])∧∃q',q'.Perm q∧(q'.map (·.1)).Pairwise (fun a b=>¬Rl.Lt b a)∧FRow w' B g cap q'∧w.grownBy w' (some g):=by
 obtain⟨Q,rfl⟩:=aC1 hq
 letI:Inhabited (FwS w g):=fwInh w g
 have eg:∀args w,(callFunc 71 args).run Tryz.prog w=.ok (.enter 71 args) w:=eQ Tryz.func71 kR rfl;(have hsz:Q.toArray.size=Q.length:=by simp);have hcon:=AnyQ.slices_SortFunc Tryz.sortF 2 Tryz.isAgg55 Tryz.sizeOf55 fwEnc (fun _=>rfl) aDg fwCmp (aDf w g) 71 #[] g 0 cap Q.toArray w eg (aC2 w g _) (aAA hown) hown.lt.2 (by rw[hsz];simpa using hn);rw[hsz]at hcon;change Calls Tryz.prog 106 _ _ _ at hcon;rw[aO];refine hcon.mono ?_;rintro e w' ⟨rfl,d',n,os,hp,hs,rfl⟩;obtain⟨p1,p2,p3⟩:=hp;(have hds:d'.size=Q.length:=by rw[p1];simp);(have e1:d'.extract 0 Q.length=d':=by rw[←hds];simp);(have e2:Q.toArray.extract 0 Q.length=Q.toArray:=by simp);rw[e1,e2]at p3;refine⟨rfl,d'.toList.map (·.1),?_,?_,xM hown hds,rfl,rfl,rfl,mE _ _ _ _ _ _ _,fun k hk hne=>iD _ _ _ _ _ _ _ k hk (fun e=>hne (by rw[e]))⟩
 ·exact p3.map _
 rw[iC];intro i j hi hj hij;(have hi2:i<d'.size:=by simpa using hi);(have hj2:j<d'.size:=by simpa using hj);have :=hs i j (aR _) hij oM;rw[getElem!_pos d' j hj2,getElem!_pos d' i hi2]at this;unfold ltOf fwCmp at this;simp only[decide_eq_false_iff_not]at this;simpa[Rl.Lt]using this
end Go.Proofs.YthenjegmigeieaaGreat
namespace Go.Proofs.YthenjegmigeieaaGreat
open Go.RowKit
namespace Ru
theorem drop_fact{S:List Rl.Fc}{k:Nat}(hk:k<S.length):S.drop k=Rl.factD S k::S.drop (k+1):=by rw[bG hk];unfold Rl.factD;rw[aE,aG hk];rfl
theorem folded_go(f:Int){S:List Rl.Fc}{k:Nat}(hk:k+1<S.length)(hp:pre (Rl.factD S k).args=pre (Rl.factD S (k+1)).args)(ns:List Int):folded f (S.drop k) ns=folded f (S.drop (k+1)) (ns++[lst (Rl.factD S k).args]):=by rw[drop_fact (show k<S.length by omega),drop_fact hk];show(if pre (Rl.factD S k).args=pre (Rl.factD S (k+1)).args then _ else _)=_;rw[if_pos hp]
theorem folded_cut(f:Int){S:List Rl.Fc}{k:Nat}(hk:k<S.length)(hp:¬(k+1<S.length∧pre (Rl.factD S k).args=pre (Rl.factD S (k+1)).args))(ns:List Int):folded f (S.drop k) ns=emit f (Rl.factD S k).pred (pre (Rl.factD S k).args) (ns++[lst (Rl.factD S k).args])++folded f (S.drop (k+1)) []:=by
 by_cases h1:k+1<S.length
 ·rw[drop_fact hk,drop_fact h1];show(if pre (Rl.factD S k).args=pre (Rl.factD S (k+1)).args then _ else _)=_;rw[if_neg (fun e=>hp ⟨h1,e⟩)];rfl
 rw[drop_fact hk,aL (show S.length≤k+1 by omega)];show _=emit f _ _ _++[];rw[fE];rfl
theorem lst_eq(l:List Int):lst l=Sc.intD l (l.length-1):=by unfold lst Sc.intD;rw[List.getLastD_eq_getLast?,List.getLast?_eq_getElem?,aE]
theorem pre_length(l:List Int):(pre l).length=l.length-1:=List.length_dropLast
theorem pre_intD{l:List Int}{i:Nat}(h:i<l.length-1):Sc.intD (pre l) i=Sc.intD l i:=by unfold pre Sc.intD;rw[aE,aE,List.getElem?_dropLast,if_pos h]
theorem lst_num{l:List Int}(h:0<l.length)(hn:∀n,n∈l→Sc.isNum n=true):Sc.isNum (lst l)=true:=by refine hn _ ?_;rw[lst_eq];unfold Sc.intD;rw[aE,aG oM];exact cR _
theorem emit_length(f pd:Int)(p ns:List Int):(emit f pd p ns).length≤1:=by unfold emit;split<;>simp
theorem folded_length(f:Int):∀(S:List Rl.Fc)(ns:List Int),(folded f S ns).length≤S.length
 |[],_=>aF _
 |h::t,ns=>by
  by_cases hp:0+1<(h::t).length∧pre (Rl.factD (h::t) 0).args=pre (Rl.factD (h::t) (0+1)).args
  ·have :=folded_go f (S:=h::t) (k:=0) hp.1 hp.2 ns;rw[cW]at this;rw[this];have :=folded_length f t (ns++[lst (Rl.factD (h::t) 0).args]);show(folded f t _).length≤t.length+1;omega
  have :=folded_cut f (S:=h::t) (k:=0) sI hp ns;rw[cW]at this;rw[this,aN];have h1:=emit_length f (Rl.factD (h::t) 0).pred (pre (Rl.factD (h::t) 0).args) (ns++[lst (Rl.factD (h::t) 0).args]);have :=folded_length f t [];show _+(folded f t []).length≤t.length+1;omega
theorem folded_args(f:Int)(T:Nat):∀(S:List Rl.Fc)(ns:List Int),(∀g,g∈S→g.args.length=T)→∀g,g∈folded f S ns→g.args.length≤T+1
 |[],_,_,g,hg=>by cases hg
 |h::t,ns,hS,g,hg=>by
  by_cases hp:0+1<(h::t).length∧pre (Rl.factD (h::t) 0).args=pre (Rl.factD (h::t) (0+1)).args
  ·have :=folded_go f (S:=h::t) (k:=0) hp.1 hp.2 ns;rw[cW]at this;rw[this]at hg;exact folded_args f T t _ (fun x hx=>hS x (aP _ hx)) g hg
  have :=folded_cut f (S:=h::t) (k:=0) sI hp ns;rw[cW]at this;rw[this]at hg;rcases bX.mp hg with hg|hg
  ·unfold emit at hg;split at hg
   ·rw[bI.mp hg];show(pre h.args++_).length≤_;rw[aN,pre_length,hS h bA];simp
   cases hg
  exact folded_args f T t _ (fun x hx=>hS x (aP _ hx)) g hg
end Ru
theorem oB{w:World}{ao:Option Addr}{l:List Int}(cap:Nat)(h:IntsAt w ao l):IntsV w (.slice ao (l.length-1) cap) (Ru.pre l):=by
 refine⟨ao,cap,by rw[Ru.pre_length],?_⟩;rcases h with h|⟨b,off,ha,hc⟩
 ·exact .inl (by rw[h];rfl)
 refine .inr ⟨b,off,ha,fun i hi=>?_⟩;rw[Ru.pre_length]at hi;rw[Ru.pre_intD hi];exact hc i oM

def earlyFine(ops:Array Oper)(S:Nat)(early:Nat→Bool):Bool:=(List.range ops.size).all fun i=>i==S||reach ops 12 i S||((ops[i]?).map fun o=>(o.dst.map early).getD true).getD true
section
variable {P:Program} {ops:Array Oper} {Q:Exit→Act→World→Prop}
theorem mB(T T1:Nat→Value→World→Prop)(L S:Nat)(early:Nat→Bool){id:Nat}{a0:Act}{w0:World}(hL:L<ops.size)(htf:tailFine ops L=true)(hm:P.follows .mixedOrders=true)
 (hf:tabFine ops a0.tmps.size=true) (hear:earlyFine ops S early=true)
 (hmono:∀t v w w',Below w.heap.size w w'→T t v w→T t v w') (hmono1:∀t v w w',Below w.heap.size w w'→T1 t v w→T1 t v w')
 (hmonoE:∀t v w w',early t=true→Below w0.heap.size w w'→T t v w→T t v w')
 (hop:AllOpsI (fun i o=>∀a w,OpIn ops T a0 w0 o a w→(∀t,t∉(ops.toList.take L).filterMap (·.dst)→a.tmps.getD t undef=a0.tmps.getD t undef)→if i=S then(OpIn ops T1 a0 w0 o a w→Region.wanted o (yielded ops a.tmps)=true∧o.wp P a w (fun a' w'=>∃v,a'=a.put o.dst v∧(∀t,o.dst=some t→T t v w')∧w.heap.size≤w'.heap.size∧Below w0.heap.size w w') Q)else OpOk P ops Q (fun t v w=>T t v w∧T1 t v w) o a w) 0 (ops.toList.take L))
 (htail:∀a w,OpInT ops T a0 w0 L a w→(∀t,t∉(ops.toList.take L).filterMap (·.dst)→a.tmps.getD t undef=a0.tmps.getD t undef)→wpOps P ops Q (List.range' L (ops.size-L)) a w):
 (Code.region id ops true).wp P Q a0 w0:=by
 have hear':∀(i:Nat)(o:Oper)(t:Nat),ops[i]?=some o→o.dst=some t→¬i=S→reach ops 12 i S=false→early t=true:=fun i o t ho hd hne hr=>by
  unfold earlyFine at hear;have h:=bE.mp hear i (cZ.mpr (aJ.mp ho).1);rw[ho,hr]at h;simp only[dG,dH,hd,Bool.or_false,eA,beq_iff_eq]at h;rcases h with h|h
  ·exact absurd h hne
  exact h
 unfold tailFine at htf;rw[aW]at htf;have ht1:∀j,j<L→reach ops 12 L j=true:=fun j hj=>bE.mp htf.1 j (cZ.mpr hj);(have ht2:∀i,i<ops.size→L<i→reach ops 12 i (i-1)=true:=fun i hi hLi=>by have h:=bE.mp htf.2 i (cZ.mpr hi);rw[decide_eq_true hLi]at h;simpa using h);unfold tabFine at hf;rw[aW,aW]at hf;obtain⟨⟨hnd,hlt⟩,hah⟩:=hf;have hnd:=of_decide_eq_true hnd;have hlt':∀t,t∈ops.toList.filterMap (·.dst)→t<a0.tmps.size:=fun t ht=>of_decide_eq_true (bE.mp hlt t ht);have hah':∀(i:Nat)(o:Oper),ops[i]?=some o→∀e,e∈o.after→e.on<i:=fun i o ho e he=>by have hi:i<ops.size:=(aJ.mp ho).1;have h:=bE.mp hah i (cZ.mpr hi);rw[ho,dG,dH]at h;exact of_decide_eq_true (bE.mp h e (by simpa using he))
 refine gO (fun s a w=>(s.size=ops.size∧Closed ops s)∧(((∀i,L≤i→i<ops.size→s[i]?=some false)∧(∀t,t∉(ops.toList.take L).filterMap (·.dst)→a.tmps.getD t undef=a0.tmps.getD t undef)∧(s[S]?=some false→Tabbed ops T1 a0 w0 s a w)∧Tabbed ops T a0 w0 s a w)∨
  (∃m,L≤m∧m≤ops.size∧(∀i,i<m→s[i]?=some true)∧(∀i,m≤i→i<ops.size→s[i]?=some false)∧wpOps P ops Q (List.range' m (ops.size-m)) a w))) hm ?_ ?_ ?_
 ·rintro s a w hr ⟨⟨hs,hC⟩,hI⟩;have hall:∀n:Nat,n≤ops.size→∀i:Nat,i<n→s[i]?=some true:=by
   intro n
   induction n with
   |zero=>intro _ i hi;exact absurd hi (fD _)
   |succ n ih=>
    intro hn i hi;have ih:=ih oM;by_cases hin:i<n
    ·exact ih i hin
    have hin:i=n:=oM;subst hin
    cases hsi:s[i]? with
    |none=>rw[dV]at hsi;omega
    |some b=>
     cases b with
     |true=>rfl
     |false=>
      exfalso;have hio:i<ops.size:=oM;(have :i∈Region.ready .any ops s:=by unfold Region.ready;refine eX.mpr ⟨cZ.mpr hio,?_⟩;rw[aW];refine⟨by simp[Array.getD_eq_getD_getElem?,hsi],?_⟩;have ho:ops[i]?=some ops[i]:=cD hio;rw[ho,dG,dH,eI];intro e he;have h1:=ih e.on (hah' i _ ho e he);simp[Array.getD_eq_getD_getElem?,h1]);rw[hr]at this;exact absurd this sI
  have hd:=hall ops.size (aF _);rcases hI with⟨hF,_,_,_⟩|⟨m,_,hm1,_,hF,hW⟩
  ·have h1:=hF L (aF _) hL;rw[hd L hL]at h1;cases h1
  by_cases hme:m=ops.size
  ·subst hme;rw[iU]at hW;exact hW
  have h1:=hF m (aF _) oM;rw[hd m oM]at h1;cases h1
 ·rintro s a w i hi ⟨⟨hs,hC⟩,hI⟩;obtain⟨hsi,o,ho,haf⟩:=iZ hi;have his:i<ops.size:=(aJ.mp ho).1;have hup:∀j,s[j]?=some true→(s.setIfInBounds i true)[j]?=some true:=fun j hj=>by
   rw[aQ];by_cases hij:i=j
   ·rw[if_pos hij,if_pos oM]
   rw[if_neg hij];exact hj
  have hss:(s.setIfInBounds i true).size=ops.size∧Closed ops (s.setIfInBounds i true):=by
   refine⟨by simp[hs],fun i' o' hi' ho' e he hb=>?_⟩;by_cases hii:i=i'
   ·subst hii;rw[ho]at ho';cases ho';exact hup _ (haf e he hb)
   rw[aQ,if_neg hii]at hi';exact hup _ (hC i' o' hi' ho' e he hb)
  have go:∀m,L≤m→m<ops.size→i=m→(∀j,j<m→s[j]?=some true)→(∀j,m≤j→j<ops.size→s[j]?=some false)→wpOps P ops Q (List.range' m (ops.size-m)) a w→
   wpOp P ops Q i (fun a' w'=>((s.setIfInBounds i true).size=ops.size∧Closed ops (s.setIfInBounds i true))∧(((∀j,L≤j→j<ops.size→(s.setIfInBounds i true)[j]?=some false)∧(∀t,t∉(ops.toList.take L).filterMap (·.dst)→a'.tmps.getD t undef=a0.tmps.getD t undef)∧((s.setIfInBounds i true)[S]?=some false→Tabbed ops T1 a0 w0 (s.setIfInBounds i true) a' w')∧Tabbed ops T a0 w0 (s.setIfInBounds i true) a' w')∨
    (∃m,L≤m∧m≤ops.size∧(∀j,j<m→(s.setIfInBounds i true)[j]?=some true)∧(∀j,m≤j→j<ops.size→(s.setIfInBounds i true)[j]?=some false)∧wpOps P ops Q (List.range' m (ops.size-m)) a' w'))) a w:=by
   intro m hLm hms him hT hF hW;subst him;obtain⟨d,hd⟩:∃d,ops.size-i=d+1:=⟨ops.size-i-1,oM⟩;rw[hd,List.range'_succ,wpOps_cons]at hW;refine wpOp_mono (fun a' w' h'=>⟨hss, .inr ⟨i+1,oM,oM,fun j hj=>?_,fun j hj hjs=>?_,?_⟩⟩) hW
   ·by_cases hji:j=i
    ·subst hji;rw[aQ,if_pos rfl,if_pos oM]
    exact hup j (hT j oM)
   ·rw[aQ,if_neg oM];exact hF j oM hjs
   rw[show ops.size-(i+1)=d by omega];exact h'
  rcases hI with⟨hF,hO,hI1,hI⟩|⟨m,hLm,hm1,hT,hF,hW⟩
  ·by_cases hiL:L≤i
   ·have hiL2:i=L:=by
     rcases dF L i with h|h
     ·have h1:=eG hC 12 i (i-1) o ho haf (ht2 i his h);rw[hF (i-1) oM oM]at h1;cases h1
     omega
    subst hiL2;have hdn:∀j,j<i→s[j]?=some true:=fun j hj=>eG hC 12 i j o ho haf (ht1 j hj);exact go i (aF _) his rfl hdn (fun j hj hjs=>hF j hj hjs) (htail a w ⟨hI.below,hI.defers,hI.size,hI.still,fun j oj t hj hoj hd=>hI.done j oj t (hdn j hj) hoj hd⟩ hO)
   (have hmo:o∈ops.toList.take L:=by rw[←bF]at ho;refine dL (i:=i) ?_;rw[dN,if_pos oM];exact ho);have hopI:=AllOpsI.get _ 0 hop i o (by
    rw[dN,if_pos oM,bF]
    exact ho) a w ⟨hI.below,hI.still,fun e he hb o' t ho' hd=>hI.done e.on o' t (haf e he hb) ho' hd⟩ hO
   rw[cV]at hopI;have hOset:∀(v:Value) t,t∉(ops.toList.take L).filterMap (·.dst)→(a.put o.dst v).tmps.getD t undef=a0.tmps.getD t undef:=fun v t ht=>by
    cases hd:o.dst with
    |none=>exact hO t ht
    |some u=>
     have hne:t≠u:=fun h=>ht (h▸dM.mpr ⟨o,hmo,hd⟩);rw[cI hne];exact hO t ht
   have hset:∀{T:Nat→Value→World→Prop}{v:Value}{w':World},Tabbed ops T a0 w0 s a w→(∀t,o.dst=some t→T t v w')→w.heap.size≤w'.heap.size→Below w0.heap.size w w'→(∀(j:Nat)(oj:Oper)(t:Nat),s[j]?=some true→ops[j]?=some oj→oj.dst=some t→∀u,T t u w→T t u w')→Tabbed ops T a0 w0 (s.setIfInBounds i true) (a.put o.dst v) w':=by
    intro T v w' hI hv hsz hb hmono;refine⟨hI.below.trans hb,by rw[jN];exact hI.defers,by rw[fI];exact hI.size,fun t ht=>?_,fun j oj t hj hoj hd=>?_⟩
    ·cases hd:o.dst with
     |none=>exact hI.still t ht
     |some u=>
      have hne:t≠u:=fun h=>ht (h▸iR ho hd);rw[cI hne];exact hI.still t ht
    by_cases hij:j=i
    ·subst hij;rw[ho]at hoj;cases hoj;rw[hd,dC (by rw[hI.size];exact hlt' t (iR ho hd))];exact hv t hd
    (have hj':s[j]?=some true:=by rw[aQ,if_neg (fun h=>hij h.symm)]at hj;exact hj);have h1:=hmono j oj t hj' hoj hd _ (hI.done j oj t hj' hoj hd)
    cases hd2:o.dst with
    |none=>exact h1
    |some u=>
     have hne:t≠u:=fun h=>hij (lW ops.toList hnd j i oj o t (by rw[bF];exact hoj) (by rw[bF];exact ho) hd (h▸hd2));rw[cI hne];exact h1
   (have hF':∀j,L≤j→j<ops.size→(s.setIfInBounds i true)[j]?=some false:=fun j hj hjs=>by rw[aQ,if_neg oM];exact hF j hj hjs);by_cases hiS:i=S
   ·rw[if_pos hiS]at hopI;have hT1:=hI1 (by rw[←hiS];exact hsi);obtain⟨hw,hwp⟩:=hopI ⟨hT1.below,hT1.still,fun e he hb o' t ho' hd=>hT1.done e.on o' t (haf e he hb) ho' hd⟩;unfold wpOp;rw[ho];dsimp only;rw[if_pos hw];refine .inl (Oper.wp_mono ?_ hwp);rintro a' w' ⟨v,rfl,hv,hsz,hb⟩;refine⟨hss, .inl ⟨hF',hOset v,fun h=>?_,hset hI hv hsz hb (fun j oj t hj hoj hd u hu=>?_)⟩⟩
    ·rw[hiS,aQ,if_pos rfl,if_pos oM]at h;cases h
    (have hjS:¬j=S:=fun e=>by rw[e,←hiS,hsi]at hj;cases hj);have hr:reach ops 12 j S=false:=by
     cases hr:reach ops 12 j S with
     |false=>rfl
     |true=>
      have h1:=eG hC 12 j S oj hoj (fun e he hb=>hC j oj hj hoj e he hb) hr;rw[←hiS,hsi]at h1;cases h1
    exact hmonoE t u w w' (hear' j oj t hoj hd hjS hr) hb hu
   rw[if_neg hiS]at hopI;(have hSs:(s.setIfInBounds i true)[S]?=some false→s[S]?=some false:=fun h=>by rw[aQ,if_neg hiS]at h;exact h);have hlow:∀{w':World},Below w.heap.size w w'→Below w0.heap.size w w':=fun hb=>hb.mono hI.below.size;unfold OpOk at hopI;unfold wpOp;rw[ho];dsimp only;by_cases hw:Region.wanted o (yielded ops a.tmps)=true
   ·rw[if_pos hw]at hopI ⊢;refine hopI.imp (Oper.wp_mono ?_) (fun h=>h);rintro a' w' ⟨v,rfl,hv,hb⟩;exact⟨hss, .inl ⟨hF',hOset v,fun h=>hset (hI1 (hSs h)) (fun t ht=>(hv t ht).2) hb.size (hlow hb) (fun _ _ t _ _ _ u hu=>hmono1 t u w w' hb hu),hset hI (fun t ht=>(hv t ht).1) hb.size (hlow hb) (fun _ _ t _ _ _ u hu=>hmono t u w w' hb hu)⟩⟩
   rw[if_neg hw]at hopI ⊢;exact⟨hss, .inl ⟨hF',hOset _,fun h=>hset (hI1 (hSs h)) (fun t ht=>(hopI t ht).2) (aF _) (hlow (aH _ _)) (fun _ _ t _ _ _ u hu=>hu),hset hI (fun t ht=>(hopI t ht).1) (aF _) (hlow (aH _ _)) (fun _ _ t _ _ _ u hu=>hu)⟩⟩
  have him:m≤i:=by
   rcases dF i m with h|h
   ·have h1:=hT i h;rw[hsi]at h1;cases h1
   exact h
  have him2:i=m:=by
   rcases dF m i with h|h
   ·have h1:=eG hC 12 i (i-1) o ho haf (ht2 i his oM);rw[hF (i-1) oM oM]at h1;cases h1
   omega
  exact go m hLm oM him2 hT hF hW
 refine⟨⟨by simp,fun i o h=>?_⟩, .inl ⟨fun i _ hi=>?_,fun _ _=>rfl,fun _=>⟨⟨rfl,rfl,rfl,aF _,fun _ _=>rfl⟩,rfl,rfl,fun _ _=>rfl,fun i o t h _ _=>?_⟩,⟨⟨rfl,rfl,rfl,aF _,fun _ _=>rfl⟩,rfl,rfl,fun _ _=>rfl,fun i o t h _ _=>?_⟩⟩⟩
 ·rw[cO]at h;split at h<;>simp at h
 ·rw[cO,if_pos hi]
 ·rw[cO]at h;split at h<;>simp at h
 rw[cO]at h;split at h<;>simp at h
end
end Go.Proofs.YthenjegmigeieaaGreat
