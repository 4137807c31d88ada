/- Own texts, one behind the other (part 5). -/
import Derived.Test.YthenjegmigeieaaGreatBundleD
import Derived.Test.YthenjegmigeieaaGreatRows
set_option maxRecDepth 100000
set_option maxHeartbeats 8000000
namespace Go.Proofs.YthenjegmigeieaaGreat
open Go.RowKit
def tabFine(ops:Array Oper)(n:Nat):Bool:=
 decide ((ops.toList.filterMap (·.dst)).Nodup)&&(ops.toList.filterMap (·.dst)).all (fun t=>decide (t<n))&&(List.range ops.size).all (fun i=>((ops[i]?).map (fun o=>o.after.toList.all (fun e=>decide (e.on<i)))).getD true)
structure Tabbed (ops:Array Oper) (T:Nat→Value→World→Prop) (a0:Act) (w0:World) (s:Array Bool) (a:Act) (w:World):Prop where
 below:Below w0.heap.size w0 w
 defers:a.defers=a0.defers
 size:a.tmps.size=a0.tmps.size
 still:∀t,t∉ops.toList.filterMap (·.dst)→a.tmps.getD t undef=a0.tmps.getD t undef
 done:∀(i:Nat)(o:Oper)(t:Nat),s[i]?=some true→ops[i]?=some o→o.dst=some t→T t (a.tmps.getD t undef) w
section
variable {P:Program} {ops:Array Oper} {Q:Exit→Act→World→Prop} {T:Nat→Value→World→Prop}
theorem iR{i:Nat}{o:Oper}{t:Nat}(h:ops[i]?=some o)(ht:o.dst=some t):t∈ops.toList.filterMap (·.dst):=by refine dM.mpr ⟨o,?_,ht⟩;rw[←bF]at h;exact dL h
theorem lW:∀(l:List Oper),(l.filterMap (·.dst)).Nodup→∀(i j:Nat)(o o':Oper)(t:Nat),l[i]?=some o→l[j]?=some o'→o.dst=some t→o'.dst=some t→i=j
 |[],_,i,j,o,o',t,h,_,_,_=>by simp at h
 |x::l,hn,i,j,o,o',t,hi,hj,ho,ho'=>by
  have hmem:∀k (o:Oper),l[k]?=some o→o.dst=some t→t∈l.filterMap (·.dst):=fun k o h1 h2=>dM.mpr ⟨o,dL h1,h2⟩
  cases i with
  |zero=>
   cases j with
   |zero=>rfl
   |succ j=>
    simp only[List.getElem?_cons_zero,Option.some.injEq]at hi;subst hi;simp only[jG]at hj;rw[fW,ho]at hn;exact absurd (hmem j o' hj ho') (List.nodup_cons.mp hn).1
  |succ i=>
   cases j with
   |zero=>
    simp only[List.getElem?_cons_zero,Option.some.injEq]at hj;subst hj;simp only[jG]at hi;rw[fW,ho']at hn;exact absurd (hmem i o hi ho) (List.nodup_cons.mp hn).1
   |succ j=>
    simp only[jG]at hi hj;have hn':(l.filterMap (·.dst)).Nodup:=by
     rw[fW]at hn
     cases hx:x.dst with
     |none=>rw[hx]at hn;exact hn
     |some z=>rw[hx]at hn;exact(List.nodup_cons.mp hn).2
    exact congrArg (·+1) (lW l hn' i j o o' t hi hj ho ho')
structure OpIn (ops:Array Oper) (T:Nat→Value→World→Prop) (a0:Act) (w0:World) (o:Oper) (a:Act) (w:World):Prop where
 below:Below w0.heap.size w0 w
 still:∀t,t∉ops.toList.filterMap (·.dst)→a.tmps.getD t undef=a0.tmps.getD t undef
 has:∀e,e∈o.after→Region.binds .any e=true→∀(o':Oper)(t:Nat),ops[e.on]?=some o'→o'.dst=some t→T t (a.tmps.getD t undef) w
def OpOk(P:Program)(ops:Array Oper)(Q:Exit→Act→World→Prop)(T:Nat→Value→World→Prop)(o:Oper)(a:Act)(w:World):Prop:=
 if Region.wanted o (yielded ops a.tmps)then o.wp P a w (fun a' w'=>∃v,a'=a.put o.dst v∧(∀t,o.dst=some t→T t v w')∧Below w.heap.size w w') Q∨(o.asks P a w∧LetsOut Q)
 else∀t,o.dst=some t→T t undef w
theorem dC{a:Act}{t:Nat}{v:Value}(h:t<a.tmps.size):(a.put (some t) v).tmps.getD t undef=v:=by simp[Act.put,Array.getD_eq_getD_getElem?,h]
theorem cI{a:Act}{t u:Nat}{v:Value}(h:u≠t):(a.put (some t) v).tmps.getD u undef=a.tmps.getD u undef:=by simp[Act.put,Array.getD_eq_getD_getElem?,Ne.symm h]
theorem fI{a:Act}{d:Option Nat}{v:Value}:(a.put d v).tmps.size=a.tmps.size:=by cases d<;>simp[Act.put]
theorem jN{a:Act}{d:Option Nat}{v:Value}:(a.put d v).defers=a.defers:=by cases d<;>simp[Act.put]
theorem sK(T:Nat→Value→World→Prop){id:Nat}{a0:Act}{w0:World}(hm:P.follows .mixedOrders=true)
 (hf:tabFine ops a0.tmps.size=true)
 (hmono:∀t v w w',Below w.heap.size w w'→T t v w→T t v w')
 (hop:∀(i:Nat)(o:Oper),ops[i]?=some o→∀a w,OpIn ops T a0 w0 o a w→OpOk P ops Q T o a w)
 (hend:∀a w,Below w0.heap.size w0 w→a.defers=a0.defers→a.tmps.size=a0.tmps.size→(∀t,t∉ops.toList.filterMap (·.dst)→a.tmps.getD t undef=a0.tmps.getD t undef)→(∀t,t∈ops.toList.filterMap (·.dst)→T t (a.tmps.getD t undef) w)→Q .normal a w):
 (Code.region id ops true).wp P Q a0 w0:=by
 unfold tabFine at hf;rw[aW,aW]at hf;obtain⟨⟨hnd,hlt⟩,hah⟩:=hf;have hnd:=of_decide_eq_true hnd;(have hlt':∀t,t∈ops.toList.filterMap (·.dst)→t<a0.tmps.size:=fun t ht=>by have h:=bE.mp hlt t ht;exact of_decide_eq_true h);(have hah':∀(i:Nat)(o:Oper),ops[i]?=some o→∀e,e∈o.after→e.on<i:=fun i o ho e he=>by have hi:i<ops.size:=(aJ.mp ho).1;have h:=bE.mp hah i (cZ.mpr hi);rw[ho,dG,dH]at h;exact of_decide_eq_true (bE.mp h e (by simpa using he)));have hset:∀{T:Nat→Value→World→Prop}{s:Array Bool}{a:Act}{w w':World}{i:Nat}{o:Oper}{v:Value},(∀t v w w',Below w.heap.size w w'→T t v w→T t v w')→s.size=ops.size→ops[i]?=some o→Tabbed ops T a0 w0 s a w→(∀t,o.dst=some t→T t v w')→Below w.heap.size w w'→Tabbed ops T a0 w0 (s.setIfInBounds i true) (a.put o.dst v) w':=by
  intro T s a w w' i o v hmono hs ho hI hv hb;refine⟨hI.below.trans (hb.mono hI.below.size),by rw[jN];exact hI.defers,by rw[fI];exact hI.size,fun t ht=>?_,fun j oj t hj hoj hd=>?_⟩
  ·cases hd:o.dst with
   |none=>exact hI.still t ht
   |some u=>
    have hne:t≠u:=fun h=>ht (h▸iR ho hd);rw[cI hne];exact hI.still t ht
  by_cases hij:j=i
  ·subst hij;rw[ho]at hoj;cases hoj;rw[hd,dC (by rw[hI.size];exact hlt' t (iR ho hd))];exact hv t hd
  (have hj':s[j]?=some true:=by rw[aQ,if_neg (fun h=>hij h.symm)]at hj;exact hj);have h1:=hmono t _ w w' hb (hI.done j oj t hj' hoj hd)
  cases hd2:o.dst with
  |none=>exact h1
  |some u=>
   have hne:t≠u:=fun h=>hij (lW ops.toList hnd j i oj o t (by rw[bF];exact hoj) (by rw[bF];exact ho) hd (h▸hd2));rw[cI hne];exact h1
 refine gO (fun s a w=>s.size=ops.size∧Tabbed ops T a0 w0 s a w) hm ?_ ?_ ?_
 ·rintro s a w hr ⟨hs,hI⟩;have hall:∀n:Nat,n≤ops.size→∀i:Nat,i<n→s[i]?=some true:=by
   intro n
   induction n with
   |zero=>intro _ i hi;exact absurd hi (fD _)
   |succ n ih=>
    intro hn i hi;have ih:=ih oM;by_cases hin:i<n
    ·exact ih i hin
    have hin:i=n:=oM;subst hin
    cases hsi:s[i]? with
    |none=>rw[dV]at hsi;omega
    |some b=>
     cases b with
     |true=>rfl
     |false=>
      exfalso;have hio:i<ops.size:=oM;(have :i∈Region.ready .any ops s:=by unfold Region.ready;refine eX.mpr ⟨cZ.mpr hio,?_⟩;rw[aW];refine⟨by simp[Array.getD_eq_getD_getElem?,hsi],?_⟩;have ho:ops[i]?=some ops[i]:=cD hio;rw[ho,dG,dH,eI];intro e he;have h1:=ih e.on (hah' i _ ho e he);simp[Array.getD_eq_getD_getElem?,h1]);rw[hr]at this;exact absurd this sI
  refine hend a w hI.below hI.defers hI.size hI.still (fun t ht=>?_);obtain⟨o,ho,hd⟩:=dM.mp ht;obtain⟨i,hi⟩:=List.mem_iff_getElem?.mp ho;rw[bF]at hi;exact hI.done i o t (hall ops.size (aF _) i (aJ.mp hi).1) hi hd
 ·rintro s a w i hi ⟨hs,hI⟩;obtain⟨hsi,o,ho,haf⟩:=iZ hi;have h:=hop i o ho a w ⟨hI.below,hI.still,fun e he hb o' t ho' hd=>hI.done e.on o' t (haf e he hb) ho' hd⟩;(have hss:(s.setIfInBounds i true).size=ops.size:=by simp[hs]);unfold OpOk at h;unfold wpOp;rw[ho];dsimp only;by_cases hw:Region.wanted o (yielded ops a.tmps)=true
  ·rw[if_pos hw]at h ⊢;refine h.imp (Oper.wp_mono ?_) (fun h=>h);rintro a' w' ⟨v,rfl,hv,hb⟩;exact⟨hss,hset hmono hs ho hI hv hb⟩
  rw[if_neg hw]at h ⊢;exact⟨hss,hset hmono hs ho hI h (aH _ _)⟩
 refine⟨by simp,⟨⟨rfl,rfl,rfl,aF _,fun _ _=>rfl⟩,rfl,rfl,fun _ _=>rfl,fun i o t h _ _=>?_⟩⟩;rw[cO]at h;split at h<;>simp at h
end
def waitsFor(ops:Array Oper)(o:Oper)(t:Nat):Bool:=o.after.toList.any fun e=>Region.binds .any e&&((ops[e.on]?).map fun o'=>o'.dst==some t).getD false
def stays(ops:Array Oper)(t:Nat):Bool:= !(ops.toList.filterMap (·.dst)).contains t
section
variable {P:Program} {ops:Array Oper} {Q:Exit→Act→World→Prop} {T:Nat→Value→World→Prop} {a0 a:Act} {w0 w:World} {o:Oper}
theorem OpIn.of(h:OpIn ops T a0 w0 o a w)(t:Nat)(hw:waitsFor ops o t=true:=by kernel_rfl):T t (a.tmps.getD t undef) w:=by
 unfold waitsFor at hw;obtain⟨e,he,hb⟩:=gT.mp hw;rw[aW]at hb
 cases ho:ops[e.on]? with
 |none=>rw[ho]at hb;simp at hb
 |some o'=>
  rw[ho,dG,dH]at hb;exact h.has e (by simpa using he) hb.1 o' t ho (by simpa using hb.2)
theorem OpIn.old(h:OpIn ops T a0 w0 o a w)(t:Nat)(hs:stays ops t=true:=by kernel_rfl):a.tmps.getD t undef=a0.tmps.getD t undef:=by refine h.still t fun hm=>?_;unfold stays at hs;simp[hm]at hs
theorem aM{y:Nat→Option Bool}(hg:o.guard=none):Region.wanted o y=true:=by simp[Region.wanted,hg]
theorem jY{j t:Nat}{b:Bool}{oj:Oper}(hg:o.guard=some (j,b))(hj:ops[j]?=some oj)(hd:oj.dst=some t)(hv:a.tmps.getD t undef=.bool b):Region.wanted o (yielded ops a.tmps)=true:=by
 have ht:a.tmps[t]?=some (.bool b):=by
  rw[bB]at hv
  cases h:a.tmps[t]? with
  |none=>rw[h]at hv;simp[undef]at hv
  |some v=>rw[h]at hv;simpa using hv
 unfold Region.wanted;rw[hg];dsimp only;unfold yielded;rw[hj,Option.bind_some,hd,Option.bind_some,ht];simp
theorem cP{v:Value}{w':World}(hw:Region.wanted o (yielded ops a.tmps)=true)(hr:(execOp a.eval o).run P w=.ok (.value v) w')(hT:∀t,o.dst=some t→T t v w')(hb:Below w.heap.size w w'):OpOk P ops Q T o a w:=by unfold OpOk;rw[if_pos hw];left;unfold Oper.wp;rw[hr,Oper.upon_value];exact⟨v,rfl,hT,hb⟩
theorem opV{v:Value}(hr:(execOp a.eval o).run P w=.ok (.value v) w)(hg:o.guard=none:=by rfl)(hT:∀t,o.dst=some t→T t v w:=by intro t ht;cases ht;first|exact rfl|exact⟨rfl,trivial⟩):OpOk P ops Q T o a w:=cP (aM hg) hr hT (aH _ _)
theorem opX(v:Value)(hr:(execOp a.eval o).run P w=.ok (.value v) w:=by have ec:=evc a;generalize a.eval=ev at *;(try clear hO);clear h;go_simp)(hg:o.guard=none:=by rfl)(hT:∀t,o.dst=some t→T t v w:=by intro t ht;cases ht;first|exact rfl|exact⟨rfl,trivial⟩):OpOk P ops Q T o a w:=opV hr hg hT
theorem dD{f:FuncId}{args:Array Value}(hw:Region.wanted o (yielded ops a.tmps)=true)(hr:(execOp a.eval o).run P w=.ok (.enter f args) w)
 (hc:Calls P f args w fun e w'=>∃v,e=.returned v∧(∀t,o.dst=some t→T t v w')∧Below w.heap.size w w'):OpOk P ops Q T o a w:=by
 unfold OpOk;rw[if_pos hw];left;unfold Oper.wp;rw[hr,Oper.upon_enter];refine Calls.mono hc ?_;rintro e w' ⟨v,rfl,hT,hb⟩;exact⟨v,rfl,hT,hb⟩
theorem wG{j t:Nat}{b:Bool}{oj:Oper}(hv:a.tmps.getD t undef=.bool b)(hg:o.guard=some (j,b):=by rfl)(hj:ops[j]?=some oj:=by rfl)(hd:oj.dst=some t:=by rfl):Region.wanted o (yielded ops a.tmps)=true:=jY hg hj hd hv
def AllOps(Φ:Oper→Prop):List Oper→Prop
 |[]=>True
 |o::l=>Φ o∧AllOps Φ l
theorem AllOps.nil{Φ:Oper→Prop}:AllOps Φ []:=trivial
theorem AllOps.cons{Φ:Oper→Prop}{o:Oper}{l:List Oper}(h:Φ o)(hl:AllOps Φ l):AllOps Φ (o::l):=⟨h,hl⟩
abbrev oC:=@AllOps.cons
theorem AllOps.mem{Φ:Oper→Prop}:∀(l:List Oper),AllOps Φ l→∀o,o∈l→Φ o
 |[],_,o,ho=>absurd ho sI
 |x::l,h,o,ho=>by
  rcases bD.mp ho with rfl|ho
  ·exact h.1
  exact AllOps.mem l h.2 o ho
theorem AllOps.at{Φ:Oper→Prop}{ops:Array Oper}(h:AllOps Φ ops.toList)(i:Nat)(o:Oper)(ho:ops[i]?=some o):Φ o:=by rw[←bF]at ho;exact AllOps.mem _ h o (dL ho)
theorem iI{t:Nat}(h:∀t,t∈ops.toList.filterMap (·.dst)→T t (a.tmps.getD t undef) w)(hs:stays ops t=false):T t (a.tmps.getD t undef) w:=by refine h t ?_;unfold stays at hs;simpa[List.contains_iff_mem]using hs
theorem eJ(T:Nat→Value→World→Prop){id:Nat}{a0:Act}{w0:World}(hm:P.follows .mixedOrders=true)(hf:tabFine ops a0.tmps.size=true)
 (hmono:∀t v w w',Below w.heap.size w w'→T t v w→T t v w')
 (hop:AllOps (fun o=>∀a w,OpIn ops T a0 w0 o a w→OpOk P ops Q T o a w) ops.toList)
 (hend:∀a w,Below w0.heap.size w0 w→a.defers=a0.defers→a.tmps.size=a0.tmps.size→(∀t,t∉ops.toList.filterMap (·.dst)→a.tmps.getD t undef=a0.tmps.getD t undef)→(∀t,t∈ops.toList.filterMap (·.dst)→T t (a.tmps.getD t undef) w)→Q .normal a w):
 (Code.region id ops true).wp P Q a0 w0:=
 sK T hm hf hmono (fun i o ho=>AllOps.at hop i o ho) hend
end
theorem lM:∀(D:List Nat)(x y:Array Value),x.size=y.size→(∀t,t∉D→x.getD t undef=y.getD t undef)→x=D.foldl (fun arr t=>arr.setIfInBounds t (x.getD t undef)) y
 |[],x,y,hs,h=>by show x=y;refine Array.ext hs fun i h1 h2=>?_;have :=h i sI;rw[bB,bB,cD h1,cD h2]at this;exact this
 |t::D,x,y,hs,h=>by
  show x=D.foldl (fun arr t=>arr.setIfInBounds t (x.getD t undef)) (y.setIfInBounds t (x.getD t undef));refine lM D x _ (by simp[hs]) fun s hsD=>?_;by_cases hst:s=t
  ·subst hst;by_cases hl:s<y.size
   ·simp[Array.getD_eq_getD_getElem?,hl]
   (have h1:x[s]?=none:=by rw[dV];omega);(have h2:∀v,(y.setIfInBounds s v)[s]?=none:=fun v=>by rw[dV];simp;omega);rw[bB,bB,h1,h2]
  rw[h s (by simp[hst,hsD])];simp[Array.getD_eq_getD_getElem?,Ne.symm hst]
theorem fH(D:List Nat)(x y:Array Value)(hs:x.size=y.size)(h:∀t,t∉D→x.getD t undef=y.getD t undef):∃f:Nat→Value,(∀t,f t=x.getD t undef)∧x=D.foldl (fun arr t=>arr.setIfInBounds t (f t)) y:=⟨fun t=>x.getD t undef,fun _=>rfl,lM D x y hs h⟩
section
variable {P:Program} {ops:Array Oper} {Q:Exit→Act→World→Prop} {T:Nat→Value→World→Prop} {a:Act} {w:World} {o:Oper}
theorem aBr{j t:Nat}{b c:Bool}{oj:Oper}(hg:o.guard=some (j,b))(hj:ops[j]?=some oj)(hd:oj.dst=some t)(hv:a.tmps.getD t undef=.bool c)(hbc:c≠b)(hT:∀t,o.dst=some t→T t undef w):OpOk P ops Q T o a w:=by
 have ht:a.tmps[t]?=some (.bool c):=by
  rw[bB]at hv
  cases h:a.tmps[t]? with
  |none=>rw[h]at hv;simp[undef]at hv
  |some v=>rw[h]at hv;simpa using hv
 (have hw:Region.wanted o (yielded ops a.tmps)=false:=by unfold Region.wanted;rw[hg];dsimp only;unfold yielded;rw[hj,Option.bind_some,hd,Option.bind_some,ht];simp[hbc]);unfold OpOk;rw[hw,if_neg sI];exact hT
theorem opS{j t:Nat}{b c:Bool}{oj:Oper}(hv:a.tmps.getD t undef=.bool c)(hg:o.guard=some (j,b):=by rfl)(hj:ops[j]?=some oj:=by rfl)(hd:oj.dst=some t:=by rfl)(hbc:c≠b:=by decide)(hT:∀t,o.dst=some t→T t undef w:=by intro t ht;cases ht;exact rfl):OpOk P ops Q T o a w:=aBr hg hj hd hv hbc hT
end

theorem aC9{W:World}{B e c n cap:Nat}{g:Nat}{xs:List Value}(h:W.ownsRow B e c (.slice (some ⟨g,0,none⟩) n cap) n xs):B≤g∧∃cur,W.heap[g]?=some (.cells cur e):=by
 rcases h.2 with⟨h2,_⟩|⟨g2,cap2,cur,hv,hB,hh,_⟩
 ·cases h2
 injection hv with h3 _ _;injection h3 with h3;injection h3 with h3;subst h3;exact⟨hB,cur,hh⟩
end Go.Proofs.YthenjegmigeieaaGreat
namespace Go.Proofs.YthenjegmigeieaaGreat
open Go.RowKit Go.Shelf
attribute [local go_sem] Oper.semAt_some
end Go.Proofs.YthenjegmigeieaaGreat
namespace Go.Proofs.YthenjegmigeieaaGreat
open Go.RowKit
namespace St
theorem check_kinds{p:Sc.Prog}(h:Sc.check p=0):∀r,r∈p.rules→0≤r.fold∧∀x,x∈r.body→1≤x.kind:=by
 unfold Sc.check at h;split at h
 ·omega
 split at h
 ·omega
 intro r hr;have h2:=iT (thn_zero_iff h).2 r hr;unfold Sc.ruleErr at h2;split at h2
 ·obtain⟨_,h2⟩:=thn_zero_iff h2;obtain⟨_,h2⟩:=thn_zero_iff h2;obtain⟨_,h2⟩:=thn_zero_iff h2;obtain⟨hf,h2⟩:=thn_zero_iff h2;obtain⟨_,h2⟩:=thn_zero_iff h2;obtain⟨_,h2⟩:=thn_zero_iff h2;obtain⟨h5,_⟩:=thn_zero_iff h2;refine⟨?_,fun x hx=>?_⟩
  ·split at hf
   ·rename_i h9;unfold Tr.between at h9;(have h8:0≤r.fold∧r.fold≤4:=by simpa using h9);exact h8.1
   omega
  have h6:=(thn_zero_iff (iT h5 x hx)).1;unfold Sc.litErr at h6;split at h6
  ·omega
  split at h6
  ·omega
  split at h6
  ·omega
  omega
 omega
def litE(r:Sc.Rule)(l:List Sc.Lit):List Fx.Edge:=(l.filter hang).map fun x=>(r.pred.toNat,x.pred.toNat,strict r x)
theorem litE_yes(r:Sc.Rule)(l:List Sc.Lit){x:Sc.Lit}(h:hang x=true):litE r (l++[x])=litE r l++[(r.pred.toNat,x.pred.toNat,strict r x)]:=by unfold litE;rw[fZ,bJ,gA,if_pos h];rfl
theorem litE_no(r:Sc.Rule)(l:List Sc.Lit){x:Sc.Lit}(h:¬hang x=true):litE r (l++[x])=litE r l:=by unfold litE;rw[fZ,bJ,gA,if_neg h];simp
theorem litE_length(r:Sc.Rule)(l:List Sc.Lit):(litE r l).length≤l.length:=by unfold litE;rw[aO];exact gU _ _
theorem litE_one(r:Sc.Rule)(l:List Sc.Lit):∀e,e∈litE r l→e.2.2≤1:=fun e he=>by obtain⟨x,_,rfl⟩:=bO.mp he;rcases strict01 r x with h|h<;>simp[h]
end St
theorem aB9{l:List Sc.Lit}{k:Nat}(h:k<l.length):l.take (k+1)=l.take k++[Sc.litD l k]:=by
 rw[cY]
 congr 1
 unfold Sc.litD;rw[aE,aG h];rfl
theorem aA6{l:List Sc.Rule}{k:Nat}(h:k<l.length):l.take (k+1)=l.take k++[Sc.ruleD l k]:=by
 rw[cY]
 congr 1
 unfold Sc.ruleD;rw[aE,aG h];rfl
theorem ruleD_mem{l:List Sc.Rule}{k:Nat}(h:k<l.length):Sc.ruleD l k∈l:=by unfold Sc.ruleD;rw[aE,aG h];exact cR h
theorem sM{cur:List Int}{pr q:Nat}(h:cur.getD pr 0<cur.getD q 0):Fx.step cur (pr,q,0)=cur.set pr (cur.getD q 0):=by unfold Fx.step;simp only[Int.add_zero];exact if_pos h
theorem vG{cur:List Int}{pr q:Nat}(h:¬cur.getD pr 0<cur.getD q 0):Fx.step cur (pr,q,0)=cur:=by unfold Fx.step;simp only[Int.add_zero];exact if_neg h
structure LRow (w:World) (LB:Nat) (W:World) (cur:List Int):Prop where
 row:W.heap[LB]?=some (.cells (intRow cur) 3)
 gr:w.grownBy W (some LB)
theorem LRow.below{w W W':World}{LB:Nat}{cur:List Int}(h:LRow w LB W cur)(hb:Below W.heap.size W W'):LRow w LB W' cur:=
 ⟨(hb.block _ (aJ.mp h.row).1).trans h.row,⟨hb.os.trans h.gr.os,hb.tape.trans h.gr.tape,hb.output.trans h.gr.output,aX h.gr.size hb.size,fun j hj hn=>(hb.block j (bP hj h.gr.size)).trans (h.gr.block j hj hn)⟩⟩
theorem LRow.set{w W:World}{LB:Nat}{cur:List Int}(h:LRow w LB W cur)(i:Nat)(v:Int):LRow w LB (W.setCell ⟨LB,i,none⟩ (.int .i64 v)) (cur.set i v):=by refine⟨qT h.row i v,⟨h.gr.os,h.gr.tape,h.gr.output,by have :=h.gr.size;simpa using this,fun j hj hn=>?_⟩⟩;have hjl:¬j=LB:=fun e=>hn (by rw[e]);exact(bH hjl).trans (h.gr.block j hj hn)
theorem LRow.re{w w' W:World}{LB:Nat}{cur cur':List Int}(h:LRow w LB w' cur)(k:LRow w' LB W cur'):LRow w LB W cur':=⟨k.row,h.gr.trans_row k.gr⟩
theorem LRow.here{w W:World}{LB:Nat}{cur:List Int}(h:LRow w LB W cur):LRow W LB W cur:=⟨h.row,⟨rfl,rfl,rfl,aF _,fun _ _ _=>rfl⟩⟩
theorem mW{W:World}{LB:Nat}(o:Obj):W.grownBy (W.alloc o) (some LB):=
 World.grownBy_alloc W o (some LB)
theorem oR{W:World}{LB:Nat}(o:Obj)(i:Nat)(v:Value):W.grownBy ((W.alloc o).setCell ⟨LB,i,none⟩ v) (some LB):=by have hg:=World.grownBy_alloc W o (some LB);refine⟨hg.os,hg.tape,hg.output,by simp,fun j hj hn=>?_⟩;have hjl:¬j=LB:=fun e=>hn (by rw[e]);exact(bH hjl).trans (hg.block j hj hn)
theorem oJ(p:Sc.Prog)(va vn vr:Value)(w:World)(hP:ProgV w va vn vr p)(hc:Sc.check p=0):
 Calls Tryz.prog 74 #[progVal va vn vr] w fun e w'=>∃v l,e=.returned (.tuple #[v, .bool (St.flat p)])∧IntsV w' v l∧(St.flat p=true→l=St.level p)∧Below w.heap.size w w':=by
 obtain⟨a0,n0,rfl,_⟩:=id hP.ar;obtain⟨a1,n1,rfl,_⟩:=id hP.nm;obtain⟨a2,n2,rfl,hA2⟩:=id hP.rl;obtain⟨hn,hr,hR⟩:=St.check_in hc;have HK:Hid _:=St.check_kinds hc;have HR:Hid _:=hR;have HA2:Hid _:=hA2;(have hel:(St.edges p).length≤48:=by have :=iA p.rules (fun r hr=>(hR r hr).hl);show(St.edgesOf p.rules).length≤48;omega);have b0:=(aH w.heap.size w).alloc (aF _) (.cells #[.slice a0 p.arity.length n0, .slice a1 p.names.length n1, .slice a2 p.rules.length n2] 26);have hX:=heap_alloc_new w (.cells #[.slice a0 p.arity.length n0, .slice a1 p.names.length n1, .slice a2 p.rules.length n2] 26);(have s1:(w.alloc (.cells #[.slice a0 p.arity.length n0, .slice a1 p.names.length n1, .slice a2 p.rules.length n2] 26)).heap.size=w.heap.size+1:=by simp);have b3:=(aH (w.alloc (.cells #[.slice a0 p.arity.length n0, .slice a1 p.names.length n1, .slice a2 p.rules.length n2] 26)).heap.size (w.alloc (.cells #[.slice a0 p.arity.length n0, .slice a1 p.names.length n1, .slice a2 p.rules.length n2] 26))).alloc (aF _) (.cells (intRow (St.zeros p.arity.length)) 3);have hrow:=heap_alloc_new (w.alloc (.cells #[.slice a0 p.arity.length n0, .slice a1 p.names.length n1, .slice a2 p.rules.length n2] 26)) (.cells (intRow (St.zeros p.arity.length)) 3);have hX3:=(b3.block _ (aJ.mp hX).1).trans hX;have hb3:=b0.trans (b3.mono b0.size);rw[s1]at hrow;have hmk:=run_make_row' (P:=Tryz.prog) 22 3 (.int .i64 0) 8 Tryz.underlying22 kR rfl .i64 .i64 p.arity.length oM oM;simp only[uD]at hmk;have HX3:Hid _:=hX3;have HB3:Hid _:=hb3;have HROW:Hid _:=hrow;clear b0 hX b3 hX3 hb3 hrow s1 hP hR hA2 hc
 go_enter Tryz.func74,Tryz.ntmps74
 go_wp2_with fail;generalize (w.alloc (.cells #[.slice a0 p.arity.length n0, .slice a1 p.names.length n1, .slice a2 p.rules.length n2] 26)).alloc (.cells (intRow (St.zeros p.arity.length)) 3)=w3 at *;generalize hLB:w.heap.size+1=LB at *;have hlw:w.heap.size<LB:=oM;clear hmk hLB;have HPB:Hid (∀wr:World,w3.grownBy wr (some LB)→wr.heap[w.heap.size]?=some (.cells #[.slice a0 p.arity.length n0, .slice a1 p.names.length n1, .slice a2 p.rules.length n2] 26)∧Below w.heap.size w wr):=fun wr hg=>⟨(hg.block _ (aJ.mp HX3.out).1 (fun e=>by injection e with e;omega)).trans HX3.out,oV HB3.out hg oM⟩;go_loopw [5,6] (fun ro i6 wr=>∃k:Nat,k≤p.arity.length+1∧ro=.bool (if k=0 then false else decide (Fx.iter (St.edges p) k (St.zeros p.arity.length)≠Fx.iter (St.edges p) (k-1) (St.zeros p.arity.length)))∧i6=.int .i64 k∧LRow w3 LB wr (Fx.iter (St.edges p) k (St.zeros p.arity.length))) (fun _ i6 _=>p.arity.length+1-(intOf i6).toNat);case atStart=>exact⟨0,aR _,rfl,rfl,HROW.out,⟨rfl,rfl,rfl,aF _,fun _ _ _=>rfl⟩⟩
 case round=>
  clear HROW;obtain⟨wk,hwk⟩:∃wk,wk=wr:=⟨_,rfl⟩;subst hwk;obtain⟨k,hk,rfl,rfl,hL⟩:=hrel;have HL:Hid _:=hL;(have c0:wk.cell? ⟨w.heap.size,0,none⟩=some (.slice a0 p.arity.length n0):=by rw[aC (HPB.out wk hL.gr).1];rfl);clear hL;by_cases hkn:k≤p.arity.length
  ·have hkd:decide (k≤p.arity.length)=true:=decide_eq_true hkn;generalize (if k=0 then false else decide (Fx.iter (St.edges p) k (St.zeros p.arity.length)≠Fx.iter (St.edges p) (k-1) (St.zeros p.arity.length)))=ro0 at *;go_wp2_with fail;clear c0;go_loopw [5,7] (fun ro i7 wr=>∃i:Nat,i≤p.rules.length∧ro=.bool (decide (Fx.round (St.edgesOf (p.rules.take i)) (Fx.iter (St.edges p) k (St.zeros p.arity.length))≠(Fx.iter (St.edges p) k (St.zeros p.arity.length))))∧i7=.int .i64 i∧LRow wk LB wr (Fx.round (St.edgesOf (p.rules.take i)) (Fx.iter (St.edges p) k (St.zeros p.arity.length)))) (fun _ i7 _=>p.rules.length-(intOf i7).toNat);case atStart=>exact⟨0,aR _,by simp[St.edgesOf,Fx.round],rfl,HL.out.here⟩
   case round=>
    obtain⟨wi,hwi⟩:∃wi,wi=wr:=⟨_,rfl⟩;subst hwi;obtain⟨i,hi,rfl,rfl,hL2⟩:=hrel;have HL2:Hid _:=hL2;have hPX:=HPB.out wi (HL.out.gr.trans_row hL2.gr);(have c2:wi.cell? ⟨w.heap.size,2,none⟩=some (.slice a2 p.rules.length n2):=by rw[aC hPX.1];rfl);have HBI:Hid _:=hPX.2;clear hL2 hPX;by_cases hil:i<p.rules.length
    ·obtain⟨b,off,rfl,p0,⟨vt,p1,hT⟩,p2,⟨vb,p3,hLL⟩,p4⟩:=iG HA2.out i hil;obtain⟨at_,ct,rfl,_⟩:=hT;obtain⟨ab,cb,rfl,hLL⟩:=hLL;have HLL:Hid _:=hLL;have HRI:Hid (St.RuleIn p.arity.length (Sc.ruleD p.rules i)):=HR.out _ (ruleD_mem hil);have HKI:Hid _:=HK.out _ (ruleD_mem hil);have HTK:Hid _:=aA6 hil;have q0:=aD HBI.out p0;have q1:=aD HBI.out p1;have q2:=aD HBI.out p2;have q3:=aD HBI.out p3;have q4:=aD HBI.out p4;clear p0 p1 p2 p3 p4 hLL;generalize Sc.ruleD p.rules i=r at *;obtain⟨pd,ts,fo,bd,vs⟩:=r;obtain⟨pr,rfl⟩:∃pr:Nat,pd=pr:=⟨pd.toNat,by have :=HRI.out.h0;dsimp only at this;omega⟩;dsimp only at *;(have hpn:pr<p.arity.length:=by have :=HRI.out.h1;dsimp only at this;omega);have hfo:0≤fo:=HKI.out.1;have hbd:bd.length≤4:=HRI.out.hl;obtain⟨rosei,hrosei⟩:∃rosei,rosei=decide (Fx.round (St.edgesOf (p.rules.take i)) (Fx.iter (St.edges p) k (St.zeros p.arity.length))≠(Fx.iter (St.edges p) k (St.zeros p.arity.length))):=⟨_,rfl⟩;rw[←hrosei];have HRO:Hid _:=hrosei;clear hrosei;go_wp2_with fail;have b5:=(aH wi.heap.size wi).alloc (aF _) (.cells #[.int .i64 pr, .slice at_ ts.length ct, .int .i64 fo, .slice ab bd.length cb, .int .i64 vs] 40);have hQ:=heap_alloc_new wi (.cells #[.int .i64 pr, .slice at_ ts.length ct, .int .i64 fo, .slice ab bd.length cb, .int .i64 vs] 40);have HL5:Hid _:=HL2.out.below b5;have HB5:Hid _:=HBI.out.trans (b5.mono HBI.out.size);clear q0 q1 q2 q3 q4 c2 b5;have HQ:Hid _:=hQ;clear hQ;generalize wi.alloc (.cells #[.int .i64 pr, .slice at_ ts.length ct, .int .i64 fo, .slice ab bd.length cb, .int .i64 vs] 40)=wq at *;(have hqlb:¬wi.heap.size=LB:=by have :=(aJ.mp HL2.out.row).1;omega);generalize wi.heap.size=QB at *;go_loopw [5,9] (fun ro i9 wr=>∃j:Nat,j≤bd.length∧ro=.bool (decide ((Fx.round (St.edgesOf (p.rules.take i)++St.litE (⟨pr,ts,fo,bd,vs⟩:Sc.Rule) (bd.take j)) (Fx.iter (St.edges p) k (St.zeros p.arity.length)))≠(Fx.iter (St.edges p) k (St.zeros p.arity.length))))∧i9=.int .i64 j∧LRow wk LB wr (Fx.round (St.edgesOf (p.rules.take i)++St.litE (⟨pr,ts,fo,bd,vs⟩:Sc.Rule) (bd.take j)) (Fx.iter (St.edges p) k (St.zeros p.arity.length)))∧wq.grownBy wr (some LB)) (fun _ i9 _=>bd.length-(intOf i9).toNat);case atStart=>exact⟨0,aR _,by rw[HRO.out];simp[St.litE],rfl,by simpa[St.litE]using HL5.out,⟨rfl,rfl,rfl,aF _,fun _ _ _=>rfl⟩⟩
     case round=>
      clear HL5;obtain⟨j,hj,rfl,rfl,hL3,hgq⟩:=hrel;have hQr:=(hgq.block _ (aJ.mp HQ.out).1 (fun e=>by injection e with e;exact hqlb e)).trans HQ.out;(have e0:wr.cell? ⟨QB,0,none⟩=some (.int .i64 pr):=by rw[aC hQr];rfl);(have e2:wr.cell? ⟨QB,2,none⟩=some (.int .i64 fo):=by rw[aC hQr];rfl);(have e3:wr.cell? ⟨QB,3,none⟩=some (.slice ab bd.length cb):=by rw[aC hQr];rfl);have HL3:Hid _:=hL3;have HGQ:Hid _:=hgq;have HBR:Hid _:=oV HB5.out hgq oM;clear hL3 hgq hQr;by_cases hjl:j<bd.length
      ·obtain⟨b',off',rfl,p0,p1,p2,lv,p3,hT⟩:=jK HLL.out j hjl;obtain⟨al,cl,rfl,_,_⟩:=hT;have q0:=aD HBR.out p0;have q1:=aD HBR.out p1;have q2:=aD HBR.out p2;have q3:=aD HBR.out p3;have HTL:Hid _:=aB9 hjl;have HKL:Hid _:=HKI.out.2 _ (nZ hjl);have HBX:Hid _:=HRI.out.hb _ (nZ hjl);clear p0 p1 p2 p3;dsimp only at *;generalize Sc.litD bd j=x at *;obtain⟨kd,op,xp,lt⟩:=x;dsimp only at *;by_cases h2:2<kd
       ·have h2d:decide (2<kd)=true:=decide_eq_true h2;(have HES:Hid (St.litE (⟨pr,ts,fo,bd,vs⟩:Sc.Rule) (bd.take (j+1))=St.litE (⟨pr,ts,fo,bd,vs⟩:Sc.Rule) (bd.take j)):=by show _=_;rw[HTL.out];exact St.litE_no _ _ (fun hc=>by have h9:kd=1∨kd=2:=of_decide_eq_true hc;omega));have HG9:Hid _:=HGQ.out.trans_row (mW (.cells #[.int .i64 kd, .int .i64 op, .int .i64 xp, .slice al lt.length cl] 49));clear h2;go_wp2_with fail;go_roundw;(case rel=>exact⟨j+1,hjl,by rw[HES.out],gN,by rw[HES.out];exact HL3.out.below ((aH _ _).alloc (aF _) _),HG9.out⟩);case measure=>exact mI
       have h2d:decide (2<kd)=false:=decide_eq_false h2;have hk1:1≤kd:=HKL.out;have hh:St.hang ⟨kd,op,xp,lt⟩=true:=decide_eq_true (by show kd=1∨kd=2;omega);have hxp:=HBX.out hh;obtain⟨q,rfl⟩:∃q:Nat,xp=q:=⟨xp.toNat,by have h9:0≤xp:=hxp.1;omega⟩;(have hqn:q<p.arity.length:=by have h9:(q:Int)<(p.arity.length:Int):=hxp.2;omega);(have hcl:(Fx.round (St.edgesOf (p.rules.take i)++St.litE (⟨pr,ts,fo,bd,vs⟩:Sc.Rule) (bd.take j)) (Fx.iter (St.edges p) k (St.zeros p.arity.length))).length=p.arity.length:=by rw[Fx.round_length,Fx.iter_length];simp[St.zeros]);(have HCL:Hid ((Fx.iter (St.edges p) k (St.zeros p.arity.length)).length=p.arity.length):=by show _=_;rw[Fx.iter_length];simp[St.zeros]);have HL6:=HL3.out.below ((aH _ _).alloc (aF _) (.cells #[.int .i64 kd, .int .i64 op, .int .i64 q, .slice al lt.length cl] 49));have c5:=kC HL6.row (i:=q) oM;have c6:=kC HL6.row (i:=pr) oM;have f6:=bQ HL6.row pr;have b6:=(aH wr.heap.size wr).alloc (aF _) (.cells #[.int .i64 kd, .int .i64 op, .int .i64 q, .slice al lt.length cl] 49);have e0':=aD b6 e0;have e2':=aD b6 e2;clear b6 HL6;have hlo:∀t:Nat,0≤(Fx.round (St.edgesOf (p.rules.take i)++St.litE (⟨pr,ts,fo,bd,vs⟩:Sc.Rule) (bd.take j)) (Fx.iter (St.edges p) k (St.zeros p.arity.length))).getD t 0:=fun t=>lA (St.iter_nonneg (St.edges p) p.arity.length k t) ((Fx.round_le _ _).2 t);have hhi:∀t:Nat,(Fx.round (St.edgesOf (p.rules.take i)++St.litE (⟨pr,ts,fo,bd,vs⟩:Sc.Rule) (bd.take j)) (Fx.iter (St.edges p) k (St.zeros p.arity.length))).getD t 0≤1000:=fun t=>by
        have h9:=Fx.round_bound (St.edgesOf (p.rules.take i)++St.litE (⟨pr,ts,fo,bd,vs⟩:Sc.Rule) (bd.take j)) (l:=(Fx.iter (St.edges p) k (St.zeros p.arity.length))) (St.iter_bound (St.edges p) (lE p.rules) p.arity.length k) (fun e he=>by
         rcases bX.mp he with h|h
         ·exact lE _ e h
         exact St.litE_one _ _ e h) t
        have h8:(k*(St.edges p).length:Nat)≤11*48:=Nat.mul_le_mul oM hel;have h7:=iA (p.rules.take i) (fun r hr=>(HR.out r (eM hr)).hl);have h6:=St.litE_length (⟨pr,ts,fo,bd,vs⟩:Sc.Rule) (bd.take j);have h5:bd.length≤4:=HRI.out.hl;rw[bC]at h7 h6;rw[aN]at h9;omega
       have hA0:=hlo q;have hA1:=hhi q;clear hlo hhi hcl hxp;obtain⟨A,hA⟩:∃A:Int,A=(Fx.round (St.edgesOf (p.rules.take i)++St.litE (⟨pr,ts,fo,bd,vs⟩:Sc.Rule) (bd.take j)) (Fx.iter (St.edges p) k (St.zeros p.arity.length))).getD q 0:=⟨_,rfl⟩;obtain⟨Bv,hBv⟩:∃Bv:Int,Bv=(Fx.round (St.edgesOf (p.rules.take i)++St.litE (⟨pr,ts,fo,bd,vs⟩:Sc.Rule) (bd.take j)) (Fx.iter (St.edges p) k (St.zeros p.arity.length))).getD pr 0:=⟨_,rfl⟩;rw[←hA]at c5 hA0 hA1;rw[←hBv]at c6;have HA:Hid _:=hA;have HBV:Hid _:=hBv;clear hA hBv;obtain⟨rf,hrf⟩:∃rf,rf=decide ((Fx.round (St.edgesOf (p.rules.take i)++St.litE (⟨pr,ts,fo,bd,vs⟩:Sc.Rule) (bd.take j)) (Fx.iter (St.edges p) k (St.zeros p.arity.length)))≠(Fx.iter (St.edges p) k (St.zeros p.arity.length))):=⟨_,rfl⟩;rw[←hrf];have HRF:Hid _:=hrf;clear hrf;by_cases hkk:kd=2
       ·(have hk2d:(kd==2)=true:=by simp[hkk]);have hff:True:=trivial;(have HES:Hid (St.litE (⟨pr,ts,fo,bd,vs⟩:Sc.Rule) (bd.take (j+1))=St.litE (⟨pr,ts,fo,bd,vs⟩:Sc.Rule) (bd.take j)++[(pr,q,1)]):=by show _=_;rw[HTL.out,St.litE_yes _ _ hh];simp[St.strict,hkk]);by_cases hy:Bv<A+1
        ·have hyd:decide (Bv<A+1)=true:=decide_eq_true hy;(have HNX:Hid (LRow wk LB ((wr.alloc (.cells #[.int .i64 kd, .int .i64 op, .int .i64 q, .slice al lt.length cl] 49)).setCell ⟨LB,pr,none⟩ (.int .i64 (A+1))) (Fx.round (St.edgesOf (p.rules.take i)++St.litE (⟨pr,ts,fo,bd,vs⟩:Sc.Rule) (bd.take (j+1))) (Fx.iter (St.edges p) k (St.zeros p.arity.length)))):=by have h9:=(HL3.out.below ((aH _ _).alloc (aF _) (.cells #[.int .i64 kd, .int .i64 op, .int .i64 q, .slice al lt.length cl] 49))).set pr (A+1);rw[HES.out,←dT,Fx.round_snoc];(have h8:Fx.step (Fx.round (St.edgesOf (p.rules.take i)++St.litE (⟨pr,ts,fo,bd,vs⟩:Sc.Rule) (bd.take j)) (Fx.iter (St.edges p) k (St.zeros p.arity.length))) (pr,q,1)=(Fx.round (St.edgesOf (p.rules.take i)++St.litE (⟨pr,ts,fo,bd,vs⟩:Sc.Rule) (bd.take j)) (Fx.iter (St.edges p) k (St.zeros p.arity.length))).set pr (A+1):=by rw[HA.out];unfold Fx.step;exact if_pos (by rw[HA.out,HBV.out]at hy;exact hy));rw[h8];exact h9);(have HFN:Hid (decide (Fx.round (St.edgesOf (p.rules.take i)++St.litE (⟨pr,ts,fo,bd,vs⟩:Sc.Rule) (bd.take (j+1))) (Fx.iter (St.edges p) k (St.zeros p.arity.length))≠(Fx.iter (St.edges p) k (St.zeros p.arity.length)))=true):=by show _=_;rw[HES.out,←dT,Fx.rose_snoc _ _ _ (by rw[HCL.out];exact hpn)];have h7:decide ((Fx.round (St.edgesOf (p.rules.take i)++St.litE (⟨pr,ts,fo,bd,vs⟩:Sc.Rule) (bd.take j)) (Fx.iter (St.edges p) k (St.zeros p.arity.length))).getD pr 0<(Fx.round (St.edgesOf (p.rules.take i)++St.litE (⟨pr,ts,fo,bd,vs⟩:Sc.Rule) (bd.take j)) (Fx.iter (St.edges p) k (St.zeros p.arity.length))).getD q 0+1)=true:=decide_eq_true (by rw[HA.out,HBV.out]at hy;exact hy);show(_||decide ((Fx.round (St.edgesOf (p.rules.take i)++St.litE (⟨pr,ts,fo,bd,vs⟩:Sc.Rule) (bd.take j)) (Fx.iter (St.edges p) k (St.zeros p.arity.length))).getD pr 0<(Fx.round (St.edgesOf (p.rules.take i)++St.litE (⟨pr,ts,fo,bd,vs⟩:Sc.Rule) (bd.take j)) (Fx.iter (St.edges p) k (St.zeros p.arity.length))).getD q 0+1))=true;rw[h7,gH]);have HG9:Hid _:=HGQ.out.trans_row (oR (.cells #[.int .i64 kd, .int .i64 op, .int .i64 q, .slice al lt.length cl] 49) pr (.int .i64 (A+1)));clear hy hh hff hkk;go_wp2_with fail;go_roundw;(case rel=>exact⟨j+1,hjl,by rw[HFN.out],gN,HNX.out,HG9.out⟩);case measure=>exact mI
        have hyd:decide (Bv<A+1)=false:=decide_eq_false hy;(have HNX:Hid (Fx.round (St.edgesOf (p.rules.take i)++St.litE (⟨pr,ts,fo,bd,vs⟩:Sc.Rule) (bd.take (j+1))) (Fx.iter (St.edges p) k (St.zeros p.arity.length))=(Fx.round (St.edgesOf (p.rules.take i)++St.litE (⟨pr,ts,fo,bd,vs⟩:Sc.Rule) (bd.take j)) (Fx.iter (St.edges p) k (St.zeros p.arity.length)))):=by show _=_;rw[HES.out,←dT,Fx.round_snoc];unfold Fx.step;exact if_neg (by rw[HA.out,HBV.out]at hy;exact hy));have HG9:Hid _:=HGQ.out.trans_row (mW (.cells #[.int .i64 kd, .int .i64 op, .int .i64 q, .slice al lt.length cl] 49));clear hy hh hff hkk;go_wp2_with fail;go_roundw;(case rel=>exact⟨j+1,hjl,by rw[HNX.out,HRF.out],gN,by rw[HNX.out];exact HL3.out.below ((aH _ _).alloc (aF _) _),HG9.out⟩);case measure=>exact mI
       (have hk2d:(kd==2)=false:=by simp[hkk]);by_cases hff:fo=0
       ·have hfd:decide (0<fo)=false:=decide_eq_false oM;(have HES:Hid (St.litE (⟨pr,ts,fo,bd,vs⟩:Sc.Rule) (bd.take (j+1))=St.litE (⟨pr,ts,fo,bd,vs⟩:Sc.Rule) (bd.take j)++[(pr,q,0)]):=by show _=_;rw[HTL.out,St.litE_yes _ _ hh];simp[St.strict,hff,hkk]);by_cases hy:Bv<A
        ·have hyd:decide (Bv<A)=true:=decide_eq_true hy;(have HNX:Hid (LRow wk LB ((wr.alloc (.cells #[.int .i64 kd, .int .i64 op, .int .i64 q, .slice al lt.length cl] 49)).setCell ⟨LB,pr,none⟩ (.int .i64 (A))) (Fx.round (St.edgesOf (p.rules.take i)++St.litE (⟨pr,ts,fo,bd,vs⟩:Sc.Rule) (bd.take (j+1))) (Fx.iter (St.edges p) k (St.zeros p.arity.length)))):=by have h9:=(HL3.out.below ((aH _ _).alloc (aF _) (.cells #[.int .i64 kd, .int .i64 op, .int .i64 q, .slice al lt.length cl] 49))).set pr (A);rw[HES.out,←dT,Fx.round_snoc];(have h8:Fx.step (Fx.round (St.edgesOf (p.rules.take i)++St.litE (⟨pr,ts,fo,bd,vs⟩:Sc.Rule) (bd.take j)) (Fx.iter (St.edges p) k (St.zeros p.arity.length))) (pr,q,0)=(Fx.round (St.edgesOf (p.rules.take i)++St.litE (⟨pr,ts,fo,bd,vs⟩:Sc.Rule) (bd.take j)) (Fx.iter (St.edges p) k (St.zeros p.arity.length))).set pr (A):=by rw[HA.out];exact sM (by rw[HA.out,HBV.out]at hy;exact hy));rw[h8];exact h9);(have HFN:Hid (decide (Fx.round (St.edgesOf (p.rules.take i)++St.litE (⟨pr,ts,fo,bd,vs⟩:Sc.Rule) (bd.take (j+1))) (Fx.iter (St.edges p) k (St.zeros p.arity.length))≠(Fx.iter (St.edges p) k (St.zeros p.arity.length)))=true):=by show _=_;rw[HES.out,←dT,Fx.rose_snoc _ _ _ (by rw[HCL.out];exact hpn)];have h7:decide ((Fx.round (St.edgesOf (p.rules.take i)++St.litE (⟨pr,ts,fo,bd,vs⟩:Sc.Rule) (bd.take j)) (Fx.iter (St.edges p) k (St.zeros p.arity.length))).getD pr 0<(Fx.round (St.edgesOf (p.rules.take i)++St.litE (⟨pr,ts,fo,bd,vs⟩:Sc.Rule) (bd.take j)) (Fx.iter (St.edges p) k (St.zeros p.arity.length))).getD q 0+0)=true:=decide_eq_true (by rw[HA.out,HBV.out]at hy;rw[Int.add_zero];exact hy);show(_||decide ((Fx.round (St.edgesOf (p.rules.take i)++St.litE (⟨pr,ts,fo,bd,vs⟩:Sc.Rule) (bd.take j)) (Fx.iter (St.edges p) k (St.zeros p.arity.length))).getD pr 0<(Fx.round (St.edgesOf (p.rules.take i)++St.litE (⟨pr,ts,fo,bd,vs⟩:Sc.Rule) (bd.take j)) (Fx.iter (St.edges p) k (St.zeros p.arity.length))).getD q 0+0))=true;rw[h7,gH]);have HG9:Hid _:=HGQ.out.trans_row (oR (.cells #[.int .i64 kd, .int .i64 op, .int .i64 q, .slice al lt.length cl] 49) pr (.int .i64 (A)));clear hy hh hff hkk;go_wp2_with fail;go_roundw;(case rel=>exact⟨j+1,hjl,by rw[HFN.out],gN,HNX.out,HG9.out⟩);case measure=>exact mI
        have hyd:decide (Bv<A)=false:=decide_eq_false hy;(have HNX:Hid (Fx.round (St.edgesOf (p.rules.take i)++St.litE (⟨pr,ts,fo,bd,vs⟩:Sc.Rule) (bd.take (j+1))) (Fx.iter (St.edges p) k (St.zeros p.arity.length))=(Fx.round (St.edgesOf (p.rules.take i)++St.litE (⟨pr,ts,fo,bd,vs⟩:Sc.Rule) (bd.take j)) (Fx.iter (St.edges p) k (St.zeros p.arity.length)))):=by show _=_;rw[HES.out,←dT,Fx.round_snoc];exact vG (by rw[HA.out,HBV.out]at hy;exact hy));have HG9:Hid _:=HGQ.out.trans_row (mW (.cells #[.int .i64 kd, .int .i64 op, .int .i64 q, .slice al lt.length cl] 49));clear hy hh hff hkk;go_wp2_with fail;go_roundw;(case rel=>exact⟨j+1,hjl,by rw[HNX.out,HRF.out],gN,by rw[HNX.out];exact HL3.out.below ((aH _ _).alloc (aF _) _),HG9.out⟩);case measure=>exact mI
       have hfd:decide (0<fo)=true:=decide_eq_true oM;(have HES:Hid (St.litE (⟨pr,ts,fo,bd,vs⟩:Sc.Rule) (bd.take (j+1))=St.litE (⟨pr,ts,fo,bd,vs⟩:Sc.Rule) (bd.take j)++[(pr,q,1)]):=by show _=_;rw[HTL.out,St.litE_yes _ _ hh];simp[St.strict,hff,hkk]);by_cases hy:Bv<A+1
       ·have hyd:decide (Bv<A+1)=true:=decide_eq_true hy;(have HNX:Hid (LRow wk LB ((wr.alloc (.cells #[.int .i64 kd, .int .i64 op, .int .i64 q, .slice al lt.length cl] 49)).setCell ⟨LB,pr,none⟩ (.int .i64 (A+1))) (Fx.round (St.edgesOf (p.rules.take i)++St.litE (⟨pr,ts,fo,bd,vs⟩:Sc.Rule) (bd.take (j+1))) (Fx.iter (St.edges p) k (St.zeros p.arity.length)))):=by have h9:=(HL3.out.below ((aH _ _).alloc (aF _) (.cells #[.int .i64 kd, .int .i64 op, .int .i64 q, .slice al lt.length cl] 49))).set pr (A+1);rw[HES.out,←dT,Fx.round_snoc];(have h8:Fx.step (Fx.round (St.edgesOf (p.rules.take i)++St.litE (⟨pr,ts,fo,bd,vs⟩:Sc.Rule) (bd.take j)) (Fx.iter (St.edges p) k (St.zeros p.arity.length))) (pr,q,1)=(Fx.round (St.edgesOf (p.rules.take i)++St.litE (⟨pr,ts,fo,bd,vs⟩:Sc.Rule) (bd.take j)) (Fx.iter (St.edges p) k (St.zeros p.arity.length))).set pr (A+1):=by rw[HA.out];unfold Fx.step;exact if_pos (by rw[HA.out,HBV.out]at hy;exact hy));rw[h8];exact h9);(have HFN:Hid (decide (Fx.round (St.edgesOf (p.rules.take i)++St.litE (⟨pr,ts,fo,bd,vs⟩:Sc.Rule) (bd.take (j+1))) (Fx.iter (St.edges p) k (St.zeros p.arity.length))≠(Fx.iter (St.edges p) k (St.zeros p.arity.length)))=true):=by show _=_;rw[HES.out,←dT,Fx.rose_snoc _ _ _ (by rw[HCL.out];exact hpn)];have h7:decide ((Fx.round (St.edgesOf (p.rules.take i)++St.litE (⟨pr,ts,fo,bd,vs⟩:Sc.Rule) (bd.take j)) (Fx.iter (St.edges p) k (St.zeros p.arity.length))).getD pr 0<(Fx.round (St.edgesOf (p.rules.take i)++St.litE (⟨pr,ts,fo,bd,vs⟩:Sc.Rule) (bd.take j)) (Fx.iter (St.edges p) k (St.zeros p.arity.length))).getD q 0+1)=true:=decide_eq_true (by rw[HA.out,HBV.out]at hy;exact hy);show(_||decide ((Fx.round (St.edgesOf (p.rules.take i)++St.litE (⟨pr,ts,fo,bd,vs⟩:Sc.Rule) (bd.take j)) (Fx.iter (St.edges p) k (St.zeros p.arity.length))).getD pr 0<(Fx.round (St.edgesOf (p.rules.take i)++St.litE (⟨pr,ts,fo,bd,vs⟩:Sc.Rule) (bd.take j)) (Fx.iter (St.edges p) k (St.zeros p.arity.length))).getD q 0+1))=true;rw[h7,gH]);have HG9:Hid _:=HGQ.out.trans_row (oR (.cells #[.int .i64 kd, .int .i64 op, .int .i64 q, .slice al lt.length cl] 49) pr (.int .i64 (A+1)));clear hy hh hff hkk;go_wp2_with fail;go_roundw;(case rel=>exact⟨j+1,hjl,by rw[HFN.out],gN,HNX.out,HG9.out⟩);case measure=>exact mI
       have hyd:decide (Bv<A+1)=false:=decide_eq_false hy;(have HNX:Hid (Fx.round (St.edgesOf (p.rules.take i)++St.litE (⟨pr,ts,fo,bd,vs⟩:Sc.Rule) (bd.take (j+1))) (Fx.iter (St.edges p) k (St.zeros p.arity.length))=(Fx.round (St.edgesOf (p.rules.take i)++St.litE (⟨pr,ts,fo,bd,vs⟩:Sc.Rule) (bd.take j)) (Fx.iter (St.edges p) k (St.zeros p.arity.length)))):=by show _=_;rw[HES.out,←dT,Fx.round_snoc];unfold Fx.step;exact if_neg (by rw[HA.out,HBV.out]at hy;exact hy));have HG9:Hid _:=HGQ.out.trans_row (mW (.cells #[.int .i64 kd, .int .i64 op, .int .i64 q, .slice al lt.length cl] 49));clear hy hh hff hkk;go_wp2_with fail;go_roundw;(case rel=>exact⟨j+1,hjl,by rw[HNX.out,HRF.out],gN,by rw[HNX.out];exact HL3.out.below ((aH _ _).alloc (aF _) _),HG9.out⟩);case measure=>exact mI
      obtain rfl:j=bd.length:=oM;(have HEN:Hid (Fx.round (St.edgesOf (p.rules.take (i+1))) (Fx.iter (St.edges p) k (St.zeros p.arity.length))=Fx.round (St.edgesOf (p.rules.take i)++St.litE (⟨pr,ts,fo,bd,vs⟩:Sc.Rule) (bd.take bd.length)) (Fx.iter (St.edges p) k (St.zeros p.arity.length))):=by show _=_;rw[HTK.out,St.edgesOf_snoc,gR];rfl);obtain⟨rf,hrf⟩:∃rf,rf=decide (Fx.round (St.edgesOf (p.rules.take i)++St.litE (⟨pr,ts,fo,bd,vs⟩:Sc.Rule) (bd.take bd.length)) (Fx.iter (St.edges p) k (St.zeros p.arity.length))≠(Fx.iter (St.edges p) k (St.zeros p.arity.length))):=⟨_,rfl⟩;rw[←hrf];have HRF:Hid _:=hrf;clear hrf;go_wp2_with fail;go_roundw;(case rel=>exact⟨i+1,hil,by rw[HEN.out,HRF.out],gN,by rw[HEN.out];exact HL3.out⟩);case measure=>exact mI
    obtain rfl:i=p.rules.length:=oM;(have HEN:Hid (Fx.iter (St.edges p) (k+1) (St.zeros p.arity.length)=Fx.round (St.edgesOf (p.rules.take p.rules.length)) (Fx.iter (St.edges p) k (St.zeros p.arity.length))):=by show _=_;rw[Fx.iter_succ,gR];rfl);obtain⟨rf,hrf⟩:∃rf,rf=decide (Fx.round (St.edgesOf (p.rules.take p.rules.length)) (Fx.iter (St.edges p) k (St.zeros p.arity.length))≠(Fx.iter (St.edges p) k (St.zeros p.arity.length))):=⟨_,rfl⟩;rw[←hrf];have HRF:Hid _:=hrf;clear hrf;go_wp2_with fail;go_roundw;(case rel=>exact⟨k+1,oM,by rw[if_neg (Nat.succ_ne_zero k),lJ,HEN.out,HRF.out],gN,by rw[HEN.out];exact HL.out.re HL2.out⟩);case measure=>exact mI
  have hkd:decide (k≤p.arity.length)=false:=decide_eq_false hkn;obtain rfl:k=p.arity.length+1:=oM;(have HFL:Hid (St.flat p= !(if p.arity.length+1=0 then false else decide (Fx.iter (St.edges p) (p.arity.length+1) (St.zeros p.arity.length)≠Fx.iter (St.edges p) (p.arity.length+1-1) (St.zeros p.arity.length)))):=by show _=_;rw[if_neg (Nat.succ_ne_zero _),lJ,Fx.iter_succ];unfold St.flat St.level;simp);generalize (if p.arity.length+1=0 then false else decide (Fx.iter (St.edges p) (p.arity.length+1) (St.zeros p.arity.length)≠Fx.iter (St.edges p) (p.arity.length+1-1) (St.zeros p.arity.length)))=ro at *;go_wp2_with fail;refine bodyPost_ret (results_tmp2 rfl _ _ _) rfl ⟨_,Fx.iter (St.edges p) (p.arity.length+1) (St.zeros p.arity.length),by rw[HFL.out];rfl,?_,fun hf=>?_,(HPB.out wk HL.out.gr).2⟩
  ·have h9:=pK p.arity.length HL.out.row;rw[Fx.iter_length,show(St.zeros p.arity.length).length=p.arity.length by simp[St.zeros]]at h9;exact h9
  rw[Fx.iter_succ];exact of_decide_eq_true hf

def reach(ops:Array Oper):Nat→Nat→Nat→Bool
 |0,_,_=>false
 |f+1,i,j=>((ops[i]?).map fun o=>o.after.toList.any fun e=>Region.binds .any e&&(e.on==j||reach ops f e.on j)).getD false
def Closed(ops:Array Oper)(s:Array Bool):Prop:=∀(i:Nat)(o:Oper),s[i]?=some true→ops[i]?=some o→∀e,e∈o.after→Region.binds .any e=true→s[e.on]?=some true
theorem eG{ops:Array Oper}{s:Array Bool}(hC:Closed ops s):∀(f i j:Nat)(o:Oper),ops[i]?=some o→(∀e,e∈o.after→Region.binds .any e=true→s[e.on]?=some true)→reach ops f i j=true→s[j]?=some true
 |0,_,_,_,_,_,h=>by cases h
 |f+1,i,j,o,ho,hd,h=>by
  unfold reach at h;rw[ho,dG,dH]at h;obtain⟨e,he,h2⟩:=gT.mp h;rw[aW,eA]at h2;have hse:=hd e (by simpa using he) h2.1;rcases h2.2 with h3|h3
  ·(have h3:e.on=j:=by simpa using h3);rw[←h3];exact hse
  cases hoe:ops[e.on]? with
  |none=>
   cases f with
   |zero=>cases h3
   |succ f=>unfold reach at h3;rw[hoe]at h3;cases h3
  |some oe=>exact eG hC f e.on j oe hoe (fun e' he' hb'=>hC e.on oe hse hoe e' he' hb') h3
def tailFine(ops:Array Oper)(L:Nat):Bool:=(List.range L).all (fun j=>reach ops 12 L j)&&(List.range ops.size).all fun i=> !decide (L<i)||reach ops 12 i (i-1)
structure OpInT (ops:Array Oper) (T:Nat→Value→World→Prop) (a0:Act) (w0:World) (L:Nat) (a:Act) (w:World):Prop where
 below:Below w0.heap.size w0 w
 defers:a.defers=a0.defers
 size:a.tmps.size=a0.tmps.size
 still:∀t,t∉ops.toList.filterMap (·.dst)→a.tmps.getD t undef=a0.tmps.getD t undef
 all:∀(i:Nat)(o:Oper)(t:Nat),i<L→ops[i]?=some o→o.dst=some t→T t (a.tmps.getD t undef) w
section
variable {P:Program} {ops:Array Oper} {Q:Exit→Act→World→Prop}
theorem eS(T:Nat→Value→World→Prop)(L:Nat){id:Nat}{a0:Act}{w0:World}(hL:L<ops.size)(htf:tailFine ops L=true)(hm:P.follows .mixedOrders=true)
 (hf:tabFine ops a0.tmps.size=true)
 (hmono:∀t v w w',Below w.heap.size w w'→T t v w→T t v w')
 (hop:AllOps (fun o=>∀a w,OpIn ops T a0 w0 o a w→OpOk P ops Q T o a w) (ops.toList.take L))
 (htail:∀a w,OpInT ops T a0 w0 L a w→wpOps P ops Q (List.range' L (ops.size-L)) a w):
 (Code.region id ops true).wp P Q a0 w0:=by
 unfold tailFine at htf;rw[aW]at htf;have ht1:∀j,j<L→reach ops 12 L j=true:=fun j hj=>bE.mp htf.1 j (cZ.mpr hj);(have ht2:∀i,i<ops.size→L<i→reach ops 12 i (i-1)=true:=fun i hi hLi=>by have h:=bE.mp htf.2 i (cZ.mpr hi);rw[decide_eq_true hLi]at h;simpa using h);unfold tabFine at hf;rw[aW,aW]at hf;obtain⟨⟨hnd,hlt⟩,hah⟩:=hf;have hnd:=of_decide_eq_true hnd;have hlt':∀t,t∈ops.toList.filterMap (·.dst)→t<a0.tmps.size:=fun t ht=>of_decide_eq_true (bE.mp hlt t ht);have hah':∀(i:Nat)(o:Oper),ops[i]?=some o→∀e,e∈o.after→e.on<i:=fun i o ho e he=>by have hi:i<ops.size:=(aJ.mp ho).1;have h:=bE.mp hah i (cZ.mpr hi);rw[ho,dG,dH]at h;exact of_decide_eq_true (bE.mp h e (by simpa using he))
 refine gO (fun s a w=>(s.size=ops.size∧Closed ops s)∧(((∀i,L≤i→i<ops.size→s[i]?=some false)∧Tabbed ops T a0 w0 s a w)∨
  (∃m,L≤m∧m≤ops.size∧(∀i,i<m→s[i]?=some true)∧(∀i,m≤i→i<ops.size→s[i]?=some false)∧wpOps P ops Q (List.range' m (ops.size-m)) a w))) hm ?_ ?_ ?_
 ·rintro s a w hr ⟨⟨hs,hC⟩,hI⟩;have hall:∀n:Nat,n≤ops.size→∀i:Nat,i<n→s[i]?=some true:=by
   intro n
   induction n with
   |zero=>intro _ i hi;exact absurd hi (fD _)
   |succ n ih=>
    intro hn i hi;have ih:=ih oM;by_cases hin:i<n
    ·exact ih i hin
    have hin:i=n:=oM;subst hin
    cases hsi:s[i]? with
    |none=>rw[dV]at hsi;omega
    |some b=>
     cases b with
     |true=>rfl
     |false=>
      exfalso;have hio:i<ops.size:=oM;(have :i∈Region.ready .any ops s:=by unfold Region.ready;refine eX.mpr ⟨cZ.mpr hio,?_⟩;rw[aW];refine⟨by simp[Array.getD_eq_getD_getElem?,hsi],?_⟩;have ho:ops[i]?=some ops[i]:=cD hio;rw[ho,dG,dH,eI];intro e he;have h1:=ih e.on (hah' i _ ho e he);simp[Array.getD_eq_getD_getElem?,h1]);rw[hr]at this;exact absurd this sI
  have hd:=hall ops.size (aF _);rcases hI with⟨hF,_⟩|⟨m,_,hm1,_,hF,hW⟩
  ·have h1:=hF L (aF _) hL;rw[hd L hL]at h1;cases h1
  by_cases hme:m=ops.size
  ·subst hme;rw[iU]at hW;exact hW
  have h1:=hF m (aF _) oM;rw[hd m oM]at h1;cases h1
 ·rintro s a w i hi ⟨⟨hs,hC⟩,hI⟩;obtain⟨hsi,o,ho,haf⟩:=iZ hi;have his:i<ops.size:=(aJ.mp ho).1;have hup:∀j,s[j]?=some true→(s.setIfInBounds i true)[j]?=some true:=fun j hj=>by
   rw[aQ];by_cases hij:i=j
   ·rw[if_pos hij,if_pos oM]
   rw[if_neg hij];exact hj
  have hss:(s.setIfInBounds i true).size=ops.size∧Closed ops (s.setIfInBounds i true):=by
   refine⟨by simp[hs],fun i' o' hi' ho' e he hb=>?_⟩;by_cases hii:i=i'
   ·subst hii;rw[ho]at ho';cases ho';exact hup _ (haf e he hb)
   rw[aQ,if_neg hii]at hi';exact hup _ (hC i' o' hi' ho' e he hb)
  have go:∀m,L≤m→m<ops.size→i=m→(∀j,j<m→s[j]?=some true)→(∀j,m≤j→j<ops.size→s[j]?=some false)→wpOps P ops Q (List.range' m (ops.size-m)) a w→
   wpOp P ops Q i (fun a' w'=>((s.setIfInBounds i true).size=ops.size∧Closed ops (s.setIfInBounds i true))∧(((∀j,L≤j→j<ops.size→(s.setIfInBounds i true)[j]?=some false)∧Tabbed ops T a0 w0 (s.setIfInBounds i true) a' w')∨
    (∃m,L≤m∧m≤ops.size∧(∀j,j<m→(s.setIfInBounds i true)[j]?=some true)∧(∀j,m≤j→j<ops.size→(s.setIfInBounds i true)[j]?=some false)∧wpOps P ops Q (List.range' m (ops.size-m)) a' w'))) a w:=by
   intro m hLm hms him hT hF hW;subst him;obtain⟨d,hd⟩:∃d,ops.size-i=d+1:=⟨ops.size-i-1,oM⟩;rw[hd,List.range'_succ,wpOps_cons]at hW;refine wpOp_mono (fun a' w' h'=>⟨hss, .inr ⟨i+1,oM,oM,fun j hj=>?_,fun j hj hjs=>?_,?_⟩⟩) hW
   ·by_cases hji:j=i
    ·subst hji;rw[aQ,if_pos rfl,if_pos oM]
    exact hup j (hT j oM)
   ·rw[aQ,if_neg oM];exact hF j oM hjs
   rw[show ops.size-(i+1)=d by omega];exact h'
  rcases hI with⟨hF,hI⟩|⟨m,hLm,hm1,hT,hF,hW⟩
  ·by_cases hiL:L≤i
   ·have hiL2:i=L:=by
     rcases dF L i with h|h
     ·have h1:=eG hC 12 i (i-1) o ho haf (ht2 i his h);rw[hF (i-1) oM oM]at h1;cases h1
     omega
    subst hiL2;have hdn:∀j,j<i→s[j]?=some true:=fun j hj=>eG hC 12 i j o ho haf (ht1 j hj);exact go i (aF _) his rfl hdn (fun j hj hjs=>hF j hj hjs) (htail a w ⟨hI.below,hI.defers,hI.size,hI.still,fun j oj t hj hoj hd=>hI.done j oj t (hdn j hj) hoj hd⟩)
   (have hop':OpOk P ops Q T o a w:=by refine AllOps.mem _ hop o ?_ a w ⟨hI.below,hI.still,fun e he hb o' t ho' hd=>hI.done e.on o' t (haf e he hb) ho' hd⟩;rw[←bF]at ho;refine dL (i:=i) ?_;rw[dN,if_pos oM];exact ho);have hset:∀{v:Value}{w':World},(∀t,o.dst=some t→T t v w')→Below w.heap.size w w'→Tabbed ops T a0 w0 (s.setIfInBounds i true) (a.put o.dst v) w':=by
    intro v w' hv hb;refine⟨hI.below.trans (hb.mono hI.below.size),by rw[jN];exact hI.defers,by rw[fI];exact hI.size,fun t ht=>?_,fun j oj t hj hoj hd=>?_⟩
    ·cases hd:o.dst with
     |none=>exact hI.still t ht
     |some u=>
      have hne:t≠u:=fun h=>ht (h▸iR ho hd);rw[cI hne];exact hI.still t ht
    by_cases hij:j=i
    ·subst hij;rw[ho]at hoj;cases hoj;rw[hd,dC (by rw[hI.size];exact hlt' t (iR ho hd))];exact hv t hd
    (have hj':s[j]?=some true:=by rw[aQ,if_neg (fun h=>hij h.symm)]at hj;exact hj);have h1:=hmono t _ w w' hb (hI.done j oj t hj' hoj hd)
    cases hd2:o.dst with
    |none=>exact h1
    |some u=>
     have hne:t≠u:=fun h=>hij (lW ops.toList hnd j i oj o t (by rw[bF];exact hoj) (by rw[bF];exact ho) hd (h▸hd2));rw[cI hne];exact h1
   (have hF':∀j,L≤j→j<ops.size→(s.setIfInBounds i true)[j]?=some false:=fun j hj hjs=>by rw[aQ,if_neg oM];exact hF j hj hjs);unfold OpOk at hop';unfold wpOp;rw[ho];dsimp only;by_cases hw:Region.wanted o (yielded ops a.tmps)=true
   ·rw[if_pos hw]at hop' ⊢;refine hop'.imp (Oper.wp_mono ?_) (fun h=>h);rintro a' w' ⟨v,rfl,hv,hb⟩;exact⟨hss, .inl ⟨hF',hset hv hb⟩⟩
   rw[if_neg hw]at hop' ⊢;exact⟨hss, .inl ⟨hF',hset hop' (aH _ _)⟩⟩
  have him:m≤i:=by
   rcases dF i m with h|h
   ·have h1:=hT i h;rw[hsi]at h1;cases h1
   exact h
  have him2:i=m:=by
   rcases dF m i with h|h
   ·have h1:=eG hC 12 i (i-1) o ho haf (ht2 i his oM);rw[hF (i-1) oM oM]at h1;cases h1
   omega
  exact go m hLm oM him2 hT hF hW
 refine⟨⟨by simp,fun i o h=>?_⟩, .inl ⟨fun i _ hi=>?_,⟨⟨rfl,rfl,rfl,aF _,fun _ _=>rfl⟩,rfl,rfl,fun _ _=>rfl,fun i o t h _ _=>?_⟩⟩⟩
 ·rw[cO]at h;split at h<;>simp at h
 ·rw[cO,if_pos hi]
 rw[cO]at h;split at h<;>simp at h
end
abbrev Rv:=Sc.Rule×Value×Value
section
variable {P:Program} {ops:Array Oper} {Q:Exit→Act→World→Prop} {i:Nat} {o:Oper} {K:Act→World→Prop} {a:Act} {w w':World}
theorem gL{v:Value}(ho:ops[i]?=some o)(hw:Region.wanted o (yielded ops a.tmps)=true)(hr:(execOp a.eval o).run P w=.ok (.value v) w')(h:K (a.put o.dst v) w'):wpOp P ops Q i K a w:=by unfold wpOp;rw[ho];dsimp only;rw[if_pos hw];left;unfold Oper.wp;rw[hr,Oper.upon_value];exact h
theorem lL(ho:ops[i]?=some o)(hw:Region.wanted o (yielded ops a.tmps)=true)(hd:o.dst=none)(hr:(execOp a.eval o).run P w=.ok .skip w')(h:K a w'):wpOp P ops Q i K a w:=by unfold wpOp;rw[ho];dsimp only;rw[if_pos hw];left;unfold Oper.wp;rw[hr,Oper.upon_skip,hd];exact h
theorem kK(ho:ops[i]?=some o)(hw:Region.wanted o (yielded ops a.tmps)=true)(h:o.wp P a w K Q):wpOp P ops Q i K a w:=by unfold wpOp;rw[ho];dsimp only;rw[if_pos hw];exact .inl h
end
theorem kB{W:World}{b':Nat}{RC:Array Value}{t:TypeId}(h:W.heap[b']?=some (.cells RC t)):∀j u,RC.toList[j]?=some u→W.cell? ((⟨b',0,none⟩:Addr).add j)=some u:=by intro j u hj;rw[Addr.add_lit,cV,aC h,←bF];exact hj
theorem gE{W:World}{B:Nat}{v:Value}{l:List Int}(h:W.ownsRow B 3 1 v l.length (l.map (Value.int .i64))):IntsV W v l:=by
 obtain⟨ao,cap,rfl,_,hc⟩:=aBn h;refine⟨ao,cap,rfl,?_⟩;rcases hc with h0|⟨g,rfl,hc⟩
 ·exact .inl (gG.mp h0)
 refine .inr ⟨g,0,rfl,fun i hi=>?_⟩;rw[cV,hc i oM];simp[Sc.intD,hi]
theorem jL{W:World}{B c n k:Nat}{e t:TypeId}{v:Value}{xs:List Value}{a:Array Value}(h:W.ownsRow B e c v n xs)(hk:v.ownBlock=some k)(ha:W.heap[k]?=some (.cells a t)):t=e:=by
 rcases h.2 with⟨h2,_⟩|⟨g,cap,cur,hv,_,hh,_⟩
 ·rw[h2]at hk;cases hk
 rw[hv]at hk;(have hg:g=k:=by simpa[Value.ownBlock]using hk);subst hg;rw[hh]at ha;injection ha with ha;injection ha with _ ha _;exact ha.symm
theorem yP(op a b:Int)(w:World):Calls Tryz.prog 186 #[.int .i64 op, .int .i64 a, .int .i64 b] w fun e w'=>e=.returned (.bool (Ru.isSo op a b))∧w'=w:=by
 by_cases h1:op=1
 ·subst h1
  go_enter Tryz.func186,Tryz.ntmps186
  go_wp2;go_ret;exact⟨by unfold Ru.isSo;simp,rfl⟩
 (have g1:(op==1)=false:=by simpa using h1);by_cases h2:op=2
 ·subst h2;clear h1 g1
  go_enter Tryz.func186,Tryz.ntmps186
  go_wp2;go_ret;exact⟨by unfold Ru.isSo;simp,rfl⟩
 (have g2:(op==2)=false:=by simpa using h2);by_cases h3:op=3
 ·subst h3;clear h1 g1 h2 g2
  go_enter Tryz.func186,Tryz.ntmps186
  go_wp2;go_ret;exact⟨by unfold Ru.isSo;rw[if_neg dE,if_neg dE,if_pos rfl];simp;rfl,rfl⟩
 (have g3:(op==3)=false:=by simpa using h3);(have HV:Hid (Ru.isSo op a b=decide (a≠b)):=by show _=_;unfold Ru.isSo;rw[if_neg h1,if_neg h2,if_neg h3]);clear h1 h2 h3
 go_enter Tryz.func186,Tryz.ntmps186
 go_wp2;go_ret;exact⟨by rw[HV.out];simp[bne];rfl,rfl⟩
theorem uC{a b:Int}(ha: -1000000≤a∧a≤1000000)(hb: -1000000≤b∧b≤1000000): -1000000000000≤a*b∧a*b≤1000000000000:=by(have h1:(a*b).natAbs≤1000000*1000000:=by rw[Int.natAbs_mul];exact Nat.mul_le_mul oM oM);omega
theorem vU(op a b:Int)(w:World)(ha: -1000000≤a∧a≤1000000)(hb: -1000000≤b∧b≤1000000):Calls Tryz.prog 188 #[.int .i64 op, .int .i64 a, .int .i64 b] w fun e w'=>e=.returned (.int .i64 (Ru.reck op a b))∧w'=w:=by
 obtain⟨a1,a2⟩:=ha;obtain⟨b1,b2⟩:=hb;by_cases h1:op=5
 ·subst h1
  go_enter Tryz.func188,Tryz.ntmps188
  go_wp2;go_ret;exact⟨by unfold Ru.reck;simp,rfl⟩
 (have g1:(op==5)=false:=by simpa using h1);by_cases h2:op=6
 ·subst h2;clear h1 g1
  go_enter Tryz.func188,Tryz.ntmps188
  go_wp2;go_ret;exact⟨by unfold Ru.reck;simp,rfl⟩
 (have g2:(op==6)=false:=by simpa using h2);(have HV:Hid (Ru.reck op a b=a*b):=by show _=_;unfold Ru.reck;rw[if_neg h1,if_neg h2]);obtain⟨m1,m2⟩:=uC ⟨a1,a2⟩ ⟨b1,b2⟩;clear h1 h2
 go_enter Tryz.func188,Tryz.ntmps188
 go_wp2;go_ret;exact⟨by rw[HV.out];simp,rfl⟩
theorem sH(op a b:Int)(w:World)(ha: -1000000≤a∧a≤1000000)(hb: -1000000≤b∧b≤1000000):Calls Tryz.prog 67 #[.int .i64 op, .int .i64 a, .int .i64 b] w fun e w'=>e=.returned (.int .i64 (Ru.reck op a b))∧w'=w:=by
 obtain⟨a1,a2⟩:=ha;obtain⟨b1,b2⟩:=hb;by_cases h1:op=5
 ·subst h1
  go_enter Tryz.func67,Tryz.ntmps67
  go_wp2;go_ret;exact⟨by unfold Ru.reck;simp,rfl⟩
 (have g1:(op==5)=false:=by simpa using h1);by_cases h2:op=6
 ·subst h2;clear h1 g1
  go_enter Tryz.func67,Tryz.ntmps67
  go_wp2;go_ret;exact⟨by unfold Ru.reck;simp,rfl⟩
 (have g2:(op==6)=false:=by simpa using h2);(have HV:Hid (Ru.reck op a b=a*b):=by show _=_;unfold Ru.reck;rw[if_neg h1,if_neg h2]);obtain⟨m1,m2⟩:=uC ⟨a1,a2⟩ ⟨b1,b2⟩;clear h1 h2
 go_enter Tryz.func67,Tryz.ntmps67
 go_wp2;go_ret;exact⟨by rw[HV.out];simp,rfl⟩
theorem oQ(n:Int)(w:World):Calls Tryz.prog 109 #[.int .i64 n] w fun e w'=>e=.returned (.bool (Sc.isNum n))∧w'=w:=by
 unfold Sc.isNum Tr.between;by_cases h1: -1000000≤n
 ·have g1:decide (-1000000≤n)=true:=decide_eq_true h1
  go_enter Tryz.func109,Tryz.ntmps109
  go_wp2;go_ret;exact⟨by rw[g1];rfl,rfl⟩
 have g1:decide (-1000000≤n)=false:=decide_eq_false h1;clear h1
 go_enter Tryz.func109,Tryz.ntmps109
 go_wp2;go_ret;exact⟨by rw[g1];rfl,rfl⟩
theorem news1(w:World)(a:Value)(e:TypeId):∀j z,[a][j]?=some z→(w.alloc (.cells #[a] e)).cell? ((⟨w.heap.size,0,none⟩:Addr).add j)=some z:=by
 intro j z hj;have hbx:=fC w (.cells #[a] e)
 match j,hj with
 |0,hj=>
  (have hz:a=z:=by simpa using hj);rw[←hz,Addr.add_lit,aC hbx];rfl
abbrev IRow(w:World)(B:Nat)(v:Value)(l:List Int):Prop:=w.ownsRow B 3 1 v l.length (l.map (Value.int .i64))
theorem IRow.ints{w:World}{B:Nat}{v:Value}{l:List Int}(h:IRow w B v l):IntsV w v l:=gE h
theorem jR(ts:List Sc.Term)(x:List Int)(vt vx:Value)(w:World)(hT:PTermsV w vt ts)(hX:IntsV w vx x)(hl:ts.length≤1000000)(hI:Ru.TermsIn x.length ts):
 Calls Tryz.prog 62 #[vt,vx] w fun e w'=>∃v',e=.returned v'∧IRow w' w.heap.size v' (Ru.fill ts x)∧Below w.heap.size w w':=by
 obtain⟨i0,hi,hz0,hz1,hz2⟩:=info_parts kS;obtain⟨at_,ct,rfl,_,hT⟩:=hT;obtain⟨ax,cx,rfl,hX⟩:=hX;have HT:Hid _:=hT;have HX:Hid _:=hX;have HTI:Hid _:=hI;clear hT hX hI
 go_enter Tryz.func62,Tryz.ntmps62
 go_wp2_with fail;go_loopw [5,6] (fun vs i wr=>∃k:Nat,k≤ts.length∧i=.int .i64 k∧wr.ownsRow w.heap.size 3 1 vs k ((Ru.fill (ts.take k) x).map (Value.int .i64))∧Hid (Below w.heap.size w wr)) (fun _ i _=>ts.length-(intOf i).toNat);case atStart=>exact⟨0,aR _,rfl,cM _ _ _ _,aH _ _⟩
 case round=>
  obtain⟨k,hk,rfl,hown,HB⟩:=hrel;obtain⟨aos,caps,rfl⟩:=aZ hown;by_cases hlt:k<ts.length
  ·obtain⟨b,off,rfl,hc⟩:=fG HT.out k hlt;have hc:=hc k hlt;have q0:=aD HB.out hc.1;have q1:=aD HB.out hc.2;have HTK:Hid (Ru.fill (ts.take (k+1)) x=Ru.fill (ts.take k) x++[Ru.num x (Sc.termD ts k)]):=by
    show _=_;unfold Ru.fill;rw[cY,bJ]
    congr 1
    unfold Sc.termD;rw[aE,aG hlt];rfl
   have HTI2:Hid (Ru.TermIn x.length (Sc.termD ts k)):=HTI.out _ (Ru.termD_mem hlt);clear hc;generalize Sc.termD ts k=t at *;have hbsz:=HB.out.size;by_cases hv:0≤t.var
   ·obtain⟨var,nn⟩:=t;dsimp only at *;obtain⟨v,rfl⟩:∃v:Nat,var=v:=⟨var.toNat,oM⟩;(have hvx:v<x.length:=by rcases HTI2.out with h|h<;>(dsimp only at h;omega));obtain⟨bx,ox,rfl,z0⟩:=fS HX.out v hvx;have z1:=aD HB.out z0;(have HN:Hid (Ru.num x ⟨v,nn⟩=Sc.intD x v):=by show _=_;unfold Ru.num;rw[if_neg (show¬(v:Int)<0 by omega)];rfl);have hd:decide ((0:Int)≤(v:Int))=true:=decide_eq_true hv;clear z0 hv;generalize Sc.intD x v=m at *;go_wp2_with(at_builtin;refine wpList_append_own _ rfl _ _ 22 rfl w.heap.size 3 i0 _ 1 8 Tryz.underlying22 hi hz0 hz1 hz2 rfl dE _ _ _ rfl (hown.alloc _) ⟨wr.heap.size,0,none⟩ 1 1 [.int .i64 m] rfl rfl ?c1 ?c2 ?c3 ?c4 ?c5 ?_);(case c1=>exact news1 wr _ 3);(case c2=>intro u hu;simp at hu;subst hu;rfl);(case c3=>unfold maxLen;omega);(case c4=>omega);(case c5=>simp;omega);intro vs2 w4 hown4 hgrow4 _;obtain⟨ao9,cap9,rfl⟩:=aZ hown4;have hb5:Below w.heap.size w w4:=(HB.out.alloc HB.out.size _).grown hgrow4 sO (fun k hk=>(hown.lt k hk).1);(have hown5:w4.ownsRow w.heap.size 3 1 (.slice ao9 (k+1) cap9) (k+1) ((Ru.fill (ts.take (k+1)) x).map (Value.int .i64)):=by rw[HTK.out,HN.out,bJ];exact hown4);clear hown4 hgrow4 hown q0 q1 z1;go_wp2_with fail;go_roundw;(case rel=>exact⟨k+1,hlt,gN,hown5,hb5⟩);case measure=>exact mI
   have hd:decide ((0:Int)≤t.var)=false:=decide_eq_false hv;(have HN:Hid (Ru.num x t=t.n):=by show _=_;unfold Ru.num;rw[if_pos oM]);clear hv;go_wp2_with(at_builtin;refine wpList_append_own _ rfl _ _ 22 rfl w.heap.size 3 i0 _ 1 8 Tryz.underlying22 hi hz0 hz1 hz2 rfl dE _ _ _ rfl (hown.alloc _) ⟨wr.heap.size,0,none⟩ 1 1 [.int .i64 t.n] rfl rfl ?c1 ?c2 ?c3 ?c4 ?c5 ?_);(case c1=>exact news1 wr _ 3);(case c2=>intro u hu;simp at hu;subst hu;rfl);(case c3=>unfold maxLen;omega);(case c4=>omega);(case c5=>simp;omega);intro vs2 w4 hown4 hgrow4 _;obtain⟨ao9,cap9,rfl⟩:=aZ hown4;have hb5:Below w.heap.size w w4:=(HB.out.alloc HB.out.size _).grown hgrow4 sO (fun k hk=>(hown.lt k hk).1);(have hown5:w4.ownsRow w.heap.size 3 1 (.slice ao9 (k+1) cap9) (k+1) ((Ru.fill (ts.take (k+1)) x).map (Value.int .i64)):=by rw[HTK.out,HN.out,bJ];exact hown4);clear hown4 hgrow4 hown q0 q1;go_wp2_with fail;go_roundw;(case rel=>exact⟨k+1,hlt,gN,hown5,hb5⟩);case measure=>exact mI
  have hdd:decide (k<ts.length)=false:=decide_eq_false hlt;(have HTK:Hid (Ru.fill (ts.take k) x=Ru.fill ts x):=by show _=_;rw[cH oM]);(have hfl:(Ru.fill (ts.take k) x).length=k:=by unfold Ru.fill;rw[aO,bC];omega);(have HO:Hid (IRow wr w.heap.size (.slice aos k caps) (Ru.fill ts x)):=by rw[←HTK.out];show wr.ownsRow _ _ _ _ (Ru.fill (ts.take k) x).length _;rw[hfl];exact hown);clear hown hfl;go_wp2_with fail;go_ret;exact⟨_,rfl,HO.out,HB.out⟩
def fillFV(FB:Nat)(RV VX:Value)(t:Sc.Term)(n:Int)(tQ:Nat)(vQ:Value):Prop:=
 match tQ with
 |18=>vQ=(.pointer (some ⟨FB,1,none⟩):Value)
 |19=>vQ=(RV:Value)
 |20=>vQ=(ptermVal t:Value)
 |21=>vQ=(VX:Value)
 |22=>vQ=(.int .i64 n:Value)
 |_=>True
def fillFT(FB:Nat)(RV VX:Value)(t:Sc.Term)(n:Int)(tQ:Nat)(vQ:Value)(WQ:World):Prop:=if tQ=23 then∃b',vQ=.slice (some ⟨b',0,none⟩) 1 1∧WQ.heap[b']?=some (.cells #[.int .i64 n] 3)else fillFV FB RV VX t n tQ vQ
theorem yZ(FB:Nat)(RV VX:Value)(t:Sc.Term)(n:Int)(tQ:Nat)(vQ:Value)(W W':World)(hb:Below W.heap.size W W')(h:fillFT FB RV VX t n tQ vQ W):fillFT FB RV VX t n tQ vQ W':=by
 unfold fillFT at h ⊢;by_cases ht:tQ=23
 ·rw[if_pos ht]at h ⊢;obtain⟨b',h1,h2⟩:=h;exact⟨b',h1,(hb.block b' (aJ.mp h2).1).trans h2⟩
 rw[if_neg ht]at h ⊢;exact h
theorem lY(pd:Int)(ts:List Sc.Term)(x:List Int)(vt vx:Value)(w:World)(hT:PTermsV w vt ts)(hX:IntsV w vx x)(hl:ts.length≤1000000)(hI:Ru.TermsIn x.length ts):
 Calls Tryz.prog 57 #[.int .i64 pd,vt,vx] w fun e w'=>∃v,e=.returned (.agg #[.int .i64 pd,v])∧IRow w' w.heap.size v (Ru.fill ts x)∧Below w.heap.size w w':=by
 obtain⟨i0,hi,hz0,hz1,hz2⟩:=info_parts kS;obtain⟨at_,ct,rfl,_,hT⟩:=hT;obtain⟨ax,cx,rfl,_⟩:=id hX;have HT:Hid _:=hT;have HX:Hid _:=hX;have HTI:Hid _:=hI;obtain⟨h0,h1,hb⟩:=lI w (.cells #[.int .i64 0, .slice none 0 0] 55) (.cells #[.int .i64 pd, .slice none 0 0] 55);have H0:Hid _:=h0;have H1:Hid _:=h1;have HB:Hid _:=hb;clear hT hX hI h0 h1 hb
 go_enter Tryz.func57,Tryz.ntmps57
 go_wp2_with fail;generalize (w.alloc (.cells #[.int .i64 0, .slice none 0 0] 55)).alloc (.cells #[.int .i64 pd, .slice none 0 0] 55)=w1 at *;go_loopw [14] (fun i wr=>∃k:Nat,k≤ts.length∧i=.int .i64 k∧∃vs:Value,wr.heap[w.heap.size]?=some (.cells #[.int .i64 0, .slice none 0 0] 55)∧wr.heap[w.heap.size+1]?=some (.cells #[.int .i64 pd,vs] 55)∧wr.ownsRow (w.heap.size+2) 3 1 vs k ((Ru.fill (ts.take k) x).map (Value.int .i64))∧Below w.heap.size w wr) (fun i _=>ts.length-(intOf i).toNat);case atStart=>exact⟨0,aR _,rfl,_,H0.out,H1.out,cM _ _ _ _,HB.out⟩
 case round=>
  clear H0 H1 HB;obtain⟨k,hk,rfl,vs,h0,h1,ho,hb⟩:=hrel;obtain⟨au,cu,rfl⟩:=aZ ho;have HZ:Hid _:=h0;have HF:Hid _:=h1;have HO:Hid _:=ho;have HB:Hid _:=hb;clear h0 h1 ho hb;by_cases hlt:k<ts.length
  ·obtain⟨b,off,rfl,hc⟩:=fG HT.out k hlt;have hc:=hc k hlt;have q0:=aD HB.out hc.1;have q1:=aD HB.out hc.2;have HTK:Hid (Ru.fill (ts.take (k+1)) x=Ru.fill (ts.take k) x++[Ru.num x (Sc.termD ts k)]):=by
    show _=_;unfold Ru.fill;rw[cY,bJ]
    congr 1
    unfold Sc.termD;rw[aE,aG hlt];rfl
   have HTI2:Hid (Ru.TermIn x.length (Sc.termD ts k)):=HTI.out _ (Ru.termD_mem hlt);clear hc;generalize Sc.termD ts k=t at *;go_upto_region 5 with fail;have bT:=(aH wr.heap.size wr).alloc (aF _) (.cells #[.int .i64 t.var, .int .i64 t.n] 147);have hTB:=heap_alloc_new wr (.cells #[.int .i64 t.var, .int .i64 t.n] 147);(have t0:(wr.alloc (.cells #[.int .i64 t.var, .int .i64 t.n] 147)).cell? ⟨wr.heap.size,0,none⟩=some (.int .i64 t.var):=by rw[aC hTB];rfl);(have t1:(wr.alloc (.cells #[.int .i64 t.var, .int .i64 t.n] 147)).cell? ⟨wr.heap.size,1,none⟩=some (.int .i64 t.n):=by rw[aC hTB];rfl);have HZq:Hid _:=(bT.block _ (aY HZ.out)).trans HZ.out;have HFq:Hid _:=(bT.block _ (aY HF.out)).trans HF.out;have HOq:Hid _:=aU HO.out bT;have HBq:Hid _:=HB.out.trans (bT.mono HB.out.size);have HXq:Hid _:=aK HX.out HBq.out;clear q0 q1 bT hTB HZ HF HO HB;generalize wr.alloc (.cells #[.int .i64 t.var, .int .i64 t.n] 147)=wq at *;generalize wr.heap.size=TB at *;(have cF1:wq.cell? ⟨w.heap.size+1,1,none⟩=some (.slice au k cu):=by rw[aC HFq.out];rfl);refine eS (fillFT (w.heap.size+1) (.slice au k cu) (.slice ax x.length cx) t (Ru.num x t)) 6 dE kR kR kR (yZ (w.heap.size+1) (.slice au k cu) (.slice ax x.length cx) t (Ru.num x t)) ?hop ?htail
   case hop=>
    refine oC (fun a y h=>by have e7:a.eval (.tmp 7)=(.pointer (some ⟨w.heap.size+1,0,none⟩):Value):=h.old 7;exact opX (.pointer (some ⟨w.heap.size+1,1,none⟩))) ?_;refine oC (fun a y h=>by have e18:a.eval (.tmp 18)=(.pointer (some ⟨w.heap.size+1,1,none⟩):Value):=h.of 18;have cF:=aD h.below cF1;exact opX (.slice au k cu)) ?_;refine oC (fun a y h=>by have e9:a.eval (.tmp 9)=(.pointer (some ⟨TB,0,none⟩):Value):=h.old 9;have c0:=aD h.below t0;have c1:=aD h.below t1;exact opX (ptermVal t)) ?_;refine oC (fun a y h=>by have e2:a.eval (.tmp 2)=(.slice ax x.length cx:Value):=h.old 2;exact opX (.slice ax x.length cx)) ?_;refine oC (fun a y h=>?_) ?_
    ·have e20:a.eval (.tmp 20)=(ptermVal t:Value):=h.of 20;have e21:a.eval (.tmp 21)=(.slice ax x.length cx:Value):=h.of 21;refine dD (f:=105) (args:=#[ptermVal t, .slice ax x.length cx]) (aM rfl) ?_ ?_
     ·have ec:=evc a;have ef:=evf a;generalize a.eval=ev at *;clear h;go_simp
     refine Calls.mono (sF t x _ y (aK HXq.out h.below) HTI2.out) ?_;rintro _ y2 ⟨rfl,hb2⟩;exact⟨_,rfl,fun t ht=>by cases ht;exact rfl,hb2⟩
    refine oC (fun a y h=>by have e22:a.eval (.tmp 22)=(.int .i64 (Ru.num x t):Value):=h.of 22;refine cP (v:=.slice (some ⟨y.heap.size,0,none⟩) 1 1) (w':=y.alloc (.cells #[.int .i64 (Ru.num x t)] 3)) (aM rfl) ?_ (fun t ht=>by cases ht;exact⟨_,rfl,heap_alloc_new y _⟩) ((aH _ _).alloc (aF _) _);have ec:=evc a;generalize a.eval=ev at *;clear h;go_simp) ?_;exact AllOps.nil
   case htail=>
    rintro⟨tm0,df⟩ y hI;have e19:Act.eval ⟨tm0,df⟩ (.tmp 19)=(.slice au k cu):=hI.all 1 _ 19 dE rfl rfl;obtain⟨b',e23,hb'⟩:∃b',Act.eval ⟨tm0,df⟩ (.tmp 23)=.slice (some ⟨b',0,none⟩) 1 1∧y.heap[b']?=some (.cells #[.int .i64 (Ru.num x t)] 3):=hI.all 5 _ 23 dE rfl rfl;have e7:Act.eval ⟨tm0,df⟩ (.tmp 7)=.pointer (some ⟨w.heap.size+1,0,none⟩):=hI.still 7 dE;have hoy:=aU HOq.out hI.below;have hFy:=(hI.below.block _ (aJ.mp HFq.out).1).trans HFq.out;have hby:Below w.heap.size w y:=HBq.out.trans (hI.below.mono HBq.out.size);have hszF:w.heap.size+2≤y.heap.size:=(aJ.mp hFy).1;show wpOps Tryz.prog _ _ [6,7,8] _ _;rw[wpOps_cons];refine kK rfl (aM rfl) (wp_append_own y (.tmp 19) (.tmp 23) 22 rfl (w.heap.size+2) 3 i0 _ 1 8 Tryz.underlying22 hi hz0 hz1 hz2 rfl dE (.slice au k cu) k ((Ru.fill (ts.take k) x).map (Value.int .i64)) e19 hoy ⟨b',0,none⟩ 1 1 (#[.int .i64 (Ru.num x t)]:Array Value).toList e23 rfl (kB hb') ?h1 ?h63 ?hby hszF ?_);(case h1=>intro u hu;simp only[bD,eN,or_false]at hu;subst hu;rfl);(case h63=>unfold maxLen;omega);(case hby=>omega);intro v9 w9 ho9 hg9 _;obtain⟨av,cv,rfl⟩:=aZ ho9;have hown9:∀kQ,((.slice au k cu):Value).ownBlock=some kQ→w.heap.size+2≤kQ:=fun kQ hk=>(hoy.lt kQ hk).1;have hF9:w9.heap[w.heap.size+1]?=some (.cells #[.int .i64 pd, .slice au k cu] 55):=(hg9.block (w.heap.size+1) (aJ.mp hFy).1 (fun e=>by have :=hown9 (w.heap.size+1) e.symm;omega)).trans hFy;have hb9:Below w.heap.size w w9:=hby.grown hg9 hby.size (fun kQ hk=>by have :=hown9 kQ hk;omega);rw[wpOps_cons];refine gL (v:=.pointer (some ⟨w.heap.size+1,1,none⟩)) (w':=w9) rfl (aM rfl) ?_ ?_
    ·have e7':Act.eval (Act.put ⟨tm0,df⟩ (some 24) (.slice av (k+1) cv)) (.tmp 7)=.pointer (some ⟨w.heap.size+1,0,none⟩):=(cI (a:=⟨tm0,df⟩) (t:=24) (u:=7) dE).trans e7;show Sem.run Tryz.prog (execOp (Act.eval (Act.put ⟨tm0,df⟩ (some 24) (.slice av (k+1) cv))) _) w9=_;generalize Act.eval (Act.put ⟨tm0,df⟩ (some 24) (.slice av (k+1) cv))=ev at *;clear hI;go_simp
    have hsN:tm0.size=28:=hI.size;have e25:Act.eval (Act.put (Act.put ⟨tm0,df⟩ (some 24) (.slice av (k+1) cv)) (some 25) (.pointer (some ⟨w.heap.size+1,1,none⟩))) (.tmp 25)=.pointer (some ⟨w.heap.size+1,1,none⟩):=dC (by rw[fI];show 25<tm0.size;omega);have e24:Act.eval (Act.put (Act.put ⟨tm0,df⟩ (some 24) (.slice av (k+1) cv)) (some 25) (.pointer (some ⟨w.heap.size+1,1,none⟩))) (.tmp 24)=(.slice av (k+1) cv):=(cI dE).trans (dC (by show 24<tm0.size;omega));(have cF9:w9.cell? ⟨w.heap.size+1,1,none⟩=some (.slice au k cu):=by rw[aC hF9];rfl);have fF9:=bQ hF9 1;rw[wpOps_cons];refine lL rfl (aM rfl) rfl (w':=w9.setCell ⟨w.heap.size+1,1,none⟩ (.slice av (k+1) cv)) ?_ ?_
    ·show Sem.run Tryz.prog (execOp (Act.eval (Act.put (Act.put ⟨tm0,df⟩ (some 24) (.slice av (k+1) cv)) (some 25) (.pointer (some ⟨w.heap.size+1,1,none⟩)))) _) w9=_;generalize Act.eval (Act.put (Act.put ⟨tm0,df⟩ (some 24) (.slice av (k+1) cv)) (some 25) (.pointer (some ⟨w.heap.size+1,1,none⟩)))=ev at *;clear hI;go_simp
    (have hF9b:(w9.setCell ⟨w.heap.size+1,1,none⟩ (.slice av (k+1) cv)).heap[w.heap.size+1]?=some (.cells #[.int .i64 pd,(.slice av (k+1) cv)] 55):=by rw[bL hF9];rfl);(have ho9b:(w9.setCell ⟨w.heap.size+1,1,none⟩ (.slice av (k+1) cv)).ownsRow (w.heap.size+2) 3 1 (.slice av (k+1) cv) (k+1) ((Ru.fill (ts.take k) x).map (Value.int .i64)++(#[.int .i64 (Ru.num x t)]:Array Value).toList):=by refine dY ho9 (fun g hg=>bH (fun e=>?_));have :=(ho9.lt g hg).1;omega);(have hb9b:Below w.heap.size w (w9.setCell ⟨w.heap.size+1,1,none⟩ (.slice av (k+1) cv)):=hb9.setCell (p:=⟨w.heap.size+1,1,none⟩) (by show w.heap.size≤w.heap.size+1;omega) _;have HZ9:(w9.setCell ⟨w.heap.size+1,1,none⟩ (.slice av (k+1) cv)).heap[w.heap.size]?=some (.cells #[.int .i64 0, .slice none 0 0] 55):=(bH oM).trans ((hg9.block (w.heap.size) oM (fun e=>by have :=hown9 _ e.symm;omega)).trans ((hI.below.block _ (aY HZq.out)).trans HZq.out));have hst:∀t,t∉[18,19,20,21,22,23,24,25]→((tm0.setIfInBounds 24 (.slice av (k+1) cv)).setIfInBounds 25 (.pointer (some ⟨w.heap.size+1,1,none⟩))).getD t undef=_:=fun t ht=>by have hA:t≠24:=fun e=>ht (by rw[e];decide);have hB:t≠25:=fun e=>ht (by rw[e];decide);exact((cI (a:=Act.put ⟨tm0,df⟩ (some 24) (.slice av (k+1) cv)) hB).trans (cI (a:=⟨tm0,df⟩) hA)).trans (hI.still t ht));obtain rfl:df=[]:=hI.defers;clear hI e19 e23 hb' e7 hoy hFy hby hszF ho9 hg9 hown9 hF9 hb9 e25 e24 cF9 fF9;generalize w9.setCell ⟨w.heap.size+1,1,none⟩ (.slice av (k+1) cv)=y9 at *;(have hs2:((tm0.setIfInBounds 24 (.slice av (k+1) cv)).setIfInBounds 25 (.pointer (some ⟨w.heap.size+1,1,none⟩))).size=28:=by simp[hsN]);show Exit.inBlock 1 (Exit.then _ _) Exit.normal ⟨(tm0.setIfInBounds 24 (.slice av (k+1) cv)).setIfInBounds 25 (.pointer (some ⟨w.heap.size+1,1,none⟩)),[]⟩ y9;generalize (tm0.setIfInBounds 24 (.slice av (k+1) cv)).setIfInBounds 25 (.pointer (some ⟨w.heap.size+1,1,none⟩))=tm at *;obtain⟨fQ,hQ,hF8⟩:=fH [18,19,20,21,22,23,24,25] tm _ (hs2.trans rF) hst;clear hs2 hst hsN;simp only[cL,dB]at hF8;clear hQ;simp only[aV,bS,bV]at hF8;subst hF8;(have HO5:Hid (y9.ownsRow (w.heap.size+2) 3 1 (.slice av (k+1) cv) (k+1) ((Ru.fill (ts.take (k+1)) x).map (Value.int .i64))):=by rw[HTK.out,bJ];exact ho9b);clear ho9b;go_wp2_with fail;go_roundw;(case rel=>exact⟨k+1,hlt,gN,_,HZ9,hF9b,HO5.out,hb9b⟩);case measure=>exact mI
  have hdd:decide (k<ts.length)=false:=decide_eq_false hlt;(have HTK:Hid (Ru.fill (ts.take k) x=Ru.fill ts x):=by show _=_;rw[cH oM]);(have hfl:(Ru.fill (ts.take k) x).length=k:=by unfold Ru.fill;rw[aO,bC];omega);(have g0:wr.cell? ⟨w.heap.size+1,0,none⟩=some (.int .i64 pd):=by rw[aC HF.out];rfl);(have g1:wr.cell? ⟨w.heap.size+1,1,none⟩=some (.slice au k cu):=by rw[aC HF.out];rfl);(have z0:wr.cell? ⟨w.heap.size,0,none⟩=some (.int .i64 0):=by rw[aC HZ.out];rfl);(have z1:wr.cell? ⟨w.heap.size,1,none⟩=some (.slice none 0 0):=by rw[aC HZ.out];rfl);have y0:=bQ HZ.out 0;have y1:=bQ HZ.out 1;(have hS0:(wr.setCell ⟨w.heap.size,0,none⟩ (.int .i64 pd)).heap[w.heap.size]?=some (.cells #[.int .i64 pd, .slice none 0 0] 55):=by rw[bL HZ.out];rfl);(have z2:(wr.setCell ⟨w.heap.size,0,none⟩ (.int .i64 pd)).cell? ⟨w.heap.size,1,none⟩=some (.slice none 0 0):=by rw[aC hS0];rfl);have y2:=bQ hS0 1;(have hS1:((wr.setCell ⟨w.heap.size,0,none⟩ (.int .i64 pd)).setCell ⟨w.heap.size,1,none⟩ (.slice au k cu)).heap[w.heap.size]?=some (.cells #[.int .i64 pd, .slice au k cu] 55):=by rw[bL hS0];rfl);(have d0:((wr.setCell ⟨w.heap.size,0,none⟩ (.int .i64 pd)).setCell ⟨w.heap.size,1,none⟩ (.slice au k cu)).cell? ⟨w.heap.size,0,none⟩=some (.int .i64 pd):=by rw[aC hS1];rfl);(have d1:((wr.setCell ⟨w.heap.size,0,none⟩ (.int .i64 pd)).setCell ⟨w.heap.size,1,none⟩ (.slice au k cu)).cell? ⟨w.heap.size,1,none⟩=some (.slice au k cu):=by rw[aC hS1];rfl);(have HR:Hid (IRow ((wr.setCell ⟨w.heap.size,0,none⟩ (.int .i64 pd)).setCell ⟨w.heap.size,1,none⟩ (.slice au k cu)) w.heap.size (.slice au k cu) (Ru.fill ts x)):=by rw[←HTK.out];show World.ownsRow _ _ _ _ _ (Ru.fill (ts.take k) x).length _;rw[hfl];refine dP ?_ (Nat.le_add_right _ 2);refine dY HO.out (fun g hg=>?_);have :=(World.ownsRow.lt HO.out g hg).1;rw[bH oM,bH oM]);have HB9:Hid (Below w.heap.size w ((wr.setCell ⟨w.heap.size,0,none⟩ (.int .i64 pd)).setCell ⟨w.heap.size,1,none⟩ (.slice au k cu))):=(HB.out.setCell (aF _) _).setCell (aF _) _;clear hS0 hS1 hfl;go_wp2_with fail;refine bodyPost_ret (v:=.agg #[.int .i64 pd, .slice au k cu]) (by simp[results,Tryz.results57,go_sem,d0,d1]) rfl ⟨_,rfl,HR.out,HB9.out⟩
theorem aAj(X:Nat)(y:Ru.Way)(t:Sc.Term)(w:World)(hW:WayAt w X y)(hy:Ru.Wf 8 y)(ht:Ru.TermIn 8 t):
 Calls Tryz.prog 212 #[ptermVal t, .pointer (some ⟨X,0,none⟩)] w fun e w'=>e=.returned (.bool (!Sc.known y.known t))∧Below w.heap.size w w':=by
 have bT:=(aH w.heap.size w).alloc (aF _) (.cells #[.int .i64 t.var, .int .i64 t.n] 147);have HW:Hid (WayAt (w.alloc (.cells #[.int .i64 t.var, .int .i64 t.n] 147)) X y):=hW.below bT;have HB:Hid _:=bT;have hTB:=heap_alloc_new w (.cells #[.int .i64 t.var, .int .i64 t.n] 147);(have t0:(w.alloc (.cells #[.int .i64 t.var, .int .i64 t.n] 147)).cell? ⟨w.heap.size,0,none⟩=some (.int .i64 t.var):=by rw[aC hTB];rfl);(have t1:(w.alloc (.cells #[.int .i64 t.var, .int .i64 t.n] 147)).cell? ⟨w.heap.size,1,none⟩=some (.int .i64 t.n):=by rw[aC hTB];rfl);clear hW bT hTB
 go_enter Tryz.func212,Tryz.ntmps212
 go_upto_region 1 with fail;generalize w.alloc (.cells #[.int .i64 t.var, .int .i64 t.n] 147)=w1 at *;go_wp2_with(refine eK (aM rfl) _ rfl _ rfl y HW.out hy ?_);refine Calls.mono (lN y t w1 hy ht) ?_;rintro _ w2 ⟨rfl,hb2⟩;have HB2:Hid _:=HB.out.trans (hb2.mono HB.out.size);clear t0 t1 hb2;go_wp2_with fail;go_ret;exact⟨rfl,HB2.out⟩
theorem xC(l:List Sc.Term)(k:Nat)(hk:k<l.length):l.drop k=Sc.termD l k::l.drop (k+1):=by rw[bG hk];simp[Sc.termD,List.getD_eq_getElem?_getD,hk]
theorem aAy(l:List Sc.Term)(v:Value)(X:Nat)(y:Ru.Way)(w:World)(hT:PTermsV w v l)(hl:l.length≤1000000)(hW:WayAt w X y)(hy:Ru.Wf 8 y)(hI:Ru.TermsIn 8 l):
 Calls Tryz.prog 226 #[v, .func (.func 212) #[] #[.pointer (some ⟨X,0,none⟩)]] w fun e w'=>∃r:Int,e=.returned (.int .i64 r)∧decide (0≤r)=(!l.all (Sc.known y.known))∧Below w.heap.size w w':=by
 obtain⟨ao,cap,rfl,_,hA⟩:=hT;have HA:Hid _:=hA;have HW:Hid (WayAt w X y):=hW;have HI:Hid _:=hI;have he:∀args w,(callFunc 212 args).run Tryz.prog w=.ok (.enter 212 args) w:=eQ Tryz.func212 kR rfl;clear hA hW hI
 go_enter Tryz.func226,Tryz.ntmps226
 go_wp2_with fail;go_loopw [8] (fun i wr=>∃k:Nat,k≤l.length∧i=.int .i64 k∧Hid (l.all (Sc.known y.known)=(l.drop k).all (Sc.known y.known))∧Hid (Below w.heap.size w wr)) (fun i _=>l.length-(intOf i).toNat);case atStart=>exact⟨0,aR _,rfl,rfl,aH _ _⟩
 case round=>
  obtain⟨k,hk,rfl,HAL,HB⟩:=hrel;by_cases hlt:k<l.length
  ·obtain⟨b,off,rfl,hc⟩:=fG HA.out k hlt;have hc:=hc k hlt;have q0:=aD HB.out hc.1;have q1:=aD HB.out hc.2;(have HD:Hid (l.all (Sc.known y.known)=(Sc.known y.known (Sc.termD l k)&&(l.drop (k+1)).all (Sc.known y.known))):=by show _=_;rw[HAL.out,xC l k hlt,List.all_cons]);have HTk:Hid _:=HI.out _ (Ru.termD_mem hlt);clear hc HAL;generalize Sc.termD l k=t at *;go_wp2_with fail;refine Calls.mono (aAj X y t wr (HW.out.below HB.out) hy HTk.out) ?_;rintro e w1 ⟨he1,hb1⟩;subst he1;have HB2:Hid _:=HB.out.trans (hb1.mono HB.out.size);clear hb1 q0 q1;cases hx:Sc.known y.known t
   ·(have HV:Hid (l.all (Sc.known y.known)=false):=by show _=_;rw[HD.out,hx];rfl);clear HD;go_wp2_with fail;go_ret;exact⟨k,rfl,by rw[HV.out];simp,HB2.out⟩
   (have HV:Hid (l.all (Sc.known y.known)=(l.drop (k+1)).all (Sc.known y.known)):=by show _=_;rw[HD.out,hx];rfl);clear HD;go_wp2_with fail;go_roundw;(case rel=>exact⟨k+1,oM,gN,HV.out,HB2.out⟩);case measure=>exact mI
  (have HV:Hid (l.all (Sc.known y.known)=true):=by show _=_;rw[HAL.out,aL oM];rfl);go_wp2_with fail;go_ret;exact⟨-1,rfl,rV,HB.out⟩
theorem sY(l:List Sc.Term)(v:Value)(X:Nat)(y:Ru.Way)(w:World)(hT:PTermsV w v l)(hl:l.length≤1000000)(hW:WayAt w X y)(hy:Ru.Wf 8 y)(hI:Ru.TermsIn 8 l):
 Calls Tryz.prog 211 #[v, .func (.func 212) #[] #[.pointer (some ⟨X,0,none⟩)]] w fun e w'=>e=.returned (.bool (!l.all (Sc.known y.known)))∧Below w.heap.size w w':=by
 have HI:Hid _:=aAy l v X y w hT hl hW hy hI;obtain⟨ao,cap,rfl,_,_⟩:=hT;clear hW hI
 go_enter Tryz.func211,Tryz.ntmps211
 go_wp2_with fail;refine Calls.mono HI.out ?_;rintro e w1 ⟨r,rfl,hr,hb⟩;go_wp2_with fail;go_ret;exact⟨by rw[←hr];rfl,hb⟩
def readyTvT(y:Ru.Way)(X b off ct:Nat)(t0 t1:Sc.Term):Nat→Value
 |11=>wayVal y
 |12=>.pointer (some ⟨X,3,none⟩)
 |13=>.slice (some ⟨b,off,none⟩) 3 ct
 |14=>.pointer (some ⟨b,off,none⟩)
 |15=>ptermVal t0
 |16=>.bool true
 |17=>.bool true
 |18=>wayVal y
 |19=>.pointer (some ⟨X,3,none⟩)
 |20=>.slice (some ⟨b,off,none⟩) 3 ct
 |21=>.pointer (some ⟨b,off+2,none⟩)
 |22=>ptermVal t1
 |23=>.bool (Sc.known y.known t1)
 |24=>.bool (Sc.known y.known t1)
 |4=>.bool (Sc.known y.known t1)
 |_=>.bool false
def readyTvF(y:Ru.Way)(X b off ct:Nat)(t0:Sc.Term):Nat→Value
 |11=>wayVal y
 |12=>.pointer (some ⟨X,3,none⟩)
 |13=>.slice (some ⟨b,off,none⟩) 3 ct
 |14=>.pointer (some ⟨b,off,none⟩)
 |15=>ptermVal t0
 |16=>.bool false
 |17=>.bool false
 |18=>undef
 |19=>undef
 |20=>undef
 |21=>undef
 |22=>undef
 |23=>undef
 |24=>.bool false
 |4=>.bool false
 |_=>.bool false
theorem aBj(l:Sc.Lit)(vt:Value)(y:Ru.Way)(w:World)(hT:PTermsV w vt l.terms)(hy:Ru.Wf 8 y)(hI:Ru.TermsIn 8 l.terms)(h4:l.kind=4→l.terms.length=3)(hl:l.terms.length≤1000000):
 Calls Tryz.prog 181 #[plitVal l vt,wayVal y] w fun e w'=>e=.returned (.bool (Ru.ready y l))∧Below w.heap.size w w':=by
 have hmf:∀(fn:Fn)(first cap:Array Value)(w:World),(Instr.makeFunc fn first cap).run Tryz.prog w=.ok (.func fn first cap) w:=fun _ _ _ _=>rfl;have HT:Hid _:=hT;obtain⟨at_,ct,rfl,_⟩:=id hT;obtain⟨kd,op,pd,ts⟩:=l;dsimp only at *;obtain⟨h0,h1,hb⟩:=lI w (.cells #[.int .i64 kd, .int .i64 op, .int .i64 pd, .slice at_ ts.length ct] 49) (.cells (wayArr y) 138);have HL:Hid _:=h0;have HW:Hid (WayAt ((w.alloc (.cells #[.int .i64 kd, .int .i64 op, .int .i64 pd, .slice at_ ts.length ct] 49)).alloc (.cells (wayArr y) 138)) (w.heap.size+1) y):=h1;have HB:Hid _:=hb;have HI:Hid _:=hI;have HTq:Hid _:=bM hT hb;clear h0 h1 hb hT hI;by_cases hk1:kd=1
 ·(have HV:Hid (Ru.ready y ⟨kd,op,pd,ts⟩=true):=by show _=_;unfold Ru.ready;rw[if_pos hk1]);(have g1:(kd==1)=true:=by simpa using hk1);clear h4 hk1;have d0:((w.alloc (.cells #[.int .i64 kd, .int .i64 op, .int .i64 pd, .slice at_ ts.length ct] 49)).alloc (.cells (wayArr y) 138)).cell? ⟨w.heap.size,0,none⟩=some (.int .i64 kd):=by rw[aC HL.out];rfl
  go_enter Tryz.func181,Tryz.ntmps181
  go_wp2_with fail;go_ret;exact⟨rV,HB.out⟩
 (have g1:(kd==1)=false:=by simpa using hk1);by_cases hk4:kd=4
 ·(have g4:(kd==4)=true:=by simpa using hk4);have h3:=h4 hk4;(have hV0:Ru.ready y ⟨kd,op,pd,ts⟩=(Sc.known y.known (Sc.termD ts 0)&&Sc.known y.known (Sc.termD ts 1)):=by unfold Ru.ready;rw[if_neg hk1,if_pos hk4]);obtain⟨b,off,rfl,hc⟩:=fG (by obtain⟨_,_,e,_,hA⟩:=HTq.out;injection e with e _ _;subst e;exact hA) 0 oM;have hc0:=hc 0 oM;have hc1:=hc 1 oM;have HT0:Hid (Ru.TermIn 8 (Sc.termD ts 0)):=HI.out _ (Ru.termD_mem oM);have HT1:Hid (Ru.TermIn 8 (Sc.termD ts 1)):=HI.out _ (Ru.termD_mem oM);obtain⟨p0,p1⟩:=hc0;obtain⟨p2,p3⟩:=hc1;clear hc h4 hk1 hk4;(have d0:((w.alloc (.cells #[.int .i64 kd, .int .i64 op, .int .i64 pd, .slice (some ⟨b,off,none⟩) ts.length ct] 49)).alloc (.cells (wayArr y) 138)).cell? ⟨w.heap.size,0,none⟩=some (.int .i64 kd):=by rw[aC HL.out];rfl);(have d3:((w.alloc (.cells #[.int .i64 kd, .int .i64 op, .int .i64 pd, .slice (some ⟨b,off,none⟩) ts.length ct] 49)).alloc (.cells (wayArr y) 138)).cell? ⟨w.heap.size,3,none⟩=some (.slice (some ⟨b,off,none⟩) ts.length ct):=by rw[aC HL.out];rfl);generalize Sc.termD ts 0=t0 at *;generalize Sc.termD ts 1=t1 at *;clear HT HTq HL HI;rw[jT,iV]at p0 p1;rw[Nat.one_mul]at p2 p3;generalize ts.length=nl at *;subst h3
  go_enter Tryz.func181,Tryz.ntmps181
  go_upto_region 5 with fail;generalize (w.alloc (.cells #[.int .i64 kd, .int .i64 op, .int .i64 pd, .slice (some ⟨b,off,none⟩) 3 ct] 49)).alloc (.cells (wayArr y) 138)=w1 at *;cases hk:Sc.known y.known t0
  ·have HK:Hid _:=hk;(have HV:Hid (Ru.ready y ⟨kd,op,pd,ts⟩=false):=by show _=_;rw[hV0,hk];rfl);clear hk hV0;refine eJ (fun tQ vQ _=>vQ=readyTvF y w.heap.size b off ct t0 tQ) kR kR (fun _ _ _ _ _ h=>h) ?hop ?hend
   case hop=>
    refine oC (fun a y_ h=>by have e3:a.eval (.tmp 3)=(.pointer (some ⟨w.heap.size+1,0,none⟩):Value):=h.old 3;refine opV (v:=wayVal y) ?_;exact fO rfl e3 (HW.out.below h.below) hy) ?_;refine oC (fun a y_ h=>by have e2:a.eval (.tmp 2)=(.pointer (some ⟨w.heap.size,0,none⟩):Value):=h.old 2;exact opX (.pointer (some ⟨w.heap.size,3,none⟩))) ?_;refine oC (fun a y_ h=>by have e12:a.eval (.tmp 12)=(.pointer (some ⟨w.heap.size,3,none⟩):Value):=h.of 12;have c3:=aD h.below d3;exact opX (.slice (some ⟨b,off,none⟩) 3 ct)) ?_;refine oC (fun a y_ h=>by have e13:a.eval (.tmp 13)=(.slice (some ⟨b,off,none⟩) 3 ct:Value):=h.of 13;exact opX (.pointer (some ⟨b,off,none⟩))) ?_;refine oC (fun a y_ h=>by have e14:a.eval (.tmp 14)=(.pointer (some ⟨b,off,none⟩):Value):=h.of 14;have c0:=aD h.below p0;have c1:=aD h.below p1;exact opX (ptermVal t0)) ?_;refine oC (fun a y_ h=>?_) ?_
    ·have e11:a.eval (.tmp 11)=(wayVal y:Value):=h.of 11;have e15:a.eval (.tmp 15)=(ptermVal t0:Value):=h.of 15;refine dD (f:=210) (args:=#[wayVal y,ptermVal t0]) (aM rfl) ?_ ?_
     ·have ec:=evc a;have ef:=evf a;generalize a.eval=ev at *;clear h;go_simp
     refine Calls.mono (lN y t0 y_ hy HT0.out) ?_;rintro _ y2 ⟨rfl,hb2⟩;exact⟨_,rfl,fun t ht=>by cases ht;exact congrArg Value.bool HK.out,hb2⟩
    refine oC (fun a y_ h=>by have e16:a.eval (.tmp 16)=(.bool false:Value):=h.of 16;exact opX (.bool false)) ?_;refine oC (fun a y_ h=>by exact opS (h.of 17)) ?_;refine oC (fun a y_ h=>by exact opS (h.of 17)) ?_;refine oC (fun a y_ h=>by exact opS (h.of 17)) ?_;refine oC (fun a y_ h=>by exact opS (h.of 17)) ?_;refine oC (fun a y_ h=>by exact opS (h.of 17)) ?_;refine oC (fun a y_ h=>by exact opS (h.of 17)) ?_;refine oC (fun a y_ h=>by have e17:a.eval (.tmp 17)=(.bool false:Value):=h.of 17;have e23:a.eval (.tmp 23)=(undef:Value):=h.of 23;exact opX (.bool false)) ?_;refine oC (fun a y_ h=>by have e24:a.eval (.tmp 24)=(.bool false:Value):=h.of 24;exact opX (.bool false)) ?_;exact AllOps.nil
   case hend=>rintro⟨tm,df⟩ wE hbE hdE hsE hstE hTE;have h4:tm.getD 4 undef=.bool false:=iI (T:=fun tQ vQ _=>vQ=readyTvF y w.heap.size b off ct t0 tQ) (w:=wE) (a:=⟨tm,df⟩) (t:=4) hTE kR;obtain rfl:df=[]:=hdE;obtain⟨fQ,hQ,hFE⟩:=fH [11,12,13,14,15,16,17,18,19,20,21,22,23,24,4] tm _ hsE hstE;clear hsE hstE hTE;simp only[cL,dB,(hQ 4).trans h4]at hFE;clear h4 hQ;simp only[aV,bS,bV]at hFE;subst hFE;go_wp2_with fail;go_ret;exact⟨rV,HB.out.trans (hbE.mono HB.out.size)⟩
  have HK:Hid _:=hk;(have HV:Hid (Ru.ready y ⟨kd,op,pd,ts⟩=Sc.known y.known t1):=by show _=_;rw[hV0,hk];rfl);clear hk hV0;refine eJ (fun tQ vQ _=>vQ=readyTvT y w.heap.size b off ct t0 t1 tQ) kR kR (fun _ _ _ _ _ h=>h) ?hop ?hend
  case hop=>
   refine oC (fun a y_ h=>by have e3:a.eval (.tmp 3)=(.pointer (some ⟨w.heap.size+1,0,none⟩):Value):=h.old 3;refine opV (v:=wayVal y) ?_;exact fO rfl e3 (HW.out.below h.below) hy) ?_;refine oC (fun a y_ h=>by have e2:a.eval (.tmp 2)=(.pointer (some ⟨w.heap.size,0,none⟩):Value):=h.old 2;exact opX (.pointer (some ⟨w.heap.size,3,none⟩))) ?_;refine oC (fun a y_ h=>by have e12:a.eval (.tmp 12)=(.pointer (some ⟨w.heap.size,3,none⟩):Value):=h.of 12;have c3:=aD h.below d3;exact opX (.slice (some ⟨b,off,none⟩) 3 ct)) ?_;refine oC (fun a y_ h=>by have e13:a.eval (.tmp 13)=(.slice (some ⟨b,off,none⟩) 3 ct:Value):=h.of 13;exact opX (.pointer (some ⟨b,off,none⟩))) ?_;refine oC (fun a y_ h=>by have e14:a.eval (.tmp 14)=(.pointer (some ⟨b,off,none⟩):Value):=h.of 14;have c0:=aD h.below p0;have c1:=aD h.below p1;exact opX (ptermVal t0)) ?_;refine oC (fun a y_ h=>?_) ?_
   ·have e11:a.eval (.tmp 11)=(wayVal y:Value):=h.of 11;have e15:a.eval (.tmp 15)=(ptermVal t0:Value):=h.of 15;refine dD (f:=210) (args:=#[wayVal y,ptermVal t0]) (aM rfl) ?_ ?_
    ·have ec:=evc a;have ef:=evf a;generalize a.eval=ev at *;clear h;go_simp
    refine Calls.mono (lN y t0 y_ hy HT0.out) ?_;rintro _ y2 ⟨rfl,hb2⟩;exact⟨_,rfl,fun t ht=>by cases ht;exact congrArg Value.bool HK.out,hb2⟩
   refine oC (fun a y_ h=>by have e16:a.eval (.tmp 16)=(.bool true:Value):=h.of 16;exact opX (.bool true)) ?_;refine oC (fun a y_ h=>by have e3:a.eval (.tmp 3)=(.pointer (some ⟨w.heap.size+1,0,none⟩):Value):=h.old 3;refine cP (v:=wayVal y) (w':=y_) (wG (h.of 17)) ?_ tR (aH _ _);exact fO rfl e3 (HW.out.below h.below) hy) ?_;refine oC (fun a y_ h=>by have e2:a.eval (.tmp 2)=(.pointer (some ⟨w.heap.size,0,none⟩):Value):=h.old 2;refine cP (v:=.pointer (some ⟨w.heap.size,3,none⟩)) (w':=y_) (wG (h.of 17)) ?_ tR (aH _ _);have ec:=evc a;generalize a.eval=ev at *;clear h;go_simp) ?_;refine oC (fun a y_ h=>by have e19:a.eval (.tmp 19)=(.pointer (some ⟨w.heap.size,3,none⟩):Value):=h.of 19;have c3:=aD h.below d3;refine cP (v:=.slice (some ⟨b,off,none⟩) 3 ct) (w':=y_) (wG (h.of 17)) ?_ tR (aH _ _);have ec:=evc a;generalize a.eval=ev at *;clear h;go_simp) ?_;refine oC (fun a y_ h=>by have e20:a.eval (.tmp 20)=(.slice (some ⟨b,off,none⟩) 3 ct:Value):=h.of 20;refine cP (v:=.pointer (some ⟨b,off+2,none⟩)) (w':=y_) (wG (h.of 17)) ?_ tR (aH _ _);have ec:=evc a;generalize a.eval=ev at *;clear h;go_simp) ?_;refine oC (fun a y_ h=>by have e21:a.eval (.tmp 21)=(.pointer (some ⟨b,off+2,none⟩):Value):=h.of 21;have c0:=aD h.below p2;have c1:=aD h.below p3;refine cP (v:=ptermVal t1) (w':=y_) (wG (h.of 17)) ?_ tR (aH _ _);have ec:=evc a;generalize a.eval=ev at *;clear h;go_simp) ?_;refine oC (fun a y_ h=>?_) ?_
   ·have e18:a.eval (.tmp 18)=(wayVal y:Value):=h.of 18;have e22:a.eval (.tmp 22)=(ptermVal t1:Value):=h.of 22;refine dD (f:=210) (args:=#[wayVal y,ptermVal t1]) (wG (h.of 17)) ?_ ?_
    ·have ec:=evc a;have ef:=evf a;generalize a.eval=ev at *;clear h;go_simp
    refine Calls.mono (lN y t1 y_ hy HT1.out) ?_;rintro _ y2 ⟨rfl,hb2⟩;exact⟨_,rfl,fun t ht=>by cases ht;exact rfl,hb2⟩
   refine oC (fun a y_ h=>by have e17:a.eval (.tmp 17)=(.bool true:Value):=h.of 17;have e23:a.eval (.tmp 23)=(.bool (Sc.known y.known t1):Value):=h.of 23;exact opX (.bool (Sc.known y.known t1))) ?_;refine oC (fun a y_ h=>by have e24:a.eval (.tmp 24)=(.bool (Sc.known y.known t1):Value):=h.of 24;exact opX (.bool (Sc.known y.known t1))) ?_;exact AllOps.nil
  case hend=>rintro⟨tm,df⟩ wE hbE hdE hsE hstE hTE;have h4:tm.getD 4 undef=.bool (Sc.known y.known t1):=iI (T:=fun tQ vQ _=>vQ=readyTvT y w.heap.size b off ct t0 t1 tQ) (w:=wE) (a:=⟨tm,df⟩) (t:=4) hTE kR;obtain rfl:df=[]:=hdE;obtain⟨fQ,hQ,hFE⟩:=fH [11,12,13,14,15,16,17,18,19,20,21,22,23,24,4] tm _ hsE hstE;clear hsE hstE hTE;simp only[cL,dB,(hQ 4).trans h4]at hFE;clear h4 hQ;simp only[aV,bS,bV]at hFE;subst hFE;go_wp2_with fail;go_ret;exact⟨rV,HB.out.trans (hbE.mono HB.out.size)⟩
 (have g4:(kd==4)=false:=by simpa using hk4);(have HV:Hid (Ru.ready y ⟨kd,op,pd,ts⟩=ts.all (Sc.known y.known)):=by show _=_;unfold Ru.ready;rw[if_neg hk1,if_neg hk4]);(have d0:((w.alloc (.cells #[.int .i64 kd, .int .i64 op, .int .i64 pd, .slice at_ ts.length ct] 49)).alloc (.cells (wayArr y) 138)).cell? ⟨w.heap.size,0,none⟩=some (.int .i64 kd):=by rw[aC HL.out];rfl);(have d3:((w.alloc (.cells #[.int .i64 kd, .int .i64 op, .int .i64 pd, .slice at_ ts.length ct] 49)).alloc (.cells (wayArr y) 138)).cell? ⟨w.heap.size,3,none⟩=some (.slice at_ ts.length ct):=by rw[aC HL.out];rfl);clear hk1 hk4 h4
 go_enter Tryz.func181,Tryz.ntmps181
 go_upto_region 6 with fail;generalize (w.alloc (.cells #[.int .i64 kd, .int .i64 op, .int .i64 pd, .slice at_ ts.length ct] 49)).alloc (.cells (wayArr y) 138)=w1 at *;go_wp2_with fail;refine Calls.mono (sY ts _ (w.heap.size+1) y w1 HTq.out hl HW.out hy HI.out) ?_;rintro _ w2 ⟨rfl,hb2⟩;have HB2:Hid _:=HB.out.trans (hb2.mono HB.out.size);clear hb2 d0 d3;go_wp2_with fail;go_ret;exact⟨by rw[HV.out];simp,HB2.out⟩
theorem WayAt.setKn{w:World}{b:Nat}{y:Ru.Way}(h:WayAt w b y)(hy:Ru.Wf 8 y)(i:Nat):WayAt (w.setCell ⟨b,8+i,none⟩ (.bool true)) b ⟨y.nums,y.known.set i true⟩:=by
 unfold WayAt at h ⊢;rw[bL h]
 congr 2
 unfold wayArr;(have h1:(y.nums.map (Value.int .i64)).length=8:=by rw[aO,hy.n]);rw[aV,List.set_append_right _ _ oM,h1,jC,iW]
theorem WayAt.setNum{w:World}{b:Nat}{y:Ru.Way}(h:WayAt w b y)(hy:Ru.Wf 8 y){i:Nat}(hi:i<8)(n:Int):WayAt (w.setCell ⟨b,i,none⟩ (.int .i64 n)) b ⟨y.nums.set i n,y.known⟩:=by
 unfold WayAt at h ⊢;rw[bL h]
 congr 2
 unfold wayArr;(have h1:(y.nums.map (Value.int .i64)).length=8:=by rw[aO,hy.n]);rw[aV,List.set_append_left _ _ oM,iW]
namespace Ru
def withO(y:Way)(ts:List Sc.Term)(ns:List Int):Way:=(withW y ts ns).getD way0
theorem with1_yes{y:Way}{t:Sc.Term}{n:Int}(hk:Sc.known y.known t=true)(h:num y.nums t=n):with1 y t n=some y:=by unfold with1;rw[if_pos hk,if_pos h]
theorem with1_no{y:Way}{t:Sc.Term}{n:Int}(hk:Sc.known y.known t=true)(h:¬num y.nums t=n):with1 y t n=none:=by unfold with1;rw[if_pos hk,if_neg h]
theorem with1_new{y:Way}{t:Sc.Term}{n:Int}(hk:Sc.known y.known t=false):with1 y t n=some ⟨y.nums.set t.var.toNat n,y.known.set t.var.toNat true⟩:=by unfold with1;rw[if_neg (by rw[hk];decide)]
theorem withW_drop(y:Way)(ts:List Sc.Term)(ns:List Int)(k:Nat)(h:k<ts.length):withW y (ts.drop k) (ns.drop k)=match with1 y (Sc.termD ts k) (Sc.intD ns k)with |none=>none|some y'=>withW y' (ts.drop (k+1)) (ns.drop (k+1)):=by rw[bG h];(have e1:Sc.termD ts k=ts[k]:=by unfold Sc.termD;rw[aE,aG h];rfl);(have e2:(ns.drop k).headD 0=Sc.intD ns k:=by unfold Sc.intD;rw[List.headD_eq_head?_getD,List.head?_drop,aE]);(have e3:(ns.drop k).tail=ns.drop (k+1):=by rw[List.tail_drop]);show(match with1 y ts[k] ((ns.drop k).headD 0)with |none=>none|some w'=>withW w' (ts.drop (k+1)) (ns.drop k).tail)=_;rw[e1,e2,e3]
theorem withW_end(y:Way)(ts:List Sc.Term)(ns:List Int):withW y (ts.drop ts.length) ns=some y:=by rw[List.drop_length];rfl
end Ru
structure WIn (w wr:World) (y:Ru.Way):Prop where
 box:WayAt wr w.heap.size y
 res:WayAt wr (w.heap.size+1) Ru.way0
 bel:Below w.heap.size w wr
 wf:Ru.Wf 8 y
theorem WIn.below{w wr wx:World}{y:Ru.Way}(h:WIn w wr y)(hb:Below wr.heap.size wr wx):WIn w wx y:=
 ⟨h.box.below hb,h.res.below hb,h.bel.trans (hb.mono h.bel.size),h.wf⟩
theorem WIn.set{w wr:World}{y:Ru.Way}(h:WIn w wr y){i:Nat}(hi:i<8)(n:Int):WIn w ((wr.setCell ⟨w.heap.size,8+i,none⟩ (.bool true)).setCell ⟨w.heap.size,i,none⟩ (.int .i64 n)) ⟨y.nums.set i n,y.known.set i true⟩:=by
 have h1:=h.box.setKn h.wf i;have h2:=WayAt.setNum h1 ⟨h.wf.n,by simpa using h.wf.k⟩ hi n;refine⟨h2,?_,?_,⟨by simpa using h.wf.n,by simpa using h.wf.k⟩⟩
 ·unfold WayAt;rw[bH oM,bH oM];exact h.res
 exact(h.bel.setCell (aF _) _).setCell (aF _) _
def withTv(z:Ru.Way)(t:Sc.Term)(bn on nl cn k:Nat)(n:Int):Nat→Value
 |33=>wayVal z
 |34=>.agg #[.int .i64 t.var, .int .i64 t.n]
 |35=>.int .i64 (Ru.num z.nums t)
 |36=>.slice (some ⟨bn,on,none⟩) nl cn
 |37=>.int .i64 k
 |38=>.pointer (some ⟨bn,on+k,none⟩)
 |39=>.int .i64 n
 |40=>.bool (Ru.num z.nums t != n)
 |_=>.bool false
theorem wY(y:Ru.Way)(ts:List Sc.Term)(ns:List Int)(vt vn:Value)(w:World)(hy:Ru.Wf 8 y)(hT:PTermsV w vt ts)(hN:IntsV w vn ns)(hl:ts.length=ns.length)(h3:ts.length≤1000)(hI:Ru.TermsIn 8 ts):
 Calls Tryz.prog 189 #[wayVal y,vt,vn] w fun e w'=>e=.returned (.tuple #[wayVal (Ru.withO y ts ns), .bool (Ru.withW y ts ns).isSome])∧Below w.heap.size w w':=by
 obtain⟨at_,ct,rfl,_,hT⟩:=hT;obtain⟨an,cn,rfl,hN⟩:=hN;obtain⟨h0,h1,hb⟩:=lI w (.cells (wayArr y) 138) (.cells #[.int .i64 0, .int .i64 0, .int .i64 0, .int .i64 0, .int .i64 0, .int .i64 0, .int .i64 0, .int .i64 0, .bool false, .bool false, .bool false, .bool false, .bool false, .bool false, .bool false, .bool false] 138);have HI:Hid (WIn w ((w.alloc (.cells (wayArr y) 138)).alloc (.cells #[.int .i64 0, .int .i64 0, .int .i64 0, .int .i64 0, .int .i64 0, .int .i64 0, .int .i64 0, .int .i64 0, .bool false, .bool false, .bool false, .bool false, .bool false, .bool false, .bool false, .bool false] 138)) y):=⟨h0,h1,hb,hy⟩;have HT:Hid _:=hT;have HN:Hid _:=hN;have HL:Hid _:=hl;have HTI:Hid _:=hI;clear h0 h1 hb hT hN hl hy hI
 go_enter Tryz.func189,Tryz.ntmps189
 go_wp2_with fail;generalize (w.alloc (.cells (wayArr y) 138)).alloc (.cells #[.int .i64 0, .int .i64 0, .int .i64 0, .int .i64 0, .int .i64 0, .int .i64 0, .int .i64 0, .int .i64 0, .bool false, .bool false, .bool false, .bool false, .bool false, .bool false, .bool false, .bool false] 138)=w1 at *;go_loopw [12] (fun i12 wr=>∃(k:Nat)(y':Ru.Way),k≤ts.length∧i12=.int .i64 k∧Hid (WIn w wr y')∧Hid (Ru.withW y ts ns=Ru.withW y' (ts.drop k) (ns.drop k))) (fun i12 _=>ts.length-(intOf i12).toNat);case atStart=>exact⟨0,y,aR _,rfl,HI.out,rfl⟩
 case round=>
  clear HI;obtain⟨k,yy,hk,rfl,HW,HE⟩:=hrel;by_cases hkl:k<ts.length
  ·obtain⟨b,off,rfl,hc⟩:=fG HT.out k hkl;have hc:=hc k hkl;obtain⟨bn,on,rfl,z0⟩:=fS HN.out k (by rw[←HL.out];exact hkl);have q0:=aD HW.out.bel hc.1;have q1:=aD HW.out.bel hc.2;(have hkn:k<ns.length:=by rw[←HL.out];exact hkl);have HD:Hid _:=Ru.withW_drop yy ts ns k hkl;have HTk:Hid (Ru.TermIn 8 (Sc.termD ts k)):=HTI.out _ (Ru.termD_mem hkl);have Z0:Hid _:=z0;clear hc z0;generalize Sc.termD ts k=t at *;generalize Sc.intD ns k=n at *;go_upto_region 4 with fail;have bT:=(aH wr.heap.size wr).alloc (aF _) (.cells #[.int .i64 t.var, .int .i64 t.n] 147);have HWq:Hid _:=HW.out.below bT;have HTB:Hid _:=heap_alloc_new wr (.cells #[.int .i64 t.var, .int .i64 t.n] 147);clear q0 q1 bT HW;generalize wr.alloc (.cells #[.int .i64 t.var, .int .i64 t.n] 147)=wq at *;generalize wr.heap.size=TB at *;(have t0:wq.cell? ⟨TB,0,none⟩=some (.int .i64 t.var):=by rw[aC HTB.out];rfl);(have t1:wq.cell? ⟨TB,1,none⟩=some (.int .i64 t.n):=by rw[aC HTB.out];rfl);go_wp2_with(refine eK (aM rfl) _ rfl _ rfl yy HWq.out.box HWq.out.wf ?_);clear t0 t1;refine Calls.mono (lN yy t wq HWq.out.wf HTk.out) ?_;rintro _ w2 ⟨rfl,hb2⟩;have HW2:Hid _:=HWq.out.below hb2;have HT2:Hid _:=(hb2.block _ (aY HTB.out)).trans HTB.out;clear hb2 HWq HTB;cases hkn2:Sc.known yy.known t
   ·have HK:Hid _:=hkn2;obtain⟨h0,_⟩:=Ru.known_in (w:=yy) (t:=t) (by rw[hkn2];decide);obtain⟨v,hv⟩:∃v:Nat,t.var=v:=⟨t.var.toNat,oM⟩;(have hv8:v<8:=by rcases HTk.out with h9|h9<;>omega);obtain⟨var,nn⟩:=t;dsimp only at hv;subst hv;(have hne:¬TB=w.heap.size:=fun e9=>by have h9:=HT2.out;rw[e9,HW2.out.box]at h9;injection h9 with h9;injection h9 with h91 h92;exact absurd h92 dE);((have t0:w2.cell? ⟨TB,0,none⟩=some (.int .i64 v):=by rw[aC HT2.out];rfl);have b0:=HW2.out.box.kn HW2.out.wf hv8;have f0:=bQ HW2.out.box (8+v);clear hkn2 h0;go_upto_region 6 with fail;have bel3:Below w.heap.size w (w2.setCell ⟨w.heap.size,8+v,none⟩ (.bool true)):=HW2.out.bel.setCell (aF _) _;have hT3:=(bH (w:=w2) (i:=8+v) (v:=.bool true) hne).trans HT2.out;have hB3:=HW2.out.box.setKn HW2.out.wf v;have z4:=aD bel3 Z0.out;(have t0':(w2.setCell ⟨w.heap.size,8+v,none⟩ (.bool true)).cell? ⟨TB,0,none⟩=some (.int .i64 v):=by rw[aC hT3];rfl);have b1:=hB3.num ⟨HW2.out.wf.n,by simpa using HW2.out.wf.k⟩ hv8;have f1:=bQ hB3 v;have HT3:Hid _:=hT3;have HW4:Hid _:=HW2.out.set hv8 n;clear hT3 hB3 bel3 t0 b0 f0;go_region;have hT4:=(bH (w:=w2.setCell ⟨w.heap.size,8+v,none⟩ (.bool true)) (i:=v) (v:=.int .i64 n) hne).trans HT3.out;have HT5:Hid _:=hT4;clear hT4 z4 t0' b1 f1 HT3 HT2 HW2;generalize (w2.setCell ⟨w.heap.size,8+v,none⟩ (.bool true)).setCell ⟨w.heap.size,v,none⟩ (.int .i64 n)=w3 at *;have HW4':Hid _:=HW4.out.below ((aH _ _).drew);have HT4:Hid (w3.drew.heap[TB]?=some (.cells #[.int .i64 v, .int .i64 nn] 147)):=HT5.out;clear HW4 HT5;have HW4:Hid _:=HW4'.out;clear HW4';generalize w3.drew=w4 at *;have HNUM:Hid (Ru.num (yy.nums.set v n) ⟨v,nn⟩=n):=by show _=_;unfold Ru.num;rw[if_neg (show¬(v:Int)<0 by omega)];have h9:=HW4.out.wf.n;simp only[eE]at h9;exact Ru.getD_set_eq _ _ _ _ (by show v<yy.nums.length;rw[h9];exact hv8));(have HE2:Hid (Ru.withW y ts ns=Ru.withW ⟨yy.nums.set v n,yy.known.set v true⟩ (ts.drop (k+1)) (ns.drop (k+1))):=by show _=_;rw[HE.out,HD.out,Ru.with1_new HK.out];rfl);go_upto_region 7 with fail;refine eJ (fun tQ vQ _=>vQ=withTv ((⟨yy.nums.set v n,yy.known.set v true⟩:Ru.Way)) ⟨v,nn⟩ bn on ns.length cn k n tQ) kR kR (fun _ _ _ _ _ h=>h) ?hopA ?hendA
    case hopA=>
     refine oC (fun a y h=>by have e3:a.eval (.tmp 3)=(.pointer (some ⟨w.heap.size,0,none⟩):Value):=h.old 3;refine opV (v:=wayVal (⟨yy.nums.set v n,yy.known.set v true⟩:Ru.Way)) ?_;exact fO rfl e3 (HW4.out.below h.below).box HW4.out.wf) ?_;refine oC (fun a y h=>by have e9:a.eval (.tmp 9)=(.pointer (some ⟨TB,0,none⟩):Value):=h.old 9;(have c0:y.cell? ⟨TB,0,none⟩=some (.int .i64 v):=by rw[aC ((h.below.block _ (aY HT4.out)).trans HT4.out)];rfl);(have c1:y.cell? ⟨TB,1,none⟩=some (.int .i64 nn):=by rw[aC ((h.below.block _ (aY HT4.out)).trans HT4.out)];rfl);exact opX (.agg #[.int .i64 v, .int .i64 nn])) ?_;refine oC (fun a y h=>?_) ?_
     ·have e33:a.eval (.tmp 33)=(wayVal (⟨yy.nums.set v n,yy.known.set v true⟩:Ru.Way):Value):=h.of 33;have e34:a.eval (.tmp 34)=(.agg #[.int .i64 v, .int .i64 nn]:Value):=h.of 34;refine dD (f:=187) (args:=#[wayVal (⟨yy.nums.set v n,yy.known.set v true⟩:Ru.Way), .agg #[.int .i64 v, .int .i64 nn]]) (aM rfl) ?_ ?_
      ·have ec:=evc a;have ef:=evf a;generalize a.eval=ev at *;clear h;go_simp
      refine Calls.mono (gZ ((⟨yy.nums.set v n,yy.known.set v true⟩:Ru.Way)) ⟨v,nn⟩ y HW4.out.wf HTk.out) ?_;rintro _ y2 ⟨rfl,hb2⟩;exact⟨_,rfl,fun t ht=>by cases ht;exact rfl,hb2⟩
     refine oC (fun a y h=>by have e2:a.eval (.tmp 2)=(.slice (some ⟨bn,on,none⟩) ns.length cn:Value):=h.old 2;exact opX (.slice (some ⟨bn,on,none⟩) ns.length cn)) ?_;refine oC (fun a y h=>by have e8:a.eval (.tmp 8)=(.int .i64 k:Value):=h.old 8;exact opX (.int .i64 k)) ?_;refine oC (fun a y h=>by have e36:a.eval (.tmp 36)=(.slice (some ⟨bn,on,none⟩) ns.length cn:Value):=h.of 36;have e37:a.eval (.tmp 37)=(.int .i64 k:Value):=h.of 37;exact opX (.pointer (some ⟨bn,on+k,none⟩))) ?_;refine oC (fun a y h=>by have e38:a.eval (.tmp 38)=(.pointer (some ⟨bn,on+k,none⟩):Value):=h.of 38;have c2:=aD (HW4.out.below h.below).bel Z0.out;exact opX (.int .i64 n)) ?_;refine oC (fun a y h=>by have e35:a.eval (.tmp 35)=(.int .i64 (Ru.num ((⟨yy.nums.set v n,yy.known.set v true⟩:Ru.Way)).nums ⟨v,nn⟩):Value):=h.of 35;have e39:a.eval (.tmp 39)=(.int .i64 n:Value):=h.of 39;exact opX (.bool (Ru.num ((⟨yy.nums.set v n,yy.known.set v true⟩:Ru.Way)).nums ⟨v,nn⟩ != n))) ?_;exact AllOps.nil
    case hendA=>rintro⟨tm,df⟩ wE hbE hdE hsE hstE hTE;have h40:tm.getD 40 undef=.bool (Ru.num ((⟨yy.nums.set v n,yy.known.set v true⟩:Ru.Way)).nums ⟨v,nn⟩ != n):=iI (T:=fun tQ vQ _=>vQ=withTv ((⟨yy.nums.set v n,yy.known.set v true⟩:Ru.Way)) ⟨v,nn⟩ bn on ns.length cn k n tQ) (w:=wE) (a:=⟨tm,df⟩) (t:=40) hTE kR;obtain rfl:df=[]:=hdE;obtain⟨fQ,hQ,hFE⟩:=fH [33,34,35,36,37,38,39,40] tm _ hsE hstE;clear hsE hstE hTE;simp only[cL,dB,(hQ 40).trans h40]at hFE;clear h40 hQ;simp only[aV,bS,bV]at hFE;subst hFE;have HW5:Hid _:=HW4.out.below hbE;clear hbE HW4 HT4;(have hq:(Ru.num (yy.nums.set v n) ⟨v,nn⟩ != n)=false:=by rw[HNUM.out];simp);rw[hq];go_wp2_with fail;go_roundw;(case rel=>exact⟨k+1,_,hkl,gN,HW5.out,HE2.out⟩);case measure=>exact mI
   have HK:Hid _:=hkn2;clear hkn2;have HW4:Hid _:=HW2.out;have HT4:Hid _:=HT2.out;clear HW2 HT2;generalize w2=w4 at *;go_upto_region 7 with fail;refine eJ (fun tQ vQ _=>vQ=withTv (yy) t bn on ns.length cn k n tQ) kR kR (fun _ _ _ _ _ h=>h) ?hopB ?hendB
   case hopB=>
    refine oC (fun a y h=>by have e3:a.eval (.tmp 3)=(.pointer (some ⟨w.heap.size,0,none⟩):Value):=h.old 3;refine opV (v:=wayVal yy) ?_;exact fO rfl e3 (HW4.out.below h.below).box HW4.out.wf) ?_;refine oC (fun a y h=>by have e9:a.eval (.tmp 9)=(.pointer (some ⟨TB,0,none⟩):Value):=h.old 9;(have c0:y.cell? ⟨TB,0,none⟩=some (.int .i64 t.var):=by rw[aC ((h.below.block _ (aY HT4.out)).trans HT4.out)];rfl);(have c1:y.cell? ⟨TB,1,none⟩=some (.int .i64 t.n):=by rw[aC ((h.below.block _ (aY HT4.out)).trans HT4.out)];rfl);exact opX (.agg #[.int .i64 t.var, .int .i64 t.n])) ?_;refine oC (fun a y h=>?_) ?_
    ·have e33:a.eval (.tmp 33)=(wayVal yy:Value):=h.of 33;have e34:a.eval (.tmp 34)=(.agg #[.int .i64 t.var, .int .i64 t.n]:Value):=h.of 34;refine dD (f:=187) (args:=#[wayVal yy, .agg #[.int .i64 t.var, .int .i64 t.n]]) (aM rfl) ?_ ?_
     ·have ec:=evc a;have ef:=evf a;generalize a.eval=ev at *;clear h;go_simp
     refine Calls.mono (gZ (yy) t y HW4.out.wf HTk.out) ?_;rintro _ y2 ⟨rfl,hb2⟩;exact⟨_,rfl,fun t ht=>by cases ht;exact rfl,hb2⟩
    refine oC (fun a y h=>by have e2:a.eval (.tmp 2)=(.slice (some ⟨bn,on,none⟩) ns.length cn:Value):=h.old 2;exact opX (.slice (some ⟨bn,on,none⟩) ns.length cn)) ?_;refine oC (fun a y h=>by have e8:a.eval (.tmp 8)=(.int .i64 k:Value):=h.old 8;exact opX (.int .i64 k)) ?_;refine oC (fun a y h=>by have e36:a.eval (.tmp 36)=(.slice (some ⟨bn,on,none⟩) ns.length cn:Value):=h.of 36;have e37:a.eval (.tmp 37)=(.int .i64 k:Value):=h.of 37;exact opX (.pointer (some ⟨bn,on+k,none⟩))) ?_;refine oC (fun a y h=>by have e38:a.eval (.tmp 38)=(.pointer (some ⟨bn,on+k,none⟩):Value):=h.of 38;have c2:=aD (HW4.out.below h.below).bel Z0.out;exact opX (.int .i64 n)) ?_;refine oC (fun a y h=>by have e35:a.eval (.tmp 35)=(.int .i64 (Ru.num (yy).nums t):Value):=h.of 35;have e39:a.eval (.tmp 39)=(.int .i64 n:Value):=h.of 39;exact opX (.bool (Ru.num (yy).nums t != n))) ?_;exact AllOps.nil
   case hendB=>
    rintro⟨tm,df⟩ wE hbE hdE hsE hstE hTE;have h40:tm.getD 40 undef=.bool (Ru.num (yy).nums t != n):=iI (T:=fun tQ vQ _=>vQ=withTv (yy) t bn on ns.length cn k n tQ) (w:=wE) (a:=⟨tm,df⟩) (t:=40) hTE kR;obtain rfl:df=[]:=hdE;obtain⟨fQ,hQ,hFE⟩:=fH [33,34,35,36,37,38,39,40] tm _ hsE hstE;clear hsE hstE hTE;simp only[cL,dB,(hQ 40).trans h40]at hFE;clear h40 hQ;simp only[aV,bS,bV]at hFE;subst hFE;have HW5:Hid _:=HW4.out.below hbE;clear hbE HW4 HT4;by_cases hnum:Ru.num yy.nums t=n
    ·(have HE2:Hid (Ru.withW y ts ns=Ru.withW yy (ts.drop (k+1)) (ns.drop (k+1))):=by show _=_;rw[HE.out,HD.out,Ru.with1_yes HK.out hnum]);(have hq:(Ru.num yy.nums t != n)=false:=by rw[hnum];simp);rw[hq];clear hnum hq;go_wp2_with fail;go_roundw;(case rel=>exact⟨k+1,_,hkl,gN,HW5.out,HE2.out⟩);case measure=>exact mI
    (have HE2:Hid (Ru.withW y ts ns=none):=by show _=_;rw[HE.out,HD.out,Ru.with1_no HK.out hnum]);(have hq:(Ru.num yy.nums t != n)=true:=by simpa using hnum);rw[hq];clear hnum hq;go_wp2_with(refine kG rfl _ _ rfl _ rfl Ru.way0 Ru.way0 rfl HW5.out.res ⟨rfl,rfl⟩ ⟨rfl,rfl⟩ ?_);refine bodyPost_ret (pF rfl rfl (qA HW5.out.res) ⟨rfl,rfl⟩) rfl ⟨?_,nA HW5.out.bel (iB _)⟩;unfold Ru.withO;rw[HE2.out];rfl
  have hdd:decide (k<ts.length)=false:=decide_eq_false hkl;have hke:k=ts.length:=oM;(have HE2:Hid (Ru.withW y ts ns=some yy):=by show _=_;rw[HE.out,hke];exact Ru.withW_end _ _ _);clear hke
  go_wp2_with(first
   |(refine eK (aM rfl) _ rfl _ rfl yy HW.out.box HW.out.wf ?_)
   |(refine kG rfl _ _ rfl _ rfl Ru.way0 yy rfl HW.out.res ⟨rfl,rfl⟩ HW.out.wf ?_))
  refine bodyPost_ret (pF rfl rfl (qA HW.out.res) HW.out.wf) rfl ⟨?_,nA HW.out.bel (iB _)⟩;unfold Ru.withO;rw[HE2.out];rfl
namespace Ru
section
variable {σ:Type}
def run(step:σ→Way→σ×Bool):σ→List Way→σ×Bool
 |s,[]=>(s,true)
 |s,x::L=>if(step s x).2=true then run step (step s x).1 L else((step s x).1,false)
def Lv(step:σ→Way→σ×Bool)(live:σ→Way→Prop):σ→List Way→Prop
 |_,[]=>True
 |s,x::L=>live s x∧((step s x).2=true→Lv step live (step s x).1 L)
theorem run_cons(step:σ→Way→σ×Bool)(s:σ)(x:Way)(L:List Way):run step s (x::L)=if(step s x).2=true then run step (step s x).1 L else((step s x).1,false):=rfl
theorem run_append(step:σ→Way→σ×Bool):∀(L M:List Way)(s:σ),run step s (L++M)=if(run step s L).2=true then run step (run step s L).1 M else((run step s L).1,false)
 |[],M,s=>by rw[eW];show _=if true=true then run step s M else _;rw[if_pos rfl]
 |x::L,M,s=>by
  rw[gS,run_cons,run_cons];by_cases h:(step s x).2=true
  ·rw[if_pos h,if_pos h,run_append step L M]
  rw[if_neg h,if_neg h];rfl
theorem run_flat(step:σ→Way→σ×Bool)(f:Way→List Way):∀(L:List Way)(s:σ),run step s (L.flatMap f)=run (fun s x=>run step s (f x)) s L
 |[],s=>rfl
 |x::L,s=>by rw[List.flatMap_cons,run_append];show _=if(run step s (f x)).2=true then run (fun s x=>run step s (f x)) (run step s (f x)).1 L else((run step s (f x)).1,false);rw[run_flat step f L]
theorem lv_append(step:σ→Way→σ×Bool)(live:σ→Way→Prop):∀(L M:List Way)(s:σ),Lv step live s (L++M)→Lv step live s L∧((run step s L).2=true→Lv step live (run step s L).1 M)
 |[],M,s,h=>⟨trivial,fun _=>h⟩
 |x::L,M,s,h=>by
  obtain⟨h1,h2⟩:=h;refine⟨⟨h1,fun hs=>(lv_append step live L M _ (h2 hs)).1⟩,fun hr=>?_⟩;rw[run_cons]at hr ⊢;by_cases hs:(step s x).2=true
  ·rw[if_pos hs]at hr ⊢;exact(lv_append step live L M _ (h2 hs)).2 hr
  rw[if_neg hs]at hr;cases hr
theorem lv_flat(step:σ→Way→σ×Bool)(live:σ→Way→Prop)(f:Way→List Way):∀(L:List Way)(s:σ),Lv step live s (L.flatMap f)→Lv (fun s x=>run step s (f x)) (fun s x=>Lv step live s (f x)) s L
 |[],s,_=>trivial
 |x::L,s,h=>by rw[List.flatMap_cons]at h;obtain⟨h1,h2⟩:=lv_append step live _ _ _ h;exact⟨h1,fun hs=>lv_flat step live f L _ (h2 hs)⟩
end
end Ru
structure Kp (n0 NB:Nat) (w w':World):Prop where
 os:w'.os=w.os
 tape:w'.tape=w.tape
 output:w'.output=w.output
 size:w.heap.size≤w'.heap.size
 low:∀k,k<n0→w'.heap[k]?=w.heap[k]?
 keep:∀k c t,w.heap[k]?=some (.cells c t)→k≠NB→t≠22→w'.heap[k]?=some (.cells c t)
theorem Kp.refl(n0 NB:Nat)(w:World):Kp n0 NB w w:=⟨rfl,rfl,rfl,aF _,fun _ _=>rfl,fun _ _ _ h _ _=>h⟩
theorem Kp.trans{n0 NB:Nat}{a b c:World}(h:Kp n0 NB a b)(k:Kp n0 NB b c):Kp n0 NB a c:=
 ⟨k.os.trans h.os,k.tape.trans h.tape,k.output.trans h.output,aX h.size k.size,fun j hj=>(k.low j hj).trans (h.low j hj),fun j o t hj h1 h2=>k.keep j o t (h.keep j o t hj h1 h2) h1 h2⟩
theorem Kp.of_below{n0 NB:Nat}{w w':World}(h:Below w.heap.size w w')(hn:n0≤w.heap.size):Kp n0 NB w w':=
 ⟨h.os,h.tape,h.output,h.size,fun k hk=>h.block k (bP hk hn),fun k _ _ hk _ _=>(h.block k (aY hk)).trans hk⟩
theorem Kp.below{n0 NB:Nat}{w0 w w':World}(h:Kp n0 NB w w')(hb:Below n0 w0 w):Below n0 w0 w':=
 ⟨h.os.trans hb.os,h.tape.trans hb.tape,h.output.trans hb.output,aX hb.size h.size,fun k hk=>(h.low k hk).trans (hb.block k hk)⟩
theorem Kp.way{n0 NB:Nat}{w w':World}(h:Kp n0 NB w w'){b:Nat}{y:Ru.Way}(hb:b≠NB)(hW:WayAt w b y):WayAt w' b y:=h.keep b _ _ hW hb dE
structure Tell (n0 NB h:Nat) (cb:Array Value) {σ:Type} (step:σ→Ru.Way→σ×Bool) (live:σ→Ru.Way→Prop) (I:σ→World→Prop):Prop where
 call:∀s w x,I s w→live s x→Ru.Wf 8 x→Calls Tryz.prog h (#[wayVal x]++cb) w fun e w'=>e=.returned (.bool (step s x).2)∧I (step s x).1 w'∧Kp n0 NB w w'
 grow:∀s w w',I s w→Below w.heap.size w w'→I s w'
 room:∀s w,I s w→n0≤w.heap.size∧NB<w.heap.size
namespace Ru
def onF(l:Sc.Lit)(y:Way)(f:Rl.Fc):Option Way:=if f.pred=l.pred then withW y l.terms f.args else none
theorem on_yes{facts:List Rl.Fc}{l:Sc.Lit}{y:Way}(h:l.kind=1):on facts l y=facts.filterMap (onF l y):=by unfold on;rw[if_pos h];rfl
theorem onF_drop(l:Sc.Lit)(y:Way)(facts:List Rl.Fc)(k:Nat)(h:k<facts.length):(facts.drop k).filterMap (onF l y)=(onF l y (Rl.factD facts k)).toList++(facts.drop (k+1)).filterMap (onF l y):=by rw[lU facts k h,fW];cases onF l y (Rl.factD facts k)<;>rfl
end Ru
theorem yU{σ:Type}{step:σ→Ru.Way→σ×Bool}{live:σ→Ru.Way→Prop}{I:σ→World→Prop}{NB hh:Nat}{cb:Array Value}(facts:List Rl.Fc)(l:Sc.Lit)(y:Ru.Way)(vf vt:Value)(w0 w:World)(s:σ)
 (hB0:Below w0.heap.size w0 w) (hF:FactsV w0 vf facts) (hFl:facts.length≤1000000) (hT:PTermsV w0 vt l.terms) (hTI:Ru.TermsIn 8 l.terms) (hA:∀f,f∈facts→f.pred=l.pred→l.terms.length=f.args.length) (hTl:l.terms.length≤1000) (hy:Ru.Wf 8 y)
 (TL:Tell w0.heap.size NB hh cb step live I) (he:∀args w,(callFunc hh args).run Tryz.prog w=.ok (.enter hh args) w) (hI:I s w) (hLv:Ru.Lv step live s (facts.filterMap (Ru.onF l y))):
 Calls Tryz.prog 184 #[vf,plitVal l vt,wayVal y, .func (.func hh) #[] cb] w fun e w'=>e=.returned (.bool (Ru.run step s (facts.filterMap (Ru.onF l y))).2)∧I (Ru.run step s (facts.filterMap (Ru.onF l y))).1 w'∧Kp w0.heap.size NB w w':=by
 obtain⟨ao,cap,rfl,_,hFA⟩:=hF;have HT:Hid _:=hT;obtain⟨at_,ct,rfl,_⟩:=id hT;obtain⟨kd,op,pd,ts⟩:=l;dsimp only at *;obtain⟨h0,h1,hb⟩:=lI w (.cells #[.int .i64 kd, .int .i64 op, .int .i64 pd, .slice at_ ts.length ct] 49) (.cells (wayArr y) 138);have HL:Hid _:=h0;have HW:Hid (WayAt ((w.alloc (.cells #[.int .i64 kd, .int .i64 op, .int .i64 pd, .slice at_ ts.length ct] 49)).alloc (.cells (wayArr y) 138)) (w.heap.size+1) y):=h1;have hroom:=TL.room s w hI;have HI:Hid _:=TL.grow _ _ _ hI hb;have HK:Hid (Kp w0.heap.size NB w ((w.alloc (.cells #[.int .i64 kd, .int .i64 op, .int .i64 pd, .slice at_ ts.length ct] 49)).alloc (.cells (wayArr y) 138))):=Kp.of_below hb hroom.1;have HB0:Hid _:=hB0;have HFA:Hid _:=hFA;have HA:Hid _:=hA;have HTI:Hid _:=hTI;have HLv:Hid _:=hLv;have HTL:Hid _:=TL;have hNB:=hroom.2;clear h0 h1 hb hT hI hroom hB0 hFA hA hTI hLv TL
 go_enter Tryz.func184,Tryz.ntmps184
 go_wp2_with fail;generalize (w.alloc (.cells #[.int .i64 kd, .int .i64 op, .int .i64 pd, .slice at_ ts.length ct] 49)).alloc (.cells (wayArr y) 138)=w1 at *;go_loopw [15] (fun i wr=>∃(k:Nat)(s':σ),k≤facts.length∧i=.int .i64 k∧Hid (I s' wr)∧Hid (Kp w0.heap.size NB w wr)∧Hid (wr.heap[w.heap.size]?=some (.cells #[.int .i64 kd, .int .i64 op, .int .i64 pd, .slice at_ ts.length ct] 49))∧Hid (WayAt wr (w.heap.size+1) y)∧Hid (Ru.run step s (facts.filterMap (Ru.onF ⟨kd,op,pd,ts⟩ y))=Ru.run step s' ((facts.drop k).filterMap (Ru.onF ⟨kd,op,pd,ts⟩ y)))∧Hid (Ru.Lv step live s' ((facts.drop k).filterMap (Ru.onF ⟨kd,op,pd,ts⟩ y)))) (fun i _=>facts.length-(intOf i).toNat);case atStart=>exact⟨0,s,aR _,rfl,HI.out,HK.out,HL.out,HW.out,rfl,HLv.out⟩
 case round=>
  clear HI HK HL HW HLv;obtain⟨k,s',hk,rfl,HI,HK,HL,HW,HR,HLv⟩:=hrel;by_cases hlt:k<facts.length
  ·have HBr:Hid (Below w0.heap.size w0 wr):=HK.out.below HB0.out;obtain⟨b,off,rfl,p0,fv,p1,hIv⟩:=eY HFA.out k hlt;have q0:=aD HBr.out p0;have q1:=aD HBr.out p1;have HIV:Hid (IntsV w0 fv (Rl.factD facts k).args):=hIv;obtain⟨af,cf,rfl,_⟩:=hIv;have HD:Hid _:=Ru.onF_drop ⟨kd,op,pd,ts⟩ y facts k hlt;have HAf:Hid ((Rl.factD facts k).pred=pd→ts.length=(Rl.factD facts k).args.length):=HA.out _ (eP facts k hlt);clear p0 p1;generalize Rl.factD facts k=f at *;(have d2:wr.cell? ⟨w.heap.size,2,none⟩=some (.int .i64 pd):=by rw[aC HL.out];rfl);go_upto_region 4 with fail;have bT:=(aH wr.heap.size wr).alloc (aF _) (.cells #[.int .i64 f.pred, .slice af f.args.length cf] 55);have hTB:=heap_alloc_new wr (.cells #[.int .i64 f.pred, .slice af f.args.length cf] 55);have HTB:Hid _:=hTB;have HIq:Hid _:=HTL.out.grow _ _ _ HI.out bT;have HKq:Hid _:=HK.out.trans (Kp.of_below bT (HTL.out.room _ _ HI.out).1);have HLq:Hid _:=(bT.block _ (aY HL.out)).trans HL.out;have HWq:Hid _:=HW.out.below bT;clear q0 q1 d2 bT hTB HI HK HL HW HBr;generalize wr.alloc (.cells #[.int .i64 f.pred, .slice af f.args.length cf] 55)=wq at *;generalize wr.heap.size=TB at *;(have f0:wq.cell? ⟨TB,0,none⟩=some (.int .i64 f.pred):=by rw[aC HTB.out];rfl);(have f1:wq.cell? ⟨TB,1,none⟩=some (.slice af f.args.length cf):=by rw[aC HTB.out];rfl);(have d2:wq.cell? ⟨w.heap.size,2,none⟩=some (.int .i64 pd):=by rw[aC HLq.out];rfl);(have d3:wq.cell? ⟨w.heap.size,3,none⟩=some (.slice at_ ts.length ct):=by rw[aC HLq.out];rfl);by_cases hp:f.pred=pd
   ·(have g1:(f.pred==pd)=true:=by simpa using hp);(have g2:(f.pred != pd)=false:=by simpa using hp);(have HOF:Hid (Ru.onF ⟨kd,op,pd,ts⟩ y f=Ru.withW y ts f.args):=by show _=_;unfold Ru.onF;rw[if_pos hp]);have HLE:Hid _:=HAf.out hp;have HBq:Hid (Below w0.heap.size w0 wq):=HKq.out.below HB0.out;clear hp;go_wp2_with(refine eK (aM rfl) _ rfl _ rfl y HWq.out hy ?_);refine Calls.mono (wY y ts f.args _ _ wq hy (bM HT.out HBq.out) (aK HIV.out HBq.out) HLE.out hTl HTI.out) ?_;rintro _ w2 ⟨rfl,hb2⟩;have HI2:Hid _:=HTL.out.grow _ _ _ HIq.out hb2;have HK2:Hid _:=HKq.out.trans (Kp.of_below hb2 (HTL.out.room _ _ HIq.out).1);have HL2:Hid _:=(hb2.block _ (aY HLq.out)).trans HLq.out;have HW2:Hid (WayAt w2 (w.heap.size+1) y):=WayAt.below HWq.out hb2;have hNB2:=(HTL.out.room _ _ HI2.out);clear hb2 f0 f1 d2 d3 g1 g2 HIq HKq HLq HWq HTB HBq;have HZW:Hid (Ru.Wf 8 (Ru.withO y ts f.args)):=by
     show Ru.Wf 8 _;unfold Ru.withO
     cases hx:Ru.withW y ts f.args with
     |none=>exact⟨rfl,rfl⟩
     |some z=>exact Ru.withW_wf hy hx
    have bZ:=(aH w2.heap.size w2).alloc (aF _) (.cells (wayArr (Ru.withO y ts f.args)) 138);have HI3:Hid _:=HTL.out.grow _ _ _ HI2.out bZ;have HK3:Hid _:=HK2.out.trans (Kp.of_below bZ hNB2.1);have HL3:Hid _:=(bZ.block _ (aY HL2.out)).trans HL2.out;have HW3:Hid _:=WayAt.below HW2.out bZ;have HZ3:Hid (WayAt (w2.alloc (.cells (wayArr (Ru.withO y ts f.args)) 138)) w2.heap.size (Ru.withO y ts f.args)):=heap_alloc_new w2 _;clear bZ hNB2;go_upto_region 6 with(refine kG rfl _ _ rfl w2.heap.size rfl Ru.way0 (Ru.withO y ts f.args) rfl (heap_alloc_new w2 _) ⟨rfl,rfl⟩ HZW.out ?_;rw[World.setRow_alloc_new]);generalize w2.alloc (.cells (wayArr (Ru.withO y ts f.args)) 138)=w3 at *;generalize w2.heap.size=ZB at *;clear HI2 HK2 HL2 HW2
    cases hx:Ru.withW y ts f.args with
    |none=>
     have HOF2:Hid (Ru.onF ⟨kd,op,pd,ts⟩ y f=none):=HOF.out.trans hx;have hs:(none:Option Ru.Way).isSome=false:=rfl;clear hx;go_wp2_with fail;go_roundw;(case rel=>exact⟨k+1,s',hlt,gN,HI3.out,HK3.out,HL3.out,HW3.out,by show _=_;rw[HR.out,HD.out,HOF2.out];rfl,by have h9:=HLv.out;rw[HD.out,HOF2.out]at h9;exact h9⟩);case measure=>exact mI
    |some z=>
     have HOF2:Hid (Ru.onF ⟨kd,op,pd,ts⟩ y f=some z):=HOF.out.trans hx;(have hz:Ru.withO y ts f.args=z:=by unfold Ru.withO;rw[hx];rfl);rw[hz]at HZ3 HZW;(have HLv2:Hid (Ru.Lv step live s' (z::(facts.drop (k+1)).filterMap (Ru.onF ⟨kd,op,pd,ts⟩ y))):=by have h9:=HLv.out;rw[HD.out,HOF2.out]at h9;exact h9);(have HR2:Hid (Ru.run step s (facts.filterMap (Ru.onF ⟨kd,op,pd,ts⟩ y))=Ru.run step s' (z::(facts.drop (k+1)).filterMap (Ru.onF ⟨kd,op,pd,ts⟩ y))):=by show _=_;rw[HR.out,HD.out,HOF2.out];rfl);clear hx hz HLv HR HOF HOF2;go_wp2_with(refine eK (by first|exact aM rfl|exact jY rfl rfl rfl rfl) _ rfl _ rfl z HZ3.out HZW.out ?_);refine Calls.mono (HTL.out.call s' w3 z HI3.out HLv2.out.1 HZW.out) ?_;rintro e w4 ⟨he4,hI4,hK4⟩;subst he4;have HI4:Hid _:=hI4;have HK4:Hid _:=HK3.out.trans hK4;have HL4:Hid _:=hK4.keep _ _ _ HL3.out oM dE;have HW4:Hid _:=hK4.way oM HW3.out;clear hI4 hK4;cases hq:(step s' z).2
     ·(have HE:Hid (Ru.run step s (facts.filterMap (Ru.onF ⟨kd,op,pd,ts⟩ y))=((step s' z).1,false)):=by show _=_;rw[HR2.out,Ru.run_cons,hq];rfl);clear hq;go_wp2_with fail;go_ret;exact⟨by rw[HE.out];rfl,by rw[HE.out];exact HI4.out,HK4.out⟩
     (have HE:Hid (Ru.run step s (facts.filterMap (Ru.onF ⟨kd,op,pd,ts⟩ y))=Ru.run step (step s' z).1 ((facts.drop (k+1)).filterMap (Ru.onF ⟨kd,op,pd,ts⟩ y))):=by show _=_;rw[HR2.out,Ru.run_cons,if_pos hq]);have HLv3:Hid _:=HLv2.out.2 hq;clear hq;go_wp2_with fail;go_roundw;(case rel=>exact⟨k+1,_,hlt,gN,HI4.out,HK4.out,HL4.out,HW4.out,HE.out,HLv3.out⟩);case measure=>exact mI
   (have g1:(f.pred==pd)=false:=by simpa using hp);(have g2:(f.pred != pd)=true:=by simpa using hp);(have HOF:Hid (Ru.onF ⟨kd,op,pd,ts⟩ y f=none):=by show _=_;unfold Ru.onF;rw[if_neg hp]);clear hp;go_wp2_with fail;go_roundw;(case rel=>exact⟨k+1,s',hlt,gN,HIq.out,HKq.out,HLq.out,HWq.out,by show _=_;rw[HR.out,HD.out,HOF.out];rfl,by have h9:=HLv.out;rw[HD.out,HOF.out]at h9;exact h9⟩);case measure=>exact mI
  (have HE:Hid (Ru.run step s (facts.filterMap (Ru.onF ⟨kd,op,pd,ts⟩ y))=(s',true)):=by show _=_;rw[HR.out,aL oM];rfl);have hdd:decide (k<facts.length)=false:=decide_eq_false hlt;go_wp2_with fail;go_ret;exact⟨by rw[HE.out];rfl,by rw[HE.out];exact HI.out,HK.out⟩
end Go.Proofs.YthenjegmigeieaaGreat
