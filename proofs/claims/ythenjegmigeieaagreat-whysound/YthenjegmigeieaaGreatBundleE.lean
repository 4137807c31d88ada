/- Own texts, one behind the other (part 5). -/
import Derived.Test.YthenjegmigeieaaGreatBundleD
import Derived.Test.YthenjegmigeieaaGreatRows
set_option maxRecDepth 100000
set_option maxHeartbeats 8000000
namespace Go.Proofs.YthenjegmigeieaaGreat
open Go.RowKit
def tabFine(ops:Array Oper)(n:Nat):Bool:=
 decide ((ops.toList.filterMap (·.dst)).Nodup)&&(ops.toList.filterMap (·.dst)).all (fun t=>decide (t<n))&&(List.range ops.size).all (fun i=>((ops[i]?).map (fun o=>o.after.toList.all (fun e=>decide (e.on<i)))).getD true)
def tabFineR(ops:Array Oper)(n:Nat):Bool:=
 decide ((ops.toList.filterMap (·.dst)).Nodup)&&(ops.toList.filterMap (·.dst)).all (fun t=>decide (t<n))&&(List.range ops.size).all (fun i=>((ops[i]?).map (fun o=>o.after.toList.all (fun e=> !Region.binds .any e||decide (e.on<i)))).getD true)
theorem tabFine_R{ops:Array Oper}{n:Nat}(h:tabFine ops n=true):tabFineR ops n=true:=by
 unfold tabFine at h;unfold tabFineR;rw[Bool.and_eq_true]at h ⊢;refine⟨h.1,List.all_eq_true.mpr fun i hi=>?_⟩;have h1:=List.all_eq_true.mp h.2 i hi
 cases ho:ops[i]? with
 |none=>rfl
 |some o=>
  rw[ho,Option.map_some,Option.getD_some]at h1;refine List.all_eq_true.mpr fun e he=>?_;rw[List.all_eq_true.mp h1 e he,Bool.or_true]
structure OpIn (ops:Array Oper) (T:Nat→Value→World→Prop) (a0:Act) (w0:World) (o:Oper) (a:Act) (w:World):Prop where
 below:Below w0.heap.size w0 w
 still:∀t,t∉ops.toList.filterMap (·.dst)→a.tmps.getD t undef=a0.tmps.getD t undef
 has:∀e,e∈o.after→Region.binds .any e=true→∀(o':Oper)(t:Nat),ops[e.on]?=some o'→o'.dst=some t→T t (a.tmps.getD t undef) w
def OpOk(P:Program)(ops:Array Oper)(Q:Exit→Act→World→Prop)(T:Nat→Value→World→Prop)(o:Oper)(a:Act)(w:World):Prop:=
 if Region.wanted o (yielded ops a.tmps)then o.wp P a w (fun a' w'=>∃v,a'=a.put o.dst v∧(∀t,o.dst=some t→T t v w')∧Below w.heap.size w w') Q∨(o.asks P a w∧LetsOut Q)
 else∀t,o.dst=some t→T t undef w
theorem put_get_self{a:Act}{t:Nat}{v:Value}(h:t<a.tmps.size):(a.put (some t) v).tmps.getD t undef=v:=by simp[Act.put,Array.getD_eq_getD_getElem?,h]
theorem put_get_ne{a:Act}{t u:Nat}{v:Value}(h:u≠t):(a.put (some t) v).tmps.getD u undef=a.tmps.getD u undef:=by simp[Act.put,Array.getD_eq_getD_getElem?,Ne.symm h]
theorem put_size{a:Act}{d:Option Nat}{v:Value}:(a.put d v).tmps.size=a.tmps.size:=by cases d<;>simp[Act.put]
theorem put_defers{a:Act}{d:Option Nat}{v:Value}:(a.put d v).defers=a.defers:=by cases d<;>simp[Act.put]
theorem put_still{a a0:Act}{v:Value}{o:Oper}{D:List Nat}(hD:∀u,o.dst=some u→u∈D)(h:∀t,t∉D→a.tmps.getD t undef=a0.tmps.getD t undef)(t:Nat)(ht:t∉D):(a.put o.dst v).tmps.getD t undef=a0.tmps.getD t undef:=by
 cases hd:o.dst with
 |none=>exact h t ht
 |some u=>
  have hne:t≠u:=fun e=>ht (e▸hD u hd);rw[put_get_ne hne];exact h t ht
def reach(ops:Array Oper):Nat→Nat→Nat→Bool
 |0,_,_=>false
 |f+1,i,j=>((ops[i]?).map fun o=>o.after.toList.any fun e=>Region.binds .any e&&(e.on==j||reach ops f e.on j)).getD false
def Closed(ops:Array Oper)(s:Array Bool):Prop:=∀(i:Nat)(o:Oper),s[i]?=some true→ops[i]?=some o→∀e,e∈o.after→Region.binds .any e=true→s[e.on]?=some true
theorem reach_done{ops:Array Oper}{s:Array Bool}(hC:Closed ops s):∀(f i j:Nat)(o:Oper),ops[i]?=some o→(∀e,e∈o.after→Region.binds .any e=true→s[e.on]?=some true)→reach ops f i j=true→s[j]?=some true
 |0,_,_,_,_,_,h=>by cases h
 |f+1,i,j,o,ho,hd,h=>by
  unfold reach at h;rw[ho,Option.map_some,Option.getD_some]at h;obtain⟨e,he,h2⟩:=List.any_eq_true.mp h;rw[Bool.and_eq_true,Bool.or_eq_true]at h2;have hse:=hd e (by simpa using he) h2.1;rcases h2.2 with h3|h3
  ·(have h3:e.on=j:=by simpa using h3);rw[←h3];exact hse
  cases hoe:ops[e.on]? with
  |none=>
   cases f with
   |zero=>cases h3
   |succ f=>unfold reach at h3;rw[hoe]at h3;cases h3
  |some oe=>exact reach_done hC f e.on j oe hoe (fun e' he' hb'=>hC e.on oe hse hoe e' he' hb') h3
theorem reach_no{ops:Array Oper}{s:Array Bool}(hC:Closed ops s){i j:Nat}(hi:s[i]?=some true)(hj:s[j]?=some false):reach ops 12 i j=false:=by
 cases hr:reach ops 12 i j with
 |false=>rfl
 |true=>
  cases ho:ops[i]? with
  |none=>unfold reach at hr;rw[ho]at hr;cases hr
  |some o=>
   have h1:=reach_done hC 12 i j o ho (hC i o hi ho) hr;rw[hj]at h1;cases h1
def tailFine(ops:Array Oper)(L:Nat):Bool:=(List.range L).all (fun j=>reach ops 12 L j)&&(List.range ops.size).all fun i=> !decide (L<i)||reach ops 12 i (i-1)
section
variable {P:Program} {ops:Array Oper} {Q:Exit→Act→World→Prop}
theorem dst_mem{i:Nat}{o:Oper}{t:Nat}(h:ops[i]?=some o)(ht:o.dst=some t):t∈ops.toList.filterMap (·.dst):=by refine List.mem_filterMap.mpr ⟨o,?_,ht⟩;rw[←Array.getElem?_toList]at h;exact List.mem_of_getElem? h
theorem dst_inj:∀(l:List Oper),(l.filterMap (·.dst)).Nodup→∀(i j:Nat)(o o':Oper)(t:Nat),l[i]?=some o→l[j]?=some o'→o.dst=some t→o'.dst=some t→i=j
 |[],_,i,j,o,o',t,h,_,_,_=>by simp at h
 |x::l,hn,i,j,o,o',t,hi,hj,ho,ho'=>by
  have hmem:∀k (o:Oper),l[k]?=some o→o.dst=some t→t∈l.filterMap (·.dst):=fun k o h1 h2=>List.mem_filterMap.mpr ⟨o,List.mem_of_getElem? h1,h2⟩
  cases i with
  |zero=>
   cases j with
   |zero=>rfl
   |succ j=>
    simp only[List.getElem?_cons_zero,Option.some.injEq]at hi;subst hi;simp only[List.getElem?_cons_succ]at hj;rw[List.filterMap_cons,ho]at hn;exact absurd (hmem j o' hj ho') (List.nodup_cons.mp hn).1
  |succ i=>
   cases j with
   |zero=>
    simp only[List.getElem?_cons_zero,Option.some.injEq]at hj;subst hj;simp only[List.getElem?_cons_succ]at hi;rw[List.filterMap_cons,ho']at hn;exact absurd (hmem i o hi ho) (List.nodup_cons.mp hn).1
   |succ j=>
    simp only[List.getElem?_cons_succ]at hi hj;have hn':(l.filterMap (·.dst)).Nodup:=by
     rw[List.filterMap_cons]at hn
     cases hx:x.dst with
     |none=>rw[hx]at hn;exact hn
     |some z=>rw[hx]at hn;exact(List.nodup_cons.mp hn).2
    exact congrArg (·+1) (dst_inj l hn' i j o o' t hi hj ho ho')
theorem rg_take{i L:Nat}{o:Oper}(hi:i<L)(ho:ops[i]?=some o):o∈ops.toList.take L:=by refine List.mem_of_getElem? (i:=i) ?_;rw[List.getElem?_take,if_pos hi,Array.getElem?_toList];exact ho
theorem rgs_self{s:Array Bool}{i:Nat}(h:s[i]?=some false):(s.setIfInBounds i true)[i]?=some true:=by rw[Array.getElem?_setIfInBounds,if_pos rfl,if_pos (Array.getElem?_eq_some_iff.mp h).1]
theorem rgs_ne{s:Array Bool}{i j:Nat}(h:j≠i):(s.setIfInBounds i true)[j]?=s[j]?:=by rw[Array.getElem?_setIfInBounds,if_neg (Ne.symm h)]
theorem rgs_up{s:Array Bool}{i j:Nat}(hi:s[i]?=some false)(h:s[j]?=some true):(s.setIfInBounds i true)[j]?=some true:=by
 by_cases e:j=i
 ·rw[e];exact rgs_self hi
 rw[rgs_ne e];exact h
theorem rgs_some{s:Array Bool}{i:Nat}(h:i<s.size):s[i]?=some false∨s[i]?=some true:=by
 rw[Array.getElem?_eq_getElem h];cases s[i]
 ·exact .inl rfl
 exact .inr rfl
theorem tab_ahead{n:Nat}(hf:tabFineR ops n=true)(i:Nat)(o:Oper)(ho:ops[i]?=some o)(e:Edge)(he:e∈o.after)(hbe:Region.binds .any e=true):e.on<i:=by unfold tabFineR at hf;rw[Bool.and_eq_true]at hf;have h:=List.all_eq_true.mp hf.2 i (List.mem_range.mpr (Array.getElem?_eq_some_iff.mp ho).1);rw[ho,Option.map_some,Option.getD_some]at h;have h9:=List.all_eq_true.mp h e (by simpa using he);rw[hbe]at h9;exact of_decide_eq_true (by simpa using h9)
theorem rg_done{n:Nat}{s:Array Bool}(hf:tabFineR ops n=true)(hs:s.size=ops.size)(hr:Region.ready .any ops s=[]):∀m:Nat,m≤ops.size→∀i:Nat,i<m→s[i]?=some true:=by
 intro m
 induction m with
 |zero=>intro _ i hi;exact absurd hi (Nat.not_lt_zero _)
 |succ m ih=>
  intro hn i hi;have ih:=ih oM;by_cases hin:i<m
  ·exact ih i hin
  obtain rfl:i=m:=oM;refine(rgs_some (s:=s) (i:=i) oM).resolve_left fun hsi=>?_;have hio:i<ops.size:=oM;have :i∈Region.ready .any ops s:=by
   unfold Region.ready;refine List.mem_filter.mpr ⟨List.mem_range.mpr hio,?_⟩;rw[Bool.and_eq_true];refine⟨by simp[Array.getD_eq_getD_getElem?,hsi],?_⟩;have ho:ops[i]?=some ops[i]:=Array.getElem?_eq_getElem hio;rw[ho,Option.map_some,Option.getD_some,Array.all_eq_true_iff_forall_mem];intro e he
   cases hbe:Region.binds .any e with
   |false=>rfl
   |true=>simp[Array.getD_eq_getD_getElem?,ih e.on (tab_ahead hf i _ ho e he hbe)]
  rw[hr]at this;cases this
theorem wp_region_skel(J:Array Bool→Act→World→Prop)(L:Nat){n id:Nat}{a0:Act}{w0:World}(hL:L≤ops.size)(htf:L<ops.size→tailFine ops L=true)(hm:P.follows .mixedOrders=true)(hf:tabFineR ops n=true)
 (hstep:∀s a w i o,s.size=ops.size→Closed ops s→J s a w→i<L→s[i]?=some false→ops[i]?=some o→(∀e,e∈o.after→Region.binds .any e=true→s[e.on]?=some true)→wpOp P ops Q i (J (s.setIfInBounds i true)) a w)
 (htail:∀s a w,(∀j,j<L→s[j]?=some true)→J s a w→wpOps P ops Q (List.range' L (ops.size-L)) a w)
 (h0:J (Array.replicate ops.size false) a0 {w0 with drawn:=w0.drawn+1}):(Code.region id ops true).wp P Q a0 w0:=by
 (have ht1:L<ops.size→∀j,j<L→reach ops 12 L j=true:=fun hl j hj=>by have h:=htf hl;unfold tailFine at h;rw[Bool.and_eq_true]at h;exact List.all_eq_true.mp h.1 j (List.mem_range.mpr hj));have ht2:∀i,i<ops.size→L<i→reach ops 12 i (i-1)=true:=fun i hi hLi=>by have h:=htf oM;unfold tailFine at h;rw[Bool.and_eq_true]at h;have h:=List.all_eq_true.mp h.2 i (List.mem_range.mpr hi);rw[decide_eq_true hLi]at h;simpa using h
 refine wp_region_inv (fun s a w=>(s.size=ops.size∧Closed ops s)∧(((∀i,L≤i→i<ops.size→s[i]?=some false)∧J s a w)∨
  (∃m,L≤m∧m≤ops.size∧(∀i,i<m→s[i]?=some true)∧(∀i,m≤i→i<ops.size→s[i]?=some false)∧wpOps P ops Q (List.range' m (ops.size-m)) a w))) hm ?_ ?_ ?_
 ·rintro s a w hr ⟨⟨hs,hC⟩,hI⟩;have hd:=rg_done hf hs hr ops.size (Nat.le_refl _);(have no:∀m,m<ops.size→¬s[m]?=some false:=fun m hm h=>by rw[hd m hm]at h;cases h);(have fin:∀m,m=ops.size→wpOps P ops Q (List.range' m (ops.size-m)) a w→Q .normal a w:=fun m e h=>by rw[e,Nat.sub_self]at h;exact h);rcases hI with⟨hF,hJ⟩|⟨m,_,hm1,_,hF,hW⟩
  ·have hl:L=ops.size:=by
    rcases Nat.lt_or_ge L ops.size with h|h
    ·exact absurd (hF L (Nat.le_refl _) h) (no L h)
    omega
   exact fin L hl (htail s a w (fun j hj=>hd j oM) hJ)
  refine fin m ?_ hW;rcases Nat.lt_or_ge m ops.size with h|h
  ·exact absurd (hF m (Nat.le_refl _) h) (no m h)
  omega
 ·rintro s a w i hi ⟨⟨hs,hC⟩,hI⟩;obtain⟨hsi,o,ho,haf⟩:=ready_mem hi;have his:i<ops.size:=(Array.getElem?_eq_some_iff.mp ho).1;have hss:(s.setIfInBounds i true).size=ops.size∧Closed ops (s.setIfInBounds i true):=by
   refine⟨by simp[hs],fun i' o' hi' ho' e he hb=>?_⟩;by_cases hii:i'=i
   ·subst hii;rw[ho]at ho';cases ho';exact rgs_up hsi (haf e he hb)
   rw[rgs_ne hii]at hi';exact rgs_up hsi (hC i' o' hi' ho' e he hb)
  have first:∀m,L≤m→m≤i→(∀j,m≤j→j<ops.size→s[j]?=some false)→i=m:=fun m hLm hmi hF=>by
   rcases Nat.lt_or_ge m i with h|h
   ·have h1:=reach_done hC 12 i (i-1) o ho haf (ht2 i his oM);rw[hF (i-1) oM oM]at h1;cases h1
   omega
  have go:∀m,L≤m→i=m→(∀j,j<m→s[j]?=some true)→(∀j,m≤j→j<ops.size→s[j]?=some false)→wpOps P ops Q (List.range' m (ops.size-m)) a w→
   wpOp P ops Q i (fun a' w'=>((s.setIfInBounds i true).size=ops.size∧Closed ops (s.setIfInBounds i true))∧(((∀j,L≤j→j<ops.size→(s.setIfInBounds i true)[j]?=some false)∧J (s.setIfInBounds i true) a' w')∨
    (∃m,L≤m∧m≤ops.size∧(∀j,j<m→(s.setIfInBounds i true)[j]?=some true)∧(∀j,m≤j→j<ops.size→(s.setIfInBounds i true)[j]?=some false)∧wpOps P ops Q (List.range' m (ops.size-m)) a' w'))) a w:=by
   intro m hLm him hT hF hW;subst him;obtain⟨d,hd⟩:∃d,ops.size-i=d+1:=⟨ops.size-i-1,oM⟩;rw[hd,List.range'_succ,wpOps_cons]at hW;refine wpOp_mono (fun a' w' h'=>⟨hss, .inr ⟨i+1,oM,oM,fun j hj=>?_,fun j hj hjs=>?_,?_⟩⟩) hW
   ·by_cases hji:j=i
    ·rw[hji];exact rgs_self hsi
    exact rgs_up hsi (hT j oM)
   ·rw[rgs_ne oM];exact hF j oM hjs
   rw[show ops.size-(i+1)=d by omega];exact h'
  rcases hI with⟨hF,hJ⟩|⟨m,hLm,hm1,hT,hF,hW⟩
  ·by_cases hiL:L≤i
   ·have e:=first L (Nat.le_refl _) hiL hF;have hdn:∀j,j<L→s[j]?=some true:=fun j hj=>reach_done hC 12 i j o ho haf (by rw[e];exact ht1 oM j hj);exact go L (Nat.le_refl _) e hdn hF (htail s a w hdn hJ)
   exact wpOp_mono (fun a' w' h'=>⟨hss, .inl ⟨fun j hj hjs=>by rw[rgs_ne oM];exact hF j hj hjs,h'⟩⟩) (hstep s a w i o hs hC hJ oM hsi ho haf)
  have him:m≤i:=by
   rcases Nat.lt_or_ge i m with h|h
   ·have h1:=hT i h;rw[hsi]at h1;cases h1
   exact h
  exact go m hLm (first m hLm him hF) hT hF hW
 exact⟨⟨by simp,fun i o h=>by rw[Array.getElem?_replicate]at h;split at h<;>simp at h⟩, .inl ⟨fun i _ hi=>by rw[Array.getElem?_replicate,if_pos hi],h0⟩⟩
end
def harm(ops:Array Oper)(wr:Nat→Bool)(surv:Nat→Nat→Bool)(i j:Nat):Bool:=(wr i&&decide (i<ops.size))&& !decide (i=j)&& !reach ops 12 j i&& !(((ops[j]?).map fun o=>(o.dst.map (surv i)).getD true).getD true)
def okEdge(ops:Array Oper)(wr:Nat→Bool)(surv:Nat→Nat→Bool)(m j:Nat):Bool:=(List.range ops.size).all fun i=> !harm ops wr surv i j||(i==m||reach ops 12 i m)
def preFine(ops:Array Oper)(wr:Nat→Bool)(m:Nat):Bool:=(List.range ops.size).all fun i=> !wr i||(i==m||reach ops 12 i m)
structure OpInW (R:World→World→Prop) (E:Nat→World→Prop) (ops:Array Oper) (wr:Nat→Bool) (surv:Nat→Nat→Bool) (T:Nat→Value→World→Prop) (a0:Act) (w0:World) (m:Nat) (o:Oper) (a:Act) (w:World):Prop where
 below:R w0 w
 still:∀t,t∉ops.toList.filterMap (·.dst)→a.tmps.getD t undef=a0.tmps.getD t undef
 has:∀e,e∈o.after→Region.binds .any e=true→okEdge ops wr surv m e.on=true→∀(o':Oper)(t:Nat),ops[e.on]?=some o'→o'.dst=some t→T t (a.tmps.getD t undef) w
 wrote:∀e,e∈o.after→Region.binds .any e=true→wr e.on=true→E e.on w
 pre:preFine ops wr m=true→Below w0.heap.size w0 w
structure TabbedW (R:World→World→Prop) (E:Nat→World→Prop) (ops:Array Oper) (wr:Nat→Bool) (surv:Nat→Nat→Bool) (T:Nat→Value→World→Prop) (a0:Act) (w0:World) (s:Array Bool) (a:Act) (w:World):Prop where
 below:R w0 w
 defers:a.defers=a0.defers
 size:a.tmps.size=a0.tmps.size
 still:∀t,t∉ops.toList.filterMap (·.dst)→a.tmps.getD t undef=a0.tmps.getD t undef
 done:∀(i:Nat)(o:Oper)(t:Nat),s[i]?=some true→ops[i]?=some o→o.dst=some t→(∀k,harm ops wr surv k i=true→s[k]?=some false)→T t (a.tmps.getD t undef) w
 wrote:∀i,s[i]?=some true→wr i=true→E i w
 pre:(∀i,wr i=true→¬s[i]?=some true)→Below w0.heap.size w0 w
structure OpInX (R:World→World→Prop) (E:Nat→World→Prop) (ops:Array Oper) (wr:Nat→Bool) (surv:Nat→Nat→Bool) (T:Nat→Value→World→Prop) (a0:Act) (w0:World) (L:Nat) (a:Act) (w:World):Prop where
 below:R w0 w
 defers:a.defers=a0.defers
 size:a.tmps.size=a0.tmps.size
 still:∀t,t∉ops.toList.filterMap (·.dst)→a.tmps.getD t undef=a0.tmps.getD t undef
 all:∀(i:Nat)(o:Oper)(t:Nat),i<L→ops[i]?=some o→o.dst=some t→(∀k,harm ops wr surv k i=false)→T t (a.tmps.getD t undef) w
 wrote:∀i,i<L→wr i=true→E i w
section
variable {P:Program} {ops:Array Oper} {Q:Exit→Act→World→Prop} {R:World→World→Prop} {E:Nat→World→Prop} {wr:Nat→Bool} {surv:Nat→Nat→Bool} {T:Nat→Value→World→Prop} {a0:Act} {w0:World}
theorem harm_lt{i j:Nat}(h:harm ops wr surv i j=true):i<ops.size:=by unfold harm at h;rw[Bool.and_eq_true,Bool.and_eq_true,Bool.and_eq_true,Bool.and_eq_true]at h;exact of_decide_eq_true h.1.1.1.2
theorem TabbedW.start(hR:R w0 {w0 with drawn:=w0.drawn+1}):TabbedW R E ops wr surv T a0 w0 (Array.replicate ops.size false) a0 {w0 with drawn:=w0.drawn+1}:=by(have no:∀{i:Nat},¬(Array.replicate ops.size false)[i]?=some true:=fun h=>by rw[Array.getElem?_replicate]at h;split at h<;>simp at h);exact⟨hR,rfl,rfl,fun _ _=>rfl,fun i o t h _ _ _=>absurd h no,fun i h _=>absurd h no,fun _=>⟨rfl,rfl,rfl,Nat.le_refl _,fun _ _=>rfl⟩⟩
theorem TabbedW.set{s:Array Bool}{a:Act}{w:World}(hI:TabbedW R E ops wr surv T a0 w0 s a w)(hRt:∀a b c,R a b→R b c→R a c)(hf:tabFineR ops a0.tmps.size=true){i:Nat}{o:Oper}(hsi:s[i]?=some false)(ho:ops[i]?=some o)
 {v:Value} {w':World} (hv:∀t,o.dst=some t→T t v w') (hb:R w w') (hE1:∀j,E j w→E j w') (hE2:wr i=true→E i w') (hBw:¬wr i=true→Below w.heap.size w w')
 (hmono:∀(j:Nat)(oj:Oper)(t:Nat),s[j]?=some true→ops[j]?=some oj→oj.dst=some t→harm ops wr surv i j=false→∀u,T t u w→T t u w'):TabbedW R E ops wr surv T a0 w0 (s.setIfInBounds i true) (a.put o.dst v) w':=by
 unfold tabFineR at hf;rw[Bool.and_eq_true,Bool.and_eq_true]at hf;have hnd:=of_decide_eq_true hf.1.1;refine⟨hRt _ _ _ hI.below hb,by rw[put_defers];exact hI.defers,by rw[put_size];exact hI.size,put_still (fun u hu=>dst_mem ho hu) hI.still,fun j oj t hj hoj hd hk=>?_,fun j hj hwj=>?_,fun hns=>?_⟩
 ·by_cases hij:j=i
  ·subst hij;rw[ho]at hoj;cases hoj;rw[hd,put_get_self (by rw[hI.size];exact of_decide_eq_true (List.all_eq_true.mp hf.1.2 t (dst_mem ho hd)))];exact hv t hd
  have hni:harm ops wr surv i j=false:=by
   cases hh:harm ops wr surv i j with
   |false=>rfl
   |true=>
    have h9:=hk i hh;rw[rgs_self hsi]at h9;cases h9
  rw[rgs_ne hij]at hj;have h1:=hmono j oj t hj hoj hd hni _ (hI.done j oj t hj hoj hd (fun k hh=>by
   have h9:=hk k hh;rw[rgs_ne (fun e=>by subst e;rw[hni]at hh;cases hh)]at h9
   exact h9))
  cases hd2:o.dst with
  |none=>exact h1
  |some u=>
   have hne:t≠u:=fun h=>hij (dst_inj ops.toList hnd j i oj o t (by rw[Array.getElem?_toList];exact hoj) (by rw[Array.getElem?_toList];exact ho) hd (h▸hd2));rw[put_get_ne hne];exact h1
 ·by_cases hij:j=i
  ·subst hij;exact hE2 hwj
  rw[rgs_ne hij]at hj;exact hE1 j (hI.wrote j hj hwj)
 have h1:=hI.pre (fun j hwj hsj=>hns j hwj (rgs_up hsi hsj));exact h1.trans ((hBw fun h=>hns i h (rgs_self hsi)).mono h1.size)
theorem wpOp_of{J:Act→World→Prop}{i:Nat}{o:Oper}{a:Act}{w:World}(ho:ops[i]?=some o)(h:OpOk P ops Q T o a w)
 (hJ:∀v w',(∀t,o.dst=some t→T t v w')→Below w.heap.size w w'→J (a.put o.dst v) w'):wpOp P ops Q i J a w:=by
 unfold OpOk at h;unfold wpOp;rw[ho];dsimp only;by_cases hw:Region.wanted o (yielded ops a.tmps)=true
 ·rw[if_pos hw]at h ⊢;refine h.imp (Oper.wp_mono ?_) (fun h=>h);rintro a' w' ⟨v,rfl,hv,hb⟩;exact hJ v w' hv hb
 rw[if_neg hw]at h ⊢;exact hJ _ _ h (Below.refl _ _)
theorem wpOp_wanted{J:Act→World→Prop}{i:Nat}{o:Oper}{a:Act}{w:World}(ho:ops[i]?=some o)(hw:Region.wanted o (yielded ops a.tmps)=true)(h:o.wp P a w J Q):wpOp P ops Q i J a w:=by unfold wpOp;rw[ho];dsimp only;rw[if_pos hw];exact .inl h
theorem wp_region_gen(R:World→World→Prop)(hRt:∀a b c,R a b→R b c→R a c)(hRb:∀w w',Below w.heap.size w w'→R w w')(T:Nat→Value→World→Prop)(E:Nat→World→Prop)(L:Nat)(wr:Nat→Bool)(surv:Nat→Nat→Bool){id:Nat}{a0:Act}{w0:World}(hL:L≤ops.size)(htf:L<ops.size→tailFine ops L=true)(hm:P.follows .mixedOrders=true)
 (hf:tabFineR ops a0.tmps.size=true)
 (hmono:∀t v w w',Below w.heap.size w w'→T t v w→T t v w')
 (hmonoE:∀i w w',Below w.heap.size w w'→E i w→E i w')
 (hmonoW:∀i t v w w',wr i=true→surv i t=true→R w w'→T t v w→T t v w')
 (hop:∀(i:Nat)(o:Oper),i<L→ops[i]?=some o→∀a w,OpInW R E ops wr surv T a0 w0 i o a w→(∀t,t∉(ops.toList.take L).filterMap (·.dst)→a.tmps.getD t undef=a0.tmps.getD t undef)→if wr i=true then(Region.wanted o (yielded ops a.tmps)=true∧o.wp P a w (fun a' w'=>∃v,a'=a.put o.dst v∧(∀t,o.dst=some t→T t v w')∧R w w'∧(∀j,E j w→E j w')∧E i w') Q)else OpOk P ops Q T o a w)
 (htail:∀a w,OpInX R E ops wr surv T a0 w0 L a w→(∀t,t∉(ops.toList.take L).filterMap (·.dst)→a.tmps.getD t undef=a0.tmps.getD t undef)→wpOps P ops Q (List.range' L (ops.size-L)) a w):
 (Code.region id ops true).wp P Q a0 w0:=by
 refine wp_region_skel (fun s a w=>(∀t,t∉(ops.toList.take L).filterMap (·.dst)→a.tmps.getD t undef=a0.tmps.getD t undef)∧TabbedW R E ops wr surv T a0 w0 s a w) L hL htf hm hf ?_ ?_ ⟨fun _ _=>rfl,TabbedW.start (hRb _ _ ⟨rfl,rfl,rfl,Nat.le_refl _,fun _ _=>rfl⟩)⟩
 ·rintro s a w i o hs hC ⟨hO,hI⟩ hiL hsi ho haf;have late:∀k,k<ops.size→k=i∨reach ops 12 k i=true→s[k]?=some false:=fun k hk h=>by
   refine(rgs_some (s:=s) oM).resolve_right fun hsk=>?_;rcases h with h|h
   ·rw[h,hsi]at hsk;cases hsk
   rw[reach_no hC hsk hsi]at h;cases h
  have hmo:=rg_take hiL ho;have hput:∀(v:Value)(t:Nat),t∉(ops.toList.take L).filterMap (·.dst)→(a.put o.dst v).tmps.getD t undef=a0.tmps.getD t undef:=fun v=>put_still (fun u hu=>List.mem_filterMap.mpr ⟨o,hmo,hu⟩) hO;have hopI:=hop i o hiL ho a w ⟨hI.below,hI.still,fun e he hb hok o' t ho' hd=>hI.done e.on o' t (haf e he hb) ho' hd (fun k hk=>by
   have h3:=List.all_eq_true.mp hok k (List.mem_range.mpr (harm_lt hk));rw[hk,Bool.not_true,Bool.false_or,Bool.or_eq_true,beq_iff_eq]at h3
   exact late k (harm_lt hk) h3),fun e he hb hwe=>hI.wrote e.on (haf e he hb) hwe,fun hpf=>hI.pre (fun k hwk hsk=>by
   have hks:=(Array.getElem?_eq_some_iff.mp hsk).1;have h1:=List.all_eq_true.mp hpf k (List.mem_range.mpr oM);rw[hwk,Bool.not_true,Bool.false_or,Bool.or_eq_true,beq_iff_eq]at h1;rw[late k oM h1]at hsk
   cases hsk)⟩ hO
  by_cases hiW:wr i=true
  ·rw[if_pos hiW]at hopI;refine wpOp_wanted ho hopI.1 (Oper.wp_mono ?_ hopI.2);rintro a' w' ⟨v,rfl,hv,hb,hE1,hE2⟩;refine⟨hput v,hI.set hRt hf hsi ho hv hb hE1 (fun _=>hE2) (fun h=>absurd hiW h) (fun j oj t hj hoj hd hni u hu=>hmonoW i t u w w' hiW ?_ hb hu)⟩;unfold harm at hni;rw[hiW,decide_eq_true (Array.getElem?_eq_some_iff.mp ho).1,hoj,Option.map_some,Option.getD_some,hd,Option.map_some,Option.getD_some,decide_eq_false (fun e=>by subst e;rw[hsi]at hj;cases hj),reach_no hC hj hsi]at hni;simpa using hni
  rw[if_neg hiW]at hopI;exact wpOp_of ho hopI fun v w' hv hb=>⟨hput v,hI.set hRt hf hsi ho hv (hRb _ _ hb) (fun j hj=>hmonoE j w w' hb hj) (fun h=>absurd h hiW) (fun _=>hb) (fun _ _ t _ _ _ _ u hu=>hmono t u w w' hb hu)⟩
 rintro s a w hdn ⟨hO,hI⟩;exact htail a w ⟨hI.below,hI.defers,hI.size,hI.still,fun j oj t hj hoj hd hal=>hI.done j oj t (hdn j hj) hoj hd (fun k hk=>absurd hk (by rw[hal k];exact Bool.false_ne_true)),fun j hj hwj=>hI.wrote j (hdn j hj) hwj⟩ hO
theorem wp_region_plain(T:Nat→Value→World→Prop)(L:Nat){id:Nat}{a0:Act}{w0:World}(hL:L≤ops.size)(htf:L<ops.size→tailFine ops L=true)(hm:P.follows .mixedOrders=true)
 (hf:tabFine ops a0.tmps.size=true)
 (hmono:∀t v w w',Below w.heap.size w w'→T t v w→T t v w')
 (hop:∀(i:Nat)(o:Oper),i<L→ops[i]?=some o→∀a w,OpIn ops T a0 w0 o a w→(∀t,t∉(ops.toList.take L).filterMap (·.dst)→a.tmps.getD t undef=a0.tmps.getD t undef)→OpOk P ops Q T o a w)
 (htail:∀a w,Below w0.heap.size w0 w→a.defers=a0.defers→a.tmps.size=a0.tmps.size→(∀t,t∉ops.toList.filterMap (·.dst)→a.tmps.getD t undef=a0.tmps.getD t undef)→(∀(i:Nat)(o:Oper)(t:Nat),i<L→ops[i]?=some o→o.dst=some t→T t (a.tmps.getD t undef) w)→(∀t,t∉(ops.toList.take L).filterMap (·.dst)→a.tmps.getD t undef=a0.tmps.getD t undef)→wpOps P ops Q (List.range' L (ops.size-L)) a w):
 (Code.region id ops true).wp P Q a0 w0:=by
 have hh:∀i j,harm ops (fun _=>false) (fun _ _=>true) i j=false:=fun i j=>by unfold harm;simp
 refine wp_region_gen (fun w w'=>w0.heap.size≤w.heap.size→Below w0.heap.size w w') (fun a b c h1 h2 h=>(h1 h).trans (h2 (Nat.le_trans h (h1 h).size))) (fun w w' hb h=>hb.mono h) T (fun _ _=>True) L (fun _=>false) (fun _ _=>true) hL htf hm (tabFine_R hf) hmono (fun _ _ _ _ _=>trivial) (fun _ _ _ _ _ h=>by cases h)
  (fun i o hi ho a w h hO=>?_) (fun a w h hO=>htail a w (h.below (Nat.le_refl _)) h.defers h.size h.still (fun i o t hi ho hd=>h.all i o t hi ho hd fun k=>hh k i) hO)
 rw[if_neg Bool.false_ne_true];exact hop i o hi ho a w ⟨h.below (Nat.le_refl _),h.still,fun e he hb=>h.has e he hb (List.all_eq_true.mpr fun k _=>by rw[hh];rfl)⟩ hO
theorem wp_region_tab(T:Nat→Value→World→Prop){id:Nat}{a0:Act}{w0:World}(hm:P.follows .mixedOrders=true)
 (hf:tabFine ops a0.tmps.size=true)
 (hmono:∀t v w w',Below w.heap.size w w'→T t v w→T t v w')
 (hop:∀(i:Nat)(o:Oper),ops[i]?=some o→∀a w,OpIn ops T a0 w0 o a w→OpOk P ops Q T o a w)
 (hend:∀a w,Below w0.heap.size w0 w→a.defers=a0.defers→a.tmps.size=a0.tmps.size→(∀t,t∉ops.toList.filterMap (·.dst)→a.tmps.getD t undef=a0.tmps.getD t undef)→(∀t,t∈ops.toList.filterMap (·.dst)→T t (a.tmps.getD t undef) w)→Q .normal a w):
 (Code.region id ops true).wp P Q a0 w0:=by
 refine wp_region_plain T ops.size (Nat.le_refl _) (fun h=>absurd h (Nat.lt_irrefl _)) hm hf hmono (fun i o _ ho a w h _=>hop i o ho a w h) (fun a w h1 h2 h3 h4 h5 _=>?_);rw[Nat.sub_self];refine hend a w h1 h2 h3 h4 fun t ht=>?_;obtain⟨o,ho,hd⟩:=List.mem_filterMap.mp ht;obtain⟨i,hi⟩:=List.mem_iff_getElem?.mp ho;rw[Array.getElem?_toList]at hi;exact h5 i o t (Array.getElem?_eq_some_iff.mp hi).1 hi hd
end
def waitsFor(ops:Array Oper)(o:Oper)(t:Nat):Bool:=o.after.toList.any fun e=>Region.binds .any e&&((ops[e.on]?).map fun o'=>o'.dst==some t).getD false
def stays(ops:Array Oper)(t:Nat):Bool:= !(ops.toList.filterMap (·.dst)).contains t
section
variable {P:Program} {ops:Array Oper} {Q:Exit→Act→World→Prop} {T:Nat→Value→World→Prop} {a0 a:Act} {w0 w:World} {o:Oper}
theorem OpIn.of(h:OpIn ops T a0 w0 o a w)(t:Nat)(hw:waitsFor ops o t=true:=by kernel_rfl):T t (a.tmps.getD t undef) w:=by
 unfold waitsFor at hw;obtain⟨e,he,hb⟩:=List.any_eq_true.mp hw;rw[Bool.and_eq_true]at hb
 cases ho:ops[e.on]? with
 |none=>rw[ho]at hb;simp at hb
 |some o'=>
  rw[ho,Option.map_some,Option.getD_some]at hb;exact h.has e (by simpa using he) hb.1 o' t ho (by simpa using hb.2)
theorem OpIn.old(h:OpIn ops T a0 w0 o a w)(t:Nat)(hs:stays ops t=true:=by kernel_rfl):a.tmps.getD t undef=a0.tmps.getD t undef:=by refine h.still t fun hm=>?_;unfold stays at hs;simp[hm]at hs
theorem wanted_none{y:Nat→Option Bool}(hg:o.guard=none):Region.wanted o y=true:=by simp[Region.wanted,hg]
theorem wanted_some{j t:Nat}{b:Bool}{oj:Oper}(hg:o.guard=some (j,b))(hj:ops[j]?=some oj)(hd:oj.dst=some t)(hv:a.tmps.getD t undef=.bool b):Region.wanted o (yielded ops a.tmps)=true:=by
 have ht:a.tmps[t]?=some (.bool b):=by
  rw[Array.getD_eq_getD_getElem?]at hv
  cases h:a.tmps[t]? with
  |none=>rw[h]at hv;simp[undef]at hv
  |some v=>rw[h]at hv;simpa using hv
 unfold Region.wanted;rw[hg];dsimp only;unfold yielded;rw[hj,Option.bind_some,hd,Option.bind_some,ht];simp
theorem opOk_val{v:Value}{w':World}(hw:Region.wanted o (yielded ops a.tmps)=true)(hr:(execOp a.eval o).run P w=.ok (.value v) w')(hT:∀t,o.dst=some t→T t v w')(hb:Below w.heap.size w w'):OpOk P ops Q T o a w:=by unfold OpOk;rw[if_pos hw];left;unfold Oper.wp;rw[hr,Oper.upon_value];exact⟨v,rfl,hT,hb⟩
theorem opV{v:Value}(hr:(execOp a.eval o).run P w=.ok (.value v) w)(hg:o.guard=none:=by rfl)(hT:∀t,o.dst=some t→T t v w:=by intro t ht;cases ht;first|exact rfl|exact⟨rfl,trivial⟩):OpOk P ops Q T o a w:=opOk_val (wanted_none hg) hr hT (Below.refl _ _)
theorem opX(v:Value)(hr:(execOp a.eval o).run P w=.ok (.value v) w:=by have ec:=evc a;generalize a.eval=ev at *;(try clear hO);clear h;go_simp)(hg:o.guard=none:=by rfl)(hT:∀t,o.dst=some t→T t v w:=by intro t ht;cases ht;first|exact rfl|exact⟨rfl,trivial⟩):OpOk P ops Q T o a w:=opV hr hg hT
theorem opOk_call{f:FuncId}{args:Array Value}(hw:Region.wanted o (yielded ops a.tmps)=true)(hr:(execOp a.eval o).run P w=.ok (.enter f args) w)
 (hc:Calls P f args w fun e w'=>∃v,e=.returned v∧(∀t,o.dst=some t→T t v w')∧Below w.heap.size w w'):OpOk P ops Q T o a w:=by
 unfold OpOk;rw[if_pos hw];left;unfold Oper.wp;rw[hr,Oper.upon_enter];refine Calls.mono hc ?_;rintro e w' ⟨v,rfl,hT,hb⟩;exact⟨v,rfl,hT,hb⟩
theorem wG{j t:Nat}{b:Bool}{oj:Oper}(hv:a.tmps.getD t undef=.bool b)(hg:o.guard=some (j,b):=by rfl)(hj:ops[j]?=some oj:=by rfl)(hd:oj.dst=some t:=by rfl):Region.wanted o (yielded ops a.tmps)=true:=wanted_some hg hj hd hv
def AllOps(Φ:Oper→Prop):List Oper→Prop
 |[]=>True
 |o::l=>Φ o∧AllOps Φ l
theorem AllOps.nil{Φ:Oper→Prop}:AllOps Φ []:=trivial
theorem AllOps.cons{Φ:Oper→Prop}{o:Oper}{l:List Oper}(h:Φ o)(hl:AllOps Φ l):AllOps Φ (o::l):=⟨h,hl⟩
abbrev oC:=@AllOps.cons
theorem AllOps.mem{Φ:Oper→Prop}:∀(l:List Oper),AllOps Φ l→∀o,o∈l→Φ o
 |[],_,o,ho=>absurd ho sI
 |x::l,h,o,ho=>by
  rcases List.mem_cons.mp ho with rfl|ho
  ·exact h.1
  exact AllOps.mem l h.2 o ho
theorem AllOps.at{Φ:Oper→Prop}{ops:Array Oper}(h:AllOps Φ ops.toList)(i:Nat)(o:Oper)(ho:ops[i]?=some o):Φ o:=by rw[←Array.getElem?_toList]at ho;exact AllOps.mem _ h o (List.mem_of_getElem? ho)
theorem ends_at{t:Nat}(h:∀t,t∈ops.toList.filterMap (·.dst)→T t (a.tmps.getD t undef) w)(hs:stays ops t=false):T t (a.tmps.getD t undef) w:=by refine h t ?_;unfold stays at hs;simpa[List.contains_iff_mem]using hs
theorem wp_region_tabA(T:Nat→Value→World→Prop){id:Nat}{a0:Act}{w0:World}(hm:P.follows .mixedOrders=true)(hf:tabFine ops a0.tmps.size=true)
 (hmono:∀t v w w',Below w.heap.size w w'→T t v w→T t v w')
 (hop:AllOps (fun o=>∀a w,OpIn ops T a0 w0 o a w→OpOk P ops Q T o a w) ops.toList)
 (hend:∀a w,Below w0.heap.size w0 w→a.defers=a0.defers→a.tmps.size=a0.tmps.size→(∀t,t∉ops.toList.filterMap (·.dst)→a.tmps.getD t undef=a0.tmps.getD t undef)→(∀t,t∈ops.toList.filterMap (·.dst)→T t (a.tmps.getD t undef) w)→Q .normal a w):
 (Code.region id ops true).wp P Q a0 w0:=
 wp_region_tab T hm hf hmono (fun i o ho=>AllOps.at hop i o ho) hend
end
theorem tmps_fold:∀(D:List Nat)(x y:Array Value),x.size=y.size→(∀t,t∉D→x.getD t undef=y.getD t undef)→x=D.foldl (fun arr t=>arr.setIfInBounds t (x.getD t undef)) y
 |[],x,y,hs,h=>by show x=y;refine Array.ext hs fun i h1 h2=>?_;have :=h i sI;rw[Array.getD_eq_getD_getElem?,Array.getD_eq_getD_getElem?,Array.getElem?_eq_getElem h1,Array.getElem?_eq_getElem h2]at this;exact this
 |t::D,x,y,hs,h=>by
  show x=D.foldl (fun arr t=>arr.setIfInBounds t (x.getD t undef)) (y.setIfInBounds t (x.getD t undef));refine tmps_fold D x _ (by simp[hs]) fun s hsD=>?_;by_cases hst:s=t
  ·subst hst;by_cases hl:s<y.size
   ·simp[Array.getD_eq_getD_getElem?,hl]
   (have h1:x[s]?=none:=by rw[Array.getElem?_eq_none_iff];omega);(have h2:∀v,(y.setIfInBounds s v)[s]?=none:=fun v=>by rw[Array.getElem?_eq_none_iff];simp;omega);rw[Array.getD_eq_getD_getElem?,Array.getD_eq_getD_getElem?,h1,h2]
  rw[h s (by simp[hst,hsD])];simp[Array.getD_eq_getD_getElem?,Ne.symm hst]
theorem tmps_F(D:List Nat)(x y:Array Value)(hs:x.size=y.size)(h:∀t,t∉D→x.getD t undef=y.getD t undef):∃f:Nat→Value,(∀t,f t=x.getD t undef)∧x=D.foldl (fun arr t=>arr.setIfInBounds t (f t)) y:=⟨fun t=>x.getD t undef,fun _=>rfl,tmps_fold D x y hs h⟩
section
variable {P:Program} {ops:Array Oper} {Q:Exit→Act→World→Prop} {T:Nat→Value→World→Prop} {a:Act} {w:World} {o:Oper}
theorem opOk_skip{j t:Nat}{b c:Bool}{oj:Oper}(hg:o.guard=some (j,b))(hj:ops[j]?=some oj)(hd:oj.dst=some t)(hv:a.tmps.getD t undef=.bool c)(hbc:c≠b)(hT:∀t,o.dst=some t→T t undef w):OpOk P ops Q T o a w:=by
 have ht:a.tmps[t]?=some (.bool c):=by
  rw[Array.getD_eq_getD_getElem?]at hv
  cases h:a.tmps[t]? with
  |none=>rw[h]at hv;simp[undef]at hv
  |some v=>rw[h]at hv;simpa using hv
 (have hw:Region.wanted o (yielded ops a.tmps)=false:=by unfold Region.wanted;rw[hg];dsimp only;unfold yielded;rw[hj,Option.bind_some,hd,Option.bind_some,ht];simp[hbc]);unfold OpOk;rw[hw,if_neg sI];exact hT
theorem opS{j t:Nat}{b c:Bool}{oj:Oper}(hv:a.tmps.getD t undef=.bool c)(hg:o.guard=some (j,b):=by rfl)(hj:ops[j]?=some oj:=by rfl)(hd:oj.dst=some t:=by rfl)(hbc:c≠b:=by decide)(hT:∀t,o.dst=some t→T t undef w:=by intro t ht;cases ht;exact rfl):OpOk P ops Q T o a w:=opOk_skip hg hj hd hv hbc hT
end


end Go.Proofs.YthenjegmigeieaaGreat
namespace Go.Proofs.YthenjegmigeieaaGreat
open Go.RowKit Go.Shelf
attribute [local go_sem] Oper.semAt_some
end Go.Proofs.YthenjegmigeieaaGreat
namespace Go.Proofs.YthenjegmigeieaaGreat
open Go.RowKit


structure OpInT (ops:Array Oper) (T:Nat→Value→World→Prop) (a0:Act) (w0:World) (L:Nat) (a:Act) (w:World):Prop where
 below:Below w0.heap.size w0 w
 defers:a.defers=a0.defers
 size:a.tmps.size=a0.tmps.size
 still:∀t,t∉ops.toList.filterMap (·.dst)→a.tmps.getD t undef=a0.tmps.getD t undef
 all:∀(i:Nat)(o:Oper)(t:Nat),i<L→ops[i]?=some o→o.dst=some t→T t (a.tmps.getD t undef) w
section
variable {P:Program} {ops:Array Oper} {Q:Exit→Act→World→Prop}
theorem wp_region_tail(T:Nat→Value→World→Prop)(L:Nat){id:Nat}{a0:Act}{w0:World}(hL:L<ops.size)(htf:tailFine ops L=true)(hm:P.follows .mixedOrders=true)
 (hf:tabFine ops a0.tmps.size=true)
 (hmono:∀t v w w',Below w.heap.size w w'→T t v w→T t v w')
 (hop:AllOps (fun o=>∀a w,OpIn ops T a0 w0 o a w→OpOk P ops Q T o a w) (ops.toList.take L))
 (htail:∀a w,OpInT ops T a0 w0 L a w→wpOps P ops Q (List.range' L (ops.size-L)) a w):
 (Code.region id ops true).wp P Q a0 w0:=
 wp_region_plain T L (Nat.le_of_lt hL) (fun _=>htf) hm hf hmono (fun _ o hi ho a w h _=>AllOps.mem _ hop o (rg_take hi ho) a w h) (fun a w h1 h2 h3 h4 h5 _=>htail a w ⟨h1,h2,h3,h4,h5⟩)
end
abbrev Rv:=Sc.Rule×Value×Value
section
variable {P:Program} {ops:Array Oper} {Q:Exit→Act→World→Prop} {i:Nat} {o:Oper} {K:Act→World→Prop} {a:Act} {w w':World}
theorem wpOp_val{v:Value}(ho:ops[i]?=some o)(hw:Region.wanted o (yielded ops a.tmps)=true)(hr:(execOp a.eval o).run P w=.ok (.value v) w')(h:K (a.put o.dst v) w'):wpOp P ops Q i K a w:=by unfold wpOp;rw[ho];dsimp only;rw[if_pos hw];left;unfold Oper.wp;rw[hr,Oper.upon_value];exact h
theorem wpOp_void(ho:ops[i]?=some o)(hw:Region.wanted o (yielded ops a.tmps)=true)(hd:o.dst=none)(hr:(execOp a.eval o).run P w=.ok .skip w')(h:K a w'):wpOp P ops Q i K a w:=by unfold wpOp;rw[ho];dsimp only;rw[if_pos hw];left;unfold Oper.wp;rw[hr,Oper.upon_skip,hd];exact h
theorem wpOp_wp(ho:ops[i]?=some o)(hw:Region.wanted o (yielded ops a.tmps)=true)(h:o.wp P a w K Q):wpOp P ops Q i K a w:=by unfold wpOp;rw[ho];dsimp only;rw[if_pos hw];exact .inl h
end
theorem row_news{W:World}{b':Nat}{RC:Array Value}{t:TypeId}(h:W.heap[b']?=some (.cells RC t)):∀j u,RC.toList[j]?=some u→W.cell? ((⟨b',0,none⟩:Addr).add j)=some u:=by intro j u hj;rw[Addr.add_lit,Nat.zero_add,Lib.cell_of_heap h,←Array.getElem?_toList];exact hj
theorem own_ints{W:World}{B:Nat}{v:Value}{l:List Int}(h:W.ownsRow B 3 1 v l.length (l.map (Value.int .i64))):IntsV W v l:=by
 obtain⟨ao,cap,rfl,_,hc⟩:=own_cells h;refine⟨ao,cap,rfl,?_⟩;rcases hc with h0|⟨g,rfl,hc⟩
 ·exact .inl (List.length_eq_zero_iff.mp h0)
 refine .inr ⟨g,0,rfl,fun i hi=>?_⟩;rw[Nat.zero_add,hc i oM];simp[Sc.intD,hi]
theorem own_ty{W:World}{B c n k:Nat}{e t:TypeId}{v:Value}{xs:List Value}{a:Array Value}(h:W.ownsRow B e c v n xs)(hk:v.ownBlock=some k)(ha:W.heap[k]?=some (.cells a t)):t=e:=by
 rcases h.2 with⟨h2,_⟩|⟨g,cap,cur,hv,_,hh,_⟩
 ·rw[h2]at hk;cases hk
 rw[hv]at hk;(have hg:g=k:=by simpa[Value.ownBlock]using hk);subst hg;rw[hh]at ha;injection ha with ha;injection ha with _ ha _;exact ha.symm
theorem isSo_any(op a b:Int)(w:World):Calls Tryz.prog 186 #[.int .i64 op, .int .i64 a, .int .i64 b] w fun e w'=>e=.returned (.bool (Ru.isSo op a b))∧w'=w:=by
 by_cases h1:op=1
 ·subst h1
  go_enter Tryz.func186,Tryz.ntmps186
  go_wp2;go_ret;exact⟨by unfold Ru.isSo;simp,rfl⟩
 (have g1:(op==1)=false:=by simpa using h1);by_cases h2:op=2
 ·subst h2;clear h1 g1
  go_enter Tryz.func186,Tryz.ntmps186
  go_wp2;go_ret;exact⟨by unfold Ru.isSo;simp,rfl⟩
 (have g2:(op==2)=false:=by simpa using h2);by_cases h3:op=3
 ·subst h3;clear h1 g1 h2 g2
  go_enter Tryz.func186,Tryz.ntmps186
  go_wp2;go_ret;exact⟨by unfold Ru.isSo;rw[if_neg dE,if_neg dE,if_pos rfl];simp;rfl,rfl⟩
 (have g3:(op==3)=false:=by simpa using h3);(have HV:Hid (Ru.isSo op a b=decide (a≠b)):=by show _=_;unfold Ru.isSo;rw[if_neg h1,if_neg h2,if_neg h3]);clear h1 h2 h3
 go_enter Tryz.func186,Tryz.ntmps186
 go_wp2;go_ret;exact⟨by rw[HV.out];simp[bne];rfl,rfl⟩
theorem mul_small{a b:Int}(ha: -1000000≤a∧a≤1000000)(hb: -1000000≤b∧b≤1000000): -1000000000000≤a*b∧a*b≤1000000000000:=by(have h1:(a*b).natAbs≤1000000*1000000:=by rw[Int.natAbs_mul];exact Nat.mul_le_mul oM oM);omega
theorem reckoned_any(op a b:Int)(w:World)(ha: -1000000≤a∧a≤1000000)(hb: -1000000≤b∧b≤1000000):Calls Tryz.prog 188 #[.int .i64 op, .int .i64 a, .int .i64 b] w fun e w'=>e=.returned (.int .i64 (Ru.reck op a b))∧w'=w:=by
 obtain⟨a1,a2⟩:=ha;obtain⟨b1,b2⟩:=hb;by_cases h1:op=5
 ·subst h1
  go_enter Tryz.func188,Tryz.ntmps188
  go_wp2;go_ret;exact⟨by unfold Ru.reck;simp,rfl⟩
 (have g1:(op==5)=false:=by simpa using h1);by_cases h2:op=6
 ·subst h2;clear h1 g1
  go_enter Tryz.func188,Tryz.ntmps188
  go_wp2;go_ret;exact⟨by unfold Ru.reck;simp,rfl⟩
 (have g2:(op==6)=false:=by simpa using h2);(have HV:Hid (Ru.reck op a b=a*b):=by show _=_;unfold Ru.reck;rw[if_neg h1,if_neg h2]);obtain⟨m1,m2⟩:=mul_small ⟨a1,a2⟩ ⟨b1,b2⟩;clear h1 h2
 go_enter Tryz.func188,Tryz.ntmps188
 go_wp2;go_ret;exact⟨by rw[HV.out];simp,rfl⟩
theorem isNum_any(n:Int)(w:World):Calls Tryz.prog 109 #[.int .i64 n] w fun e w'=>e=.returned (.bool (Sc.isNum n))∧w'=w:=by
 unfold Sc.isNum Tr.between;by_cases h1: -1000000≤n
 ·have g1:decide (-1000000≤n)=true:=decide_eq_true h1
  go_enter Tryz.func109,Tryz.ntmps109
  go_wp2;go_ret;exact⟨by rw[g1];rfl,rfl⟩
 have g1:decide (-1000000≤n)=false:=decide_eq_false h1;clear h1
 go_enter Tryz.func109,Tryz.ntmps109
 go_wp2;go_ret;exact⟨by rw[g1];rfl,rfl⟩
abbrev IRow(w:World)(B:Nat)(v:Value)(l:List Int):Prop:=w.ownsRow B 3 1 v l.length (l.map (Value.int .i64))
theorem IRow.ints{w:World}{B:Nat}{v:Value}{l:List Int}(h:IRow w B v l):IntsV w v l:=own_ints h
def fillFV(FB:Nat)(RV VX:Value)(t:Sc.Term)(n:Int)(tQ:Nat)(vQ:Value):Prop:=
 match tQ with
 |18=>vQ=(.pointer (some ⟨FB,1,none⟩):Value)
 |19=>vQ=(RV:Value)
 |20=>vQ=(ptermVal t:Value)
 |21=>vQ=(VX:Value)
 |22=>vQ=(.int .i64 n:Value)
 |_=>True
def fillFT(FB:Nat)(RV VX:Value)(t:Sc.Term)(n:Int)(tQ:Nat)(vQ:Value)(WQ:World):Prop:=if tQ=23 then∃b',vQ=.slice (some ⟨b',0,none⟩) 1 1∧WQ.heap[b']?=some (.cells #[.int .i64 n] 3)else fillFV FB RV VX t n tQ vQ
theorem fillFT_mono(FB:Nat)(RV VX:Value)(t:Sc.Term)(n:Int)(tQ:Nat)(vQ:Value)(W W':World)(hb:Below W.heap.size W W')(h:fillFT FB RV VX t n tQ vQ W):fillFT FB RV VX t n tQ vQ W':=by
 unfold fillFT at h ⊢;by_cases ht:tQ=23
 ·rw[if_pos ht]at h ⊢;obtain⟨b',h1,h2⟩:=h;exact⟨b',h1,(hb.block b' (Array.getElem?_eq_some_iff.mp h2).1).trans h2⟩
 rw[if_neg ht]at h ⊢;exact h
theorem FillFact_any(pd:Int)(ts:List Sc.Term)(x:List Int)(vt vx:Value)(w:World)(hT:PTermsV w vt ts)(hX:IntsV w vx x)(hl:ts.length≤1000000)(hI:Ru.TermsIn x.length ts):
 Calls Tryz.prog 57 #[.int .i64 pd,vt,vx] w fun e w'=>∃v,e=.returned (.agg #[.int .i64 pd,v])∧IRow w' w.heap.size v (Ru.fill ts x)∧Below w.heap.size w w':=by
 obtain⟨i0,hi,hz0,hz1,hz2⟩:=info_parts rl_info3;obtain⟨at_,ct,rfl,_,hT⟩:=hT;obtain⟨ax,cx,rfl,_⟩:=id hX;have HT:Hid _:=hT;have HX:Hid _:=hX;have HTI:Hid _:=hI;obtain⟨h0,h1,hb⟩:=ru_two w (.cells #[.int .i64 0, .slice none 0 0] 55) (.cells #[.int .i64 pd, .slice none 0 0] 55);have H0:Hid _:=h0;have H1:Hid _:=h1;have HB:Hid _:=hb;clear hT hX hI h0 h1 hb
 go_enter Tryz.func57,Tryz.ntmps57
 go_wp2_with fail;generalize (w.alloc (.cells #[.int .i64 0, .slice none 0 0] 55)).alloc (.cells #[.int .i64 pd, .slice none 0 0] 55)=w1 at *;go_loopw [14] (fun i wr=>∃k:Nat,k≤ts.length∧i=.int .i64 k∧∃vs:Value,wr.heap[w.heap.size]?=some (.cells #[.int .i64 0, .slice none 0 0] 55)∧wr.heap[w.heap.size+1]?=some (.cells #[.int .i64 pd,vs] 55)∧wr.ownsRow (w.heap.size+2) 3 1 vs k ((Ru.fill (ts.take k) x).map (Value.int .i64))∧Below w.heap.size w wr) (fun i _=>ts.length-(intOf i).toNat);case atStart=>exact⟨0,Nat.zero_le _,rfl,_,H0.out,H1.out,World.ownsRow_nil _ _ _ _,HB.out⟩
 case round=>
  clear H0 H1 HB;obtain⟨k,hk,rfl,vs,h0,h1,ho,hb⟩:=hrel;obtain⟨au,cu,rfl⟩:=own_slice ho;have HZ:Hid _:=h0;have HF:Hid _:=h1;have HO:Hid _:=ho;have HB:Hid _:=hb;clear h0 h1 ho hb;by_cases hlt:k<ts.length
  ·obtain⟨b,off,rfl,hc⟩:=pterms_at HT.out k hlt;have hc:=hc k hlt;have q0:=cell_below HB.out hc.1;have q1:=cell_below HB.out hc.2;have HTK:Hid (Ru.fill (ts.take (k+1)) x=Ru.fill (ts.take k) x++[Ru.num x (Sc.termD ts k)]):=by
    show _=_;unfold Ru.fill;rw[List.take_add_one,List.map_append]
    congr 1
    unfold Sc.termD;rw[List.getD_eq_getElem?_getD,List.getElem?_eq_getElem hlt];rfl
   have HTI2:Hid (Ru.TermIn x.length (Sc.termD ts k)):=HTI.out _ (Ru.termD_mem hlt);clear hc;generalize Sc.termD ts k=t at *;go_upto_region 5 with fail;have bT:=(Below.refl wr.heap.size wr).alloc (Nat.le_refl _) (.cells #[.int .i64 t.var, .int .i64 t.n] 147);have hTB:=heap_alloc_new wr (.cells #[.int .i64 t.var, .int .i64 t.n] 147);(have t0:(wr.alloc (.cells #[.int .i64 t.var, .int .i64 t.n] 147)).cell? ⟨wr.heap.size,0,none⟩=some (.int .i64 t.var):=by rw[Lib.cell_of_heap hTB];rfl);(have t1:(wr.alloc (.cells #[.int .i64 t.var, .int .i64 t.n] 147)).cell? ⟨wr.heap.size,1,none⟩=some (.int .i64 t.n):=by rw[Lib.cell_of_heap hTB];rfl);have HZq:Hid _:=(bT.block _ (heap_lt HZ.out)).trans HZ.out;have HFq:Hid _:=(bT.block _ (heap_lt HF.out)).trans HF.out;have HOq:Hid _:=ownsRow_below HO.out bT;have HBq:Hid _:=HB.out.trans (bT.mono HB.out.size);have HXq:Hid _:=intsV_below HX.out HBq.out;clear q0 q1 bT hTB HZ HF HO HB;generalize wr.alloc (.cells #[.int .i64 t.var, .int .i64 t.n] 147)=wq at *;generalize wr.heap.size=TB at *;(have cF1:wq.cell? ⟨w.heap.size+1,1,none⟩=some (.slice au k cu):=by rw[Lib.cell_of_heap HFq.out];rfl);refine wp_region_tail (fillFT (w.heap.size+1) (.slice au k cu) (.slice ax x.length cx) t (Ru.num x t)) 6 dE kR kR kR (fillFT_mono (w.heap.size+1) (.slice au k cu) (.slice ax x.length cx) t (Ru.num x t)) ?hop ?htail
   case hop=>
    refine oC (fun a y h=>by have e7:a.eval (.tmp 7)=(.pointer (some ⟨w.heap.size+1,0,none⟩):Value):=h.old 7;exact opX (.pointer (some ⟨w.heap.size+1,1,none⟩))) ?_;refine oC (fun a y h=>by have e18:a.eval (.tmp 18)=(.pointer (some ⟨w.heap.size+1,1,none⟩):Value):=h.of 18;have cF:=cell_below h.below cF1;exact opX (.slice au k cu)) ?_;refine oC (fun a y h=>by have e9:a.eval (.tmp 9)=(.pointer (some ⟨TB,0,none⟩):Value):=h.old 9;have c0:=cell_below h.below t0;have c1:=cell_below h.below t1;exact opX (ptermVal t)) ?_;refine oC (fun a y h=>by have e2:a.eval (.tmp 2)=(.slice ax x.length cx:Value):=h.old 2;exact opX (.slice ax x.length cx)) ?_;refine oC (fun a y h=>?_) ?_
    ·have e20:a.eval (.tmp 20)=(ptermVal t:Value):=h.of 20;have e21:a.eval (.tmp 21)=(.slice ax x.length cx:Value):=h.of 21;refine opOk_call (f:=105) (args:=#[ptermVal t, .slice ax x.length cx]) (wanted_none rfl) ?_ ?_
     ·have ec:=evc a;have ef:=evf a;generalize a.eval=ev at *;clear h;go_simp
     refine Calls.mono (Number_any t x _ y (intsV_below HXq.out h.below) HTI2.out) ?_;rintro _ y2 ⟨rfl,hb2⟩;exact⟨_,rfl,fun t ht=>by cases ht;exact rfl,hb2⟩
    refine oC (fun a y h=>by have e22:a.eval (.tmp 22)=(.int .i64 (Ru.num x t):Value):=h.of 22;refine opOk_val (v:=.slice (some ⟨y.heap.size,0,none⟩) 1 1) (w':=y.alloc (.cells #[.int .i64 (Ru.num x t)] 3)) (wanted_none rfl) ?_ (fun t ht=>by cases ht;exact⟨_,rfl,heap_alloc_new y _⟩) ((Below.refl _ _).alloc (Nat.le_refl _) _);have ec:=evc a;generalize a.eval=ev at *;clear h;go_simp) ?_;exact AllOps.nil
   case htail=>
    rintro⟨tm0,df⟩ y hI;have e19:Act.eval ⟨tm0,df⟩ (.tmp 19)=(.slice au k cu):=hI.all 1 _ 19 dE rfl rfl;obtain⟨b',e23,hb'⟩:∃b',Act.eval ⟨tm0,df⟩ (.tmp 23)=.slice (some ⟨b',0,none⟩) 1 1∧y.heap[b']?=some (.cells #[.int .i64 (Ru.num x t)] 3):=hI.all 5 _ 23 dE rfl rfl;have e7:Act.eval ⟨tm0,df⟩ (.tmp 7)=.pointer (some ⟨w.heap.size+1,0,none⟩):=hI.still 7 dE;have hoy:=ownsRow_below HOq.out hI.below;have hFy:=(hI.below.block _ (Array.getElem?_eq_some_iff.mp HFq.out).1).trans HFq.out;have hby:Below w.heap.size w y:=HBq.out.trans (hI.below.mono HBq.out.size);have hszF:w.heap.size+2≤y.heap.size:=(Array.getElem?_eq_some_iff.mp hFy).1;show wpOps Tryz.prog _ _ [6,7,8] _ _;rw[wpOps_cons];refine wpOp_wp rfl (wanted_none rfl) (wp_append_own y (.tmp 19) (.tmp 23) 22 rfl (w.heap.size+2) 3 i0 _ 1 8 Tryz.underlying22 hi hz0 hz1 hz2 rfl dE (.slice au k cu) k ((Ru.fill (ts.take k) x).map (Value.int .i64)) e19 hoy ⟨b',0,none⟩ 1 1 (#[.int .i64 (Ru.num x t)]:Array Value).toList e23 rfl (row_news hb') ?h1 ?h63 ?hby hszF ?_);(case h1=>intro u hu;simp only[List.mem_cons,List.not_mem_nil,or_false]at hu;subst hu;rfl);(case h63=>unfold maxLen;omega);(case hby=>omega);intro v9 w9 ho9 hg9 _;obtain⟨av,cv,rfl⟩:=own_slice ho9;have hown9:∀kQ,((.slice au k cu):Value).ownBlock=some kQ→w.heap.size+2≤kQ:=fun kQ hk=>(hoy.lt kQ hk).1;have hF9:w9.heap[w.heap.size+1]?=some (.cells #[.int .i64 pd, .slice au k cu] 55):=(hg9.block (w.heap.size+1) (Array.getElem?_eq_some_iff.mp hFy).1 (fun e=>by have :=hown9 (w.heap.size+1) e.symm;omega)).trans hFy;have hb9:Below w.heap.size w w9:=hby.grown hg9 hby.size (fun kQ hk=>by have :=hown9 kQ hk;omega);rw[wpOps_cons];refine wpOp_val (v:=.pointer (some ⟨w.heap.size+1,1,none⟩)) (w':=w9) rfl (wanted_none rfl) ?_ ?_
    ·have e7':Act.eval (Act.put ⟨tm0,df⟩ (some 24) (.slice av (k+1) cv)) (.tmp 7)=.pointer (some ⟨w.heap.size+1,0,none⟩):=(put_get_ne (a:=⟨tm0,df⟩) (t:=24) (u:=7) dE).trans e7;show Sem.run Tryz.prog (execOp (Act.eval (Act.put ⟨tm0,df⟩ (some 24) (.slice av (k+1) cv))) _) w9=_;generalize Act.eval (Act.put ⟨tm0,df⟩ (some 24) (.slice av (k+1) cv))=ev at *;clear hI;go_simp
    have hsN:tm0.size=28:=hI.size;have e25:Act.eval (Act.put (Act.put ⟨tm0,df⟩ (some 24) (.slice av (k+1) cv)) (some 25) (.pointer (some ⟨w.heap.size+1,1,none⟩))) (.tmp 25)=.pointer (some ⟨w.heap.size+1,1,none⟩):=put_get_self (by rw[put_size];show 25<tm0.size;omega);have e24:Act.eval (Act.put (Act.put ⟨tm0,df⟩ (some 24) (.slice av (k+1) cv)) (some 25) (.pointer (some ⟨w.heap.size+1,1,none⟩))) (.tmp 24)=(.slice av (k+1) cv):=(put_get_ne dE).trans (put_get_self (by show 24<tm0.size;omega));(have cF9:w9.cell? ⟨w.heap.size+1,1,none⟩=some (.slice au k cu):=by rw[Lib.cell_of_heap hF9];rfl);have fF9:=Lib.frozen_of_heap hF9 1;rw[wpOps_cons];refine wpOp_void rfl (wanted_none rfl) rfl (w':=w9.setCell ⟨w.heap.size+1,1,none⟩ (.slice av (k+1) cv)) ?_ ?_
    ·show Sem.run Tryz.prog (execOp (Act.eval (Act.put (Act.put ⟨tm0,df⟩ (some 24) (.slice av (k+1) cv)) (some 25) (.pointer (some ⟨w.heap.size+1,1,none⟩)))) _) w9=_;generalize Act.eval (Act.put (Act.put ⟨tm0,df⟩ (some 24) (.slice av (k+1) cv)) (some 25) (.pointer (some ⟨w.heap.size+1,1,none⟩)))=ev at *;clear hI;go_simp
    (have hF9b:(w9.setCell ⟨w.heap.size+1,1,none⟩ (.slice av (k+1) cv)).heap[w.heap.size+1]?=some (.cells #[.int .i64 pd,(.slice av (k+1) cv)] 55):=by rw[Lib.heap_setCell_same hF9];rfl);(have ho9b:(w9.setCell ⟨w.heap.size+1,1,none⟩ (.slice av (k+1) cv)).ownsRow (w.heap.size+2) 3 1 (.slice av (k+1) cv) (k+1) ((Ru.fill (ts.take k) x).map (Value.int .i64)++(#[.int .i64 (Ru.num x t)]:Array Value).toList):=by refine rl_own_alone ho9 (fun g hg=>heap_set_other (fun e=>?_));have :=(ho9.lt g hg).1;omega);(have hb9b:Below w.heap.size w (w9.setCell ⟨w.heap.size+1,1,none⟩ (.slice av (k+1) cv)):=hb9.setCell (p:=⟨w.heap.size+1,1,none⟩) (by show w.heap.size≤w.heap.size+1;omega) _;have HZ9:(w9.setCell ⟨w.heap.size+1,1,none⟩ (.slice av (k+1) cv)).heap[w.heap.size]?=some (.cells #[.int .i64 0, .slice none 0 0] 55):=(heap_set_other oM).trans ((hg9.block (w.heap.size) oM (fun e=>by have :=hown9 _ e.symm;omega)).trans ((hI.below.block _ (heap_lt HZq.out)).trans HZq.out));have hst:∀t,t∉[18,19,20,21,22,23,24,25]→((tm0.setIfInBounds 24 (.slice av (k+1) cv)).setIfInBounds 25 (.pointer (some ⟨w.heap.size+1,1,none⟩))).getD t undef=_:=fun t ht=>by have hA:t≠24:=fun e=>ht (by rw[e];decide);have hB:t≠25:=fun e=>ht (by rw[e];decide);exact((put_get_ne (a:=Act.put ⟨tm0,df⟩ (some 24) (.slice av (k+1) cv)) hB).trans (put_get_ne (a:=⟨tm0,df⟩) hA)).trans (hI.still t ht));obtain rfl:df=[]:=hI.defers;clear hI e19 e23 hb' e7 hoy hFy hby hszF ho9 hg9 hown9 hF9 hb9 e25 e24 cF9 fF9;generalize w9.setCell ⟨w.heap.size+1,1,none⟩ (.slice av (k+1) cv)=y9 at *;(have hs2:((tm0.setIfInBounds 24 (.slice av (k+1) cv)).setIfInBounds 25 (.pointer (some ⟨w.heap.size+1,1,none⟩))).size=28:=by simp[hsN]);show Exit.inBlock 1 (Exit.then _ _) Exit.normal ⟨(tm0.setIfInBounds 24 (.slice av (k+1) cv)).setIfInBounds 25 (.pointer (some ⟨w.heap.size+1,1,none⟩)),[]⟩ y9;generalize (tm0.setIfInBounds 24 (.slice av (k+1) cv)).setIfInBounds 25 (.pointer (some ⟨w.heap.size+1,1,none⟩))=tm at *;obtain⟨fQ,hQ,hF8⟩:=tmps_F [18,19,20,21,22,23,24,25] tm _ (hs2.trans rF) hst;clear hs2 hst hsN;simp only[List.foldl_cons,List.foldl_nil]at hF8;clear hQ;simp only[List.setIfInBounds_toArray,List.set_cons_zero,List.set_cons_succ]at hF8;subst hF8;(have HO5:Hid (y9.ownsRow (w.heap.size+2) 3 1 (.slice av (k+1) cv) (k+1) ((Ru.fill (ts.take (k+1)) x).map (Value.int .i64))):=by rw[HTK.out,List.map_append];exact ho9b);clear ho9b;go_wp2_with fail;go_roundw;(case rel=>exact⟨k+1,hlt,gN,_,HZ9,hF9b,HO5.out,hb9b⟩);case measure=>exact mI
  have hdd:decide (k<ts.length)=false:=decide_eq_false hlt;(have HTK:Hid (Ru.fill (ts.take k) x=Ru.fill ts x):=by show _=_;rw[List.take_of_length_le oM]);(have hfl:(Ru.fill (ts.take k) x).length=k:=by unfold Ru.fill;rw[List.length_map,List.length_take];omega);(have g0:wr.cell? ⟨w.heap.size+1,0,none⟩=some (.int .i64 pd):=by rw[Lib.cell_of_heap HF.out];rfl);(have g1:wr.cell? ⟨w.heap.size+1,1,none⟩=some (.slice au k cu):=by rw[Lib.cell_of_heap HF.out];rfl);(have z0:wr.cell? ⟨w.heap.size,0,none⟩=some (.int .i64 0):=by rw[Lib.cell_of_heap HZ.out];rfl);(have z1:wr.cell? ⟨w.heap.size,1,none⟩=some (.slice none 0 0):=by rw[Lib.cell_of_heap HZ.out];rfl);have y0:=Lib.frozen_of_heap HZ.out 0;have y1:=Lib.frozen_of_heap HZ.out 1;(have hS0:(wr.setCell ⟨w.heap.size,0,none⟩ (.int .i64 pd)).heap[w.heap.size]?=some (.cells #[.int .i64 pd, .slice none 0 0] 55):=by rw[Lib.heap_setCell_same HZ.out];rfl);(have z2:(wr.setCell ⟨w.heap.size,0,none⟩ (.int .i64 pd)).cell? ⟨w.heap.size,1,none⟩=some (.slice none 0 0):=by rw[Lib.cell_of_heap hS0];rfl);have y2:=Lib.frozen_of_heap hS0 1;(have hS1:((wr.setCell ⟨w.heap.size,0,none⟩ (.int .i64 pd)).setCell ⟨w.heap.size,1,none⟩ (.slice au k cu)).heap[w.heap.size]?=some (.cells #[.int .i64 pd, .slice au k cu] 55):=by rw[Lib.heap_setCell_same hS0];rfl);(have d0:((wr.setCell ⟨w.heap.size,0,none⟩ (.int .i64 pd)).setCell ⟨w.heap.size,1,none⟩ (.slice au k cu)).cell? ⟨w.heap.size,0,none⟩=some (.int .i64 pd):=by rw[Lib.cell_of_heap hS1];rfl);(have d1:((wr.setCell ⟨w.heap.size,0,none⟩ (.int .i64 pd)).setCell ⟨w.heap.size,1,none⟩ (.slice au k cu)).cell? ⟨w.heap.size,1,none⟩=some (.slice au k cu):=by rw[Lib.cell_of_heap hS1];rfl);(have HR:Hid (IRow ((wr.setCell ⟨w.heap.size,0,none⟩ (.int .i64 pd)).setCell ⟨w.heap.size,1,none⟩ (.slice au k cu)) w.heap.size (.slice au k cu) (Ru.fill ts x)):=by rw[←HTK.out];show World.ownsRow _ _ _ _ _ (Ru.fill (ts.take k) x).length _;rw[hfl];refine rl_own_le ?_ (Nat.le_add_right _ 2);refine rl_own_alone HO.out (fun g hg=>?_);have :=(World.ownsRow.lt HO.out g hg).1;rw[heap_set_other oM,heap_set_other oM]);have HB9:Hid (Below w.heap.size w ((wr.setCell ⟨w.heap.size,0,none⟩ (.int .i64 pd)).setCell ⟨w.heap.size,1,none⟩ (.slice au k cu))):=(HB.out.setCell (Nat.le_refl _) _).setCell (Nat.le_refl _) _;clear hS0 hS1 hfl;go_wp2_with fail;refine bodyPost_ret (v:=.agg #[.int .i64 pd, .slice au k cu]) (by simp[results,Tryz.results57,go_sem,d0,d1]) rfl ⟨_,rfl,HR.out,HB9.out⟩
theorem ready1_any(X:Nat)(y:Ru.Way)(t:Sc.Term)(w:World)(hW:WayAt w X y)(hy:Ru.Wf 8 y)(ht:Ru.TermIn 8 t):
 Calls Tryz.prog 212 #[ptermVal t, .pointer (some ⟨X,0,none⟩)] w fun e w'=>e=.returned (.bool (!Sc.known y.known t))∧Below w.heap.size w w':=by
 have bT:=(Below.refl w.heap.size w).alloc (Nat.le_refl _) (.cells #[.int .i64 t.var, .int .i64 t.n] 147);have HW:Hid (WayAt (w.alloc (.cells #[.int .i64 t.var, .int .i64 t.n] 147)) X y):=hW.below bT;have HB:Hid _:=bT;have hTB:=heap_alloc_new w (.cells #[.int .i64 t.var, .int .i64 t.n] 147);(have t0:(w.alloc (.cells #[.int .i64 t.var, .int .i64 t.n] 147)).cell? ⟨w.heap.size,0,none⟩=some (.int .i64 t.var):=by rw[Lib.cell_of_heap hTB];rfl);(have t1:(w.alloc (.cells #[.int .i64 t.var, .int .i64 t.n] 147)).cell? ⟨w.heap.size,1,none⟩=some (.int .i64 t.n):=by rw[Lib.cell_of_heap hTB];rfl);clear hW bT hTB
 go_enter Tryz.func212,Tryz.ntmps212
 go_upto_region 1 with fail;generalize w.alloc (.cells #[.int .i64 t.var, .int .i64 t.n] 147)=w1 at *;go_wp2_with(refine wpList_loadWay (wanted_none rfl) _ rfl _ rfl y HW.out hy ?_);refine Calls.mono (knows_any y t w1 hy ht) ?_;rintro _ w2 ⟨rfl,hb2⟩;have HB2:Hid _:=HB.out.trans (hb2.mono HB.out.size);clear t0 t1 hb2;go_wp2_with fail;go_ret;exact⟨rfl,HB2.out⟩
theorem termD_drop'(l:List Sc.Term)(k:Nat)(hk:k<l.length):l.drop k=Sc.termD l k::l.drop (k+1):=by rw[List.drop_eq_getElem_cons hk];simp[Sc.termD,List.getD_eq_getElem?_getD,hk]
theorem indexT_any(l:List Sc.Term)(v:Value)(X:Nat)(y:Ru.Way)(w:World)(hT:PTermsV w v l)(hl:l.length≤1000000)(hW:WayAt w X y)(hy:Ru.Wf 8 y)(hI:Ru.TermsIn 8 l):
 Calls Tryz.prog 226 #[v, .func (.func 212) #[] #[.pointer (some ⟨X,0,none⟩)]] w fun e w'=>∃r:Int,e=.returned (.int .i64 r)∧decide (0≤r)=(!l.all (Sc.known y.known))∧Below w.heap.size w w':=by
 obtain⟨ao,cap,rfl,_,hA⟩:=hT;have HA:Hid _:=hA;have HW:Hid (WayAt w X y):=hW;have HI:Hid _:=hI;have he:∀args w,(callFunc 212 args).run Tryz.prog w=.ok (.enter 212 args) w:=enters_of Tryz.func212 kR rfl;clear hA hW hI
 go_enter Tryz.func226,Tryz.ntmps226
 go_wp2_with fail;go_loopw [8] (fun i wr=>∃k:Nat,k≤l.length∧i=.int .i64 k∧Hid (l.all (Sc.known y.known)=(l.drop k).all (Sc.known y.known))∧Hid (Below w.heap.size w wr)) (fun i _=>l.length-(intOf i).toNat);case atStart=>exact⟨0,Nat.zero_le _,rfl,rfl,Below.refl _ _⟩
 case round=>
  obtain⟨k,hk,rfl,HAL,HB⟩:=hrel;by_cases hlt:k<l.length
  ·obtain⟨b,off,rfl,hc⟩:=pterms_at HA.out k hlt;have hc:=hc k hlt;have q0:=cell_below HB.out hc.1;have q1:=cell_below HB.out hc.2;(have HD:Hid (l.all (Sc.known y.known)=(Sc.known y.known (Sc.termD l k)&&(l.drop (k+1)).all (Sc.known y.known))):=by show _=_;rw[HAL.out,termD_drop' l k hlt,List.all_cons]);have HTk:Hid _:=HI.out _ (Ru.termD_mem hlt);clear hc HAL;generalize Sc.termD l k=t at *;go_wp2_with fail;refine Calls.mono (ready1_any X y t wr (HW.out.below HB.out) hy HTk.out) ?_;rintro e w1 ⟨he1,hb1⟩;subst he1;have HB2:Hid _:=HB.out.trans (hb1.mono HB.out.size);clear hb1 q0 q1;cases hx:Sc.known y.known t
   ·(have HV:Hid (l.all (Sc.known y.known)=false):=by show _=_;rw[HD.out,hx];rfl);clear HD;go_wp2_with fail;go_ret;exact⟨k,rfl,by rw[HV.out];simp,HB2.out⟩
   (have HV:Hid (l.all (Sc.known y.known)=(l.drop (k+1)).all (Sc.known y.known)):=by show _=_;rw[HD.out,hx];rfl);clear HD;go_wp2_with fail;go_roundw;(case rel=>exact⟨k+1,oM,gN,HV.out,HB2.out⟩);case measure=>exact mI
  (have HV:Hid (l.all (Sc.known y.known)=true):=by show _=_;rw[HAL.out,List.drop_of_length_le oM];rfl);go_wp2_with fail;go_ret;exact⟨-1,rfl,rV,HB.out⟩
theorem containsT_any(l:List Sc.Term)(v:Value)(X:Nat)(y:Ru.Way)(w:World)(hT:PTermsV w v l)(hl:l.length≤1000000)(hW:WayAt w X y)(hy:Ru.Wf 8 y)(hI:Ru.TermsIn 8 l):
 Calls Tryz.prog 211 #[v, .func (.func 212) #[] #[.pointer (some ⟨X,0,none⟩)]] w fun e w'=>e=.returned (.bool (!l.all (Sc.known y.known)))∧Below w.heap.size w w':=by
 have HI:Hid _:=indexT_any l v X y w hT hl hW hy hI;obtain⟨ao,cap,rfl,_,_⟩:=hT;clear hW hI
 go_enter Tryz.func211,Tryz.ntmps211
 go_wp2_with fail;refine Calls.mono HI.out ?_;rintro e w1 ⟨r,rfl,hr,hb⟩;go_wp2_with fail;go_ret;exact⟨by rw[←hr];rfl,hb⟩
def readyTvT(y:Ru.Way)(X b off ct:Nat)(t0 t1:Sc.Term):Nat→Value
 |11=>wayVal y
 |12=>.pointer (some ⟨X,3,none⟩)
 |13=>.slice (some ⟨b,off,none⟩) 3 ct
 |14=>.pointer (some ⟨b,off,none⟩)
 |15=>ptermVal t0
 |16=>.bool true
 |17=>.bool true
 |18=>wayVal y
 |19=>.pointer (some ⟨X,3,none⟩)
 |20=>.slice (some ⟨b,off,none⟩) 3 ct
 |21=>.pointer (some ⟨b,off+2,none⟩)
 |22=>ptermVal t1
 |23=>.bool (Sc.known y.known t1)
 |24=>.bool (Sc.known y.known t1)
 |4=>.bool (Sc.known y.known t1)
 |_=>.bool false
def readyTvF(y:Ru.Way)(X b off ct:Nat)(t0:Sc.Term):Nat→Value
 |11=>wayVal y
 |12=>.pointer (some ⟨X,3,none⟩)
 |13=>.slice (some ⟨b,off,none⟩) 3 ct
 |14=>.pointer (some ⟨b,off,none⟩)
 |15=>ptermVal t0
 |16=>.bool false
 |17=>.bool false
 |18=>undef
 |19=>undef
 |20=>undef
 |21=>undef
 |22=>undef
 |23=>undef
 |24=>.bool false
 |4=>.bool false
 |_=>.bool false
theorem ready_any(l:Sc.Lit)(vt:Value)(y:Ru.Way)(w:World)(hT:PTermsV w vt l.terms)(hy:Ru.Wf 8 y)(hI:Ru.TermsIn 8 l.terms)(h4:l.kind=4→l.terms.length=3)(hl:l.terms.length≤1000000):
 Calls Tryz.prog 181 #[plitVal l vt,wayVal y] w fun e w'=>e=.returned (.bool (Ru.ready y l))∧Below w.heap.size w w':=by
 have hmf:∀(fn:Fn)(first cap:Array Value)(w:World),(Instr.makeFunc fn first cap).run Tryz.prog w=.ok (.func fn first cap) w:=fun _ _ _ _=>rfl;have HT:Hid _:=hT;obtain⟨at_,ct,rfl,_⟩:=id hT;obtain⟨kd,op,pd,ts⟩:=l;dsimp only at *;obtain⟨h0,h1,hb⟩:=ru_two w (.cells #[.int .i64 kd, .int .i64 op, .int .i64 pd, .slice at_ ts.length ct] 49) (.cells (wayArr y) 138);have HL:Hid _:=h0;have HW:Hid (WayAt ((w.alloc (.cells #[.int .i64 kd, .int .i64 op, .int .i64 pd, .slice at_ ts.length ct] 49)).alloc (.cells (wayArr y) 138)) (w.heap.size+1) y):=h1;have HB:Hid _:=hb;have HI:Hid _:=hI;have HTq:Hid _:=ptermsV_below hT hb;clear h0 h1 hb hT hI;by_cases hk1:kd=1
 ·(have HV:Hid (Ru.ready y ⟨kd,op,pd,ts⟩=true):=by show _=_;unfold Ru.ready;rw[if_pos hk1]);(have g1:(kd==1)=true:=by simpa using hk1);clear h4 hk1;have d0:((w.alloc (.cells #[.int .i64 kd, .int .i64 op, .int .i64 pd, .slice at_ ts.length ct] 49)).alloc (.cells (wayArr y) 138)).cell? ⟨w.heap.size,0,none⟩=some (.int .i64 kd):=by rw[Lib.cell_of_heap HL.out];rfl
  go_enter Tryz.func181,Tryz.ntmps181
  go_wp2_with fail;go_ret;exact⟨rV,HB.out⟩
 (have g1:(kd==1)=false:=by simpa using hk1);by_cases hk4:kd=4
 ·(have g4:(kd==4)=true:=by simpa using hk4);have h3:=h4 hk4;(have hV0:Ru.ready y ⟨kd,op,pd,ts⟩=(Sc.known y.known (Sc.termD ts 0)&&Sc.known y.known (Sc.termD ts 1)):=by unfold Ru.ready;rw[if_neg hk1,if_pos hk4]);obtain⟨b,off,rfl,hc⟩:=pterms_at (by obtain⟨_,_,e,_,hA⟩:=HTq.out;injection e with e _ _;subst e;exact hA) 0 oM;have hc0:=hc 0 oM;have hc1:=hc 1 oM;have HT0:Hid (Ru.TermIn 8 (Sc.termD ts 0)):=HI.out _ (Ru.termD_mem oM);have HT1:Hid (Ru.TermIn 8 (Sc.termD ts 1)):=HI.out _ (Ru.termD_mem oM);obtain⟨p0,p1⟩:=hc0;obtain⟨p2,p3⟩:=hc1;clear hc h4 hk1 hk4;(have d0:((w.alloc (.cells #[.int .i64 kd, .int .i64 op, .int .i64 pd, .slice (some ⟨b,off,none⟩) ts.length ct] 49)).alloc (.cells (wayArr y) 138)).cell? ⟨w.heap.size,0,none⟩=some (.int .i64 kd):=by rw[Lib.cell_of_heap HL.out];rfl);(have d3:((w.alloc (.cells #[.int .i64 kd, .int .i64 op, .int .i64 pd, .slice (some ⟨b,off,none⟩) ts.length ct] 49)).alloc (.cells (wayArr y) 138)).cell? ⟨w.heap.size,3,none⟩=some (.slice (some ⟨b,off,none⟩) ts.length ct):=by rw[Lib.cell_of_heap HL.out];rfl);generalize Sc.termD ts 0=t0 at *;generalize Sc.termD ts 1=t1 at *;clear HT HTq HL HI;rw[Nat.zero_mul,Nat.add_zero]at p0 p1;rw[Nat.one_mul]at p2 p3;generalize ts.length=nl at *;subst h3
  go_enter Tryz.func181,Tryz.ntmps181
  go_upto_region 5 with fail;generalize (w.alloc (.cells #[.int .i64 kd, .int .i64 op, .int .i64 pd, .slice (some ⟨b,off,none⟩) 3 ct] 49)).alloc (.cells (wayArr y) 138)=w1 at *;cases hk:Sc.known y.known t0
  ·have HK:Hid _:=hk;(have HV:Hid (Ru.ready y ⟨kd,op,pd,ts⟩=false):=by show _=_;rw[hV0,hk];rfl);clear hk hV0;refine wp_region_tabA (fun tQ vQ _=>vQ=readyTvF y w.heap.size b off ct t0 tQ) kR kR (fun _ _ _ _ _ h=>h) ?hop ?hend
   case hop=>
    refine oC (fun a y_ h=>by have e3:a.eval (.tmp 3)=(.pointer (some ⟨w.heap.size+1,0,none⟩):Value):=h.old 3;refine opV (v:=wayVal y) ?_;exact load_way rfl e3 (HW.out.below h.below) hy) ?_;refine oC (fun a y_ h=>by have e2:a.eval (.tmp 2)=(.pointer (some ⟨w.heap.size,0,none⟩):Value):=h.old 2;exact opX (.pointer (some ⟨w.heap.size,3,none⟩))) ?_;refine oC (fun a y_ h=>by have e12:a.eval (.tmp 12)=(.pointer (some ⟨w.heap.size,3,none⟩):Value):=h.of 12;have c3:=cell_below h.below d3;exact opX (.slice (some ⟨b,off,none⟩) 3 ct)) ?_;refine oC (fun a y_ h=>by have e13:a.eval (.tmp 13)=(.slice (some ⟨b,off,none⟩) 3 ct:Value):=h.of 13;exact opX (.pointer (some ⟨b,off,none⟩))) ?_;refine oC (fun a y_ h=>by have e14:a.eval (.tmp 14)=(.pointer (some ⟨b,off,none⟩):Value):=h.of 14;have c0:=cell_below h.below p0;have c1:=cell_below h.below p1;exact opX (ptermVal t0)) ?_;refine oC (fun a y_ h=>?_) ?_
    ·have e11:a.eval (.tmp 11)=(wayVal y:Value):=h.of 11;have e15:a.eval (.tmp 15)=(ptermVal t0:Value):=h.of 15;refine opOk_call (f:=210) (args:=#[wayVal y,ptermVal t0]) (wanted_none rfl) ?_ ?_
     ·have ec:=evc a;have ef:=evf a;generalize a.eval=ev at *;clear h;go_simp
     refine Calls.mono (knows_any y t0 y_ hy HT0.out) ?_;rintro _ y2 ⟨rfl,hb2⟩;exact⟨_,rfl,fun t ht=>by cases ht;exact congrArg Value.bool HK.out,hb2⟩
    refine oC (fun a y_ h=>by have e16:a.eval (.tmp 16)=(.bool false:Value):=h.of 16;exact opX (.bool false)) ?_;refine oC (fun a y_ h=>by exact opS (h.of 17)) ?_;refine oC (fun a y_ h=>by exact opS (h.of 17)) ?_;refine oC (fun a y_ h=>by exact opS (h.of 17)) ?_;refine oC (fun a y_ h=>by exact opS (h.of 17)) ?_;refine oC (fun a y_ h=>by exact opS (h.of 17)) ?_;refine oC (fun a y_ h=>by exact opS (h.of 17)) ?_;refine oC (fun a y_ h=>by have e17:a.eval (.tmp 17)=(.bool false:Value):=h.of 17;have e23:a.eval (.tmp 23)=(undef:Value):=h.of 23;exact opX (.bool false)) ?_;refine oC (fun a y_ h=>by have e24:a.eval (.tmp 24)=(.bool false:Value):=h.of 24;exact opX (.bool false)) ?_;exact AllOps.nil
   case hend=>rintro⟨tm,df⟩ wE hbE hdE hsE hstE hTE;have h4:tm.getD 4 undef=.bool false:=ends_at (T:=fun tQ vQ _=>vQ=readyTvF y w.heap.size b off ct t0 tQ) (w:=wE) (a:=⟨tm,df⟩) (t:=4) hTE kR;obtain rfl:df=[]:=hdE;obtain⟨fQ,hQ,hFE⟩:=tmps_F [11,12,13,14,15,16,17,18,19,20,21,22,23,24,4] tm _ hsE hstE;clear hsE hstE hTE;simp only[List.foldl_cons,List.foldl_nil,(hQ 4).trans h4]at hFE;clear h4 hQ;simp only[List.setIfInBounds_toArray,List.set_cons_zero,List.set_cons_succ]at hFE;subst hFE;go_wp2_with fail;go_ret;exact⟨rV,HB.out.trans (hbE.mono HB.out.size)⟩
  have HK:Hid _:=hk;(have HV:Hid (Ru.ready y ⟨kd,op,pd,ts⟩=Sc.known y.known t1):=by show _=_;rw[hV0,hk];rfl);clear hk hV0;refine wp_region_tabA (fun tQ vQ _=>vQ=readyTvT y w.heap.size b off ct t0 t1 tQ) kR kR (fun _ _ _ _ _ h=>h) ?hop ?hend
  case hop=>
   refine oC (fun a y_ h=>by have e3:a.eval (.tmp 3)=(.pointer (some ⟨w.heap.size+1,0,none⟩):Value):=h.old 3;refine opV (v:=wayVal y) ?_;exact load_way rfl e3 (HW.out.below h.below) hy) ?_;refine oC (fun a y_ h=>by have e2:a.eval (.tmp 2)=(.pointer (some ⟨w.heap.size,0,none⟩):Value):=h.old 2;exact opX (.pointer (some ⟨w.heap.size,3,none⟩))) ?_;refine oC (fun a y_ h=>by have e12:a.eval (.tmp 12)=(.pointer (some ⟨w.heap.size,3,none⟩):Value):=h.of 12;have c3:=cell_below h.below d3;exact opX (.slice (some ⟨b,off,none⟩) 3 ct)) ?_;refine oC (fun a y_ h=>by have e13:a.eval (.tmp 13)=(.slice (some ⟨b,off,none⟩) 3 ct:Value):=h.of 13;exact opX (.pointer (some ⟨b,off,none⟩))) ?_;refine oC (fun a y_ h=>by have e14:a.eval (.tmp 14)=(.pointer (some ⟨b,off,none⟩):Value):=h.of 14;have c0:=cell_below h.below p0;have c1:=cell_below h.below p1;exact opX (ptermVal t0)) ?_;refine oC (fun a y_ h=>?_) ?_
   ·have e11:a.eval (.tmp 11)=(wayVal y:Value):=h.of 11;have e15:a.eval (.tmp 15)=(ptermVal t0:Value):=h.of 15;refine opOk_call (f:=210) (args:=#[wayVal y,ptermVal t0]) (wanted_none rfl) ?_ ?_
    ·have ec:=evc a;have ef:=evf a;generalize a.eval=ev at *;clear h;go_simp
    refine Calls.mono (knows_any y t0 y_ hy HT0.out) ?_;rintro _ y2 ⟨rfl,hb2⟩;exact⟨_,rfl,fun t ht=>by cases ht;exact congrArg Value.bool HK.out,hb2⟩
   refine oC (fun a y_ h=>by have e16:a.eval (.tmp 16)=(.bool true:Value):=h.of 16;exact opX (.bool true)) ?_;refine oC (fun a y_ h=>by have e3:a.eval (.tmp 3)=(.pointer (some ⟨w.heap.size+1,0,none⟩):Value):=h.old 3;refine opOk_val (v:=wayVal y) (w':=y_) (wG (h.of 17)) ?_ tR (Below.refl _ _);exact load_way rfl e3 (HW.out.below h.below) hy) ?_;refine oC (fun a y_ h=>by have e2:a.eval (.tmp 2)=(.pointer (some ⟨w.heap.size,0,none⟩):Value):=h.old 2;refine opOk_val (v:=.pointer (some ⟨w.heap.size,3,none⟩)) (w':=y_) (wG (h.of 17)) ?_ tR (Below.refl _ _);have ec:=evc a;generalize a.eval=ev at *;clear h;go_simp) ?_;refine oC (fun a y_ h=>by have e19:a.eval (.tmp 19)=(.pointer (some ⟨w.heap.size,3,none⟩):Value):=h.of 19;have c3:=cell_below h.below d3;refine opOk_val (v:=.slice (some ⟨b,off,none⟩) 3 ct) (w':=y_) (wG (h.of 17)) ?_ tR (Below.refl _ _);have ec:=evc a;generalize a.eval=ev at *;clear h;go_simp) ?_;refine oC (fun a y_ h=>by have e20:a.eval (.tmp 20)=(.slice (some ⟨b,off,none⟩) 3 ct:Value):=h.of 20;refine opOk_val (v:=.pointer (some ⟨b,off+2,none⟩)) (w':=y_) (wG (h.of 17)) ?_ tR (Below.refl _ _);have ec:=evc a;generalize a.eval=ev at *;clear h;go_simp) ?_;refine oC (fun a y_ h=>by have e21:a.eval (.tmp 21)=(.pointer (some ⟨b,off+2,none⟩):Value):=h.of 21;have c0:=cell_below h.below p2;have c1:=cell_below h.below p3;refine opOk_val (v:=ptermVal t1) (w':=y_) (wG (h.of 17)) ?_ tR (Below.refl _ _);have ec:=evc a;generalize a.eval=ev at *;clear h;go_simp) ?_;refine oC (fun a y_ h=>?_) ?_
   ·have e18:a.eval (.tmp 18)=(wayVal y:Value):=h.of 18;have e22:a.eval (.tmp 22)=(ptermVal t1:Value):=h.of 22;refine opOk_call (f:=210) (args:=#[wayVal y,ptermVal t1]) (wG (h.of 17)) ?_ ?_
    ·have ec:=evc a;have ef:=evf a;generalize a.eval=ev at *;clear h;go_simp
    refine Calls.mono (knows_any y t1 y_ hy HT1.out) ?_;rintro _ y2 ⟨rfl,hb2⟩;exact⟨_,rfl,fun t ht=>by cases ht;exact rfl,hb2⟩
   refine oC (fun a y_ h=>by have e17:a.eval (.tmp 17)=(.bool true:Value):=h.of 17;have e23:a.eval (.tmp 23)=(.bool (Sc.known y.known t1):Value):=h.of 23;exact opX (.bool (Sc.known y.known t1))) ?_;refine oC (fun a y_ h=>by have e24:a.eval (.tmp 24)=(.bool (Sc.known y.known t1):Value):=h.of 24;exact opX (.bool (Sc.known y.known t1))) ?_;exact AllOps.nil
  case hend=>rintro⟨tm,df⟩ wE hbE hdE hsE hstE hTE;have h4:tm.getD 4 undef=.bool (Sc.known y.known t1):=ends_at (T:=fun tQ vQ _=>vQ=readyTvT y w.heap.size b off ct t0 t1 tQ) (w:=wE) (a:=⟨tm,df⟩) (t:=4) hTE kR;obtain rfl:df=[]:=hdE;obtain⟨fQ,hQ,hFE⟩:=tmps_F [11,12,13,14,15,16,17,18,19,20,21,22,23,24,4] tm _ hsE hstE;clear hsE hstE hTE;simp only[List.foldl_cons,List.foldl_nil,(hQ 4).trans h4]at hFE;clear h4 hQ;simp only[List.setIfInBounds_toArray,List.set_cons_zero,List.set_cons_succ]at hFE;subst hFE;go_wp2_with fail;go_ret;exact⟨rV,HB.out.trans (hbE.mono HB.out.size)⟩
 (have g4:(kd==4)=false:=by simpa using hk4);(have HV:Hid (Ru.ready y ⟨kd,op,pd,ts⟩=ts.all (Sc.known y.known)):=by show _=_;unfold Ru.ready;rw[if_neg hk1,if_neg hk4]);(have d0:((w.alloc (.cells #[.int .i64 kd, .int .i64 op, .int .i64 pd, .slice at_ ts.length ct] 49)).alloc (.cells (wayArr y) 138)).cell? ⟨w.heap.size,0,none⟩=some (.int .i64 kd):=by rw[Lib.cell_of_heap HL.out];rfl);(have d3:((w.alloc (.cells #[.int .i64 kd, .int .i64 op, .int .i64 pd, .slice at_ ts.length ct] 49)).alloc (.cells (wayArr y) 138)).cell? ⟨w.heap.size,3,none⟩=some (.slice at_ ts.length ct):=by rw[Lib.cell_of_heap HL.out];rfl);clear hk1 hk4 h4
 go_enter Tryz.func181,Tryz.ntmps181
 go_upto_region 6 with fail;generalize (w.alloc (.cells #[.int .i64 kd, .int .i64 op, .int .i64 pd, .slice at_ ts.length ct] 49)).alloc (.cells (wayArr y) 138)=w1 at *;go_wp2_with fail;refine Calls.mono (containsT_any ts _ (w.heap.size+1) y w1 HTq.out hl HW.out hy HI.out) ?_;rintro _ w2 ⟨rfl,hb2⟩;have HB2:Hid _:=HB.out.trans (hb2.mono HB.out.size);clear hb2 d0 d3;go_wp2_with fail;go_ret;exact⟨by rw[HV.out];simp,HB2.out⟩
theorem WayAt.setKn{w:World}{b:Nat}{y:Ru.Way}(h:WayAt w b y)(hy:Ru.Wf 8 y)(i:Nat):WayAt (w.setCell ⟨b,8+i,none⟩ (.bool true)) b ⟨y.nums,y.known.set i true⟩:=by
 unfold WayAt at h ⊢;rw[Lib.heap_setCell_same h]
 congr 2
 unfold wayArr;(have h1:(y.nums.map (Value.int .i64)).length=8:=by rw[List.length_map,hy.n]);rw[List.setIfInBounds_toArray,List.set_append_right _ _ oM,h1,Nat.add_sub_cancel_left,List.map_set]
theorem WayAt.setNum{w:World}{b:Nat}{y:Ru.Way}(h:WayAt w b y)(hy:Ru.Wf 8 y){i:Nat}(hi:i<8)(n:Int):WayAt (w.setCell ⟨b,i,none⟩ (.int .i64 n)) b ⟨y.nums.set i n,y.known⟩:=by
 unfold WayAt at h ⊢;rw[Lib.heap_setCell_same h]
 congr 2
 unfold wayArr;(have h1:(y.nums.map (Value.int .i64)).length=8:=by rw[List.length_map,hy.n]);rw[List.setIfInBounds_toArray,List.set_append_left _ _ oM,List.map_set]
namespace Ru
def withO(y:Way)(ts:List Sc.Term)(ns:List Int):Way:=(withW y ts ns).getD way0
theorem with1_yes{y:Way}{t:Sc.Term}{n:Int}(hk:Sc.known y.known t=true)(h:num y.nums t=n):with1 y t n=some y:=by unfold with1;rw[if_pos hk,if_pos h]
theorem with1_no{y:Way}{t:Sc.Term}{n:Int}(hk:Sc.known y.known t=true)(h:¬num y.nums t=n):with1 y t n=none:=by unfold with1;rw[if_pos hk,if_neg h]
theorem with1_new{y:Way}{t:Sc.Term}{n:Int}(hk:Sc.known y.known t=false):with1 y t n=some ⟨y.nums.set t.var.toNat n,y.known.set t.var.toNat true⟩:=by unfold with1;rw[if_neg (by rw[hk];decide)]
theorem withW_drop(y:Way)(ts:List Sc.Term)(ns:List Int)(k:Nat)(h:k<ts.length):withW y (ts.drop k) (ns.drop k)=match with1 y (Sc.termD ts k) (Sc.intD ns k)with |none=>none|some y'=>withW y' (ts.drop (k+1)) (ns.drop (k+1)):=by rw[List.drop_eq_getElem_cons h];(have e1:Sc.termD ts k=ts[k]:=by unfold Sc.termD;rw[List.getD_eq_getElem?_getD,List.getElem?_eq_getElem h];rfl);(have e2:(ns.drop k).headD 0=Sc.intD ns k:=by unfold Sc.intD;rw[List.headD_eq_head?_getD,List.head?_drop,List.getD_eq_getElem?_getD]);(have e3:(ns.drop k).tail=ns.drop (k+1):=by rw[List.tail_drop]);show(match with1 y ts[k] ((ns.drop k).headD 0)with |none=>none|some w'=>withW w' (ts.drop (k+1)) (ns.drop k).tail)=_;rw[e1,e2,e3]
theorem withW_end(y:Way)(ts:List Sc.Term)(ns:List Int):withW y (ts.drop ts.length) ns=some y:=by rw[List.drop_length];rfl
end Ru
structure WIn (w wr:World) (y:Ru.Way):Prop where
 box:WayAt wr w.heap.size y
 res:WayAt wr (w.heap.size+1) Ru.way0
 bel:Below w.heap.size w wr
 wf:Ru.Wf 8 y
theorem WIn.below{w wr wx:World}{y:Ru.Way}(h:WIn w wr y)(hb:Below wr.heap.size wr wx):WIn w wx y:=
 ⟨h.box.below hb,h.res.below hb,h.bel.trans (hb.mono h.bel.size),h.wf⟩
theorem WIn.set{w wr:World}{y:Ru.Way}(h:WIn w wr y){i:Nat}(hi:i<8)(n:Int):WIn w ((wr.setCell ⟨w.heap.size,8+i,none⟩ (.bool true)).setCell ⟨w.heap.size,i,none⟩ (.int .i64 n)) ⟨y.nums.set i n,y.known.set i true⟩:=by
 have h1:=h.box.setKn h.wf i;have h2:=WayAt.setNum h1 ⟨h.wf.n,by simpa using h.wf.k⟩ hi n;refine⟨h2,?_,?_,⟨by simpa using h.wf.n,by simpa using h.wf.k⟩⟩
 ·unfold WayAt;rw[heap_set_other oM,heap_set_other oM];exact h.res
 exact(h.bel.setCell (Nat.le_refl _) _).setCell (Nat.le_refl _) _
def withTv(z:Ru.Way)(t:Sc.Term)(bn on nl cn k:Nat)(n:Int):Nat→Value
 |33=>wayVal z
 |34=>.agg #[.int .i64 t.var, .int .i64 t.n]
 |35=>.int .i64 (Ru.num z.nums t)
 |36=>.slice (some ⟨bn,on,none⟩) nl cn
 |37=>.int .i64 k
 |38=>.pointer (some ⟨bn,on+k,none⟩)
 |39=>.int .i64 n
 |40=>.bool (Ru.num z.nums t != n)
 |_=>.bool false
theorem with_any(y:Ru.Way)(ts:List Sc.Term)(ns:List Int)(vt vn:Value)(w:World)(hy:Ru.Wf 8 y)(hT:PTermsV w vt ts)(hN:IntsV w vn ns)(hl:ts.length=ns.length)(h3:ts.length≤1000)(hI:Ru.TermsIn 8 ts):
 Calls Tryz.prog 189 #[wayVal y,vt,vn] w fun e w'=>e=.returned (.tuple #[wayVal (Ru.withO y ts ns), .bool (Ru.withW y ts ns).isSome])∧Below w.heap.size w w':=by
 obtain⟨at_,ct,rfl,_,hT⟩:=hT;obtain⟨an,cn,rfl,hN⟩:=hN;obtain⟨h0,h1,hb⟩:=ru_two w (.cells (wayArr y) 138) (.cells #[.int .i64 0, .int .i64 0, .int .i64 0, .int .i64 0, .int .i64 0, .int .i64 0, .int .i64 0, .int .i64 0, .bool false, .bool false, .bool false, .bool false, .bool false, .bool false, .bool false, .bool false] 138);have HI:Hid (WIn w ((w.alloc (.cells (wayArr y) 138)).alloc (.cells #[.int .i64 0, .int .i64 0, .int .i64 0, .int .i64 0, .int .i64 0, .int .i64 0, .int .i64 0, .int .i64 0, .bool false, .bool false, .bool false, .bool false, .bool false, .bool false, .bool false, .bool false] 138)) y):=⟨h0,h1,hb,hy⟩;have HT:Hid _:=hT;have HN:Hid _:=hN;have HL:Hid _:=hl;have HTI:Hid _:=hI;clear h0 h1 hb hT hN hl hy hI
 go_enter Tryz.func189,Tryz.ntmps189
 go_wp2_with fail;generalize (w.alloc (.cells (wayArr y) 138)).alloc (.cells #[.int .i64 0, .int .i64 0, .int .i64 0, .int .i64 0, .int .i64 0, .int .i64 0, .int .i64 0, .int .i64 0, .bool false, .bool false, .bool false, .bool false, .bool false, .bool false, .bool false, .bool false] 138)=w1 at *;go_loopw [12] (fun i12 wr=>∃(k:Nat)(y':Ru.Way),k≤ts.length∧i12=.int .i64 k∧Hid (WIn w wr y')∧Hid (Ru.withW y ts ns=Ru.withW y' (ts.drop k) (ns.drop k))) (fun i12 _=>ts.length-(intOf i12).toNat);case atStart=>exact⟨0,y,Nat.zero_le _,rfl,HI.out,rfl⟩
 case round=>
  clear HI;obtain⟨k,yy,hk,rfl,HW,HE⟩:=hrel;by_cases hkl:k<ts.length
  ·obtain⟨b,off,rfl,hc⟩:=pterms_at HT.out k hkl;have hc:=hc k hkl;obtain⟨bn,on,rfl,z0⟩:=ints_at HN.out k (by rw[←HL.out];exact hkl);have q0:=cell_below HW.out.bel hc.1;have q1:=cell_below HW.out.bel hc.2;(have hkn:k<ns.length:=by rw[←HL.out];exact hkl);have HD:Hid _:=Ru.withW_drop yy ts ns k hkl;have HTk:Hid (Ru.TermIn 8 (Sc.termD ts k)):=HTI.out _ (Ru.termD_mem hkl);have Z0:Hid _:=z0;clear hc z0;generalize Sc.termD ts k=t at *;generalize Sc.intD ns k=n at *;go_upto_region 4 with fail;have bT:=(Below.refl wr.heap.size wr).alloc (Nat.le_refl _) (.cells #[.int .i64 t.var, .int .i64 t.n] 147);have HWq:Hid _:=HW.out.below bT;have HTB:Hid _:=heap_alloc_new wr (.cells #[.int .i64 t.var, .int .i64 t.n] 147);clear q0 q1 bT HW;generalize wr.alloc (.cells #[.int .i64 t.var, .int .i64 t.n] 147)=wq at *;generalize wr.heap.size=TB at *;(have t0:wq.cell? ⟨TB,0,none⟩=some (.int .i64 t.var):=by rw[Lib.cell_of_heap HTB.out];rfl);(have t1:wq.cell? ⟨TB,1,none⟩=some (.int .i64 t.n):=by rw[Lib.cell_of_heap HTB.out];rfl);go_wp2_with(refine wpList_loadWay (wanted_none rfl) _ rfl _ rfl yy HWq.out.box HWq.out.wf ?_);clear t0 t1;refine Calls.mono (knows_any yy t wq HWq.out.wf HTk.out) ?_;rintro _ w2 ⟨rfl,hb2⟩;have HW2:Hid _:=HWq.out.below hb2;have HT2:Hid _:=(hb2.block _ (heap_lt HTB.out)).trans HTB.out;clear hb2 HWq HTB;cases hkn2:Sc.known yy.known t
   ·have HK:Hid _:=hkn2;obtain⟨h0,_⟩:=Ru.known_in (w:=yy) (t:=t) (by rw[hkn2];decide);obtain⟨v,hv⟩:∃v:Nat,t.var=v:=⟨t.var.toNat,oM⟩;(have hv8:v<8:=by rcases HTk.out with h9|h9<;>omega);obtain⟨var,nn⟩:=t;dsimp only at hv;subst hv;(have hne:¬TB=w.heap.size:=fun e9=>by have h9:=HT2.out;rw[e9,HW2.out.box]at h9;injection h9 with h9;injection h9 with h91 h92;exact absurd h92 dE);((have t0:w2.cell? ⟨TB,0,none⟩=some (.int .i64 v):=by rw[Lib.cell_of_heap HT2.out];rfl);have b0:=HW2.out.box.kn HW2.out.wf hv8;have f0:=Lib.frozen_of_heap HW2.out.box (8+v);clear hkn2 h0;go_upto_region 6 with fail;have bel3:Below w.heap.size w (w2.setCell ⟨w.heap.size,8+v,none⟩ (.bool true)):=HW2.out.bel.setCell (Nat.le_refl _) _;have hT3:=(heap_set_other (w:=w2) (i:=8+v) (v:=.bool true) hne).trans HT2.out;have hB3:=HW2.out.box.setKn HW2.out.wf v;have z4:=cell_below bel3 Z0.out;(have t0':(w2.setCell ⟨w.heap.size,8+v,none⟩ (.bool true)).cell? ⟨TB,0,none⟩=some (.int .i64 v):=by rw[Lib.cell_of_heap hT3];rfl);have b1:=hB3.num ⟨HW2.out.wf.n,by simpa using HW2.out.wf.k⟩ hv8;have f1:=Lib.frozen_of_heap hB3 v;have HT3:Hid _:=hT3;have HW4:Hid _:=HW2.out.set hv8 n;clear hT3 hB3 bel3 t0 b0 f0;go_region;have hT4:=(heap_set_other (w:=w2.setCell ⟨w.heap.size,8+v,none⟩ (.bool true)) (i:=v) (v:=.int .i64 n) hne).trans HT3.out;have HT5:Hid _:=hT4;clear hT4 z4 t0' b1 f1 HT3 HT2 HW2;generalize (w2.setCell ⟨w.heap.size,8+v,none⟩ (.bool true)).setCell ⟨w.heap.size,v,none⟩ (.int .i64 n)=w3 at *;have HW4':Hid _:=HW4.out.below ((Below.refl _ _).drew);have HT4:Hid (w3.drew.heap[TB]?=some (.cells #[.int .i64 v, .int .i64 nn] 147)):=HT5.out;clear HW4 HT5;have HW4:Hid _:=HW4'.out;clear HW4';generalize w3.drew=w4 at *;have HNUM:Hid (Ru.num (yy.nums.set v n) ⟨v,nn⟩=n):=by show _=_;unfold Ru.num;rw[if_neg (show¬(v:Int)<0 by omega)];have h9:=HW4.out.wf.n;simp only[List.length_set]at h9;exact Ru.getD_set_eq _ _ _ _ (by show v<yy.nums.length;rw[h9];exact hv8));(have HE2:Hid (Ru.withW y ts ns=Ru.withW ⟨yy.nums.set v n,yy.known.set v true⟩ (ts.drop (k+1)) (ns.drop (k+1))):=by show _=_;rw[HE.out,HD.out,Ru.with1_new HK.out];rfl);go_upto_region 7 with fail;refine wp_region_tabA (fun tQ vQ _=>vQ=withTv ((⟨yy.nums.set v n,yy.known.set v true⟩:Ru.Way)) ⟨v,nn⟩ bn on ns.length cn k n tQ) kR kR (fun _ _ _ _ _ h=>h) ?hopA ?hendA
    case hopA=>
     refine oC (fun a y h=>by have e3:a.eval (.tmp 3)=(.pointer (some ⟨w.heap.size,0,none⟩):Value):=h.old 3;refine opV (v:=wayVal (⟨yy.nums.set v n,yy.known.set v true⟩:Ru.Way)) ?_;exact load_way rfl e3 (HW4.out.below h.below).box HW4.out.wf) ?_;refine oC (fun a y h=>by have e9:a.eval (.tmp 9)=(.pointer (some ⟨TB,0,none⟩):Value):=h.old 9;(have c0:y.cell? ⟨TB,0,none⟩=some (.int .i64 v):=by rw[Lib.cell_of_heap ((h.below.block _ (heap_lt HT4.out)).trans HT4.out)];rfl);(have c1:y.cell? ⟨TB,1,none⟩=some (.int .i64 nn):=by rw[Lib.cell_of_heap ((h.below.block _ (heap_lt HT4.out)).trans HT4.out)];rfl);exact opX (.agg #[.int .i64 v, .int .i64 nn])) ?_;refine oC (fun a y h=>?_) ?_
     ·have e33:a.eval (.tmp 33)=(wayVal (⟨yy.nums.set v n,yy.known.set v true⟩:Ru.Way):Value):=h.of 33;have e34:a.eval (.tmp 34)=(.agg #[.int .i64 v, .int .i64 nn]:Value):=h.of 34;refine opOk_call (f:=187) (args:=#[wayVal (⟨yy.nums.set v n,yy.known.set v true⟩:Ru.Way), .agg #[.int .i64 v, .int .i64 nn]]) (wanted_none rfl) ?_ ?_
      ·have ec:=evc a;have ef:=evf a;generalize a.eval=ev at *;clear h;go_simp
      refine Calls.mono (number_any ((⟨yy.nums.set v n,yy.known.set v true⟩:Ru.Way)) ⟨v,nn⟩ y HW4.out.wf HTk.out) ?_;rintro _ y2 ⟨rfl,hb2⟩;exact⟨_,rfl,fun t ht=>by cases ht;exact rfl,hb2⟩
     refine oC (fun a y h=>by have e2:a.eval (.tmp 2)=(.slice (some ⟨bn,on,none⟩) ns.length cn:Value):=h.old 2;exact opX (.slice (some ⟨bn,on,none⟩) ns.length cn)) ?_;refine oC (fun a y h=>by have e8:a.eval (.tmp 8)=(.int .i64 k:Value):=h.old 8;exact opX (.int .i64 k)) ?_;refine oC (fun a y h=>by have e36:a.eval (.tmp 36)=(.slice (some ⟨bn,on,none⟩) ns.length cn:Value):=h.of 36;have e37:a.eval (.tmp 37)=(.int .i64 k:Value):=h.of 37;exact opX (.pointer (some ⟨bn,on+k,none⟩))) ?_;refine oC (fun a y h=>by have e38:a.eval (.tmp 38)=(.pointer (some ⟨bn,on+k,none⟩):Value):=h.of 38;have c2:=cell_below (HW4.out.below h.below).bel Z0.out;exact opX (.int .i64 n)) ?_;refine oC (fun a y h=>by have e35:a.eval (.tmp 35)=(.int .i64 (Ru.num ((⟨yy.nums.set v n,yy.known.set v true⟩:Ru.Way)).nums ⟨v,nn⟩):Value):=h.of 35;have e39:a.eval (.tmp 39)=(.int .i64 n:Value):=h.of 39;exact opX (.bool (Ru.num ((⟨yy.nums.set v n,yy.known.set v true⟩:Ru.Way)).nums ⟨v,nn⟩ != n))) ?_;exact AllOps.nil
    case hendA=>rintro⟨tm,df⟩ wE hbE hdE hsE hstE hTE;have h40:tm.getD 40 undef=.bool (Ru.num ((⟨yy.nums.set v n,yy.known.set v true⟩:Ru.Way)).nums ⟨v,nn⟩ != n):=ends_at (T:=fun tQ vQ _=>vQ=withTv ((⟨yy.nums.set v n,yy.known.set v true⟩:Ru.Way)) ⟨v,nn⟩ bn on ns.length cn k n tQ) (w:=wE) (a:=⟨tm,df⟩) (t:=40) hTE kR;obtain rfl:df=[]:=hdE;obtain⟨fQ,hQ,hFE⟩:=tmps_F [33,34,35,36,37,38,39,40] tm _ hsE hstE;clear hsE hstE hTE;simp only[List.foldl_cons,List.foldl_nil,(hQ 40).trans h40]at hFE;clear h40 hQ;simp only[List.setIfInBounds_toArray,List.set_cons_zero,List.set_cons_succ]at hFE;subst hFE;have HW5:Hid _:=HW4.out.below hbE;clear hbE HW4 HT4;(have hq:(Ru.num (yy.nums.set v n) ⟨v,nn⟩ != n)=false:=by rw[HNUM.out];simp);rw[hq];go_wp2_with fail;go_roundw;(case rel=>exact⟨k+1,_,hkl,gN,HW5.out,HE2.out⟩);case measure=>exact mI
   have HK:Hid _:=hkn2;clear hkn2;have HW4:Hid _:=HW2.out;have HT4:Hid _:=HT2.out;clear HW2 HT2;generalize w2=w4 at *;go_upto_region 7 with fail;refine wp_region_tabA (fun tQ vQ _=>vQ=withTv (yy) t bn on ns.length cn k n tQ) kR kR (fun _ _ _ _ _ h=>h) ?hopB ?hendB
   case hopB=>
    refine oC (fun a y h=>by have e3:a.eval (.tmp 3)=(.pointer (some ⟨w.heap.size,0,none⟩):Value):=h.old 3;refine opV (v:=wayVal yy) ?_;exact load_way rfl e3 (HW4.out.below h.below).box HW4.out.wf) ?_;refine oC (fun a y h=>by have e9:a.eval (.tmp 9)=(.pointer (some ⟨TB,0,none⟩):Value):=h.old 9;(have c0:y.cell? ⟨TB,0,none⟩=some (.int .i64 t.var):=by rw[Lib.cell_of_heap ((h.below.block _ (heap_lt HT4.out)).trans HT4.out)];rfl);(have c1:y.cell? ⟨TB,1,none⟩=some (.int .i64 t.n):=by rw[Lib.cell_of_heap ((h.below.block _ (heap_lt HT4.out)).trans HT4.out)];rfl);exact opX (.agg #[.int .i64 t.var, .int .i64 t.n])) ?_;refine oC (fun a y h=>?_) ?_
    ·have e33:a.eval (.tmp 33)=(wayVal yy:Value):=h.of 33;have e34:a.eval (.tmp 34)=(.agg #[.int .i64 t.var, .int .i64 t.n]:Value):=h.of 34;refine opOk_call (f:=187) (args:=#[wayVal yy, .agg #[.int .i64 t.var, .int .i64 t.n]]) (wanted_none rfl) ?_ ?_
     ·have ec:=evc a;have ef:=evf a;generalize a.eval=ev at *;clear h;go_simp
     refine Calls.mono (number_any (yy) t y HW4.out.wf HTk.out) ?_;rintro _ y2 ⟨rfl,hb2⟩;exact⟨_,rfl,fun t ht=>by cases ht;exact rfl,hb2⟩
    refine oC (fun a y h=>by have e2:a.eval (.tmp 2)=(.slice (some ⟨bn,on,none⟩) ns.length cn:Value):=h.old 2;exact opX (.slice (some ⟨bn,on,none⟩) ns.length cn)) ?_;refine oC (fun a y h=>by have e8:a.eval (.tmp 8)=(.int .i64 k:Value):=h.old 8;exact opX (.int .i64 k)) ?_;refine oC (fun a y h=>by have e36:a.eval (.tmp 36)=(.slice (some ⟨bn,on,none⟩) ns.length cn:Value):=h.of 36;have e37:a.eval (.tmp 37)=(.int .i64 k:Value):=h.of 37;exact opX (.pointer (some ⟨bn,on+k,none⟩))) ?_;refine oC (fun a y h=>by have e38:a.eval (.tmp 38)=(.pointer (some ⟨bn,on+k,none⟩):Value):=h.of 38;have c2:=cell_below (HW4.out.below h.below).bel Z0.out;exact opX (.int .i64 n)) ?_;refine oC (fun a y h=>by have e35:a.eval (.tmp 35)=(.int .i64 (Ru.num (yy).nums t):Value):=h.of 35;have e39:a.eval (.tmp 39)=(.int .i64 n:Value):=h.of 39;exact opX (.bool (Ru.num (yy).nums t != n))) ?_;exact AllOps.nil
   case hendB=>
    rintro⟨tm,df⟩ wE hbE hdE hsE hstE hTE;have h40:tm.getD 40 undef=.bool (Ru.num (yy).nums t != n):=ends_at (T:=fun tQ vQ _=>vQ=withTv (yy) t bn on ns.length cn k n tQ) (w:=wE) (a:=⟨tm,df⟩) (t:=40) hTE kR;obtain rfl:df=[]:=hdE;obtain⟨fQ,hQ,hFE⟩:=tmps_F [33,34,35,36,37,38,39,40] tm _ hsE hstE;clear hsE hstE hTE;simp only[List.foldl_cons,List.foldl_nil,(hQ 40).trans h40]at hFE;clear h40 hQ;simp only[List.setIfInBounds_toArray,List.set_cons_zero,List.set_cons_succ]at hFE;subst hFE;have HW5:Hid _:=HW4.out.below hbE;clear hbE HW4 HT4;by_cases hnum:Ru.num yy.nums t=n
    ·(have HE2:Hid (Ru.withW y ts ns=Ru.withW yy (ts.drop (k+1)) (ns.drop (k+1))):=by show _=_;rw[HE.out,HD.out,Ru.with1_yes HK.out hnum]);(have hq:(Ru.num yy.nums t != n)=false:=by rw[hnum];simp);rw[hq];clear hnum hq;go_wp2_with fail;go_roundw;(case rel=>exact⟨k+1,_,hkl,gN,HW5.out,HE2.out⟩);case measure=>exact mI
    (have HE2:Hid (Ru.withW y ts ns=none):=by show _=_;rw[HE.out,HD.out,Ru.with1_no HK.out hnum]);(have hq:(Ru.num yy.nums t != n)=true:=by simpa using hnum);rw[hq];clear hnum hq;go_wp2_with(refine wpList_storeWay rfl _ _ rfl _ rfl Ru.way0 Ru.way0 rfl HW5.out.res ⟨rfl,rfl⟩ ⟨rfl,rfl⟩ ?_);refine bodyPost_ret (results_way rfl rfl (way_set HW5.out.res) ⟨rfl,rfl⟩) rfl ⟨?_,way_set_below HW5.out.bel (Nat.le_succ _)⟩;unfold Ru.withO;rw[HE2.out];rfl
  have hdd:decide (k<ts.length)=false:=decide_eq_false hkl;have hke:k=ts.length:=oM;(have HE2:Hid (Ru.withW y ts ns=some yy):=by show _=_;rw[HE.out,hke];exact Ru.withW_end _ _ _);clear hke
  go_wp2_with(first
   |(refine wpList_loadWay (wanted_none rfl) _ rfl _ rfl yy HW.out.box HW.out.wf ?_)
   |(refine wpList_storeWay rfl _ _ rfl _ rfl Ru.way0 yy rfl HW.out.res ⟨rfl,rfl⟩ HW.out.wf ?_))
  refine bodyPost_ret (results_way rfl rfl (way_set HW.out.res) HW.out.wf) rfl ⟨?_,way_set_below HW.out.bel (Nat.le_succ _)⟩;unfold Ru.withO;rw[HE2.out];rfl
namespace Ru
section
variable {σ:Type}
def run(step:σ→Way→σ×Bool):σ→List Way→σ×Bool
 |s,[]=>(s,true)
 |s,x::L=>if(step s x).2=true then run step (step s x).1 L else((step s x).1,false)
def Lv(step:σ→Way→σ×Bool)(live:σ→Way→Prop):σ→List Way→Prop
 |_,[]=>True
 |s,x::L=>live s x∧((step s x).2=true→Lv step live (step s x).1 L)
theorem run_cons(step:σ→Way→σ×Bool)(s:σ)(x:Way)(L:List Way):run step s (x::L)=if(step s x).2=true then run step (step s x).1 L else((step s x).1,false):=rfl
theorem run_append(step:σ→Way→σ×Bool):∀(L M:List Way)(s:σ),run step s (L++M)=if(run step s L).2=true then run step (run step s L).1 M else((run step s L).1,false)
 |[],M,s=>by rw[List.nil_append];show _=if true=true then run step s M else _;rw[if_pos rfl]
 |x::L,M,s=>by
  rw[List.cons_append,run_cons,run_cons];by_cases h:(step s x).2=true
  ·rw[if_pos h,if_pos h,run_append step L M]
  rw[if_neg h,if_neg h];rfl
theorem run_flat(step:σ→Way→σ×Bool)(f:Way→List Way):∀(L:List Way)(s:σ),run step s (L.flatMap f)=run (fun s x=>run step s (f x)) s L
 |[],s=>rfl
 |x::L,s=>by rw[List.flatMap_cons,run_append];show _=if(run step s (f x)).2=true then run (fun s x=>run step s (f x)) (run step s (f x)).1 L else((run step s (f x)).1,false);rw[run_flat step f L]
theorem lv_append(step:σ→Way→σ×Bool)(live:σ→Way→Prop):∀(L M:List Way)(s:σ),Lv step live s (L++M)→Lv step live s L∧((run step s L).2=true→Lv step live (run step s L).1 M)
 |[],M,s,h=>⟨trivial,fun _=>h⟩
 |x::L,M,s,h=>by
  obtain⟨h1,h2⟩:=h;refine⟨⟨h1,fun hs=>(lv_append step live L M _ (h2 hs)).1⟩,fun hr=>?_⟩;rw[run_cons]at hr ⊢;by_cases hs:(step s x).2=true
  ·rw[if_pos hs]at hr ⊢;exact(lv_append step live L M _ (h2 hs)).2 hr
  rw[if_neg hs]at hr;cases hr
theorem lv_flat(step:σ→Way→σ×Bool)(live:σ→Way→Prop)(f:Way→List Way):∀(L:List Way)(s:σ),Lv step live s (L.flatMap f)→Lv (fun s x=>run step s (f x)) (fun s x=>Lv step live s (f x)) s L
 |[],s,_=>trivial
 |x::L,s,h=>by rw[List.flatMap_cons]at h;obtain⟨h1,h2⟩:=lv_append step live _ _ _ h;exact⟨h1,fun hs=>lv_flat step live f L _ (h2 hs)⟩
end
end Ru
structure Kp (n0 NB:Nat) (w w':World):Prop where
 os:w'.os=w.os
 tape:w'.tape=w.tape
 output:w'.output=w.output
 size:w.heap.size≤w'.heap.size
 low:∀k,k<n0→w'.heap[k]?=w.heap[k]?
 keep:∀k c t,w.heap[k]?=some (.cells c t)→k≠NB→t≠22→w'.heap[k]?=some (.cells c t)
theorem Kp.trans{n0 NB:Nat}{a b c:World}(h:Kp n0 NB a b)(k:Kp n0 NB b c):Kp n0 NB a c:=
 ⟨k.os.trans h.os,k.tape.trans h.tape,k.output.trans h.output,Nat.le_trans h.size k.size,fun j hj=>(k.low j hj).trans (h.low j hj),fun j o t hj h1 h2=>k.keep j o t (h.keep j o t hj h1 h2) h1 h2⟩
theorem Kp.of_below{n0 NB:Nat}{w w':World}(h:Below w.heap.size w w')(hn:n0≤w.heap.size):Kp n0 NB w w':=
 ⟨h.os,h.tape,h.output,h.size,fun k hk=>h.block k (Nat.lt_of_lt_of_le hk hn),fun k _ _ hk _ _=>(h.block k (heap_lt hk)).trans hk⟩
theorem Kp.below{n0 NB:Nat}{w0 w w':World}(h:Kp n0 NB w w')(hb:Below n0 w0 w):Below n0 w0 w':=
 ⟨h.os.trans hb.os,h.tape.trans hb.tape,h.output.trans hb.output,Nat.le_trans hb.size h.size,fun k hk=>(h.low k hk).trans (hb.block k hk)⟩
theorem Kp.way{n0 NB:Nat}{w w':World}(h:Kp n0 NB w w'){b:Nat}{y:Ru.Way}(hb:b≠NB)(hW:WayAt w b y):WayAt w' b y:=h.keep b _ _ hW hb dE
structure Tell (n0 NB h:Nat) (cb:Array Value) {σ:Type} (step:σ→Ru.Way→σ×Bool) (live:σ→Ru.Way→Prop) (I:σ→World→Prop):Prop where
 call:∀s w x,I s w→live s x→Ru.Wf 8 x→Calls Tryz.prog h (#[wayVal x]++cb) w fun e w'=>e=.returned (.bool (step s x).2)∧I (step s x).1 w'∧Kp n0 NB w w'
 grow:∀s w w',I s w→Below w.heap.size w w'→I s w'
 room:∀s w,I s w→n0≤w.heap.size∧NB<w.heap.size
namespace Ru
def onF(l:Sc.Lit)(y:Way)(f:Rl.Fc):Option Way:=if f.pred=l.pred then withW y l.terms f.args else none
theorem on_yes{facts:List Rl.Fc}{l:Sc.Lit}{y:Way}(h:l.kind=1):on facts l y=facts.filterMap (onF l y):=by unfold on;rw[if_pos h];rfl
theorem onF_drop(l:Sc.Lit)(y:Way)(facts:List Rl.Fc)(k:Nat)(h:k<facts.length):(facts.drop k).filterMap (onF l y)=(onF l y (Rl.factD facts k)).toList++(facts.drop (k+1)).filterMap (onF l y):=by rw[factD_drop facts k h,List.filterMap_cons];cases onF l y (Rl.factD facts k)<;>rfl
end Ru
theorem holdYes_any{σ:Type}{step:σ→Ru.Way→σ×Bool}{live:σ→Ru.Way→Prop}{I:σ→World→Prop}{NB hh:Nat}{cb:Array Value}(facts:List Rl.Fc)(l:Sc.Lit)(y:Ru.Way)(vf vt:Value)(w0 w:World)(s:σ)
 (hB0:Below w0.heap.size w0 w) (hF:FactsV w0 vf facts) (hFl:facts.length≤1000000) (hT:PTermsV w0 vt l.terms) (hTI:Ru.TermsIn 8 l.terms) (hA:∀f,f∈facts→f.pred=l.pred→l.terms.length=f.args.length) (hTl:l.terms.length≤1000) (hy:Ru.Wf 8 y)
 (TL:Tell w0.heap.size NB hh cb step live I) (he:∀args w,(callFunc hh args).run Tryz.prog w=.ok (.enter hh args) w) (hI:I s w) (hLv:Ru.Lv step live s (facts.filterMap (Ru.onF l y))):
 Calls Tryz.prog 184 #[vf,plitVal l vt,wayVal y, .func (.func hh) #[] cb] w fun e w'=>e=.returned (.bool (Ru.run step s (facts.filterMap (Ru.onF l y))).2)∧I (Ru.run step s (facts.filterMap (Ru.onF l y))).1 w'∧Kp w0.heap.size NB w w':=by
 obtain⟨ao,cap,rfl,_,hFA⟩:=hF;have HT:Hid _:=hT;obtain⟨at_,ct,rfl,_⟩:=id hT;obtain⟨kd,op,pd,ts⟩:=l;dsimp only at *;obtain⟨h0,h1,hb⟩:=ru_two w (.cells #[.int .i64 kd, .int .i64 op, .int .i64 pd, .slice at_ ts.length ct] 49) (.cells (wayArr y) 138);have HL:Hid _:=h0;have HW:Hid (WayAt ((w.alloc (.cells #[.int .i64 kd, .int .i64 op, .int .i64 pd, .slice at_ ts.length ct] 49)).alloc (.cells (wayArr y) 138)) (w.heap.size+1) y):=h1;have hroom:=TL.room s w hI;have HI:Hid _:=TL.grow _ _ _ hI hb;have HK:Hid (Kp w0.heap.size NB w ((w.alloc (.cells #[.int .i64 kd, .int .i64 op, .int .i64 pd, .slice at_ ts.length ct] 49)).alloc (.cells (wayArr y) 138))):=Kp.of_below hb hroom.1;have HB0:Hid _:=hB0;have HFA:Hid _:=hFA;have HA:Hid _:=hA;have HTI:Hid _:=hTI;have HLv:Hid _:=hLv;have HTL:Hid _:=TL;have hNB:=hroom.2;clear h0 h1 hb hT hI hroom hB0 hFA hA hTI hLv TL
 go_enter Tryz.func184,Tryz.ntmps184
 go_wp2_with fail;generalize (w.alloc (.cells #[.int .i64 kd, .int .i64 op, .int .i64 pd, .slice at_ ts.length ct] 49)).alloc (.cells (wayArr y) 138)=w1 at *;go_loopw [15] (fun i wr=>∃(k:Nat)(s':σ),k≤facts.length∧i=.int .i64 k∧Hid (I s' wr)∧Hid (Kp w0.heap.size NB w wr)∧Hid (wr.heap[w.heap.size]?=some (.cells #[.int .i64 kd, .int .i64 op, .int .i64 pd, .slice at_ ts.length ct] 49))∧Hid (WayAt wr (w.heap.size+1) y)∧Hid (Ru.run step s (facts.filterMap (Ru.onF ⟨kd,op,pd,ts⟩ y))=Ru.run step s' ((facts.drop k).filterMap (Ru.onF ⟨kd,op,pd,ts⟩ y)))∧Hid (Ru.Lv step live s' ((facts.drop k).filterMap (Ru.onF ⟨kd,op,pd,ts⟩ y)))) (fun i _=>facts.length-(intOf i).toNat);case atStart=>exact⟨0,s,Nat.zero_le _,rfl,HI.out,HK.out,HL.out,HW.out,rfl,HLv.out⟩
 case round=>
  clear HI HK HL HW HLv;obtain⟨k,s',hk,rfl,HI,HK,HL,HW,HR,HLv⟩:=hrel;by_cases hlt:k<facts.length
  ·have HBr:Hid (Below w0.heap.size w0 wr):=HK.out.below HB0.out;obtain⟨b,off,rfl,p0,fv,p1,hIv⟩:=facts_at HFA.out k hlt;have q0:=cell_below HBr.out p0;have q1:=cell_below HBr.out p1;have HIV:Hid (IntsV w0 fv (Rl.factD facts k).args):=hIv;obtain⟨af,cf,rfl,_⟩:=hIv;have HD:Hid _:=Ru.onF_drop ⟨kd,op,pd,ts⟩ y facts k hlt;have HAf:Hid ((Rl.factD facts k).pred=pd→ts.length=(Rl.factD facts k).args.length):=HA.out _ (factD_mem facts k hlt);clear p0 p1;generalize Rl.factD facts k=f at *;(have d2:wr.cell? ⟨w.heap.size,2,none⟩=some (.int .i64 pd):=by rw[Lib.cell_of_heap HL.out];rfl);go_upto_region 4 with fail;have bT:=(Below.refl wr.heap.size wr).alloc (Nat.le_refl _) (.cells #[.int .i64 f.pred, .slice af f.args.length cf] 55);have hTB:=heap_alloc_new wr (.cells #[.int .i64 f.pred, .slice af f.args.length cf] 55);have HTB:Hid _:=hTB;have HIq:Hid _:=HTL.out.grow _ _ _ HI.out bT;have HKq:Hid _:=HK.out.trans (Kp.of_below bT (HTL.out.room _ _ HI.out).1);have HLq:Hid _:=(bT.block _ (heap_lt HL.out)).trans HL.out;have HWq:Hid _:=HW.out.below bT;clear q0 q1 d2 bT hTB HI HK HL HW HBr;generalize wr.alloc (.cells #[.int .i64 f.pred, .slice af f.args.length cf] 55)=wq at *;generalize wr.heap.size=TB at *;(have f0:wq.cell? ⟨TB,0,none⟩=some (.int .i64 f.pred):=by rw[Lib.cell_of_heap HTB.out];rfl);(have f1:wq.cell? ⟨TB,1,none⟩=some (.slice af f.args.length cf):=by rw[Lib.cell_of_heap HTB.out];rfl);(have d2:wq.cell? ⟨w.heap.size,2,none⟩=some (.int .i64 pd):=by rw[Lib.cell_of_heap HLq.out];rfl);(have d3:wq.cell? ⟨w.heap.size,3,none⟩=some (.slice at_ ts.length ct):=by rw[Lib.cell_of_heap HLq.out];rfl);by_cases hp:f.pred=pd
   ·(have g1:(f.pred==pd)=true:=by simpa using hp);(have g2:(f.pred != pd)=false:=by simpa using hp);(have HOF:Hid (Ru.onF ⟨kd,op,pd,ts⟩ y f=Ru.withW y ts f.args):=by show _=_;unfold Ru.onF;rw[if_pos hp]);have HLE:Hid _:=HAf.out hp;have HBq:Hid (Below w0.heap.size w0 wq):=HKq.out.below HB0.out;clear hp;go_wp2_with(refine wpList_loadWay (wanted_none rfl) _ rfl _ rfl y HWq.out hy ?_);refine Calls.mono (with_any y ts f.args _ _ wq hy (ptermsV_below HT.out HBq.out) (intsV_below HIV.out HBq.out) HLE.out hTl HTI.out) ?_;rintro _ w2 ⟨rfl,hb2⟩;have HI2:Hid _:=HTL.out.grow _ _ _ HIq.out hb2;have HK2:Hid _:=HKq.out.trans (Kp.of_below hb2 (HTL.out.room _ _ HIq.out).1);have HL2:Hid _:=(hb2.block _ (heap_lt HLq.out)).trans HLq.out;have HW2:Hid (WayAt w2 (w.heap.size+1) y):=WayAt.below HWq.out hb2;have hNB2:=(HTL.out.room _ _ HI2.out);clear hb2 f0 f1 d2 d3 g1 g2 HIq HKq HLq HWq HTB HBq;have HZW:Hid (Ru.Wf 8 (Ru.withO y ts f.args)):=by
     show Ru.Wf 8 _;unfold Ru.withO
     cases hx:Ru.withW y ts f.args with
     |none=>exact⟨rfl,rfl⟩
     |some z=>exact Ru.withW_wf hy hx
    have bZ:=(Below.refl w2.heap.size w2).alloc (Nat.le_refl _) (.cells (wayArr (Ru.withO y ts f.args)) 138);have HI3:Hid _:=HTL.out.grow _ _ _ HI2.out bZ;have HK3:Hid _:=HK2.out.trans (Kp.of_below bZ hNB2.1);have HL3:Hid _:=(bZ.block _ (heap_lt HL2.out)).trans HL2.out;have HW3:Hid _:=WayAt.below HW2.out bZ;have HZ3:Hid (WayAt (w2.alloc (.cells (wayArr (Ru.withO y ts f.args)) 138)) w2.heap.size (Ru.withO y ts f.args)):=heap_alloc_new w2 _;clear bZ hNB2;go_upto_region 6 with(refine wpList_storeWay rfl _ _ rfl w2.heap.size rfl Ru.way0 (Ru.withO y ts f.args) rfl (heap_alloc_new w2 _) ⟨rfl,rfl⟩ HZW.out ?_;rw[World.setRow_alloc_new]);generalize w2.alloc (.cells (wayArr (Ru.withO y ts f.args)) 138)=w3 at *;generalize w2.heap.size=ZB at *;clear HI2 HK2 HL2 HW2
    cases hx:Ru.withW y ts f.args with
    |none=>
     have HOF2:Hid (Ru.onF ⟨kd,op,pd,ts⟩ y f=none):=HOF.out.trans hx;have hs:(none:Option Ru.Way).isSome=false:=rfl;clear hx;go_wp2_with fail;go_roundw;(case rel=>exact⟨k+1,s',hlt,gN,HI3.out,HK3.out,HL3.out,HW3.out,by show _=_;rw[HR.out,HD.out,HOF2.out];rfl,by have h9:=HLv.out;rw[HD.out,HOF2.out]at h9;exact h9⟩);case measure=>exact mI
    |some z=>
     have HOF2:Hid (Ru.onF ⟨kd,op,pd,ts⟩ y f=some z):=HOF.out.trans hx;(have hz:Ru.withO y ts f.args=z:=by unfold Ru.withO;rw[hx];rfl);rw[hz]at HZ3 HZW;(have HLv2:Hid (Ru.Lv step live s' (z::(facts.drop (k+1)).filterMap (Ru.onF ⟨kd,op,pd,ts⟩ y))):=by have h9:=HLv.out;rw[HD.out,HOF2.out]at h9;exact h9);(have HR2:Hid (Ru.run step s (facts.filterMap (Ru.onF ⟨kd,op,pd,ts⟩ y))=Ru.run step s' (z::(facts.drop (k+1)).filterMap (Ru.onF ⟨kd,op,pd,ts⟩ y))):=by show _=_;rw[HR.out,HD.out,HOF2.out];rfl);clear hx hz HLv HR HOF HOF2;go_wp2_with(refine wpList_loadWay (by first|exact wanted_none rfl|exact wanted_some rfl rfl rfl rfl) _ rfl _ rfl z HZ3.out HZW.out ?_);refine Calls.mono (HTL.out.call s' w3 z HI3.out HLv2.out.1 HZW.out) ?_;rintro e w4 ⟨he4,hI4,hK4⟩;subst he4;have HI4:Hid _:=hI4;have HK4:Hid _:=HK3.out.trans hK4;have HL4:Hid _:=hK4.keep _ _ _ HL3.out oM dE;have HW4:Hid _:=hK4.way oM HW3.out;clear hI4 hK4;cases hq:(step s' z).2
     ·(have HE:Hid (Ru.run step s (facts.filterMap (Ru.onF ⟨kd,op,pd,ts⟩ y))=((step s' z).1,false)):=by show _=_;rw[HR2.out,Ru.run_cons,hq];rfl);clear hq;go_wp2_with fail;go_ret;exact⟨by rw[HE.out];rfl,by rw[HE.out];exact HI4.out,HK4.out⟩
     (have HE:Hid (Ru.run step s (facts.filterMap (Ru.onF ⟨kd,op,pd,ts⟩ y))=Ru.run step (step s' z).1 ((facts.drop (k+1)).filterMap (Ru.onF ⟨kd,op,pd,ts⟩ y))):=by show _=_;rw[HR2.out,Ru.run_cons,if_pos hq]);have HLv3:Hid _:=HLv2.out.2 hq;clear hq;go_wp2_with fail;go_roundw;(case rel=>exact⟨k+1,_,hlt,gN,HI4.out,HK4.out,HL4.out,HW4.out,HE.out,HLv3.out⟩);case measure=>exact mI
   (have g1:(f.pred==pd)=false:=by simpa using hp);(have g2:(f.pred != pd)=true:=by simpa using hp);(have HOF:Hid (Ru.onF ⟨kd,op,pd,ts⟩ y f=none):=by show _=_;unfold Ru.onF;rw[if_neg hp]);clear hp;go_wp2_with fail;go_roundw;(case rel=>exact⟨k+1,s',hlt,gN,HIq.out,HKq.out,HLq.out,HWq.out,by show _=_;rw[HR.out,HD.out,HOF.out];rfl,by have h9:=HLv.out;rw[HD.out,HOF.out]at h9;exact h9⟩);case measure=>exact mI
  (have HE:Hid (Ru.run step s (facts.filterMap (Ru.onF ⟨kd,op,pd,ts⟩ y))=(s',true)):=by show _=_;rw[HR.out,List.drop_of_length_le oM];rfl);have hdd:decide (k<facts.length)=false:=decide_eq_false hlt;go_wp2_with fail;go_ret;exact⟨by rw[HE.out];rfl,by rw[HE.out];exact HI.out,HK.out⟩
section
variable {P:Program} {ops:Array Oper} {Q:Exit→Act→World→Prop} {i:Nat} {o:Oper} {K:Act→World→Prop} {a:Act} {w:World}
theorem wpOp_call{f:FuncId}{args:Array Value}(ho:ops[i]?=some o)(hw:Region.wanted o (yielded ops a.tmps)=true)(hr:(execOp a.eval o).run P w=.ok (.enter f args) w)
 (hc:Calls P f args w fun e w'=>∃v,e=.returned v∧K (a.put o.dst v) w'):wpOp P ops Q i K a w:=by
 unfold wpOp;rw[ho];dsimp only;rw[if_pos hw];left;unfold Oper.wp;rw[hr,Oper.upon_enter];refine Calls.mono hc ?_;rintro e w' ⟨v,rfl,h⟩;exact h
end
def hold5FV(X:Nat)(vf vt:Value)(pd:Int)(y:Ru.Way)(hh:Nat)(cb:Array Value)(tQ:Nat)(vQ:Value):Prop:=
 match tQ with
 |23=>vQ=(vf:Value)
 |24=>vQ=(.pointer (some ⟨X,2,none⟩):Value)
 |25=>vQ=(.int .i64 pd:Value)
 |26=>vQ=(.pointer (some ⟨X,3,none⟩):Value)
 |27=>vQ=(vt:Value)
 |28=>vQ=(.pointer (some ⟨X+1,0,none⟩):Value)
 |29=>vQ=(.slice (some ⟨X+1,0,none⟩) 8 8:Value)
 |31=>vQ=(.bool false:Value)
 |32=>vQ=(.bool false:Value)
 |33=>vQ=(.func (.func hh) #[] cb:Value)
 |34=>vQ=(wayVal y:Value)
 |_=>True
def hold5FT(X:Nat)(vf vt:Value)(pd:Int)(xs:List Int)(y:Ru.Way)(hh:Nat)(cb:Array Value)(tQ:Nat)(vQ:Value)(WQ:World):Prop:=if tQ=30 then∃u,vQ=.agg #[.int .i64 pd,u]∧IntsV WQ u xs else hold5FV X vf vt pd y hh cb tQ vQ
theorem hold5FT_mono(X:Nat)(vf vt:Value)(pd:Int)(xs:List Int)(y:Ru.Way)(hh:Nat)(cb:Array Value)(tQ:Nat)(vQ:Value)(W W':World)(hb:Below W.heap.size W W')(h:hold5FT X vf vt pd xs y hh cb tQ vQ W):hold5FT X vf vt pd xs y hh cb tQ vQ W':=by
 unfold hold5FT at h ⊢;by_cases ht:tQ=30
 ·rw[if_pos ht]at h ⊢;obtain⟨u,h1,h2⟩:=h;exact⟨u,h1,intsV_below h2 hb⟩
 rw[if_neg ht]at h ⊢;exact h
def hold5TV(X:Nat)(vf vt:Value)(pd:Int)(tQ:Nat)(vQ:Value):Prop:=
 match tQ with
 |23=>vQ=(vf:Value)
 |24=>vQ=(.pointer (some ⟨X,2,none⟩):Value)
 |25=>vQ=(.int .i64 pd:Value)
 |26=>vQ=(.pointer (some ⟨X,3,none⟩):Value)
 |27=>vQ=(vt:Value)
 |28=>vQ=(.pointer (some ⟨X+1,0,none⟩):Value)
 |29=>vQ=(.slice (some ⟨X+1,0,none⟩) 8 8:Value)
 |31=>vQ=(.bool true:Value)
 |32=>vQ=(.bool true:Value)
 |33=>vQ=undef
 |34=>vQ=undef
 |35=>vQ=undef
 |36=>vQ=.bool true
 |8=>vQ=.bool true
 |_=>True
def hold5TT(X:Nat)(vf vt:Value)(pd:Int)(xs:List Int)(tQ:Nat)(vQ:Value)(WQ:World):Prop:=if tQ=30 then∃u,vQ=.agg #[.int .i64 pd,u]∧IntsV WQ u xs else hold5TV X vf vt pd tQ vQ
theorem hold5TT_mono(X:Nat)(vf vt:Value)(pd:Int)(xs:List Int)(tQ:Nat)(vQ:Value)(W W':World)(hb:Below W.heap.size W W')(h:hold5TT X vf vt pd xs tQ vQ W):hold5TT X vf vt pd xs tQ vQ W':=by
 unfold hold5TT at h ⊢;by_cases ht:tQ=30
 ·rw[if_pos ht]at h ⊢;obtain⟨u,h1,h2⟩:=h;exact⟨u,h1,intsV_below h2 hb⟩
 rw[if_neg ht]at h ⊢;exact h
theorem hold2_any{σ:Type}{step:σ→Ru.Way→σ×Bool}{live:σ→Ru.Way→Prop}{I:σ→World→Prop}{NB hh:Nat}{cb:Array Value}(facts:List Rl.Fc)(l:Sc.Lit)(y:Ru.Way)(vf vt:Value)(w0 w:World)(s:σ)
 (hB0:Below w0.heap.size w0 w) (hF:FactsV w0 vf facts) (hFl:facts.length≤1000000) (hFF:∀f,f∈facts→FFit f) (hT:PTermsV w0 vt l.terms) (hTI:Ru.TermsIn 8 l.terms) (hTl:l.terms.length≤1000) (hy:Ru.Wf 8 y) (hk:l.kind=2)
 (TL:Tell w0.heap.size NB hh cb step live I) (he:∀args w,(callFunc hh args).run Tryz.prog w=.ok (.enter hh args) w) (hI:I s w) (hLv:Ru.Lv step live s (Ru.on facts l y)):
 Calls Tryz.prog 145 #[vf,plitVal l vt,wayVal y, .func (.func hh) #[] cb] w fun e w'=>e=.returned (.bool (Ru.run step s (Ru.on facts l y)).2)∧I (Ru.run step s (Ru.on facts l y)).1 w'∧Kp w0.heap.size NB w w':=by
 have HT:Hid _:=hT;obtain⟨at_,ct,rfl,_⟩:=id hT;obtain⟨kd,op,pd,ts⟩:=l;dsimp only at *;subst hk;(have hon:Ru.on facts ⟨2,op,pd,ts⟩ y=if Rl.has facts ⟨pd,Ru.fill ts y.nums⟩=true then [] else [y]:=by unfold Ru.on;rfl);generalize hLL:Ru.on facts ⟨2,op,pd,ts⟩ y=LL at *;have HON:Hid _:=hon;clear hon hLL;obtain⟨h0,h1,hb⟩:=ru_two w (.cells #[.int .i64 2, .int .i64 op, .int .i64 pd, .slice at_ ts.length ct] 49) (.cells (wayArr y) 138);have hroom0:=TL.room s w hI;have HL:Hid _:=h0;have HW:Hid (WayAt ((w.alloc (.cells #[.int .i64 2, .int .i64 op, .int .i64 pd, .slice at_ ts.length ct] 49)).alloc (.cells (wayArr y) 138)) (w.heap.size+1) y):=h1;have HI:Hid _:=TL.grow _ _ _ hI hb;have HK:Hid (Kp w0.heap.size NB w ((w.alloc (.cells #[.int .i64 2, .int .i64 op, .int .i64 pd, .slice at_ ts.length ct] 49)).alloc (.cells (wayArr y) 138))):=Kp.of_below hb hroom0.1;have hBq:=HK.out.below hB0;have HTq:Hid _:=ptermsV_below hT hBq;have HFq:Hid _:=factsV_below hF hBq;have HFF:Hid _:=hFF;have HTL:Hid _:=TL;have HWF:Hid _:=hy;(have HTN:Hid (Ru.TermsIn y.nums.length ts):=by show Ru.TermsIn _ _;rw[hy.n];exact hTI);(have HFN:Hid (FFit ⟨pd,Ru.fill ts y.nums⟩):=by show(Ru.fill ts y.nums).length≤_;unfold Ru.fill;rw[List.length_map];omega);(have d0:((w.alloc (.cells #[.int .i64 2, .int .i64 op, .int .i64 pd, .slice at_ ts.length ct] 49)).alloc (.cells (wayArr y) 138)).cell? ⟨w.heap.size,0,none⟩=some (.int .i64 2):=by rw[Lib.cell_of_heap h0];rfl);(have d2:((w.alloc (.cells #[.int .i64 2, .int .i64 op, .int .i64 pd, .slice at_ ts.length ct] 49)).alloc (.cells (wayArr y) 138)).cell? ⟨w.heap.size,2,none⟩=some (.int .i64 pd):=by rw[Lib.cell_of_heap h0];rfl);(have d3:((w.alloc (.cells #[.int .i64 2, .int .i64 op, .int .i64 pd, .slice at_ ts.length ct] 49)).alloc (.cells (wayArr y) 138)).cell? ⟨w.heap.size,3,none⟩=some (.slice at_ ts.length ct):=by rw[Lib.cell_of_heap h0];rfl);have hroom:=TL.room _ _ HI.out;clear h0 h1 hb hT hI hB0 hF hFF hTI TL hBq HT HL
 go_enter Tryz.func145,Tryz.ntmps145
 go_upto_region 5 with fail;generalize (w.alloc (.cells #[.int .i64 2, .int .i64 op, .int .i64 pd, .slice at_ ts.length ct] 49)).alloc (.cells (wayArr y) 138)=w1 at *;cases hh0:Rl.has facts ⟨pd,Ru.fill ts y.nums⟩
 ·have HHAS:Hid _:=hh0;(have HL1:Hid (LL=[y]):=by show _=_;rw[HON.out,hh0];rfl);rw[HL1.out]at hLv;have HLv2:Hid _:=hLv.1;(have HE:Hid (Ru.run step s LL=((step s y).1,(step s y).2)):=by show _=_;rw[HL1.out,Ru.run_cons];cases hq:(step s y).2<;>rfl);clear hh0 hLv HON HL1;refine wp_region_tail (hold5FT w.heap.size vf (.slice at_ ts.length ct) pd (Ru.fill ts y.nums) y hh cb) 12 dE kR kR kR (hold5FT_mono w.heap.size vf (.slice at_ ts.length ct) pd (Ru.fill ts y.nums) y hh cb) ?hopA ?htailA
  case hopA=>
   refine oC (fun a y_ h=>by have e0:a.eval (.tmp 0)=(vf:Value):=h.old 0;exact opX vf) ?_;refine oC (fun a y_ h=>by have e5:a.eval (.tmp 5)=(.pointer (some ⟨w.heap.size,0,none⟩):Value):=h.old 5;exact opX (.pointer (some ⟨w.heap.size,2,none⟩))) ?_;refine oC (fun a y_ h=>by have e24:a.eval (.tmp 24)=(.pointer (some ⟨w.heap.size,2,none⟩):Value):=h.of 24;have c2:=cell_below h.below d2;exact opX (.int .i64 pd)) ?_;refine oC (fun a y_ h=>by have e5:a.eval (.tmp 5)=(.pointer (some ⟨w.heap.size,0,none⟩):Value):=h.old 5;exact opX (.pointer (some ⟨w.heap.size,3,none⟩))) ?_;refine oC (fun a y_ h=>by have e26:a.eval (.tmp 26)=(.pointer (some ⟨w.heap.size,3,none⟩):Value):=h.of 26;have c3:=cell_below h.below d3;exact opX (.slice at_ ts.length ct)) ?_;refine oC (fun a y_ h=>by have e6:a.eval (.tmp 6)=(.pointer (some ⟨w.heap.size+1,0,none⟩):Value):=h.old 6;exact opX (.pointer (some ⟨w.heap.size+1,0,none⟩))) ?_;refine oC (fun a y_ h=>by have e28:a.eval (.tmp 28)=(.pointer (some ⟨w.heap.size+1,0,none⟩):Value):=h.of 28;exact opX (.slice (some ⟨w.heap.size+1,0,none⟩) 8 8)) ?_;refine oC (fun a y_ h=>?_) ?_
   ·have e25:a.eval (.tmp 25)=(.int .i64 pd:Value):=h.of 25;have e27:a.eval (.tmp 27)=(.slice at_ ts.length ct:Value):=h.of 27;have e29:a.eval (.tmp 29)=(.slice (some ⟨w.heap.size+1,0,none⟩) 8 8:Value):=h.of 29;refine opOk_call (f:=57) (args:=#[.int .i64 pd, .slice at_ ts.length ct, .slice (some ⟨w.heap.size+1,0,none⟩) 8 8]) (wanted_none rfl) ?_ ?_
    ·have ec:=evc a;have ef:=evf a;generalize a.eval=ev at *;clear h;go_simp
    refine Calls.mono (FillFact_any pd ts y.nums _ _ y_ (ptermsV_below HTq.out h.below) (WayAt.ints (WayAt.below HW.out h.below) hy) oM HTN.out) ?_;rintro _ y2 ⟨v,rfl,hv,hb2⟩;exact⟨_,rfl,fun t ht=>by cases ht;exact⟨v,rfl,hv.ints⟩,hb2⟩
   refine oC (fun a y_ h=>?_) ?_
   ·have e23:a.eval (.tmp 23)=(vf:Value):=h.of 23;obtain⟨u,e30,hu⟩:∃u,a.eval (.tmp 30)=.agg #[.int .i64 pd,u]∧IntsV y_ u (Ru.fill ts y.nums):=h.of 30;refine opOk_call (f:=185) (args:=#[vf, .agg #[.int .i64 pd,u]]) (wanted_none rfl) ?_ ?_
    ·have ec:=evc a;have ef:=evf a;generalize a.eval=ev at *;clear h;go_simp
    refine Calls.mono (Has_any facts ⟨pd,Ru.fill ts y.nums⟩ _ _ y_ (factsV_below HFq.out h.below) hu oM HFF.out HFN.out) ?_;rintro _ y2 ⟨rfl,hb2⟩;exact⟨_,rfl,fun t ht=>by cases ht;exact congrArg Value.bool HHAS.out,hb2⟩
   refine oC (fun a y_ h=>by have e31:a.eval (.tmp 31)=(.bool false:Value):=h.of 31;exact opX (.bool false)) ?_;refine oC (fun a y_ h=>by have e3:a.eval (.tmp 3)=(.func (.func hh) #[] cb:Value):=h.old 3;refine opOk_val (v:=.func (.func hh) #[] cb) (w':=y_) (wG (h.of 32)) ?_ tR (Below.refl _ _);have ec:=evc a;generalize a.eval=ev at *;clear h;go_simp) ?_;refine oC (fun a y_ h=>by have e6:a.eval (.tmp 6)=(.pointer (some ⟨w.heap.size+1,0,none⟩):Value):=h.old 6;refine opOk_val (v:=wayVal y) (w':=y_) (wG (h.of 32)) ?_ tR (Below.refl _ _);exact load_way rfl e6 (WayAt.below HW.out h.below) hy) ?_;exact AllOps.nil
  case htailA=>
   rintro⟨tm0,df⟩ y_ hI;have e33:Act.eval ⟨tm0,df⟩ (.tmp 33)=.func (.func hh) #[] cb:=hI.all 10 _ 33 dE rfl rfl;have e34:Act.eval ⟨tm0,df⟩ (.tmp 34)=wayVal y:=hI.all 11 _ 34 dE rfl rfl;have e32:tm0.getD 32 undef=.bool false:=hI.all 9 _ 32 dE rfl rfl;have hsN:tm0.size=97:=hI.size;show wpOps Tryz.prog _ _ [12,13,14] _ _;rw[wpOps_cons];refine wpOp_call (f:=hh) (args:=#[wayVal y]++cb) rfl (wanted_some (j:=9) (t:=32) (b:=false) rfl rfl rfl e32) ?_ ?_
   ·show Sem.run Tryz.prog (execOp (Act.eval ⟨tm0,df⟩) _) y_=_;generalize Act.eval ⟨tm0,df⟩=ev at *;clear hI;go_simp
   refine Calls.mono (HTL.out.call s y_ y (HTL.out.grow _ _ _ HI.out hI.below) HLv2.out HWF.out) ?_;rintro eR w4 ⟨he4,hI4,hK4⟩;refine⟨_,he4,?_⟩;rw[wpOps_cons];refine wpOp_val (v:=(.bool (step s y).2)) (w':=w4) rfl (wanted_none rfl) ?_ ?_
   ·have q1:Act.eval (Act.put ⟨tm0,df⟩ (some 35) (.bool (step s y).2)) (.tmp 32)=.bool false:=(put_get_ne (a:=⟨tm0,df⟩) (t:=35) (u:=32) dE).trans e32;have q2:Act.eval (Act.put ⟨tm0,df⟩ (some 35) (.bool (step s y).2)) (.tmp 35)=(.bool (step s y).2):=put_get_self (by show 35<tm0.size;omega);have ec:∀v,Act.eval (Act.put ⟨tm0,df⟩ (some 35) (.bool (step s y).2)) (.const v)=v:=fun _=>rfl;show Sem.run Tryz.prog (execOp (Act.eval (Act.put ⟨tm0,df⟩ (some 35) (.bool (step s y).2))) _) w4=_;generalize Act.eval (Act.put ⟨tm0,df⟩ (some 35) (.bool (step s y).2))=ev at *;clear hI;go_simp
   rw[wpOps_cons];refine wpOp_val (v:=(.bool (step s y).2)) (w':=w4) rfl (wanted_none rfl) ?_ ?_
   ·have q2:Act.eval (Act.put (Act.put ⟨tm0,df⟩ (some 35) (.bool (step s y).2)) (some 36) (.bool (step s y).2)) (.tmp 36)=(.bool (step s y).2):=put_get_self (by rw[put_size];show 36<tm0.size;omega);show Sem.run Tryz.prog (execOp (Act.eval (Act.put (Act.put ⟨tm0,df⟩ (some 35) (.bool (step s y).2)) (some 36) (.bool (step s y).2))) _) w4=_;generalize Act.eval (Act.put (Act.put ⟨tm0,df⟩ (some 35) (.bool (step s y).2)) (some 36) (.bool (step s y).2))=ev at *;clear hI;go_simp
   (have hst:∀t,t∉[23,24,25,26,27,28,29,30,31,32,33,34,35,36,8]→(((tm0.setIfInBounds 35 (.bool (step s y).2)).setIfInBounds 36 (.bool (step s y).2)).setIfInBounds 8 (.bool (step s y).2)).getD t undef=_:=fun t ht=>by have hA:t≠35:=fun e=>ht (by rw[e];decide);have hB:t≠36:=fun e=>ht (by rw[e];decide);have hC:t≠8:=fun e=>ht (by rw[e];decide);exact((put_get_ne (a:=(Act.put (Act.put ⟨tm0,df⟩ (some 35) (.bool (step s y).2)) (some 36) (.bool (step s y).2))) hC).trans ((put_get_ne (a:=Act.put ⟨tm0,df⟩ (some 35) (.bool (step s y).2)) hB).trans (put_get_ne (a:=⟨tm0,df⟩) hA))).trans (hI.still t ht));have h8:(((tm0.setIfInBounds 35 (.bool (step s y).2)).setIfInBounds 36 (.bool (step s y).2)).setIfInBounds 8 (.bool (step s y).2)).getD 8 undef=(.bool (step s y).2):=put_get_self (a:=(Act.put (Act.put ⟨tm0,df⟩ (some 35) (.bool (step s y).2)) (some 36) (.bool (step s y).2))) (by rw[put_size,put_size];show 8<tm0.size;omega);have hKy:Kp w0.heap.size NB _ _:=Kp.of_below hI.below hroom.1;obtain rfl:df=[]:=hI.defers;(have hs2:(((tm0.setIfInBounds 35 (.bool (step s y).2)).setIfInBounds 36 (.bool (step s y).2)).setIfInBounds 8 (.bool (step s y).2)).size=97:=by simp[hsN]);clear hI e33 e34 e32 hsN he4;show Exit.then _ _ Exit.normal ⟨(((tm0.setIfInBounds 35 (.bool (step s y).2)).setIfInBounds 36 (.bool (step s y).2)).setIfInBounds 8 (.bool (step s y).2)),[]⟩ w4;generalize (((tm0.setIfInBounds 35 (.bool (step s y).2)).setIfInBounds 36 (.bool (step s y).2)).setIfInBounds 8 (.bool (step s y).2))=tm at *;obtain⟨fQ,hQ,hF8⟩:=tmps_F [23,24,25,26,27,28,29,30,31,32,33,34,35,36,8] tm _ (hs2.trans rF) hst;clear hs2 hst;simp only[List.foldl_cons,List.foldl_nil,(hQ 8).trans h8]at hF8;clear h8 hQ;simp only[List.setIfInBounds_toArray,List.set_cons_zero,List.set_cons_succ]at hF8;subst hF8;go_wp2_with fail;go_ret;exact⟨by rw[HE.out];rfl,by rw[HE.out];exact hI4,HK.out.trans (hKy.trans hK4)⟩
 have HHAS:Hid _:=hh0;(have HE:Hid (Ru.run step s LL=(s,true)):=by show _=_;rw[HON.out,hh0];rfl);clear hh0 hLv HON;refine wp_region_tabA (hold5TT w.heap.size vf (.slice at_ ts.length ct) pd (Ru.fill ts y.nums)) kR kR (hold5TT_mono w.heap.size vf (.slice at_ ts.length ct) pd (Ru.fill ts y.nums)) ?hopB ?hendB
 case hopB=>
  refine oC (fun a y_ h=>by have e0:a.eval (.tmp 0)=(vf:Value):=h.old 0;exact opX vf) ?_;refine oC (fun a y_ h=>by have e5:a.eval (.tmp 5)=(.pointer (some ⟨w.heap.size,0,none⟩):Value):=h.old 5;exact opX (.pointer (some ⟨w.heap.size,2,none⟩))) ?_;refine oC (fun a y_ h=>by have e24:a.eval (.tmp 24)=(.pointer (some ⟨w.heap.size,2,none⟩):Value):=h.of 24;have c2:=cell_below h.below d2;exact opX (.int .i64 pd)) ?_;refine oC (fun a y_ h=>by have e5:a.eval (.tmp 5)=(.pointer (some ⟨w.heap.size,0,none⟩):Value):=h.old 5;exact opX (.pointer (some ⟨w.heap.size,3,none⟩))) ?_;refine oC (fun a y_ h=>by have e26:a.eval (.tmp 26)=(.pointer (some ⟨w.heap.size,3,none⟩):Value):=h.of 26;have c3:=cell_below h.below d3;exact opX (.slice at_ ts.length ct)) ?_;refine oC (fun a y_ h=>by have e6:a.eval (.tmp 6)=(.pointer (some ⟨w.heap.size+1,0,none⟩):Value):=h.old 6;exact opX (.pointer (some ⟨w.heap.size+1,0,none⟩))) ?_;refine oC (fun a y_ h=>by have e28:a.eval (.tmp 28)=(.pointer (some ⟨w.heap.size+1,0,none⟩):Value):=h.of 28;exact opX (.slice (some ⟨w.heap.size+1,0,none⟩) 8 8)) ?_;refine oC (fun a y_ h=>?_) ?_
  ·have e25:a.eval (.tmp 25)=(.int .i64 pd:Value):=h.of 25;have e27:a.eval (.tmp 27)=(.slice at_ ts.length ct:Value):=h.of 27;have e29:a.eval (.tmp 29)=(.slice (some ⟨w.heap.size+1,0,none⟩) 8 8:Value):=h.of 29;refine opOk_call (f:=57) (args:=#[.int .i64 pd, .slice at_ ts.length ct, .slice (some ⟨w.heap.size+1,0,none⟩) 8 8]) (wanted_none rfl) ?_ ?_
   ·have ec:=evc a;have ef:=evf a;generalize a.eval=ev at *;clear h;go_simp
   refine Calls.mono (FillFact_any pd ts y.nums _ _ y_ (ptermsV_below HTq.out h.below) (WayAt.ints (WayAt.below HW.out h.below) hy) oM HTN.out) ?_;rintro _ y2 ⟨v,rfl,hv,hb2⟩;exact⟨_,rfl,fun t ht=>by cases ht;exact⟨v,rfl,hv.ints⟩,hb2⟩
  refine oC (fun a y_ h=>?_) ?_
  ·have e23:a.eval (.tmp 23)=(vf:Value):=h.of 23;obtain⟨u,e30,hu⟩:∃u,a.eval (.tmp 30)=.agg #[.int .i64 pd,u]∧IntsV y_ u (Ru.fill ts y.nums):=h.of 30;refine opOk_call (f:=185) (args:=#[vf, .agg #[.int .i64 pd,u]]) (wanted_none rfl) ?_ ?_
   ·have ec:=evc a;have ef:=evf a;generalize a.eval=ev at *;clear h;go_simp
   refine Calls.mono (Has_any facts ⟨pd,Ru.fill ts y.nums⟩ _ _ y_ (factsV_below HFq.out h.below) hu oM HFF.out HFN.out) ?_;rintro _ y2 ⟨rfl,hb2⟩;exact⟨_,rfl,fun t ht=>by cases ht;exact congrArg Value.bool HHAS.out,hb2⟩
  refine oC (fun a y_ h=>by have e31:a.eval (.tmp 31)=(.bool true:Value):=h.of 31;exact opX (.bool true)) ?_;refine oC (fun a y_ h=>by exact opS (h.of 32)) ?_;refine oC (fun a y_ h=>by exact opS (h.of 32)) ?_;refine oC (fun a y_ h=>by exact opS (h.of 32)) ?_;refine oC (fun a y_ h=>by have e32:a.eval (.tmp 32)=(.bool true:Value):=h.of 32;have e35:a.eval (.tmp 35)=(undef:Value):=h.of 35;exact opX (.bool true)) ?_;refine oC (fun a y_ h=>by have e36:a.eval (.tmp 36)=(.bool true:Value):=h.of 36;exact opX (.bool true)) ?_;exact AllOps.nil
 case hendB=>rintro⟨tm,df⟩ wE hbE hdE hsE hstE hTE;have h8:tm.getD 8 undef=.bool true:=ends_at (T:=hold5TT w.heap.size vf (.slice at_ ts.length ct) pd (Ru.fill ts y.nums)) (w:=wE) (a:=⟨tm,df⟩) (t:=8) hTE kR;obtain rfl:df=[]:=hdE;obtain⟨fQ,hQ,hFE⟩:=tmps_F [23,24,25,26,27,28,29,30,31,32,33,34,35,36,8] tm _ hsE hstE;clear hsE hstE hTE;simp only[List.foldl_cons,List.foldl_nil,(hQ 8).trans h8]at hFE;clear h8 hQ;simp only[List.setIfInBounds_toArray,List.set_cons_zero,List.set_cons_succ]at hFE;subst hFE;have hKy:Kp w0.heap.size NB _ _:=Kp.of_below hbE hroom.1;have HIE:Hid _:=HTL.out.grow _ _ _ HI.out hbE;clear hbE;go_wp2_with fail;go_ret;exact⟨by rw[HE.out];rfl,by rw[HE.out];exact HIE.out,HK.out.trans hKy⟩
def hold7T(y:Ru.Way)(X b off ct:Nat)(op:Int)(t0 t1:Sc.Term)(hh:Nat)(cb:Array Value):Nat→Value
 |39=>.pointer (some ⟨X,1,none⟩)
 |40=>.int .i64 op
 |41=>wayVal y
 |42=>.pointer (some ⟨X,3,none⟩)
 |43=>.slice (some ⟨b,off,none⟩) 2 ct
 |44=>.pointer (some ⟨b,off,none⟩)
 |45=>ptermVal t0
 |46=>.int .i64 (Ru.num y.nums t0)
 |47=>wayVal y
 |48=>.pointer (some ⟨X,3,none⟩)
 |49=>.slice (some ⟨b,off,none⟩) 2 ct
 |50=>.pointer (some ⟨b,off+2,none⟩)
 |51=>ptermVal t1
 |52=>.int .i64 (Ru.num y.nums t1)
 |53=>.bool true
 |54=>.bool false
 |55=>.bool false
 |56=>.func (.func hh) #[] cb
 |57=>wayVal y
 |_=>.bool false
def hold7F(y:Ru.Way)(X b off ct:Nat)(op:Int)(t0 t1:Sc.Term):Nat→Value
 |39=>.pointer (some ⟨X,1,none⟩)
 |40=>.int .i64 op
 |41=>wayVal y
 |42=>.pointer (some ⟨X,3,none⟩)
 |43=>.slice (some ⟨b,off,none⟩) 2 ct
 |44=>.pointer (some ⟨b,off,none⟩)
 |45=>ptermVal t0
 |46=>.int .i64 (Ru.num y.nums t0)
 |47=>wayVal y
 |48=>.pointer (some ⟨X,3,none⟩)
 |49=>.slice (some ⟨b,off,none⟩) 2 ct
 |50=>.pointer (some ⟨b,off+2,none⟩)
 |51=>ptermVal t1
 |52=>.int .i64 (Ru.num y.nums t1)
 |53=>.bool false
 |54=>.bool true
 |55=>.bool true
 |56=>undef
 |57=>undef
 |58=>undef
 |59=>.bool true
 |8=>.bool true
 |_=>.bool false
theorem hold3_any{σ:Type}{step:σ→Ru.Way→σ×Bool}{live:σ→Ru.Way→Prop}{I:σ→World→Prop}{NB hh:Nat}{cb:Array Value}(facts:List Rl.Fc)(l:Sc.Lit)(y:Ru.Way)(vf vt:Value)(w0 w:World)(s:σ)
 (hB0:Below w0.heap.size w0 w) (hT:PTermsV w0 vt l.terms) (hTI:Ru.TermsIn 8 l.terms) (hTl:l.terms.length=2) (hy:Ru.Wf 8 y) (hk:l.kind=3)
 (TL:Tell w0.heap.size NB hh cb step live I) (he:∀args w,(callFunc hh args).run Tryz.prog w=.ok (.enter hh args) w) (hI:I s w) (hLv:Ru.Lv step live s (Ru.on facts l y)):
 Calls Tryz.prog 145 #[vf,plitVal l vt,wayVal y, .func (.func hh) #[] cb] w fun e w'=>e=.returned (.bool (Ru.run step s (Ru.on facts l y)).2)∧I (Ru.run step s (Ru.on facts l y)).1 w'∧Kp w0.heap.size NB w w':=by
 obtain⟨at_,ct,rfl,_,hTA⟩:=id hT;obtain⟨kd,op,pd,ts⟩:=l;dsimp only at *;subst hk;obtain⟨t0,t1,rfl⟩:∃t0 t1,ts=[t0,t1]:=by
  match ts,hTl with
  |[a,b],_=>exact⟨a,b,rfl⟩
 (have hon:Ru.on facts ⟨3,op,pd,[t0,t1]⟩ y=if Ru.isSo op (Ru.num y.nums t0) (Ru.num y.nums t1)=true then [y] else []:=by unfold Ru.on;rfl);generalize hLL:Ru.on facts ⟨3,op,pd,[t0,t1]⟩ y=LL at *;have HON:Hid _:=hon;have HT0:Hid (Ru.TermIn 8 t0):=hTI t0 sI;have HT1:Hid (Ru.TermIn 8 t1):=hTI t1 sI;obtain⟨b,off,rfl,hc⟩:=pterms_at hTA 0 sI;obtain⟨p0,p1⟩:=hc 0 sI;obtain⟨p2,p3⟩:=hc 1 sI;rw[Nat.zero_mul,Nat.add_zero]at p0 p1;rw[Nat.one_mul]at p2 p3;clear hon hLL hc hTA hT hTI hTl;show Calls Tryz.prog 145 #[vf, .agg #[.int .i64 3, .int .i64 op, .int .i64 pd, .slice (some ⟨b,off,none⟩) 2 ct],wayVal y, .func (.func hh) #[] cb] w _;obtain⟨h0,h1,hb⟩:=ru_two w (.cells #[.int .i64 3, .int .i64 op, .int .i64 pd, .slice (some ⟨b,off,none⟩) 2 ct] 49) (.cells (wayArr y) 138);have hroom0:=TL.room s w hI;have HW:Hid (WayAt ((w.alloc (.cells #[.int .i64 3, .int .i64 op, .int .i64 pd, .slice (some ⟨b,off,none⟩) 2 ct] 49)).alloc (.cells (wayArr y) 138)) (w.heap.size+1) y):=h1;have HI:Hid _:=TL.grow _ _ _ hI hb;have HK:Hid (Kp w0.heap.size NB w ((w.alloc (.cells #[.int .i64 3, .int .i64 op, .int .i64 pd, .slice (some ⟨b,off,none⟩) 2 ct] 49)).alloc (.cells (wayArr y) 138))):=Kp.of_below hb hroom0.1;have hBq:=HK.out.below hB0;replace p0:((w.alloc (.cells #[.int .i64 3, .int .i64 op, .int .i64 pd, .slice (some ⟨b,off,none⟩) 2 ct] 49)).alloc (.cells (wayArr y) 138)).cell? ⟨b,off,none⟩=some (.int .i64 t0.var):=cell_below hBq p0;replace p1:((w.alloc (.cells #[.int .i64 3, .int .i64 op, .int .i64 pd, .slice (some ⟨b,off,none⟩) 2 ct] 49)).alloc (.cells (wayArr y) 138)).cell? ⟨b,off+1,none⟩=some (.int .i64 t0.n):=cell_below hBq p1;replace p2:((w.alloc (.cells #[.int .i64 3, .int .i64 op, .int .i64 pd, .slice (some ⟨b,off,none⟩) 2 ct] 49)).alloc (.cells (wayArr y) 138)).cell? ⟨b,off+2,none⟩=some (.int .i64 t1.var):=cell_below hBq p2;replace p3:((w.alloc (.cells #[.int .i64 3, .int .i64 op, .int .i64 pd, .slice (some ⟨b,off,none⟩) 2 ct] 49)).alloc (.cells (wayArr y) 138)).cell? ⟨b,off+2+1,none⟩=some (.int .i64 t1.n):=cell_below hBq p3;have HTL:Hid _:=TL;have HWF:Hid _:=hy;(have d0:((w.alloc (.cells #[.int .i64 3, .int .i64 op, .int .i64 pd, .slice (some ⟨b,off,none⟩) 2 ct] 49)).alloc (.cells (wayArr y) 138)).cell? ⟨w.heap.size,0,none⟩=some (.int .i64 3):=by rw[Lib.cell_of_heap h0];rfl);(have d1:((w.alloc (.cells #[.int .i64 3, .int .i64 op, .int .i64 pd, .slice (some ⟨b,off,none⟩) 2 ct] 49)).alloc (.cells (wayArr y) 138)).cell? ⟨w.heap.size,1,none⟩=some (.int .i64 op):=by rw[Lib.cell_of_heap h0];rfl);(have d3:((w.alloc (.cells #[.int .i64 3, .int .i64 op, .int .i64 pd, .slice (some ⟨b,off,none⟩) 2 ct] 49)).alloc (.cells (wayArr y) 138)).cell? ⟨w.heap.size,3,none⟩=some (.slice (some ⟨b,off,none⟩) 2 ct):=by rw[Lib.cell_of_heap h0];rfl);have hroom:=TL.room _ _ HI.out;clear h0 h1 hb hI hB0 TL hBq
 go_enter Tryz.func145,Tryz.ntmps145
 go_upto_region 7 with fail;generalize ((w.alloc (.cells #[.int .i64 3, .int .i64 op, .int .i64 pd, .slice (some ⟨b,off,none⟩) 2 ct] 49)).alloc (.cells (wayArr y) 138))=w1 at *;cases hso:Ru.isSo op (Ru.num y.nums t0) (Ru.num y.nums t1)
 ·have HSO:Hid _:=hso;(have HE:Hid (Ru.run step s LL=(s,true)):=by show _=_;rw[HON.out,hso];rfl);clear hso hLv HON;refine wp_region_tabA (fun tQ vQ _=>vQ=hold7F y w.heap.size b off ct op t0 t1 tQ) kR kR (fun _ _ _ _ _ h=>h) ?hopB ?hendB
  case hopB=>
   refine oC (fun a y_ h=>by have e5:a.eval (.tmp 5)=(.pointer (some ⟨w.heap.size,0,none⟩):Value):=h.old 5;exact opX (.pointer (some ⟨w.heap.size,1,none⟩))) ?_;refine oC (fun a y_ h=>by have e39:a.eval (.tmp 39)=(.pointer (some ⟨w.heap.size,1,none⟩):Value):=h.of 39;have c1:=cell_below h.below d1;exact opX (.int .i64 op)) ?_;refine oC (fun a y_ h=>by have e6:a.eval (.tmp 6)=(.pointer (some ⟨w.heap.size+1,0,none⟩):Value):=h.old 6;refine opV (v:=wayVal y) ?_;exact load_way rfl e6 (WayAt.below HW.out h.below) hy) ?_;refine oC (fun a y_ h=>by have e5:a.eval (.tmp 5)=(.pointer (some ⟨w.heap.size,0,none⟩):Value):=h.old 5;exact opX (.pointer (some ⟨w.heap.size,3,none⟩))) ?_;refine oC (fun a y_ h=>by have e42:a.eval (.tmp 42)=(.pointer (some ⟨w.heap.size,3,none⟩):Value):=h.of 42;have c3:=cell_below h.below d3;exact opX (.slice (some ⟨b,off,none⟩) 2 ct)) ?_;refine oC (fun a y_ h=>by have e43:a.eval (.tmp 43)=(.slice (some ⟨b,off,none⟩) 2 ct:Value):=h.of 43;exact opX (.pointer (some ⟨b,off,none⟩))) ?_;refine oC (fun a y_ h=>by have e44:a.eval (.tmp 44)=(.pointer (some ⟨b,off,none⟩):Value):=h.of 44;have c0:=cell_below h.below p0;have c1:=cell_below h.below p1;exact opX (ptermVal t0)) ?_;refine oC (fun a y_ h=>?_) ?_
   ·have e41:a.eval (.tmp 41)=(wayVal y:Value):=h.of 41;have e45:a.eval (.tmp 45)=(ptermVal t0:Value):=h.of 45;refine opOk_call (f:=187) (args:=#[wayVal y,ptermVal t0]) (wanted_none rfl) ?_ ?_
    ·have ec:=evc a;have ef:=evf a;generalize a.eval=ev at *;clear h;go_simp
    refine Calls.mono (number_any y t0 y_ hy HT0.out) ?_;rintro _ y2 ⟨rfl,hb2⟩;exact⟨_,rfl,fun t ht=>by cases ht;exact rfl,hb2⟩
   refine oC (fun a y_ h=>by have e6:a.eval (.tmp 6)=(.pointer (some ⟨w.heap.size+1,0,none⟩):Value):=h.old 6;refine opV (v:=wayVal y) ?_;exact load_way rfl e6 (WayAt.below HW.out h.below) hy) ?_;refine oC (fun a y_ h=>by have e5:a.eval (.tmp 5)=(.pointer (some ⟨w.heap.size,0,none⟩):Value):=h.old 5;exact opX (.pointer (some ⟨w.heap.size,3,none⟩))) ?_;refine oC (fun a y_ h=>by have e48:a.eval (.tmp 48)=(.pointer (some ⟨w.heap.size,3,none⟩):Value):=h.of 48;have c3:=cell_below h.below d3;exact opX (.slice (some ⟨b,off,none⟩) 2 ct)) ?_;refine oC (fun a y_ h=>by have e49:a.eval (.tmp 49)=(.slice (some ⟨b,off,none⟩) 2 ct:Value):=h.of 49;exact opX (.pointer (some ⟨b,off+2,none⟩))) ?_;refine oC (fun a y_ h=>by have e50:a.eval (.tmp 50)=(.pointer (some ⟨b,off+2,none⟩):Value):=h.of 50;have c0:=cell_below h.below p2;have c1:=cell_below h.below p3;exact opX (ptermVal t1)) ?_;refine oC (fun a y_ h=>?_) ?_
   ·have e47:a.eval (.tmp 47)=(wayVal y:Value):=h.of 47;have e51:a.eval (.tmp 51)=(ptermVal t1:Value):=h.of 51;refine opOk_call (f:=187) (args:=#[wayVal y,ptermVal t1]) (wanted_none rfl) ?_ ?_
    ·have ec:=evc a;have ef:=evf a;generalize a.eval=ev at *;clear h;go_simp
    refine Calls.mono (number_any y t1 y_ hy HT1.out) ?_;rintro _ y2 ⟨rfl,hb2⟩;exact⟨_,rfl,fun t ht=>by cases ht;exact rfl,hb2⟩
   refine oC (fun a y_ h=>?_) ?_
   ·have e40:a.eval (.tmp 40)=(.int .i64 op:Value):=h.of 40;have e46:a.eval (.tmp 46)=(.int .i64 (Ru.num y.nums t0):Value):=h.of 46;have e52:a.eval (.tmp 52)=(.int .i64 (Ru.num y.nums t1):Value):=h.of 52;refine opOk_call (f:=186) (args:=#[.int .i64 op, .int .i64 (Ru.num y.nums t0), .int .i64 (Ru.num y.nums t1)]) (wanted_none rfl) ?_ ?_
    ·have ec:=evc a;have ef:=evf a;generalize a.eval=ev at *;clear h;go_simp
    refine Calls.mono (isSo_any op (Ru.num y.nums t0) (Ru.num y.nums t1) y_) ?_;rintro _ y2 ⟨rfl,rfl⟩;exact⟨_,rfl,fun t ht=>by cases ht;exact congrArg Value.bool HSO.out,Below.refl _ _⟩
   refine oC (fun a y_ h=>by have e53:a.eval (.tmp 53)=(.bool false:Value):=h.of 53;exact opX (.bool true)) ?_;refine oC (fun a y_ h=>by have e54:a.eval (.tmp 54)=(.bool true:Value):=h.of 54;exact opX (.bool true)) ?_;refine oC (fun a y_ h=>by exact opS (h.of 55)) ?_;refine oC (fun a y_ h=>by exact opS (h.of 55)) ?_;refine oC (fun a y_ h=>by exact opS (h.of 55)) ?_;refine oC (fun a y_ h=>by have e55:a.eval (.tmp 55)=(.bool true:Value):=h.of 55;have e58:a.eval (.tmp 58)=(undef:Value):=h.of 58;exact opX (.bool true)) ?_;refine oC (fun a y_ h=>by have e59:a.eval (.tmp 59)=(.bool true:Value):=h.of 59;exact opX (.bool true)) ?_;exact AllOps.nil
  case hendB=>rintro⟨tm,df⟩ wE hbE hdE hsE hstE hTE;have h8:tm.getD 8 undef=.bool true:=ends_at (T:=fun tQ vQ _=>vQ=hold7F y w.heap.size b off ct op t0 t1 tQ) (w:=wE) (a:=⟨tm,df⟩) (t:=8) hTE kR;obtain rfl:df=[]:=hdE;obtain⟨fQ,hQ,hFE⟩:=tmps_F [39,40,41,42,43,44,45,46,47,48,49,50,51,52,53,54,55,56,57,58,59,8] tm _ hsE hstE;clear hsE hstE hTE;simp only[List.foldl_cons,List.foldl_nil,(hQ 8).trans h8]at hFE;clear h8 hQ;simp only[List.setIfInBounds_toArray,List.set_cons_zero,List.set_cons_succ]at hFE;subst hFE;have hKy:Kp w0.heap.size NB _ _:=Kp.of_below hbE hroom.1;have HIE:Hid _:=HTL.out.grow _ _ _ HI.out hbE;clear hbE;go_wp2_with fail;go_ret;exact⟨by rw[HE.out];rfl,by rw[HE.out];exact HIE.out,HK.out.trans hKy⟩
 have HSO:Hid _:=hso;(have HL1:Hid (LL=[y]):=by show _=_;rw[HON.out,hso];rfl);rw[HL1.out]at hLv;have HLv2:Hid _:=hLv.1;(have HE:Hid (Ru.run step s LL=((step s y).1,(step s y).2)):=by show _=_;rw[HL1.out,Ru.run_cons];cases hq:(step s y).2<;>rfl);clear hso hLv HON HL1;refine wp_region_tail (fun tQ vQ _=>vQ=hold7T y w.heap.size b off ct op t0 t1 hh cb tQ) 19 dE kR kR kR (fun _ _ _ _ _ h=>h) ?hopA ?htailA
 case hopA=>
  refine oC (fun a y_ h=>by have e5:a.eval (.tmp 5)=(.pointer (some ⟨w.heap.size,0,none⟩):Value):=h.old 5;exact opX (.pointer (some ⟨w.heap.size,1,none⟩))) ?_;refine oC (fun a y_ h=>by have e39:a.eval (.tmp 39)=(.pointer (some ⟨w.heap.size,1,none⟩):Value):=h.of 39;have c1:=cell_below h.below d1;exact opX (.int .i64 op)) ?_;refine oC (fun a y_ h=>by have e6:a.eval (.tmp 6)=(.pointer (some ⟨w.heap.size+1,0,none⟩):Value):=h.old 6;refine opV (v:=wayVal y) ?_;exact load_way rfl e6 (WayAt.below HW.out h.below) hy) ?_;refine oC (fun a y_ h=>by have e5:a.eval (.tmp 5)=(.pointer (some ⟨w.heap.size,0,none⟩):Value):=h.old 5;exact opX (.pointer (some ⟨w.heap.size,3,none⟩))) ?_;refine oC (fun a y_ h=>by have e42:a.eval (.tmp 42)=(.pointer (some ⟨w.heap.size,3,none⟩):Value):=h.of 42;have c3:=cell_below h.below d3;exact opX (.slice (some ⟨b,off,none⟩) 2 ct)) ?_;refine oC (fun a y_ h=>by have e43:a.eval (.tmp 43)=(.slice (some ⟨b,off,none⟩) 2 ct:Value):=h.of 43;exact opX (.pointer (some ⟨b,off,none⟩))) ?_;refine oC (fun a y_ h=>by have e44:a.eval (.tmp 44)=(.pointer (some ⟨b,off,none⟩):Value):=h.of 44;have c0:=cell_below h.below p0;have c1:=cell_below h.below p1;exact opX (ptermVal t0)) ?_;refine oC (fun a y_ h=>?_) ?_
  ·have e41:a.eval (.tmp 41)=(wayVal y:Value):=h.of 41;have e45:a.eval (.tmp 45)=(ptermVal t0:Value):=h.of 45;refine opOk_call (f:=187) (args:=#[wayVal y,ptermVal t0]) (wanted_none rfl) ?_ ?_
   ·have ec:=evc a;have ef:=evf a;generalize a.eval=ev at *;clear h;go_simp
   refine Calls.mono (number_any y t0 y_ hy HT0.out) ?_;rintro _ y2 ⟨rfl,hb2⟩;exact⟨_,rfl,fun t ht=>by cases ht;exact rfl,hb2⟩
  refine oC (fun a y_ h=>by have e6:a.eval (.tmp 6)=(.pointer (some ⟨w.heap.size+1,0,none⟩):Value):=h.old 6;refine opV (v:=wayVal y) ?_;exact load_way rfl e6 (WayAt.below HW.out h.below) hy) ?_;refine oC (fun a y_ h=>by have e5:a.eval (.tmp 5)=(.pointer (some ⟨w.heap.size,0,none⟩):Value):=h.old 5;exact opX (.pointer (some ⟨w.heap.size,3,none⟩))) ?_;refine oC (fun a y_ h=>by have e48:a.eval (.tmp 48)=(.pointer (some ⟨w.heap.size,3,none⟩):Value):=h.of 48;have c3:=cell_below h.below d3;exact opX (.slice (some ⟨b,off,none⟩) 2 ct)) ?_;refine oC (fun a y_ h=>by have e49:a.eval (.tmp 49)=(.slice (some ⟨b,off,none⟩) 2 ct:Value):=h.of 49;exact opX (.pointer (some ⟨b,off+2,none⟩))) ?_;refine oC (fun a y_ h=>by have e50:a.eval (.tmp 50)=(.pointer (some ⟨b,off+2,none⟩):Value):=h.of 50;have c0:=cell_below h.below p2;have c1:=cell_below h.below p3;exact opX (ptermVal t1)) ?_;refine oC (fun a y_ h=>?_) ?_
  ·have e47:a.eval (.tmp 47)=(wayVal y:Value):=h.of 47;have e51:a.eval (.tmp 51)=(ptermVal t1:Value):=h.of 51;refine opOk_call (f:=187) (args:=#[wayVal y,ptermVal t1]) (wanted_none rfl) ?_ ?_
   ·have ec:=evc a;have ef:=evf a;generalize a.eval=ev at *;clear h;go_simp
   refine Calls.mono (number_any y t1 y_ hy HT1.out) ?_;rintro _ y2 ⟨rfl,hb2⟩;exact⟨_,rfl,fun t ht=>by cases ht;exact rfl,hb2⟩
  refine oC (fun a y_ h=>?_) ?_
  ·have e40:a.eval (.tmp 40)=(.int .i64 op:Value):=h.of 40;have e46:a.eval (.tmp 46)=(.int .i64 (Ru.num y.nums t0):Value):=h.of 46;have e52:a.eval (.tmp 52)=(.int .i64 (Ru.num y.nums t1):Value):=h.of 52;refine opOk_call (f:=186) (args:=#[.int .i64 op, .int .i64 (Ru.num y.nums t0), .int .i64 (Ru.num y.nums t1)]) (wanted_none rfl) ?_ ?_
   ·have ec:=evc a;have ef:=evf a;generalize a.eval=ev at *;clear h;go_simp
   refine Calls.mono (isSo_any op (Ru.num y.nums t0) (Ru.num y.nums t1) y_) ?_;rintro _ y2 ⟨rfl,rfl⟩;exact⟨_,rfl,fun t ht=>by cases ht;exact congrArg Value.bool HSO.out,Below.refl _ _⟩
  refine oC (fun a y_ h=>by have e53:a.eval (.tmp 53)=(.bool true:Value):=h.of 53;exact opX (.bool false)) ?_;refine oC (fun a y_ h=>by have e54:a.eval (.tmp 54)=(.bool false:Value):=h.of 54;exact opX (.bool false)) ?_;refine oC (fun a y_ h=>by have e3:a.eval (.tmp 3)=(.func (.func hh) #[] cb:Value):=h.old 3;refine opOk_val (v:=.func (.func hh) #[] cb) (w':=y_) (wG (h.of 55)) ?_ tR (Below.refl _ _);have ec:=evc a;generalize a.eval=ev at *;clear h;go_simp) ?_;refine oC (fun a y_ h=>by have e6:a.eval (.tmp 6)=(.pointer (some ⟨w.heap.size+1,0,none⟩):Value):=h.old 6;refine opOk_val (v:=wayVal y) (w':=y_) (wG (h.of 55)) ?_ tR (Below.refl _ _);exact load_way rfl e6 (WayAt.below HW.out h.below) hy) ?_;exact AllOps.nil
 case htailA=>
  rintro⟨tm0,df⟩ y_ hI;have e56:Act.eval ⟨tm0,df⟩ (.tmp 56)=.func (.func hh) #[] cb:=hI.all 17 _ 56 dE rfl rfl;have e57:Act.eval ⟨tm0,df⟩ (.tmp 57)=wayVal y:=hI.all 18 _ 57 dE rfl rfl;have e55:tm0.getD 55 undef=.bool false:=hI.all 16 _ 55 dE rfl rfl;have hsN:tm0.size=97:=hI.size;show wpOps Tryz.prog _ _ [19,20,21] _ _;rw[wpOps_cons];refine wpOp_call (f:=hh) (args:=#[wayVal y]++cb) rfl (wanted_some (j:=16) (t:=55) (b:=false) rfl rfl rfl e55) ?_ ?_
  ·show Sem.run Tryz.prog (execOp (Act.eval ⟨tm0,df⟩) _) y_=_;generalize Act.eval ⟨tm0,df⟩=ev at *;clear hI;go_simp
  refine Calls.mono (HTL.out.call s y_ y (HTL.out.grow _ _ _ HI.out hI.below) HLv2.out HWF.out) ?_;rintro eR w4 ⟨he4,hI4,hK4⟩;refine⟨_,he4,?_⟩;rw[wpOps_cons];refine wpOp_val (v:=(.bool (step s y).2)) (w':=w4) rfl (wanted_none rfl) ?_ ?_
  ·have q1:Act.eval (Act.put ⟨tm0,df⟩ (some 58) (.bool (step s y).2)) (.tmp 55)=.bool false:=(put_get_ne (a:=⟨tm0,df⟩) (t:=58) (u:=55) dE).trans e55;have q2:Act.eval (Act.put ⟨tm0,df⟩ (some 58) (.bool (step s y).2)) (.tmp 58)=(.bool (step s y).2):=put_get_self (by show 58<tm0.size;omega);have ec:∀v,Act.eval (Act.put ⟨tm0,df⟩ (some 58) (.bool (step s y).2)) (.const v)=v:=fun _=>rfl;show Sem.run Tryz.prog (execOp (Act.eval (Act.put ⟨tm0,df⟩ (some 58) (.bool (step s y).2))) _) w4=_;generalize Act.eval (Act.put ⟨tm0,df⟩ (some 58) (.bool (step s y).2))=ev at *;clear hI;go_simp
  rw[wpOps_cons];refine wpOp_val (v:=(.bool (step s y).2)) (w':=w4) rfl (wanted_none rfl) ?_ ?_
  ·have q2:Act.eval (Act.put (Act.put ⟨tm0,df⟩ (some 58) (.bool (step s y).2)) (some 59) (.bool (step s y).2)) (.tmp 59)=(.bool (step s y).2):=put_get_self (by rw[put_size];show 59<tm0.size;omega);show Sem.run Tryz.prog (execOp (Act.eval (Act.put (Act.put ⟨tm0,df⟩ (some 58) (.bool (step s y).2)) (some 59) (.bool (step s y).2))) _) w4=_;generalize Act.eval (Act.put (Act.put ⟨tm0,df⟩ (some 58) (.bool (step s y).2)) (some 59) (.bool (step s y).2))=ev at *;clear hI;go_simp
  (have hst:∀t,t∉[39,40,41,42,43,44,45,46,47,48,49,50,51,52,53,54,55,56,57,58,59,8]→(((tm0.setIfInBounds 58 (.bool (step s y).2)).setIfInBounds 59 (.bool (step s y).2)).setIfInBounds 8 (.bool (step s y).2)).getD t undef=_:=fun t ht=>by have hA:t≠58:=fun e=>ht (by rw[e];decide);have hB:t≠59:=fun e=>ht (by rw[e];decide);have hC:t≠8:=fun e=>ht (by rw[e];decide);exact((put_get_ne (a:=(Act.put (Act.put ⟨tm0,df⟩ (some 58) (.bool (step s y).2)) (some 59) (.bool (step s y).2))) hC).trans ((put_get_ne (a:=Act.put ⟨tm0,df⟩ (some 58) (.bool (step s y).2)) hB).trans (put_get_ne (a:=⟨tm0,df⟩) hA))).trans (hI.still t ht));have h8:(((tm0.setIfInBounds 58 (.bool (step s y).2)).setIfInBounds 59 (.bool (step s y).2)).setIfInBounds 8 (.bool (step s y).2)).getD 8 undef=(.bool (step s y).2):=put_get_self (a:=(Act.put (Act.put ⟨tm0,df⟩ (some 58) (.bool (step s y).2)) (some 59) (.bool (step s y).2))) (by rw[put_size,put_size];show 8<tm0.size;omega);have hKy:Kp w0.heap.size NB _ _:=Kp.of_below hI.below hroom.1;obtain rfl:df=[]:=hI.defers;(have hs2:(((tm0.setIfInBounds 58 (.bool (step s y).2)).setIfInBounds 59 (.bool (step s y).2)).setIfInBounds 8 (.bool (step s y).2)).size=97:=by simp[hsN]);clear hI e56 e57 e55 hsN he4;show Exit.then _ _ Exit.normal ⟨(((tm0.setIfInBounds 58 (.bool (step s y).2)).setIfInBounds 59 (.bool (step s y).2)).setIfInBounds 8 (.bool (step s y).2)),[]⟩ w4;generalize (((tm0.setIfInBounds 58 (.bool (step s y).2)).setIfInBounds 59 (.bool (step s y).2)).setIfInBounds 8 (.bool (step s y).2))=tm at *;obtain⟨fQ,hQ,hF8⟩:=tmps_F [39,40,41,42,43,44,45,46,47,48,49,50,51,52,53,54,55,56,57,58,59,8] tm _ (hs2.trans rF) hst;clear hs2 hst;simp only[List.foldl_cons,List.foldl_nil,(hQ 8).trans h8]at hF8;clear h8 hQ;simp only[List.setIfInBounds_toArray,List.set_cons_zero,List.set_cons_succ]at hF8;subst hF8;go_wp2_with fail;go_ret;exact⟨by rw[HE.out];rfl,by rw[HE.out];exact hI4,HK.out.trans (hKy.trans hK4)⟩
end Go.Proofs.YthenjegmigeieaaGreat
