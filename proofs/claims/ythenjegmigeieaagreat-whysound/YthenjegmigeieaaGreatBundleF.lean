/- Own texts, one behind the other (part 6). -/
import Derived.Test.YthenjegmigeieaaGreatBundleE
import Derived.Test.YthenjegmigeieaaGreatRows
import Derived.Laws.AppendOwnNone
import Derived.Lib.AppendZeros
set_option maxRecDepth 100000
set_option maxHeartbeats 8000000
namespace Go.Proofs.YthenjegmigeieaaGreat
open Go.RowKit
def waitedBy(ops:Array Oper)(S i:Nat):Bool:=((ops[S]?).map fun o=>o.after.toList.any fun e=>Region.binds .any e&&e.on==i).getD false
structure OpInR (R:World→World→Prop) (ops:Array Oper) (T:Nat→Value→World→Prop) (a0:Act) (w0:World) (o:Oper) (a:Act) (w:World):Prop where
 below:R w0 w
 still:∀t,t∉ops.toList.filterMap (·.dst)→a.tmps.getD t undef=a0.tmps.getD t undef
 has:∀e,e∈o.after→Region.binds .any e=true→∀(o':Oper)(t:Nat),ops[e.on]?=some o'→o'.dst=some t→T t (a.tmps.getD t undef) w
 size:a.tmps.size=a0.tmps.size
def OpOkR(P:Program)(R:World→World→Prop)(ops:Array Oper)(Q:Exit→Act→World→Prop)(T:Nat→Value→World→Prop)(S:Nat)(D:Act→World→Prop)(i:Nat)(o:Oper)(a:Act)(w:World):Prop:=
 Region.wanted o (yielded ops a.tmps)=true∧o.wp P a w (fun a' w'=>∃v,a'=a.put o.dst v∧(∀t,o.dst=some t→T t v w')∧R w w'∧(i=S→D (a.put o.dst v) w')∧(waitedBy ops S i=false→¬i=S→D a w→D (a.put o.dst v) w')) Q
section
variable {P:Program} {ops:Array Oper} {Q:Exit→Act→World→Prop} {R:World→World→Prop} {T:Nat→Value→World→Prop} {a0:Act} {w0:World} {o:Oper} {a:Act} {w:World} {S i:Nat} {D:Act→World→Prop}
theorem OpInR.of(h:OpInR R ops T a0 w0 o a w)(t:Nat)(hw:waitsFor ops o t=true:=by kernel_rfl):T t (a.tmps.getD t undef) w:=by
 unfold waitsFor at hw;rw[List.any_eq_true]at hw;obtain⟨e,he,hw⟩:=hw;rw[Bool.and_eq_true]at hw
 cases ho:ops[e.on]? with
 |none=>rw[ho]at hw;simp at hw
 |some o'=>
  rw[ho]at hw;exact h.has e (by simpa using he) hw.1 o' t ho (by simpa using hw.2)
theorem OpInR.old(h:OpInR R ops T a0 w0 o a w)(t:Nat)(hs:stays ops t=true:=by kernel_rfl):a.tmps.getD t undef=a0.tmps.getD t undef:=by refine h.still t ?_;unfold stays at hs;simpa[List.contains_iff_mem]using hs
theorem opOkR_val{v:Value}{w':World}(hw:Region.wanted o (yielded ops a.tmps)=true)(hr:(execOp a.eval o).run P w=.ok (.value v) w')(hT:∀t,o.dst=some t→T t v w')(hb:R w w')(hS:i=S→D (a.put o.dst v) w')(hD:waitedBy ops S i=false→¬i=S→D a w→D (a.put o.dst v) w'):OpOkR P R ops Q T S D i o a w:=by refine⟨hw,?_⟩;unfold Oper.wp;rw[hr,Oper.upon_value];exact⟨v,rfl,hT,hb,hS,hD⟩
theorem opOkR_void{w':World}(hw:Region.wanted o (yielded ops a.tmps)=true)(hr:(execOp a.eval o).run P w=.ok .skip w')(hd:o.dst=none)(hb:R w w')(hS:i=S→D a w')(hD:waitedBy ops S i=false→¬i=S→D a w→D a w'):OpOkR P R ops Q T S D i o a w:=by
 refine⟨hw,?_⟩;unfold Oper.wp;rw[hr,Oper.upon_skip];refine⟨undef,rfl,fun t ht=>(by rw[hd]at ht;cases ht),hb,fun h=>?_,fun h1 h2 h3=>?_⟩
 ·rw[hd];exact hS h
 rw[hd];exact hD h1 h2 h3
theorem opOkR_call{f:FuncId}{args:Array Value}(hw:Region.wanted o (yielded ops a.tmps)=true)(hr:(execOp a.eval o).run P w=.ok (.enter f args) w)
 (hc:Calls P f args w fun e w'=>∃v,e=.returned v∧(∀t,o.dst=some t→T t v w')∧R w w'∧(i=S→D (a.put o.dst v) w')∧(waitedBy ops S i=false→¬i=S→D a w→D (a.put o.dst v) w')):OpOkR P R ops Q T S D i o a w:=by
 refine⟨hw,?_⟩;unfold Oper.wp;rw[hr,Oper.upon_enter];refine Calls.mono hc ?_;rintro e w' ⟨v,rfl,h⟩;exact⟨v,rfl,h⟩
def AllOpsI(Φ:Nat→Oper→Prop):Nat→List Oper→Prop
 |_,[]=>True
 |i,o::l=>Φ i o∧AllOpsI Φ (i+1) l
theorem AllOpsI.cons{Φ:Nat→Oper→Prop}{i:Nat}{o:Oper}{l:List Oper}(h:Φ i o)(hl:AllOpsI Φ (i+1) l):AllOpsI Φ i (o::l):=⟨h,hl⟩
theorem AllOpsI.nil{Φ:Nat→Oper→Prop}{i:Nat}:AllOpsI Φ i []:=trivial
theorem AllOpsI.get{Φ:Nat→Oper→Prop}:∀(l:List Oper)(i:Nat),AllOpsI Φ i l→∀j o,l[j]?=some o→Φ (i+j) o
 |[],_,_,j,o,h=>by simp at h
 |x::l,i,hA,j,o,h=>by
  cases j with
  |zero=>simp only[List.getElem?_cons_zero,Option.some.injEq]at h;subst h;exact hA.1
  |succ j=>
   simp only[List.getElem?_cons_succ]at h;have :=AllOpsI.get l (i+1) hA.2 j o h;rw[show i+(j+1)=i+1+j by omega];exact this
theorem wp_region_tabR(R:World→World→Prop)(hRt:∀a b c,R a b→R b c→R a c)(hRd:∀w,R w {w with drawn:=w.drawn+1})(T:Nat→Value→World→Prop)(S:Nat)(D:Act→World→Prop)(hS:S<ops.size){id:Nat}{a0:Act}{w0:World}(hm:P.follows .mixedOrders=true)
 (hf:tabFineR ops a0.tmps.size=true)
 (hmono:∀t v w w',R w w'→T t v w→T t v w')
 (hopA:AllOpsI (fun i o=>∀a w,OpInR R ops T a0 w0 o a w→OpOkR P R ops Q T S D i o a w) 0 ops.toList)
 (hend:∀a w,R w0 w→D a w→a.defers=a0.defers→a.tmps.size=a0.tmps.size→(∀t,t∉ops.toList.filterMap (·.dst)→a.tmps.getD t undef=a0.tmps.getD t undef)→(∀t,t∈ops.toList.filterMap (·.dst)→T t (a.tmps.getD t undef) w)→Q .normal a w):
 (Code.region id ops true).wp P Q a0 w0:=by
 have hh:∀i j,harm ops (fun _=>true) (fun _ _=>true) i j=false:=fun i j=>by
  unfold harm
  cases ho:ops[j]? with
  |none=>simp
  |some o=>cases hd:o.dst<;>simp[hd]
 refine wp_region_skel (fun s a w=>TabbedW R (fun _ _=>True) ops (fun _=>true) (fun _ _=>true) T a0 w0 s a w∧(s[S]?=some true→D a w∧∀i,waitedBy ops S i=true→s[i]?=some true)) ops.size (Nat.le_refl _) (fun h=>absurd h (Nat.lt_irrefl _)) hm hf ?_ ?_ ⟨TabbedW.start (hRd w0),fun h=>by rw[Array.getElem?_replicate]at h;split at h<;>simp at h⟩
 ·rintro s a w i o hs hC ⟨hI,hDs⟩ hiL hsi ho haf;have hop:=AllOpsI.get ops.toList 0 hopA i o (by rw[Array.getElem?_toList];exact ho);rw[Nat.zero_add]at hop;obtain⟨hw,h⟩:=hop a w ⟨hI.below,hI.still,fun e he hb o' t ho' hd=>hI.done e.on o' t (haf e he hb) ho' hd (fun k hk=>by rw[hh]at hk;cases hk),hI.size⟩;refine wpOp_wanted ho hw (Oper.wp_mono ?_ h);rintro a' w' ⟨v,rfl,hv,hb,hSS,hDD⟩;refine⟨hI.set hRt hf hsi ho hv hb (fun _ h=>h) (fun _=>trivial) (fun h=>absurd rfl h) (fun _ _ t _ _ _ _ u hu=>hmono t u w w' hb hu),fun hS1=>?_⟩;by_cases hiS:i=S
  ·refine⟨hSS hiS,fun j hj=>rgs_up hsi ?_⟩;subst hiS;unfold waitedBy at hj;rw[ho,Option.map_some,Option.getD_some,List.any_eq_true]at hj;obtain⟨e,he,h9⟩:=hj;rw[Bool.and_eq_true]at h9;have :=haf e (by simpa using he) h9.1;rw[(by simpa using h9.2:e.on=j)]at this;exact this
  rw[rgs_ne (Ne.symm hiS)]at hS1;obtain⟨hD1,hW1⟩:=hDs hS1;refine⟨?_,fun j hj=>rgs_up hsi (hW1 j hj)⟩
  cases hwi:waitedBy ops S i with
  |true=>
   have :=hW1 i hwi;rw[hsi]at this;cases this
  |false=>exact hDD hwi hiS hD1
 rintro s a w hd ⟨hI,hDs⟩;rw[Nat.sub_self];refine hend a w hI.below (hDs (hd S hS)).1 hI.defers hI.size hI.still (fun t ht=>?_);obtain⟨o,ho,hdt⟩:=List.mem_filterMap.mp ht;obtain⟨i,hi⟩:=List.mem_iff_getElem?.mp ho;rw[Array.getElem?_toList]at hi;exact hI.done i o t (hd i (Array.getElem?_eq_some_iff.mp hi).1) hi hdt (fun k hk=>by rw[hh]at hk;cases hk)
end
structure Rq (n:Nat) (w w':World):Prop where
 os:w'.os=w.os
 tape:w'.tape=w.tape
 output:w'.output=w.output
 size:w.heap.size≤w'.heap.size
 low:∀k,k<n→w'.heap[k]?=w.heap[k]?
 keep:∀(k:Nat)(c:Array Value)(t:TypeId),w.heap[k]?=some (.cells c t)→t≠138→w'.heap[k]?=some (.cells c t)
 way:∀(k:Nat)(y:Ru.Way),WayAt w k y→Ru.Wf 8 y→∃y',Ru.Wf 8 y'∧WayAt w' k y'
theorem Rq.refl(n:Nat)(w:World):Rq n w w:=⟨rfl,rfl,rfl,Nat.le_refl _,fun _ _=>rfl,fun _ _ _ h _=>h,fun _ y h hy=>⟨y,hy,h⟩⟩
theorem Rq.trans{n:Nat}{a b c:World}(h:Rq n a b)(k:Rq n b c):Rq n a c:=
 ⟨k.os.trans h.os,k.tape.trans h.tape,k.output.trans h.output,Nat.le_trans h.size k.size,fun j hj=>(k.low j hj).trans (h.low j hj),fun j o t hj ht=>k.keep j o t (h.keep j o t hj ht) ht,fun j y hj hy=>by
  obtain⟨y1,h1,h2⟩:=h.way j y hj hy
  exact k.way j y1 h2 h1⟩
theorem Rq.of_below{n:Nat}{w w':World}(h:Below w.heap.size w w')(hn:n≤w.heap.size):Rq n w w':=
 ⟨h.os,h.tape,h.output,h.size,fun k hk=>h.block k (Nat.lt_of_lt_of_le hk hn),fun k _ _ hk _=>(h.block k (heap_lt hk)).trans hk,fun _ y hk hy=>⟨y,hy,hk.below h⟩⟩
theorem Rq.to_below{n:Nat}{w w':World}(h:Rq n w w'){m:Nat}(hm:m≤n):Below m w w':=⟨h.os,h.tape,h.output,h.size,fun k hk=>h.low k (Nat.lt_of_lt_of_le hk hm)⟩
theorem Rq.store{n:Nat}{w:World}{b:Nat}{y z:Ru.Way}(h:WayAt w b y)(hn:n≤b)(hz:Ru.Wf 8 z):Rq n w (w.setRow b (wayArr z)):=by
 refine⟨rfl,rfl,rfl,by simp,fun k hk=>way_set_other oM,fun k c t hk ht=>?_,fun k y' hk hy'=>?_⟩
 ·by_cases hkb:k=b
  ·subst hkb;rw[h]at hk;injection hk with hk;injection hk with _ hk;exact absurd hk.symm ht
  exact(way_set_other hkb).trans hk
 by_cases hkb:k=b
 ·subst hkb;exact⟨z,hz,way_set h⟩
 exact⟨y',hy',(way_set_other hkb).trans hk⟩
theorem store_way{a:Act}{o:Oper}{x u:Operand}{w:World}{b:Nat}{y z:Ru.Way}(ho:o.op=.store 138 x u)(hx:a.eval x=.pointer (some ⟨b,0,none⟩))(hu:a.eval u=wayVal z)(hW:WayAt w b y)(hy:Ru.Wf 8 y)(hz:Ru.Wf 8 z):(execOp a.eval o).run Tryz.prog w=.ok .skip (w.setRow b (wayArr z)):=by have hr:=run_storeVar_row (P:=Tryz.prog) w b 138 138 (wayArr y) (wayArr z) hW (by rw[wayArr_size hz];exact way_info) (by rw[wayArr_size hy,wayArr_size hz]) (wayArr_one z);unfold execOp;simp only[ho,hx,hu,Instr.storeAt,Instr.sureAddr,Sem.run_bind,Sem.run_pure,Result.andThen_ok,hr]
theorem one_ints{w:World}{b:Nat}{m:Int}(h:w.heap[b]?=some (.cells #[.int .i64 m] 3)):IntsV w (.slice (some ⟨b,0,none⟩) 1 1) [m]:=by refine⟨_,_,rfl, .inr ⟨b,0,rfl,fun i hi=>?_⟩⟩;(obtain rfl:i=0:=by simpa using hi);rw[Lib.cell_of_heap h];rfl
def hold8Tv(y:Ru.Way)(X b off ct:Nat)(op:Int)(t0 t1:Sc.Term):Nat→Value
 |60=>.pointer (some ⟨X,1,none⟩)
 |61=>.int .i64 op
 |62=>wayVal y
 |63=>.pointer (some ⟨X,3,none⟩)
 |64=>.slice (some ⟨b,off,none⟩) 3 ct
 |65=>.pointer (some ⟨b,off,none⟩)
 |66=>ptermVal t0
 |67=>.int .i64 (Ru.num y.nums t0)
 |68=>wayVal y
 |69=>.pointer (some ⟨X,3,none⟩)
 |70=>.slice (some ⟨b,off,none⟩) 3 ct
 |71=>.pointer (some ⟨b,off+2,none⟩)
 |72=>ptermVal t1
 |73=>.int .i64 (Ru.num y.nums t1)
 |74=>.int .i64 (Ru.reck op (Ru.num y.nums t0) (Ru.num y.nums t1))
 |9=>.int .i64 (Ru.reck op (Ru.num y.nums t0) (Ru.num y.nums t1))
 |_=>.bool false
def hold9V(y z:Ru.Way)(X b off ct:Nat)(m:Int)(ok:Bool)(tQ:Nat)(vQ:Value):Prop:=
 match tQ with
 |76=>vQ=(wayVal y:Value)
 |77=>vQ=(.pointer (some ⟨X,3,none⟩):Value)
 |78=>vQ=(.slice (some ⟨b,off,none⟩) 3 ct:Value)
 |79=>vQ=(.slice (some ⟨b,off+4,none⟩) 1 (ct-2):Value)
 |80=>vQ=(.int .i64 m:Value)
 |82=>vQ=(.tuple #[wayVal z, .bool ok]:Value)
 |75=>vQ=(.tuple #[wayVal z, .bool ok]:Value)
 |83=>vQ=(wayVal z:Value)
 |84=>vQ=(.bool ok:Value)
 |11=>vQ=(.bool ok:Value)
 |_=>True
def hold9T(y z:Ru.Way)(X b off ct n:Nat)(m:Int)(ok:Bool)(tQ:Nat)(vQ:Value)(WQ:World):Prop:=
 if tQ=81 then∃b',vQ=.slice (some ⟨b',0,none⟩) 1 1∧WQ.heap[b']?=some (.cells #[.int .i64 m] 3)
 else if tQ=10 then∃b',vQ=.pointer (some ⟨b',0,none⟩)∧n≤b'∧∃y',Ru.Wf 8 y'∧WayAt WQ b' y' else hold9V y z X b off ct m ok tQ vQ
theorem hold9T_mono(y z:Ru.Way)(X b off ct n:Nat)(m:Int)(ok:Bool)(tQ:Nat)(vQ:Value)(W W':World)(hb:Rq n W W')(h:hold9T y z X b off ct n m ok tQ vQ W):hold9T y z X b off ct n m ok tQ vQ W':=by
 unfold hold9T at h ⊢;by_cases ht:tQ=81
 ·rw[if_pos ht]at h ⊢;obtain⟨b',h1,h2⟩:=h;exact⟨b',h1,hb.keep _ _ _ h2 dE⟩
 rw[if_neg ht]at h ⊢;by_cases ht2:tQ=10
 ·rw[if_pos ht2]at h ⊢;obtain⟨b',h1,h2,y',h3,h4⟩:=h;obtain⟨y2,h5,h6⟩:=hb.way _ _ h4 h3;exact⟨b',h1,h2,y2,h5,h6⟩
 rw[if_neg ht2]at h ⊢;exact h
def hold9D(z:Ru.Way)(n:Nat)(a:Act)(w:World):Prop:=∃b',n≤b'∧a.tmps.getD 10 undef=.pointer (some ⟨b',0,none⟩)∧WayAt w b' z
theorem hold9D_put{z:Ru.Way}{n:Nat}{a:Act}{w:World}{d:Nat}{v:Value}(hd:(10:Nat)≠d)(h:hold9D z n a w):hold9D z n (a.put (some d) v) w:=by obtain⟨b',h1,h2,h3⟩:=h;exact⟨b',h1,(put_get_ne hd).trans h2,h3⟩
theorem hold4_any{σ:Type}{step:σ→Ru.Way→σ×Bool}{live:σ→Ru.Way→Prop}{I:σ→World→Prop}{NB hh:Nat}{cb:Array Value}(facts:List Rl.Fc)(l:Sc.Lit)(y:Ru.Way)(vf vt:Value)(w0 w:World)(s:σ)
 (hB0:Below w0.heap.size w0 w) (hT:PTermsV w0 vt l.terms) (hTI:Ru.TermsIn 8 l.terms) (hTl:l.terms.length=3) (hy:Ru.Wf 8 y) (hk:l.kind=4) (hN0:Sc.isNum (Ru.num y.nums (Sc.termD l.terms 0))=true) (hN1:Sc.isNum (Ru.num y.nums (Sc.termD l.terms 1))=true)
 (TL:Tell w0.heap.size NB hh cb step live I) (he:∀args w,(callFunc hh args).run Tryz.prog w=.ok (.enter hh args) w) (hI:I s w) (hLv:Ru.Lv step live s (Ru.on facts l y)):
 Calls Tryz.prog 145 #[vf,plitVal l vt,wayVal y, .func (.func hh) #[] cb] w fun e w'=>e=.returned (.bool (Ru.run step s (Ru.on facts l y)).2)∧I (Ru.run step s (Ru.on facts l y)).1 w'∧Kp w0.heap.size NB w w':=by
 obtain⟨at_,ct,rfl,hct,hTA⟩:=id hT;obtain⟨kd,op,pd,ts⟩:=l;dsimp only at *;subst hk;obtain⟨t0,t1,t2,rfl⟩:∃t0 t1 t2,ts=[t0,t1,t2]:=by
  match ts,hTl with
  |[a,b,c],_=>exact⟨a,b,c,rfl⟩
 have hct:3≤ct:=hct;(have hon:Ru.on facts ⟨4,op,pd,[t0,t1,t2]⟩ y=match Ru.withW y [t2] [(Ru.reck op (Ru.num y.nums t0) (Ru.num y.nums t1))]with |none=>[]|some w'=>if Sc.isNum (Ru.reck op (Ru.num y.nums t0) (Ru.num y.nums t1))=true then [w'] else []:=by unfold Ru.on;rfl);generalize hLL:Ru.on facts ⟨4,op,pd,[t0,t1,t2]⟩ y=LL at *;have HON:Hid _:=hon;have HT0:Hid (Ru.TermIn 8 t0):=hTI t0 sI;have HT1:Hid (Ru.TermIn 8 t1):=hTI t1 sI;have HTI2:Hid (Ru.TermsIn 8 [t2]):=fun t ht=>hTI t (by simp at ht;subst ht;simp);have HN0:Hid (-1000000≤Ru.num y.nums t0∧Ru.num y.nums t0≤1000000):=Ru.between_iff.mp hN0;have HN1:Hid (-1000000≤Ru.num y.nums t1∧Ru.num y.nums t1≤1000000):=Ru.between_iff.mp hN1;have HZW:Hid (Ru.Wf 8 (Ru.withO y [t2] [(Ru.reck op (Ru.num y.nums t0) (Ru.num y.nums t1))])):=by
  show Ru.Wf 8 _;unfold Ru.withO
  cases hx:Ru.withW y [t2] [(Ru.reck op (Ru.num y.nums t0) (Ru.num y.nums t1))]with
  |none=>exact⟨rfl,rfl⟩
  |some z=>exact Ru.withW_wf hy hx
 have HOKm:Hid ((Ru.reck op (Ru.num y.nums t0) (Ru.num y.nums t1))=(Ru.reck op (Ru.num y.nums t0) (Ru.num y.nums t1))):=rfl;obtain⟨b,off,rfl,hc⟩:=pterms_at hTA 0 sI;obtain⟨p0,p1⟩:=hc 0 sI;obtain⟨p2,p3⟩:=hc 1 sI;obtain⟨p4,p5⟩:=hc 2 sI;rw[Nat.zero_mul,Nat.add_zero]at p0 p1;rw[Nat.one_mul]at p2 p3;clear hon hLL hc hTA hT hTI hTl hN0 hN1;show Calls Tryz.prog 145 #[vf, .agg #[.int .i64 4, .int .i64 op, .int .i64 pd, .slice (some ⟨b,off,none⟩) 3 ct],wayVal y, .func (.func hh) #[] cb] w _;obtain⟨h0,h1,hb⟩:=ru_two w (.cells #[.int .i64 4, .int .i64 op, .int .i64 pd, .slice (some ⟨b,off,none⟩) 3 ct] 49) (.cells (wayArr y) 138);have hroom0:=TL.room s w hI;have HW:Hid (WayAt ((w.alloc (.cells #[.int .i64 4, .int .i64 op, .int .i64 pd, .slice (some ⟨b,off,none⟩) 3 ct] 49)).alloc (.cells (wayArr y) 138)) (w.heap.size+1) y):=h1;have HI:Hid _:=TL.grow _ _ _ hI hb;have HK:Hid (Kp w0.heap.size NB w ((w.alloc (.cells #[.int .i64 4, .int .i64 op, .int .i64 pd, .slice (some ⟨b,off,none⟩) 3 ct] 49)).alloc (.cells (wayArr y) 138))):=Kp.of_below hb hroom0.1;have hBq:=HK.out.below hB0;replace p0:((w.alloc (.cells #[.int .i64 4, .int .i64 op, .int .i64 pd, .slice (some ⟨b,off,none⟩) 3 ct] 49)).alloc (.cells (wayArr y) 138)).cell? ⟨b,off,none⟩=some (.int .i64 t0.var):=cell_below hBq p0;replace p1:((w.alloc (.cells #[.int .i64 4, .int .i64 op, .int .i64 pd, .slice (some ⟨b,off,none⟩) 3 ct] 49)).alloc (.cells (wayArr y) 138)).cell? ⟨b,off+1,none⟩=some (.int .i64 t0.n):=cell_below hBq p1;replace p2:((w.alloc (.cells #[.int .i64 4, .int .i64 op, .int .i64 pd, .slice (some ⟨b,off,none⟩) 3 ct] 49)).alloc (.cells (wayArr y) 138)).cell? ⟨b,off+2,none⟩=some (.int .i64 t1.var):=cell_below hBq p2;replace p3:((w.alloc (.cells #[.int .i64 4, .int .i64 op, .int .i64 pd, .slice (some ⟨b,off,none⟩) 3 ct] 49)).alloc (.cells (wayArr y) 138)).cell? ⟨b,off+2+1,none⟩=some (.int .i64 t1.n):=cell_below hBq p3;replace p4:((w.alloc (.cells #[.int .i64 4, .int .i64 op, .int .i64 pd, .slice (some ⟨b,off,none⟩) 3 ct] 49)).alloc (.cells (wayArr y) 138)).cell? ⟨b,off+4,none⟩=some (.int .i64 t2.var):=cell_below hBq p4;replace p5:((w.alloc (.cells #[.int .i64 4, .int .i64 op, .int .i64 pd, .slice (some ⟨b,off,none⟩) 3 ct] 49)).alloc (.cells (wayArr y) 138)).cell? ⟨b,off+4+1,none⟩=some (.int .i64 t2.n):=cell_below hBq p5;have HTL:Hid _:=TL;(have d0:((w.alloc (.cells #[.int .i64 4, .int .i64 op, .int .i64 pd, .slice (some ⟨b,off,none⟩) 3 ct] 49)).alloc (.cells (wayArr y) 138)).cell? ⟨w.heap.size,0,none⟩=some (.int .i64 4):=by rw[Lib.cell_of_heap h0];rfl);(have d1:((w.alloc (.cells #[.int .i64 4, .int .i64 op, .int .i64 pd, .slice (some ⟨b,off,none⟩) 3 ct] 49)).alloc (.cells (wayArr y) 138)).cell? ⟨w.heap.size,1,none⟩=some (.int .i64 op):=by rw[Lib.cell_of_heap h0];rfl);(have d3:((w.alloc (.cells #[.int .i64 4, .int .i64 op, .int .i64 pd, .slice (some ⟨b,off,none⟩) 3 ct] 49)).alloc (.cells (wayArr y) 138)).cell? ⟨w.heap.size,3,none⟩=some (.slice (some ⟨b,off,none⟩) 3 ct):=by rw[Lib.cell_of_heap h0];rfl);have hroom:=TL.room _ _ HI.out;clear h0 h1 hb hI hB0 TL hBq hroom0
 go_enter Tryz.func145,Tryz.ntmps145
 go_upto_region 8 with fail;generalize ((w.alloc (.cells #[.int .i64 4, .int .i64 op, .int .i64 pd, .slice (some ⟨b,off,none⟩) 3 ct] 49)).alloc (.cells (wayArr y) 138))=w1 at *;refine wp_region_tabA (fun tQ vQ _=>vQ=hold8Tv y w.heap.size b off ct op t0 t1 tQ) kR kR (fun _ _ _ _ _ h=>h) ?hopE ?hendE
 case hopE=>
  refine oC (fun a y_ h=>by have e5:a.eval (.tmp 5)=(.pointer (some ⟨w.heap.size,0,none⟩):Value):=h.old 5;exact opX (.pointer (some ⟨w.heap.size,1,none⟩))) ?_;refine oC (fun a y_ h=>by have e60:a.eval (.tmp 60)=(.pointer (some ⟨w.heap.size,1,none⟩):Value):=h.of 60;have c1:=cell_below h.below d1;exact opX (.int .i64 op)) ?_;refine oC (fun a y_ h=>by have e6:a.eval (.tmp 6)=(.pointer (some ⟨w.heap.size+1,0,none⟩):Value):=h.old 6;refine opV (v:=wayVal y) ?_;exact load_way rfl e6 (WayAt.below HW.out h.below) hy) ?_;refine oC (fun a y_ h=>by have e5:a.eval (.tmp 5)=(.pointer (some ⟨w.heap.size,0,none⟩):Value):=h.old 5;exact opX (.pointer (some ⟨w.heap.size,3,none⟩))) ?_;refine oC (fun a y_ h=>by have e63:a.eval (.tmp 63)=(.pointer (some ⟨w.heap.size,3,none⟩):Value):=h.of 63;have c3:=cell_below h.below d3;exact opX (.slice (some ⟨b,off,none⟩) 3 ct)) ?_;refine oC (fun a y_ h=>by have e64:a.eval (.tmp 64)=(.slice (some ⟨b,off,none⟩) 3 ct:Value):=h.of 64;exact opX (.pointer (some ⟨b,off,none⟩))) ?_;refine oC (fun a y_ h=>by have e65:a.eval (.tmp 65)=(.pointer (some ⟨b,off,none⟩):Value):=h.of 65;have c0:=cell_below h.below p0;have c1:=cell_below h.below p1;exact opX (ptermVal t0)) ?_;refine oC (fun a y_ h=>?_) ?_
  ·have e62:a.eval (.tmp 62)=(wayVal y:Value):=h.of 62;have e66:a.eval (.tmp 66)=(ptermVal t0:Value):=h.of 66;refine opOk_call (f:=187) (args:=#[wayVal y,ptermVal t0]) (wanted_none rfl) ?_ ?_
   ·have ec:=evc a;have ef:=evf a;generalize a.eval=ev at *;clear h;go_simp
   refine Calls.mono (number_any y t0 y_ hy HT0.out) ?_;rintro _ y2 ⟨rfl,hb2⟩;exact⟨_,rfl,fun t ht=>by cases ht;exact rfl,hb2⟩
  refine oC (fun a y_ h=>by have e6:a.eval (.tmp 6)=(.pointer (some ⟨w.heap.size+1,0,none⟩):Value):=h.old 6;refine opV (v:=wayVal y) ?_;exact load_way rfl e6 (WayAt.below HW.out h.below) hy) ?_;refine oC (fun a y_ h=>by have e5:a.eval (.tmp 5)=(.pointer (some ⟨w.heap.size,0,none⟩):Value):=h.old 5;exact opX (.pointer (some ⟨w.heap.size,3,none⟩))) ?_;refine oC (fun a y_ h=>by have e69:a.eval (.tmp 69)=(.pointer (some ⟨w.heap.size,3,none⟩):Value):=h.of 69;have c3:=cell_below h.below d3;exact opX (.slice (some ⟨b,off,none⟩) 3 ct)) ?_;refine oC (fun a y_ h=>by have e70:a.eval (.tmp 70)=(.slice (some ⟨b,off,none⟩) 3 ct:Value):=h.of 70;exact opX (.pointer (some ⟨b,off+2,none⟩))) ?_;refine oC (fun a y_ h=>by have e71:a.eval (.tmp 71)=(.pointer (some ⟨b,off+2,none⟩):Value):=h.of 71;have c0:=cell_below h.below p2;have c1:=cell_below h.below p3;exact opX (ptermVal t1)) ?_;refine oC (fun a y_ h=>?_) ?_
  ·have e68:a.eval (.tmp 68)=(wayVal y:Value):=h.of 68;have e72:a.eval (.tmp 72)=(ptermVal t1:Value):=h.of 72;refine opOk_call (f:=187) (args:=#[wayVal y,ptermVal t1]) (wanted_none rfl) ?_ ?_
   ·have ec:=evc a;have ef:=evf a;generalize a.eval=ev at *;clear h;go_simp
   refine Calls.mono (number_any y t1 y_ hy HT1.out) ?_;rintro _ y2 ⟨rfl,hb2⟩;exact⟨_,rfl,fun t ht=>by cases ht;exact rfl,hb2⟩
  refine oC (fun a y_ h=>?_) ?_
  ·have e61:a.eval (.tmp 61)=(.int .i64 op:Value):=h.of 61;have e67:a.eval (.tmp 67)=(.int .i64 (Ru.num y.nums t0):Value):=h.of 67;have e73:a.eval (.tmp 73)=(.int .i64 (Ru.num y.nums t1):Value):=h.of 73;refine opOk_call (f:=188) (args:=#[.int .i64 op, .int .i64 (Ru.num y.nums t0), .int .i64 (Ru.num y.nums t1)]) (wanted_none rfl) ?_ ?_
   ·have ec:=evc a;have ef:=evf a;generalize a.eval=ev at *;clear h;go_simp
   refine Calls.mono (reckoned_any op (Ru.num y.nums t0) (Ru.num y.nums t1) y_ HN0.out HN1.out) ?_;rintro _ y2 ⟨rfl,rfl⟩;exact⟨_,rfl,fun t ht=>by cases ht;exact rfl,Below.refl _ _⟩
  refine oC (fun a y_ h=>by have e74:a.eval (.tmp 74)=(.int .i64 (Ru.reck op (Ru.num y.nums t0) (Ru.num y.nums t1)):Value):=h.of 74;exact opX (.int .i64 (Ru.reck op (Ru.num y.nums t0) (Ru.num y.nums t1)))) ?_;exact AllOps.nil
 case hendE=>
  rintro⟨tm,df⟩ wE hbE hdE hsE hstE hTE;have h9:tm.getD 9 undef=.int .i64 (Ru.reck op (Ru.num y.nums t0) (Ru.num y.nums t1)):=ends_at (T:=fun tQ vQ _=>vQ=hold8Tv y w.heap.size b off ct op t0 t1 tQ) (w:=wE) (a:=⟨tm,df⟩) (t:=9) hTE kR;obtain rfl:df=[]:=hdE;obtain⟨fQ,hQ,hFE⟩:=tmps_F [60,61,62,63,64,65,66,67,68,69,70,71,72,73,74,9] tm _ hsE hstE;clear hsE hstE hTE;simp only[List.foldl_cons,List.foldl_nil,(hQ 9).trans h9]at hFE;clear h9 hQ;simp only[List.setIfInBounds_toArray,List.set_cons_zero,List.set_cons_succ]at hFE;subst hFE;have HI2:Hid _:=HTL.out.grow _ _ _ HI.out hbE;have HK2:Hid _:=HK.out.trans (Kp.of_below hbE hroom.1);have HW2:Hid (WayAt wE (w.heap.size+1) y):=WayAt.below HW.out hbE;have hroom2:=HTL.out.room _ _ HI2.out;(have HT2:Hid (∀W,Below wE.heap.size wE W→PTermsV W (.slice (some ⟨b,off+4,none⟩) 1 (ct-2)) [t2]):=fun W hW=>by refine⟨_,_,rfl,by show 1≤ct-2;omega, .inr ⟨b,off+4,rfl,fun i hi=>?_⟩⟩;(obtain rfl:i=0:=by simpa using hi);exact⟨by rw[Nat.zero_mul,Nat.add_zero];exact cell_below hW (cell_below hbE p4),by rw[Nat.zero_mul,Nat.add_zero];exact cell_below hW (cell_below hbE p5)⟩);(replace d3:=cell_below hbE d3;clear d0 d1 p0 p1 p2 p3 p4 p5 HI HK HW hroom hbE;generalize wE=w2 at *;obtain⟨m,hm⟩:∃m,m=(Ru.reck op (Ru.num y.nums t0) (Ru.num y.nums t1)):=⟨_,rfl⟩;rw[←hm]at HON HZW HOKm ⊢;clear hm;obtain⟨z,hz⟩:∃z,z=Ru.withO y [t2] [m]:=⟨_,rfl⟩;obtain⟨ok,hok0⟩:∃ok,ok=(Ru.withW y [t2] [m]).isSome:=⟨_,rfl⟩;(have HZ:Hid ((.tuple #[wayVal (Ru.withO y [t2] [m]), .bool (Ru.withW y [t2] [m]).isSome]:Value)=.tuple #[wayVal z, .bool ok]):=by show _=_;rw[hz,hok0]);have HOK:Hid ((ok=false→Ru.withW y [t2] [m]=none)∧(ok=true→Ru.withW y [t2] [m]=some z)):=by show(_→_)∧(_→_);rw[hok0,hz];unfold Ru.withO;cases Ru.withW y [t2] [m]<;>simp);rw[←hz]at HZW;clear hz hok0 HOKm;go_upto_region 9 with fail;refine wp_region_tabR (Rq w2.heap.size) (fun _ _ _=>Rq.trans) (fun _=>⟨rfl,rfl,rfl,Nat.le_refl _,fun _ _=>rfl,fun _ _ _ h _=>h,fun _ y' h hy'=>⟨y',hy',h⟩⟩) (hold9T y z w.heap.size b off ct w2.heap.size m ok) 11 (hold9D z w2.heap.size) dE kR kR (hold9T_mono y z w.heap.size b off ct w2.heap.size m ok) ?hopF ?hendF
  case hopF=>
   refine AllOpsI.cons (fun a y_ h=>by have e6:a.eval (.tmp 6)=(.pointer (some ⟨w.heap.size+1,0,none⟩):Value):=h.old 6;refine opOkR_val (v:=wayVal y) (w':=y_) (wanted_none rfl) ?_ tR (Rq.refl _ _) (fun h9=>absurd h9 dE) (fun h9=>absurd h9 dE);exact load_way rfl e6 (WayAt.below HW2.out (h.below.to_below (Nat.le_refl _))) hy) ?_;refine AllOpsI.cons (fun a y_ h=>by have e5:a.eval (.tmp 5)=(.pointer (some ⟨w.heap.size,0,none⟩):Value):=h.old 5;refine opOkR_val (v:=.pointer (some ⟨w.heap.size,3,none⟩)) (w':=y_) (wanted_none rfl) ?_ tR (Rq.refl _ _) (fun h9=>absurd h9 dE) (fun h9=>absurd h9 dE);have ec:=evc a;generalize a.eval=ev at *;clear h;go_simp) ?_;refine AllOpsI.cons (fun a y_ h=>by have e77:a.eval (.tmp 77)=(.pointer (some ⟨w.heap.size,3,none⟩):Value):=h.of 77;have c3:=cell_below (h.below.to_below (Nat.le_refl _)) d3;refine opOkR_val (v:=.slice (some ⟨b,off,none⟩) 3 ct) (w':=y_) (wanted_none rfl) ?_ tR (Rq.refl _ _) (fun h9=>absurd h9 dE) (fun h9=>absurd h9 dE);have ec:=evc a;generalize a.eval=ev at *;clear h;go_simp) ?_;refine AllOpsI.cons (fun a y_ h=>by have e78:a.eval (.tmp 78)=(.slice (some ⟨b,off,none⟩) 3 ct:Value):=h.of 78;have hc2:¬ct=2:=oM;refine opOkR_val (v:=.slice (some ⟨b,off+4,none⟩) 1 (ct-2)) (w':=y_) (wanted_none rfl) ?_ tR (Rq.refl _ _) (fun h9=>absurd h9 dE) (fun h9=>absurd h9 dE);have ec:=evc a;generalize a.eval=ev at *;clear h;go_simp) ?_;refine AllOpsI.cons (fun a y_ h=>by have e9:a.eval (.tmp 9)=(.int .i64 m:Value):=h.old 9;refine opOkR_val (v:=.int .i64 m) (w':=y_) (wanted_none rfl) ?_ tR (Rq.refl _ _) (fun h9=>absurd h9 dE) (fun h9=>absurd h9 dE);have ec:=evc a;generalize a.eval=ev at *;clear h;go_simp) ?_;refine AllOpsI.cons (fun a y_ h=>by have e80:a.eval (.tmp 80)=(.int .i64 m:Value):=h.of 80;refine opOkR_val (v:=.slice (some ⟨y_.heap.size,0,none⟩) 1 1) (w':=y_.alloc (.cells #[.int .i64 m] 3)) (wanted_none rfl) ?_ (fun t ht=>by cases ht;exact⟨_,rfl,heap_alloc_new y_ _⟩) (Rq.of_below ((Below.refl _ _).alloc (Nat.le_refl _) _) h.below.size) (fun h9=>absurd h9 dE) (fun h9=>absurd h9 dE);have ec:=evc a;generalize a.eval=ev at *;clear h;go_simp) ?_;refine AllOpsI.cons (fun a y_ h=>?_) ?_
   ·have e76:a.eval (.tmp 76)=(wayVal y:Value):=h.of 76;have e79:a.eval (.tmp 79)=(.slice (some ⟨b,off+4,none⟩) 1 (ct-2):Value):=h.of 79;obtain⟨b',e81,hb'⟩:∃b',a.eval (.tmp 81)=.slice (some ⟨b',0,none⟩) 1 1∧y_.heap[b']?=some (.cells #[.int .i64 m] 3):=h.of 81;refine opOkR_call (f:=189) (args:=#[wayVal y, .slice (some ⟨b,off+4,none⟩) 1 (ct-2), .slice (some ⟨b',0,none⟩) 1 1]) (wanted_none rfl) ?_ ?_
    ·have ec:=evc a;have ef:=evf a;generalize a.eval=ev at *;clear h;go_simp
    refine Calls.mono (with_any y [t2] [m] _ _ y_ hy (HT2.out y_ (h.below.to_below (Nat.le_refl _))) (one_ints hb') rfl sI HTI2.out) ?_;rintro _ y2 ⟨rfl,hb2⟩;exact⟨_,rfl,fun t ht=>by cases ht;exact HZ.out,Rq.of_below hb2 h.below.size,fun h9=>absurd h9 dE,fun h9=>absurd h9 dE⟩
   refine AllOpsI.cons (fun a y_ h=>by have e82:a.eval (.tmp 82)=(.tuple #[wayVal z, .bool ok]:Value):=h.of 82;refine opOkR_val (v:=.tuple #[wayVal z, .bool ok]) (w':=y_) (wanted_none rfl) ?_ tR (Rq.refl _ _) (fun h9=>absurd h9 dE) (fun h9=>absurd h9 dE);have ec:=evc a;generalize a.eval=ev at *;clear h;go_simp) ?_;refine AllOpsI.cons (fun a y_ h=>by have e75:a.eval (.tmp 75)=(.tuple #[wayVal z, .bool ok]:Value):=h.of 75;refine opOkR_val (v:=wayVal z) (w':=y_) (wanted_none rfl) ?_ tR (Rq.refl _ _) (fun h9=>absurd h9 dE) (fun h9=>absurd h9 dE);have ec:=evc a;generalize a.eval=ev at *;clear h;go_simp) ?_;refine AllOpsI.cons (fun a y_ h=>by have e75:a.eval (.tmp 75)=(.tuple #[wayVal z, .bool ok]:Value):=h.of 75;refine opOkR_val (v:=.bool ok) (w':=y_) (wanted_none rfl) ?_ tR (Rq.refl _ _) (fun h9=>absurd h9 dE) (fun _ _ hD=>hold9D_put dE hD);have ec:=evc a;generalize a.eval=ev at *;clear h;go_simp) ?_;refine AllOpsI.cons (fun a y_ h=>by refine opOkR_val (v:=.pointer (some ⟨y_.heap.size,0,none⟩)) (w':=y_.alloc (.cells #[.int .i64 0, .int .i64 0, .int .i64 0, .int .i64 0, .int .i64 0, .int .i64 0, .int .i64 0, .int .i64 0, .bool false, .bool false, .bool false, .bool false, .bool false, .bool false, .bool false, .bool false] 138)) (wanted_none rfl) ?_ (fun t ht=>by cases ht;exact⟨_,rfl,h.below.size,Ru.way0,⟨rfl,rfl⟩,heap_alloc_new y_ _⟩) (Rq.of_below ((Below.refl _ _).alloc (Nat.le_refl _) _) h.below.size) (fun h9=>absurd h9 dE) (fun h9=>absurd h9 dE);have ec:=evc a;generalize a.eval=ev at *;clear h;go_simp) ?_;refine AllOpsI.cons (fun a y_ h=>by have e83:a.eval (.tmp 83)=(wayVal z:Value):=h.of 83;obtain⟨b',e10,hn',y',hy',hW'⟩:∃b',a.eval (.tmp 10)=.pointer (some ⟨b',0,none⟩)∧w2.heap.size≤b'∧∃y',Ru.Wf 8 y'∧WayAt y_ b' y':=h.of 10;exact opOkR_void (w':=y_.setRow b' (wayArr z)) (wanted_none rfl) (store_way rfl e10 e83 hW' hy' HZW.out) rfl (Rq.store hW' hn' HZW.out) (fun _=>⟨b',hn',e10,way_set hW'⟩) (fun _ h9=>absurd rfl h9)) ?_;refine AllOpsI.cons (fun a y_ h=>by have e84:a.eval (.tmp 84)=(.bool ok:Value):=h.of 84;refine opOkR_val (v:=.bool ok) (w':=y_) (wanted_none rfl) ?_ tR (Rq.refl _ _) (fun h9=>absurd h9 dE) (fun _ _ hD=>hold9D_put dE hD);have ec:=evc a;generalize a.eval=ev at *;clear h;go_simp) ?_;exact AllOpsI.nil
  case hendF=>
   rintro⟨tm,df⟩ wE hRE hDE hdE hsE hstE hTE;obtain⟨ZB,hZn,h10,hZW⟩:=hDE;have h10:tm.getD 10 undef=.pointer (some ⟨ZB,0,none⟩):=h10;have h11:tm.getD 11 undef=.bool ok:=ends_at (T:=hold9T y z w.heap.size b off ct w2.heap.size m ok) (w:=wE) (a:=⟨tm,df⟩) (t:=11) hTE kR;obtain rfl:df=[]:=hdE;have hFE:=tmps_fold [76,77,78,79,80,81,82,75,83,84,10,11] tm _ hsE hstE;clear hsE hstE hTE;simp only[List.foldl_cons,List.foldl_nil,h10,h11]at hFE;clear h10 h11;generalize tm.getD 76 undef=z76 at hFE;generalize tm.getD 77 undef=z77 at hFE;generalize tm.getD 78 undef=z78 at hFE;generalize tm.getD 79 undef=z79 at hFE;generalize tm.getD 80 undef=z80 at hFE;generalize tm.getD 81 undef=z81 at hFE;generalize tm.getD 82 undef=z82 at hFE;generalize tm.getD 75 undef=z75 at hFE;generalize tm.getD 83 undef=z83 at hFE;generalize tm.getD 84 undef=z84 at hFE;simp only[List.setIfInBounds_toArray,List.set_cons_zero,List.set_cons_succ]at hFE;subst hFE;have hb3:Below w2.heap.size w2 wE:=hRE.to_below (Nat.le_refl _);have HI3:Hid _:=HTL.out.grow _ _ _ HI2.out hb3;have HK3:Hid _:=HK2.out.trans (Kp.of_below hb3 hroom2.1);have HZ3:Hid (WayAt wE ZB z):=hZW;(have hZN:ZB≠NB:=by have :=hroom2.2;omega);clear hRE hb3 hZW hZn;cases hok:ok
   ·(have HE:Hid (Ru.run step s LL=(s,true)):=by show _=_;rw[HON.out,HOK.out.1 hok];rfl);go_wp2_with fail;go_ret;exact⟨by rw[HE.out];rfl,by rw[HE.out];exact HI3.out,HK3.out⟩
   have hw9:=HOK.out.2 hok;have HNm:Hid _:=isNum_any m wE;cases hnm:Sc.isNum m
   ·(have HE:Hid (Ru.run step s LL=(s,true)):=by show _=_;rw[HON.out,hw9];show Ru.run step s (if Sc.isNum m=true then [z] else [])=_;rw[hnm];rfl);rw[hnm]at HNm;clear hnm hw9;go_wp2_with(go_at_call 109;refine Calls.mono HNm.out ?_;rintro _ wF ⟨rfl,hwF⟩;have hwF:=hwF.symm;subst hwF);go_ret;exact⟨by rw[HE.out];rfl,by rw[HE.out];exact HI3.out,HK3.out⟩
   (have HL1:Hid (LL=[z]):=by show _=_;rw[HON.out,hw9];show(if Sc.isNum m=true then [z] else [])=_;rw[hnm];rfl);rw[HL1.out]at hLv;have HLv2:Hid _:=hLv.1;(have HE:Hid (Ru.run step s LL=((step s z).1,(step s z).2)):=by show _=_;rw[HL1.out,Ru.run_cons];cases hq:(step s z).2<;>rfl);rw[hnm]at HNm;clear hnm hw9 hLv HL1
   go_wp2_with(first
    |(go_at_call 109;refine Calls.mono HNm.out ?_;rintro _ wF ⟨rfl,hwF⟩;have hwF:=hwF.symm;subst hwF)
    |(refine wpList_loadWay (by first|exact wanted_none rfl|exact wanted_some rfl rfl rfl rfl) _ rfl _ rfl z HZ3.out HZW.out ?_))
   refine Calls.mono (HTL.out.call s wE z HI3.out HLv2.out HZW.out) ?_;rintro eR w4 ⟨he4,hI4,hK4⟩;subst he4;go_wp2_with fail;go_ret;exact⟨by rw[HE.out];rfl,by rw[HE.out];exact hI4,HK3.out.trans hK4⟩
structure HoldIn (facts:List Rl.Fc) (l:Sc.Lit) (y:Ru.Way):Prop where
 li:Ru.LitIn 8 facts l
 tl:l.terms.length≤1000
 n0:l.kind=4→Sc.isNum (Ru.num y.nums (Sc.termD l.terms 0))=true
 n1:l.kind=4→Sc.isNum (Ru.num y.nums (Sc.termD l.terms 1))=true
theorem hold1_any{σ:Type}{step:σ→Ru.Way→σ×Bool}{live:σ→Ru.Way→Prop}{I:σ→World→Prop}{NB hh:Nat}{cb:Array Value}(facts:List Rl.Fc)(l:Sc.Lit)(y:Ru.Way)(vf vt:Value)(w0 w:World)(s:σ)
 (hB0:Below w0.heap.size w0 w) (hF:FactsV w0 vf facts) (hFl:facts.length≤1000000) (hT:PTermsV w0 vt l.terms) (hTI:Ru.TermsIn 8 l.terms) (hA:∀f,f∈facts→f.pred=l.pred→l.terms.length=f.args.length) (hTl:l.terms.length≤1000) (hy:Ru.Wf 8 y) (hk:l.kind=1)
 (TL:Tell w0.heap.size NB hh cb step live I) (he:∀args w,(callFunc hh args).run Tryz.prog w=.ok (.enter hh args) w) (hI:I s w) (hLv:Ru.Lv step live s (Ru.on facts l y)):
 Calls Tryz.prog 145 #[vf,plitVal l vt,wayVal y, .func (.func hh) #[] cb] w fun e w'=>e=.returned (.bool (Ru.run step s (Ru.on facts l y)).2)∧I (Ru.run step s (Ru.on facts l y)).1 w'∧Kp w0.heap.size NB w w':=by
 rw[Ru.on_yes hk]at hLv ⊢;obtain⟨at_,ct,hvt,_⟩:=id hT;subst hvt;obtain⟨kd,op,pd,ts⟩:=l;dsimp only at *;subst hk;obtain⟨h0,h1,hb⟩:=ru_two w (.cells #[.int .i64 1, .int .i64 op, .int .i64 pd, .slice at_ ts.length ct] 49) (.cells (wayArr y) 138);have hroom0:=TL.room s w hI;have HW:Hid (WayAt ((w.alloc (.cells #[.int .i64 1, .int .i64 op, .int .i64 pd, .slice at_ ts.length ct] 49)).alloc (.cells (wayArr y) 138)) (w.heap.size+1) y):=h1;have HK:Hid (Kp w0.heap.size NB w ((w.alloc (.cells #[.int .i64 1, .int .i64 op, .int .i64 pd, .slice at_ ts.length ct] 49)).alloc (.cells (wayArr y) 138))):=Kp.of_below hb hroom0.1;have HC:Hid _:=holdYes_any facts ⟨1,op,pd,ts⟩ y vf (.slice at_ ts.length ct) w0 _ s (HK.out.below hB0) hF hFl hT hTI hA hTl hy TL he (TL.grow _ _ _ hI hb) hLv;(have d0:((w.alloc (.cells #[.int .i64 1, .int .i64 op, .int .i64 pd, .slice at_ ts.length ct] 49)).alloc (.cells (wayArr y) 138)).cell? ⟨w.heap.size,0,none⟩=some (.int .i64 1):=by rw[Lib.cell_of_heap h0];rfl);(have d1:((w.alloc (.cells #[.int .i64 1, .int .i64 op, .int .i64 pd, .slice at_ ts.length ct] 49)).alloc (.cells (wayArr y) 138)).cell? ⟨w.heap.size,1,none⟩=some (.int .i64 op):=by rw[Lib.cell_of_heap h0];rfl);(have d2:((w.alloc (.cells #[.int .i64 1, .int .i64 op, .int .i64 pd, .slice at_ ts.length ct] 49)).alloc (.cells (wayArr y) 138)).cell? ⟨w.heap.size,2,none⟩=some (.int .i64 pd):=by rw[Lib.cell_of_heap h0];rfl);(have d3:((w.alloc (.cells #[.int .i64 1, .int .i64 op, .int .i64 pd, .slice at_ ts.length ct] 49)).alloc (.cells (wayArr y) 138)).cell? ⟨w.heap.size,3,none⟩=some (.slice at_ ts.length ct):=by rw[Lib.cell_of_heap h0];rfl);clear h0 h1 hb hI hB0 TL hF hT hTI hA hLv hroom0;generalize List.filterMap (Ru.onF ⟨1,op,pd,ts⟩ y) facts=LL at *
 go_enter Tryz.func145,Tryz.ntmps145
 go_upto_region 3 with fail;generalize (w.alloc (.cells #[.int .i64 1, .int .i64 op, .int .i64 pd, .slice at_ ts.length ct] 49)).alloc (.cells (wayArr y) 138)=w1 at *;go_wp2_with(refine wpList_loadWay (wanted_none rfl) _ rfl _ rfl y HW.out hy ?_);refine Calls.mono HC.out ?_;rintro e w4 ⟨he4,hI4,hK4⟩;subst he4;have HI4:Hid _:=hI4;clear hI4 d0 d1 d2 d3 HC;go_wp2_with fail;go_ret;exact⟨rfl,HI4.out,HK.out.trans hK4⟩
theorem hold_any{σ:Type}{step:σ→Ru.Way→σ×Bool}{live:σ→Ru.Way→Prop}{I:σ→World→Prop}{NB hh:Nat}{cb:Array Value}(facts:List Rl.Fc)(l:Sc.Lit)(y:Ru.Way)(vf vt:Value)(w0 w:World)(s:σ)
 (hB0:Below w0.heap.size w0 w) (hF:FactsV w0 vf facts) (hFl:facts.length≤1000000) (hFF:∀f,f∈facts→FFit f) (hT:PTermsV w0 vt l.terms) (hH:HoldIn facts l y) (hy:Ru.Wf 8 y)
 (TL:Tell w0.heap.size NB hh cb step live I) (he:∀args w,(callFunc hh args).run Tryz.prog w=.ok (.enter hh args) w) (hI:I s w) (hLv:Ru.Lv step live s (Ru.on facts l y)):
 Calls Tryz.prog 145 #[vf,plitVal l vt,wayVal y, .func (.func hh) #[] cb] w fun e w'=>e=.returned (.bool (Ru.run step s (Ru.on facts l y)).2)∧I (Ru.run step s (Ru.on facts l y)).1 w'∧Kp w0.heap.size NB w w':=by
 rcases hH.li.k with hk|hk|hk|hk
 ·exact hold1_any facts l y vf vt w0 w s hB0 hF hFl hT hH.li.t (hH.li.a hk) hH.tl hy hk TL he hI hLv
 ·exact hold2_any facts l y vf vt w0 w s hB0 hF hFl hFF hT hH.li.t hH.tl hy hk TL he hI hLv
 ·exact hold3_any facts l y vf vt w0 w s hB0 hT hH.li.t (hH.li.k3 hk) hy hk TL he hI hLv
 exact hold4_any facts l y vf vt w0 w s hB0 hT hH.li.t (hH.li.k4 hk) hy hk (hH.n0 hk) (hH.n1 hk) TL he hI hLv
theorem own_factsV{w w':World}{B:Nat}{v:Value}{q:List Fv}(h2:w'.ownsRow B 55 2 v q.length (q.map fcCells).flatten)(h3:∀p,p∈q→FvOk w p)(hb:Below w.heap.size w w'):FactsV w' v (q.map (·.1)):=by
 rcases ownsRow_forms9 h2 with⟨hv,h0⟩|⟨g,cap,hv⟩
 ·have hq:q=[]:=List.eq_nil_of_length_eq_zero h0;subst hq;exact⟨none,0,hv,⟨Nat.le_refl _,fun _=>rfl⟩, .inl rfl⟩
 subst hv;have hc:q.length≤cap:=by
  rcases h2.2 with⟨hv,_⟩|⟨_,_,_,hv,_,_,hc1,_⟩
  ·cases hv
  injection hv with _ _ e3;omega
 refine⟨_,cap,by rw[List.length_map],⟨by rw[List.length_map];exact hc,fun h=>by cases h⟩, .inr ⟨g,0,rfl,fun i hi=>?_⟩⟩;rw[List.length_map]at hi;have hq:q[i]?=some q[i]:=List.getElem?_eq_getElem hi;(have hd:Rl.factD (q.map (·.1)) i=q[i].1:=by simp[Rl.factD,hi]);obtain⟨c0,c1⟩:=FRow.cell h2 hq;rw[Nat.zero_add,hd];exact⟨c0,q[i].2,c1,intsV_below (h3 _ (List.getElem_mem hi)).1 hb⟩
theorem facts_fv{w:World}{ao:Option Addr}{l:List Rl.Fc}(h:FactsAt w ao l)(hf:∀f,f∈l→FFit f):
 ∃q:List Fv,q.map (·.1)=l∧(∀p,p∈q→FvOk w p)∧(l=[]∨∃b off,ao=some ⟨b,off,none⟩∧∀j u,((q.map fcCells).flatten)[j]?=some u→w.cell? ⟨b,off+j,none⟩=some u):=by
 rcases h with rfl|⟨b,off,rfl,hc⟩
 ·exact⟨[],rfl,fun _ hp=>absurd hp sI, .inl rfl⟩
 have each:∀i,i<l.length→∃v,w.cell? ⟨b,off+i*2+1,none⟩=some v∧IntsV w v (Rl.factD l i).args:=fun i hi=>(hc i hi).2;(have hch:∃V:Nat→Value,∀i,i<l.length→w.cell? ⟨b,off+i*2+1,none⟩=some (V i)∧IntsV w (V i) (Rl.factD l i).args:=by refine⟨fun i=>(w.cell? ⟨b,off+i*2+1,none⟩).getD (.slice none 0 0),fun i hi=>?_⟩;obtain⟨v,h1,h2⟩:=each i hi;simp only[h1,Option.getD_some];exact⟨trivial,h2⟩);obtain⟨V,hV⟩:=hch;refine⟨(List.range l.length).map fun i=>(Rl.factD l i,V i),?_,?_, .inr ⟨b,off,rfl,fun j u hj=>?_⟩⟩
 ·apply List.ext_getElem?;intro i;rw[List.getElem?_map,List.getElem?_map];by_cases hi:i<l.length
  ·rw[List.getElem?_range hi,factD_get l i hi];rfl
  rw[List.getElem?_eq_none (by simpa using hi),List.getElem?_eq_none (by simpa using hi)];rfl
 ·intro p hp;obtain⟨i,hi,rfl⟩:=List.mem_map.mp hp;have hi:i<l.length:=List.mem_range.mp hi;exact⟨(hV i hi).2,hf _ (factD_mem l i hi)⟩
 have hjl:j<((List.range l.length).map fun i=>(Rl.factD l i,V i)).length*2:=by
  rcases Nat.lt_or_ge j (((List.range l.length).map fun i=>(Rl.factD l i,V i)).length*2)with h2|h2
  ·exact h2
  rw[List.getElem?_eq_none (by rw[fc_length];exact h2)]at hj;cases hj
 obtain⟨x,hx,hx2⟩:=fc_at _ j hjl;rw[hx2]at hj;(have hl2:j/2<l.length:=by(have h3:((List.range l.length).map fun i=>(Rl.factD l i,V i)).length=l.length:=by simp);rw[h3]at hjl;omega);rw[List.getElem?_map,List.getElem?_range hl2]at hx;(have hxe:(Rl.factD l (j/2),V (j/2))=x:=by simpa using hx);subst hxe;rcases Nat.mod_two_eq_zero_or_one j with h0|h0
 ·rw[h0]at hj;(have hu:Value.int .i64 (Rl.factD l (j/2)).pred=u:=by simpa[fcCells]using hj);rw[←hu,←(hc (j/2) hl2).1]
  congr 2
  omega
 rw[h0]at hj;(have hu:V (j/2)=u:=by simpa[fcCells]using hj);rw[←hu,←(hV (j/2) hl2).1]
 congr 2
 omega
theorem factsAt_below{w w':World}{ao:Option Addr}{l:List Rl.Fc}(h:FactsAt w ao l)(hb:Below w.heap.size w w'):FactsAt w' ao l:=by
 rcases h with h|⟨b,off,rfl,h⟩
 ·exact .inl h
 exact .inr ⟨b,off,rfl,fun i hi=>factIn_below (h i hi) hb⟩
def Appd(W:World)(q:List Fv)(l:List Rl.Fc)(v':Value)(w':World)(q2:List Fv):Prop:=
 q2.map (·.1)=l∧(∀p,p∈q2→FvOk W p)∧w'.ownsRow W.heap.size 55 2 v' (q++q2).length ((q++q2).map fcCells).flatten∧Below W.heap.size W w'
theorem wp_append_facts{W w:World}{ops:Array Oper}{rest:List Oper}{o:Oper}{a:Act}{Q:Exit→Act→World→Prop}(hgd:o.guard=none)(s x:Operand)
 (ho:o.op=.call {callee:=.builtin .append,args:=#[s,x],argTypes:=#[27,27]}) (hW:Below W.heap.size W w) (v:Value) (n:Nat) (q:List Fv) (hs:a.eval s=v) (hn:n=q.length)
 (hown:w.ownsRow W.heap.size 55 2 v n (q.map fcCells).flatten) (ao:Option Addr) (cap:Nat) (l:List Rl.Fc) (hx:a.eval x=.slice ao l.length cap) (hcap:ao=none→cap=0) (hA:FactsAt W ao l) (hf:∀f,f∈l→FFit f)
 (hb:n+l.length≤4194304)
 (h:∀v' w' q2,Appd W q l v' w' q2→wpList Tryz.prog ops Q rest (a.put o.dst v') w'):wpList Tryz.prog ops Q (o::rest) a w:=by
 obtain⟨i0,hi,hz0,hz1,hz2⟩:=info_parts rl_info49;obtain⟨q2,h1,h2,h3⟩:=facts_fv hA hf;(have hl2:q2.length=l.length:=by rw[←h1,List.length_map]);(have nilCase:l=[]→ao=none→wpList Tryz.prog ops Q (o::rest) a w:=by intro hl hao;have hq2:q2=[]:=List.eq_nil_of_length_eq_zero (by rw[hl2,hl];rfl);subst hn;refine wpList_append_own_none hgd s x 27 ho W.heap.size 55 i0 2 Tryz.underlying27 hi v q.length _ hs hown (by rw[hx,hl,hao,hcap hao];rfl) ?_;refine h v w q2 ⟨h1,h2,?_,hW⟩;rw[hq2,List.append_nil];exact hown);have someCase:∀ad,ao=some ad→(∀j u,((q2.map fcCells).flatten)[j]?=some u→w.cell? (ad.add j)=some u)→wpList Tryz.prog ops Q (o::rest) a w:=by
  intro ad hao hcells;refine wpList_append_own w hgd s x 27 ho W.heap.size 55 i0 _ 2 32 Tryz.underlying27 hi hz0 hz1 hz2 rfl dE v n _ hs hown ad l.length cap ((q2.map fcCells).flatten) (by rw[hx,hao]) (by rw[fc_length,hl2]) hcells ?_ (by unfold maxLen;omega) oM hW.size ?_
  ·intro u hu;obtain⟨c,hc,hu⟩:=List.mem_flatten.mp hu;obtain⟨p,hp,rfl⟩:=List.mem_map.mp hc;obtain⟨a9,c9,hp9⟩:=fv_slice (h2 p hp);simp[fcCells,hp9]at hu;rcases hu with rfl|rfl<;>rfl
  intro v' w' ho2 hg _;refine h v' w' q2 ⟨h1,h2,?_,hW.grown hg hW.size (fun k hk=>(hown.lt k hk).1)⟩;rw[List.length_append,List.map_append,List.flatten_append,hl2,←hn];exact ho2
 cases ao with
 |none=>
  rcases hA with hl|⟨b,off,hb2,_⟩
  ·exact nilCase hl rfl
  cases hb2
 |some ad=>
  refine someCase ad rfl ?_;intro j u hj;rcases h3 with hl|⟨b,off,hb2,hc⟩
  ·have hq2:q2=[]:=List.eq_nil_of_length_eq_zero (by rw[hl2,hl];rfl);rw[hq2]at hj;simp at hj
  rw[Option.some.inj hb2,Addr.add_lit];exact cell_below hW (hc j u hj)
theorem grow_any(w:World)(n:Nat)(hn:n≤4194304):
 Calls Tryz.prog 180 #[.slice none 0 0, .int .i64 n] w fun e w'=>∃v',e=.returned v'∧w'.ownsRow w.heap.size 55 2 v' 0 []∧Below w.heap.size w w':=by
 obtain⟨i0,hi,hz0,hz1,hz2⟩:=info_parts rl_info49;by_cases h0:n=0
 ·subst h0
  go_enter Tryz.func180,Tryz.ntmps180
  go_wp2_with fail;go_ret;exact⟨_,rfl,World.ownsRow_nil _ _ _ _,Below.refl _ _⟩
 have hp:0<n:=oM;have HR:Hid _:=Lib.run_append_nil_zeros w 27 3 27 55 i0 _ .i64 .i64 Tryz.underlying27 Tryz.underlying3 hi hz0 n hp (by rw[hz1];decide) oM (by rw[hz2];omega)
 go_enter Tryz.func180,Tryz.ntmps180
 go_wp2_with(at_builtin;refine Lib.wpList_append_run _ rfl _ _ 27 3 rfl _ _ rfl rfl _ _ HR.out ?_);(have HO:Hid (∀cur:Array Value,cur.size=grownCap w n 0 55*2→(w.alloc (.cells cur 55)).drew.ownsRow w.heap.size 55 2 (.slice (some ⟨w.heap.size,0,none⟩) 0 (grownCap w n 0 55)) 0 []∧Below w.heap.size w (w.alloc (.cells cur 55)).drew):=by intro cur hc;have h1:=World.ownsRow_made (base:=w.heap.size) (e:=55) (size:=2) w cur (grownCap w n 0 55) (Nat.le_refl _) (grownCap_le_maxLen _ _ _ _ (by unfold maxLen;omega)) hc;have h2:Below w.heap.size w (w.alloc (.cells cur 55)):=(Below.refl _ _).alloc (Nat.le_refl _) _;exact⟨h1,h2.os,h2.tape,h2.output,h2.size,h2.block⟩);have hge:=grownCap_ge w n 0 55;go_ret;refine⟨_,rfl,HO.out _ ?_⟩;simp[Builtin.zeroCells];omega
theorem concat_any(l m:List Rl.Fc)(b:Nat)(ao bo:Option Addr)(cap cbp:Nat)(w:World)(hA:FactsAt w ao l∧(ao=none→cap=0))(hB:FactsAt w bo m∧(bo=none→cbp=0))(hb0:w.cell? ⟨b,0,none⟩=some (.slice ao l.length cap))(hb1:w.cell? ⟨b,1,none⟩=some (.slice bo m.length cbp))(hl:l.length≤1048576)(hm:m.length≤1048576)(hf:∀f,f∈l→FFit f)(hg:∀f,f∈m→FFit f):
 Calls Tryz.prog 138 #[.slice (some ⟨b,0,none⟩) 2 2] w fun e w'=>∃v',e=.returned v'∧FactsV w' v' (l++m)∧Below w.heap.size w w':=by
 have HA:Hid (FactsAt w ao l∧(ao=none→cap=0)):=hA;have HB:Hid (FactsAt w bo m∧(bo=none→cbp=0)):=hB;have HF:Hid ((∀f,f∈l→FFit f)∧∀f,f∈m→FFit f):=⟨hf,hg⟩;clear hA hB hf hg
 go_enter Tryz.func138,Tryz.ntmps138
 go_wp2_with fail;go_loopw [3,11] (fun sz i wr=>w=wr∧((i=.int .i64 (0:Nat)∧sz=.int .i64 0)∨(i=.int .i64 (1:Nat)∧sz=.int .i64 (l.length:Nat))∨(i=.int .i64 (2:Nat)∧sz=.int .i64 ((l.length+m.length:Nat):Int)))) (fun _ i _=>2-(intOf i).toNat);case atStart=>exact⟨rfl, .inl ⟨rfl,rfl⟩⟩
 case round=>
  obtain⟨rfl,⟨rfl,rfl⟩|⟨rfl,rfl⟩|⟨rfl,rfl⟩⟩:=hrel
  ·go_wp2_with fail;go_roundw;(case rel=>exact⟨by trivial, .inr (.inl ⟨by first|rfl|go_num,by first|rfl|go_num|simp⟩)⟩);case measure=>simp[intOf]
  ·go_wp2_with fail;go_roundw;(case rel=>exact⟨by trivial, .inr (.inr ⟨by first|rfl|go_num,by first|rfl|go_num|simp⟩)⟩);case measure=>simp[intOf]
  go_wp2_with fail;refine Calls.mono (grow_any _ (l.length+m.length) oM) ?_;rintro e w1 ⟨v1,rfl,hown1,hbw1⟩;obtain⟨a1,c1,rfl⟩:=own_slice hown1;have d0:=cell_below hbw1 hb0;have d1:=cell_below hbw1 hb1;go_wp2_with fail;clear d0 d1;go_loopw [6,27] (fun ns i wr=>(i=.int .i64 (0:Nat)∧wr.ownsRow w.heap.size 55 2 ns 0 []∧Below w.heap.size w wr)∨(i=.int .i64 (1:Nat)∧∃q1,Appd w [] l ns wr q1)∨(i=.int .i64 (2:Nat)∧∃q1 q2,q1.map (·.1)=l∧(∀p,p∈q1→FvOk w p)∧Appd w q1 m ns wr q2)) (fun _ i _=>2-(intOf i).toNat);case atStart=>exact .inl ⟨rfl,hown1,hbw1⟩
  case round=>
   rcases hrel with⟨rfl,hown,hbw⟩|⟨rfl,q1,H1⟩|⟨rfl,q1,q2,e1,o1,H2⟩
   ·have d0:=cell_below hbw hb0;have d1:=cell_below hbw hb1;obtain⟨a2,c2,rfl⟩:=own_slice hown;go_wp2_with(at_builtin;refine wp_append_facts rfl (.tmp 31) (.tmp 32) rfl hbw _ 0 [] rfl rfl hown ao cap l rfl HA.out.2 HA.out.1 HF.out.1 ?c1 ?_);(case c1=>omega);intro v2 w2 q2 H2;obtain⟨a3,c3,rfl⟩:=own_slice H2.2.2.1;have H2:Hid (Appd w [] l _ w2 q2):=H2;go_wp2_with fail;go_roundw;(case rel=>exact .inr (.inl ⟨by first|rfl|go_num,q2,H2.out⟩));case measure=>simp[intOf]
   ·obtain⟨e1,o1,hown,hbw⟩:=H1;have hown:wr.ownsRow w.heap.size 55 2 _ q1.length (q1.map fcCells).flatten:=hown;have d0:=cell_below hbw hb0;have d1:=cell_below hbw hb1;obtain⟨a2,c2,rfl⟩:=own_slice hown;(have HL1:Hid (q1.length=l.length):=by show _=_;rw[←e1,List.length_map]);have HE:Hid (q1.map (·.1)=l∧(∀p,p∈q1→FvOk w p)):=⟨e1,o1⟩;clear e1 o1;go_wp2_with(at_builtin;refine wp_append_facts rfl (.tmp 31) (.tmp 32) rfl hbw _ q1.length q1 rfl rfl hown bo cbp m rfl HB.out.2 HB.out.1 HF.out.2 ?c1 ?_);(case c1=>have :=HL1.out;omega);intro v2 w2 q2 H2;obtain⟨a3,c3,rfl⟩:=own_slice H2.2.2.1;have H2:Hid (Appd w q1 m _ w2 q2):=H2;go_wp2_with fail;go_roundw;(case rel=>exact .inr (.inr ⟨by first|rfl|go_num,q1,q2,HE.out.1,HE.out.2,H2.out⟩));case measure=>simp[intOf]
   obtain⟨e2,o2,hown2,hb2⟩:=H2;have HFV:Hid (FactsV wr u6 (l++m)):=by
    have h3:=own_factsV hown2 (fun p hp=>by
     rcases List.mem_append.mp hp with hp|hp
     ·exact o1 p hp
     exact o2 p hp) hb2
    rw[List.map_append,e1,e2]at h3;exact h3
   obtain⟨a2,c2,rfl⟩:=own_slice hown2;clear e1 e2 o1 o2 hown2;go_wp2_with fail;go_ret;exact⟨_,rfl,HFV.out,hb2⟩
theorem cat_cell(w:World)(C:Array Value)(t:TypeId)(j:Nat):(w.alloc (.cells C t)).cell? ⟨w.heap.size,j,none⟩=C[j]?:=World.cell?_alloc_mark w C t _ j
theorem Union_any(l m:List Rl.Fc)(v u:Value)(w:World)(hV:FactsV w v l)(hU:FactsV w u m)(hl:l.length≤1048576)(hm:m.length≤1048576)(hf:∀f,f∈l→f.args.length≤1048576)(hg:∀f,f∈m→f.args.length≤1048576):
 Calls Tryz.prog 95 #[v,u] w fun e w'=>∃v',e=.returned v'∧FactsV w' v' (Rl.union l m)∧Below w.heap.size w w':=by
 obtain⟨ao,cap,rfl,hc1,hA⟩:=hV;obtain⟨bo,cbp,rfl,hc2,hB⟩:=hU;have HA:Hid (FactsAt w ao l∧(ao=none→cap=0)):=⟨hA,hc1.2⟩;have HB:Hid (FactsAt w bo m∧(bo=none→cbp=0)):=⟨hB,hc2.2⟩;have HF:Hid ((∀f,f∈l→FFit f)∧∀f,f∈m→FFit f):=⟨fun f h=>Nat.le_trans (hf f h) dE,fun f h=>Nat.le_trans (hg f h) dE⟩;have HL:Hid ((l++m).length≤2097152∧∀f,f∈l++m→f.args.length≤1048576):=by
  refine⟨by rw[List.length_append];omega,fun f h=>?_⟩;rcases List.mem_append.mp h with h|h
  ·exact hf f h
  exact hg f h
 clear hA hB hc1 hc2 hf hg
 go_enter Tryz.func95,Tryz.ntmps95
 go_wp2_with fail;have hba:Below w.heap.size w (w.alloc (Obj.cells #[Value.slice ao l.length cap,Value.slice bo m.length cbp] 27)):=(Below.refl _ _).alloc (Nat.le_refl _) _;refine Calls.mono (concat_any l m w.heap.size ao bo cap cbp _ ⟨factsAt_below HA.out.1 hba,HA.out.2⟩ ⟨factsAt_below HB.out.1 hba,HB.out.2⟩ (cat_cell w _ 27 0) (cat_cell w _ 27 1) hl hm HF.out.1 HF.out.2) ?_;rintro e w1 ⟨v1,rfl,hV1,hb1⟩;have hb1:=hba.trans (hb1.mono (by have :=hba.size;omega));clear hba HA HB;obtain⟨a1,c1,rfl,hc1,hA1⟩:=id hV1;have HV:Hid (FactsV w1 (.slice a1 (l++m).length c1) (l++m)):=hV1;rw[List.length_append]at HV;clear hV1 hc1 hA1 HF;go_wp2_with fail;refine Calls.mono (Set_any (l++m) _ _ HV.out HL.out.1 HL.out.2) ?_;rintro e w3 ⟨v3,rfl,hS,hb3⟩;have HS:Hid (FactsV w3 v3 (Rl.union l m)):=hS.toV;obtain⟨q3,_,hown3,_⟩:=id hS;obtain⟨a3,c3,rfl⟩:=own_slice hown3;have hb4:=hb1.trans (hb3.mono hb1.size);clear hown3 hS hb3 HL HV;go_wp2_with fail;go_ret;exact⟨_,rfl,HS.out,hb4⟩
theorem lCells_len(q:List Lv):(lCells q).length=q.length*4:=by unfold lCells;rw[flat_length 4 _ (fun c hc=>by obtain⟨t,_,rfl⟩:=List.mem_map.mp hc;rfl),List.length_map]
theorem lCells_app(q r:List Lv):lCells (q++r)=lCells q++lCells r:=by unfold lCells;rw[List.map_append,List.flatten_append]
def QAt(w:World)(a:Addr)(q:List Lv):Prop:=∀j u,(lCells q)[j]?=some u→w.cell? (a.add j)=some u
theorem cell_below'{w w':World}(hb:Below w.heap.size w w'){a:Addr}{v:Value}(h:w.cell? a=some v):w'.cell? a=some v:=(World.cell?_of_block (hb.block _ (World.block_lt_of_cell? w _ h))).trans h
theorem lCells_one{q:List Lv}(h:∀p,p∈q→∃ao n c,p.2=.slice ao n c):∀u,u∈lCells q→u.oneCell'=true:=by
 intro u hu;unfold lCells at hu;obtain⟨c,hc,hu⟩:=List.mem_flatten.mp hu;obtain⟨p,hp,rfl⟩:=List.mem_map.mp hc;obtain⟨ao,n,cc,e⟩:=h p hp;unfold lvCells at hu;simp only[List.mem_cons,List.not_mem_nil,or_false]at hu;rcases hu with rfl|rfl|rfl|rfl
 ·rfl
 ·rfl
 ·rfl
 rw[e];rfl
theorem growL_any(w:World)(n:Nat)(hn:n≤1048576):
 Calls Tryz.prog 183 #[.slice none 0 0, .int .i64 n] w fun e w'=>∃v',e=.returned v'∧w'.ownsRow w.heap.size 49 4 v' 0 []∧Below w.heap.size w w':=by
 obtain⟨i0,hi,hz0,hz1,hz2⟩:=info_parts cl_info71;by_cases h0:n=0
 ·subst h0
  go_enter Tryz.func183,Tryz.ntmps183
  go_wp2_with fail;go_ret;exact⟨_,rfl,World.ownsRow_nil _ _ _ _,Below.refl _ _⟩
 have hp:0<n:=oM;have HR:Hid _:=Lib.run_append_nil_zeros w 38 3 38 49 i0 _ .i64 .i64 Tryz.underlying38 Tryz.underlying3 hi hz0 n hp (by rw[hz1];decide) oM (by rw[hz2];omega)
 go_enter Tryz.func183,Tryz.ntmps183
 go_wp2_with(at_builtin;refine Lib.wpList_append_run _ rfl _ _ 38 3 rfl _ _ rfl rfl _ _ HR.out ?_);(have HO:Hid (∀cur:Array Value,cur.size=grownCap w n 0 49*4→(w.alloc (.cells cur 49)).drew.ownsRow w.heap.size 49 4 (.slice (some ⟨w.heap.size,0,none⟩) 0 (grownCap w n 0 49)) 0 []∧Below w.heap.size w (w.alloc (.cells cur 49)).drew):=by intro cur hc;have h1:=World.ownsRow_made (base:=w.heap.size) (e:=49) (size:=4) w cur (grownCap w n 0 49) (Nat.le_refl _) (grownCap_le_maxLen _ _ _ _ (by unfold maxLen;omega)) hc;have h2:Below w.heap.size w (w.alloc (.cells cur 49)):=(Below.refl _ _).alloc (Nat.le_refl _) _;exact⟨h1,h2.os,h2.tape,h2.output,h2.size,h2.block⟩);have hge:=grownCap_ge w n 0 49;go_ret;refine⟨_,rfl,HO.out _ ?_⟩;simp[Builtin.zeroCells];omega
theorem concatL_any(q1 q2:List Lv)(b:Nat)(a1 a2:Addr)(c1 c2:Nat)(w:World)(hA:QAt w a1 q1)(hB:QAt w a2 q2)(h1:∀p,p∈q1→∃ao n c,p.2=.slice ao n c)(h2:∀p,p∈q2→∃ao n c,p.2=.slice ao n c)
 (hb0:w.cell? ⟨b,0,none⟩=some (.slice (some a1) q1.length c1)) (hb1:w.cell? ⟨b,1,none⟩=some (.slice (some a2) q2.length c2)) (hl:q1.length≤1000) (hm:q2.length≤1000):
 Calls Tryz.prog 144 #[.slice (some ⟨b,0,none⟩) 2 2] w fun e w'=>∃v',e=.returned v'∧w'.ownsRow w.heap.size 49 4 v' (q1.length+q2.length) (lCells (q1++q2))∧Below w.heap.size w w':=by
 obtain⟨i0,hi,hz0,hz1,hz2⟩:=info_parts cl_info71;have HA:Hid _:=hA;have HB:Hid _:=hB;have H1:Hid _:=lCells_one h1;have H2:Hid _:=lCells_one h2;clear hA hB h1 h2
 go_enter Tryz.func144,Tryz.ntmps144
 go_wp2_with fail;go_loopw [3,11] (fun sz i wr=>w=wr∧((i=.int .i64 (0:Nat)∧sz=.int .i64 0)∨(i=.int .i64 (1:Nat)∧sz=.int .i64 (q1.length:Nat))∨(i=.int .i64 (2:Nat)∧sz=.int .i64 ((q1.length+q2.length:Nat):Int)))) (fun _ i _=>2-(intOf i).toNat);case atStart=>exact⟨rfl, .inl ⟨rfl,rfl⟩⟩
 case round=>
  obtain⟨rfl,⟨rfl,rfl⟩|⟨rfl,rfl⟩|⟨rfl,rfl⟩⟩:=hrel
  ·go_wp2_with fail;go_roundw;(case rel=>exact⟨by trivial, .inr (.inl ⟨by first|rfl|go_num,by first|rfl|go_num|simp⟩)⟩);case measure=>simp[intOf]
  ·go_wp2_with fail;go_roundw;(case rel=>exact⟨by trivial, .inr (.inr ⟨by first|rfl|go_num,by first|rfl|go_num|simp⟩)⟩);case measure=>simp[intOf]
  go_wp2_with fail;refine Calls.mono (growL_any _ (q1.length+q2.length) oM) ?_;rintro e w1 ⟨v1,rfl,hown1,hbw1⟩;obtain⟨a3,c3,rfl⟩:=own_slice hown1;have d0:=cell_below hbw1 hb0;have d1:=cell_below hbw1 hb1;go_wp2_with fail;clear d0 d1;go_loopw [6,27] (fun ns i wr=>(i=.int .i64 (0:Nat)∧wr.ownsRow w.heap.size 49 4 ns 0 []∧Below w.heap.size w wr)∨(i=.int .i64 (1:Nat)∧wr.ownsRow w.heap.size 49 4 ns q1.length (lCells q1)∧Below w.heap.size w wr)∨(i=.int .i64 (2:Nat)∧wr.ownsRow w.heap.size 49 4 ns (q1.length+q2.length) (lCells q1++lCells q2)∧Below w.heap.size w wr)) (fun _ i _=>2-(intOf i).toNat);case atStart=>exact .inl ⟨rfl,hown1,hbw1⟩
  case round=>
   rcases hrel with⟨rfl,hown,hbw⟩|⟨rfl,hown,hbw⟩|⟨rfl,hown,hbw⟩
   ·have d0:=cell_below hbw hb0;have d1:=cell_below hbw hb1;obtain⟨a4,c4,rfl⟩:=own_slice hown;go_wp2_with(at_builtin;refine wpList_append_own _ rfl _ _ 38 rfl w.heap.size 49 i0 _ 4 48 Tryz.underlying38 hi hz0 hz1 hz2 rfl dE _ _ _ rfl hown a1 q1.length c1 (lCells q1) rfl (lCells_len q1) ?c1 H1.out ?c3 ?c4 ?c5 ?_);(case c1=>exact fun j u hj=>(cell_below' hbw (HA.out j u hj)));(case c3=>unfold maxLen;omega);(case c4=>omega);(case c5=>exact hbw.size);intro v2 w2 hown2 hgrow2 _;obtain⟨a5,c5,rfl⟩:=own_slice hown2;have hb5:Below w.heap.size w w2:=hbw.grown hgrow2 hbw.size (fun k hk=>(World.ownsRow.lt hown k hk).1);(have h8:w2.ownsRow w.heap.size 49 4 (.slice a5 (0+q1.length) c5) q1.length (lCells q1):=by simpa using hown2);have HO2:Hid _:=h8;rw[Nat.zero_add]at h8;have HO3:Hid _:=h8;clear h8 hown2 hgrow2 hown d0 d1;go_wp2_with fail;go_roundw;(case rel=>exact .inr (.inl ⟨by first|rfl|go_num,by first|exact HO2.out|exact HO3.out,hb5⟩));case measure=>simp[intOf]
   ·have d0:=cell_below hbw hb0;have d1:=cell_below hbw hb1;obtain⟨a4,c4,rfl⟩:=own_slice hown;go_wp2_with(at_builtin;refine wpList_append_own _ rfl _ _ 38 rfl w.heap.size 49 i0 _ 4 48 Tryz.underlying38 hi hz0 hz1 hz2 rfl dE _ _ _ rfl hown a2 q2.length c2 (lCells q2) rfl (lCells_len q2) ?c1 H2.out ?c3 ?c4 ?c5 ?_);(case c1=>exact fun j u hj=>(cell_below' hbw (HB.out j u hj)));(case c3=>unfold maxLen;omega);(case c4=>omega);(case c5=>exact hbw.size);intro v2 w2 hown2 hgrow2 _;obtain⟨a5,c5,rfl⟩:=own_slice hown2;have hb5:Below w.heap.size w w2:=hbw.grown hgrow2 hbw.size (fun k hk=>(World.ownsRow.lt hown k hk).1);have HO2:Hid _:=hown2;clear hown2 hgrow2 hown d0 d1;go_wp2_with fail;go_roundw;(case rel=>exact .inr (.inr ⟨by first|rfl|go_num,HO2.out,hb5⟩));case measure=>simp[intOf]
   obtain⟨a4,c4,rfl⟩:=own_slice hown;have HO2:Hid _:=hown;clear hown;go_wp2_with fail;go_ret;exact⟨_,rfl,by rw[lCells_app];exact HO2.out,hbw⟩
namespace Ru
def stepN(s:Nat)(_:Way):Nat×Bool:=(s+1,true)
def liveN(s:Nat)(_:Way):Prop:=s≤1000000
theorem lv_count:∀(L:List Way)(s:Nat),s+L.length≤1000001→Lv stepN liveN s L
 |[],_,_=>trivial
 |x::L,s,h=>⟨by unfold liveN;simp only[List.length_cons]at h;omega,fun _=>lv_count L (s+1) (by simp only[List.length_cons]at h;omega)⟩
theorem run_count:∀(L:List Way)(s:Nat),run stepN s L=(s+L.length,true)
 |[],_=>rfl
 |x::L,s=>by
  rw[run_cons];show(if true=true then run stepN (s+1) L else _)=_;rw[if_pos rfl,run_count L (s+1),List.length_cons]
  congr 1
  omega
theorem on_length(facts:List Rl.Fc)(l:Sc.Lit)(y:Way):(on facts l y).length≤facts.length+1:=by
 unfold on;split
 ·have :=List.length_filterMap_le (fun f=>if f.pred=l.pred then withW y l.terms f.args else none) facts;omega
 split
 ·split<;>simp
 split
 ·split<;>simp
 split
 ·simp
 split<;>simp
theorem nextAux_drop(facts:List Rl.Fc)(y:Way)(body:List Sc.Lit)(k:Nat)(h:k<body.length)(a:Nat×Int):nextAux facts y (body.drop k) k a=nextAux facts y (body.drop (k+1)) (k+1) (nextStep facts y (Sc.litD body k) k a):=by(have e:Sc.litD body k=body[k]:=by unfold Sc.litD;rw[List.getD_eq_getElem?_getD,List.getElem?_eq_getElem h];rfl);rw[List.drop_eq_getElem_cons h,e];rfl
end Ru
theorem next1_any(NB n:Nat)(x:Ru.Way)(w:World)(hN:w.heap[NB]?=some (.cells #[.int .i64 n] 3))(hn:n≤1000000):
 Calls Tryz.prog 182 #[wayVal x, .pointer (some ⟨NB,0,none⟩)] w fun e w'=>e=.returned (.bool true)∧w'.heap[NB]?=some (.cells #[.int .i64 ((n+1:Nat):Int)] 3)∧Kp NB NB w w':=by
 have bT:=(Below.refl w.heap.size w).alloc (Nat.le_refl _) (.cells (wayArr x) 138);have hN1:=(bT.block _ (heap_lt hN)).trans hN;(have c0:(w.alloc (.cells (wayArr x) 138)).cell? ⟨NB,0,none⟩=some (.int .i64 n):=by rw[Lib.cell_of_heap hN1];rfl);have f0:=Lib.frozen_of_heap hN1 0;have HN:Hid _:=hN1;have HK:Hid (Kp NB NB w (w.alloc (.cells (wayArr x) 138))):=Kp.of_below bT (Nat.le_of_lt (heap_lt hN));clear hN1 hN bT
 go_enter Tryz.func182,Tryz.ntmps182
 go_upto_region 1 with fail;generalize w.alloc (.cells (wayArr x) 138)=w1 at *;go_wp2_with fail;go_ret;refine⟨rfl,by rw[Lib.heap_setCell_same HN.out];rfl,HK.out.trans ⟨rfl,rfl,rfl,by simp,fun k hk=>heap_set_other oM,fun k c t hk hne _=>?_⟩⟩;rw[heap_set_other hne];exact hk
theorem tellN(NB:Nat):Tell NB NB 182 #[.pointer (some ⟨NB,0,none⟩)] Ru.stepN Ru.liveN (fun n w=>w.heap[NB]?=some (.cells #[.int .i64 (n:Int)] 3)):=
 ⟨fun s w x hI hl _=>next1_any NB s x w hI hl,fun _ _ _ hI hb=>(hb.block _ (heap_lt hI)).trans hI,fun _ _ hI=>⟨Nat.le_of_lt (heap_lt hI),heap_lt hI⟩⟩
structure BodyV (w0:World) (NB:Nat) (w:World) (v:Value) (q:List Lv):Prop where
 sl:∃a cap,v=.slice a q.length cap∧q.length≤cap∧(q≠[]→∃b off,a=some ⟨b,off,none⟩∧QAt w ⟨b,off,none⟩ q∧(b<w0.heap.size∨(b≠NB∧∃c,w.heap[b]?=some (.cells c 49))))
 tm:∀p,p∈q→PTermsV w0 p.2 p.1.terms
theorem QAt.lit{w:World}{b off:Nat}{q:List Lv}(h:QAt w ⟨b,off,none⟩ q){k:Nat}(hk:k<q.length):w.cell? ⟨b,off+k*4,none⟩=some (.int .i64 q[k].1.kind)∧w.cell? ⟨b,off+k*4+1,none⟩=some (.int .i64 q[k].1.op)∧w.cell? ⟨b,off+k*4+2,none⟩=some (.int .i64 q[k].1.pred)∧w.cell? ⟨b,off+k*4+3,none⟩=some q[k].2:=by(have hm:(q.map lvCells)[k]?=some (lvCells q[k]):=by rw[List.getElem?_map,List.getElem?_eq_getElem hk];rfl);(have hl:∀c,c∈q.map lvCells→c.length=4:=fun c hc=>by obtain⟨t,_,rfl⟩:=List.mem_map.mp hc;rfl);(have each:∀(i:Nat)(u:Value),(lvCells q[k])[i]?=some u→w.cell? ⟨b,off+(k*4+i),none⟩=some u:=fun i u hu=>by have h1:=h (k*4+i) u (flat_get 4 _ hl k _ i u hm hu);rw[Addr.add_lit]at h1;exact h1);exact⟨each 0 _ rfl,each 1 _ rfl,each 2 _ rfl,each 3 _ rfl⟩
theorem litD_map{q:List Lv}{k:Nat}(h:k<q.length):Sc.litD (q.map (·.1)) k=q[k].1:=by unfold Sc.litD;rw[List.getD_eq_getElem?_getD,List.getElem?_map,List.getElem?_eq_getElem h];rfl
theorem next_any(facts:List Rl.Fc)(q:List Lv)(y:Ru.Way)(vf vb:Value)(w0 w:World)(NB:Nat)(hB0:Below w0.heap.size w0 w)(hF:FactsV w0 vf facts)(hFl:facts.length≤1000)(hFF:∀f,f∈facts→FFit f)(hQ:BodyV w0 NB w vb q)(hql:q.length≤1000)(hy:Ru.Wf 8 y)
 (hL:∀p,p∈q→Ru.LitIn 8 facts p.1∧p.1.terms.length≤1000) (hH:∀p,p∈q→Ru.ready y p.1=true→HoldIn facts p.1 y):
 Calls Tryz.prog 143 #[vf,vb,wayVal y] w fun e w'=>e=.returned (.int .i64 (Ru.next facts (q.map (·.1)) y))∧Below w.heap.size w w':=by
 obtain⟨⟨ab,cb,rfl,hcb,hqa⟩,htm⟩:=hQ;have bW:=(Below.refl w.heap.size w).alloc (Nat.le_refl _) (.cells (wayArr y) 138);have HW:Hid (WayAt (w.alloc (.cells (wayArr y) 138)) w.heap.size y):=heap_alloc_new w _;have HB1:Hid _:=bW;have HB0:Hid _:=hB0;have HF:Hid _:=hF;have HFF:Hid _:=hFF;have HQA:Hid _:=hqa;have HTM:Hid _:=htm;have HLI:Hid _:=hL;have HHI:Hid _:=hH;have he:∀args w,(callFunc 182 args).run Tryz.prog w=.ok (.enter 182 args) w:=enters_of Tryz.func182 kR rfl;have hmf:∀(fn:Fn)(first cap:Array Value)(w:World),(Instr.makeFunc fn first cap).run Tryz.prog w=.ok (.func fn first cap) w:=fun _ _ _ _=>rfl;clear hB0 hF hFF hqa htm hL hH bW
 go_enter Tryz.func143,Tryz.ntmps143
 go_wp2_with fail;generalize w.alloc (.cells (wayArr y) 138)=w1 at *;go_loopw [7,8,14] (fun vbest vfew i wr=>∃(k:Nat)(a:Nat×Int),k≤q.length∧i=.int .i64 k∧vbest=.int .i64 (a.1:Nat)∧vfew=.int .i64 a.2∧a.1≤q.length∧ -1≤a.2∧a.2≤2000∧Hid (Ru.next facts (q.map (·.1)) y=(Ru.nextAux facts y ((q.map (·.1)).drop k) k a).1)∧Hid (Below w.heap.size w wr)∧Hid (WayAt wr w.heap.size y)) (fun _ _ i _=>q.length-(intOf i).toNat);case atStart=>exact⟨0,(0, -1),Nat.zero_le _,rfl,rfl,rfl,Nat.zero_le _,dE,dE,rfl,HB1.out,HW.out⟩
 case round=>
  clear HB1 HW;obtain⟨k,⟨best,few⟩,hk,rfl,rfl,rfl,ha1,ha2,ha3,HR,HB,HW⟩:=hrel;dsimp only at *;by_cases hlt:k<q.length
  ·obtain⟨b,off,rfl,hqat,_⟩:=HQA.out (fun e=>by rw[e]at hlt;exact absurd hlt (Nat.not_lt_zero _));obtain⟨p0,p1,p2,p3⟩:=QAt.lit hqat hlt;have HD:Hid _:=Ru.nextAux_drop facts y (q.map (·.1)) k (by rw[List.length_map];exact hlt) (best,few);have hm:q[k]∈q:=List.getElem_mem hlt;have HTk:Hid _:=HTM.out _ hm;have HLk:Hid _:=HLI.out _ hm;have HHk:Hid _:=HHI.out _ hm;rw[litD_map hlt]at HD;have q0:=cell_below HB.out p0;have q1:=cell_below HB.out p1;have q2:=cell_below HB.out p2;have q3:=cell_below HB.out p3;clear p0 p1 p2 p3 hm hqat;generalize q[k]=p at *;obtain⟨⟨kd,op,pd,ts⟩,vt⟩:=p;dsimp only at *;obtain⟨at_,ct,rfl,_⟩:=id HTk.out;go_upto_region 5 with fail;have bT:=(Below.refl wr.heap.size wr).alloc (Nat.le_refl _) (.cells #[.int .i64 kd, .int .i64 op, .int .i64 pd, .slice at_ ts.length ct] 49);have HTB:Hid _:=heap_alloc_new wr (.cells #[.int .i64 kd, .int .i64 op, .int .i64 pd, .slice at_ ts.length ct] 49);have HBq:Hid _:=HB.out.trans (bT.mono HB.out.size);have HWq:Hid (WayAt (wr.alloc (.cells #[.int .i64 kd, .int .i64 op, .int .i64 pd, .slice at_ ts.length ct] 49)) w.heap.size y):=WayAt.below HW.out bT;clear q0 q1 q2 q3 bT HB HW;generalize wr.alloc (.cells #[.int .i64 kd, .int .i64 op, .int .i64 pd, .slice at_ ts.length ct] 49)=wq at *;generalize wr.heap.size=TB at *;(have l0:wq.cell? ⟨TB,0,none⟩=some (.int .i64 kd):=by rw[Lib.cell_of_heap HTB.out];rfl);(have l1:wq.cell? ⟨TB,1,none⟩=some (.int .i64 op):=by rw[Lib.cell_of_heap HTB.out];rfl);(have l2:wq.cell? ⟨TB,2,none⟩=some (.int .i64 pd):=by rw[Lib.cell_of_heap HTB.out];rfl);(have l3:wq.cell? ⟨TB,3,none⟩=some (.slice at_ ts.length ct):=by rw[Lib.cell_of_heap HTB.out];rfl);have HB0q:Hid (Below w0.heap.size w0 wq):=HB0.out.trans (HBq.out.mono HB0.out.size);go_wp2_with(refine wpList_loadWay (wanted_none rfl) _ rfl _ rfl y HWq.out hy ?_);refine Calls.mono (ready_any ⟨kd,op,pd,ts⟩ _ y wq (ptermsV_below HTk.out HB0q.out) hy HLk.out.1.t HLk.out.1.k4 (by have :=HLk.out.2;dsimp only at this ⊢;omega)) ?_;rintro _ w2 ⟨rfl,hb2⟩;have HB2:Hid _:=HBq.out.trans (hb2.mono HBq.out.size);have HW2:Hid (WayAt w2 w.heap.size y):=WayAt.below HWq.out hb2;have HTB2:Hid _:=(hb2.block _ (heap_lt HTB.out)).trans HTB.out;have HB02:Hid (Below w0.heap.size w0 w2):=HB0q.out.trans (hb2.mono HB0q.out.size);clear hb2 l0 l1 l2 l3 HBq HWq HTB HB0q;cases hrd:Ru.ready y ⟨kd,op,pd,ts⟩
   ·(have HN:Hid (Ru.nextStep facts y ⟨kd,op,pd,ts⟩ k (best,few)=(best,few)):=by show _=_;unfold Ru.nextStep;rw[hrd];rfl);clear hrd;go_wp2_with fail;go_roundw;(case rel=>exact⟨k+1,(best,few),hlt,gN,rfl,rfl,ha1,ha2,ha3,by show _=_;rw[HR.out,HD.out,HN.out],HB2.out,HW2.out⟩);case measure=>exact mI
   have HHh:Hid _:=HHk.out hrd;have HRD:Hid _:=hrd;clear hrd;go_upto_region 7 with fail;have bN:=(Below.refl w2.heap.size w2).alloc (Nat.le_refl _) (.cells #[.int .i64 0] 3);have hNB:=heap_alloc_new w2 (.cells #[.int .i64 0] 3);have HC:Hid _:=hold_any (NB:=w2.heap.size) (hh:=182) (cb:=#[.pointer (some ⟨w2.heap.size,0,none⟩)]) facts ⟨kd,op,pd,ts⟩ y vf (.slice at_ ts.length ct) w2 (w2.alloc (.cells #[.int .i64 0] 3)) 0 bN (factsV_below HF.out HB02.out) oM HFF.out (ptermsV_below HTk.out HB02.out) HHh.out hy (tellN w2.heap.size) he hNB (Ru.lv_count _ 0 (by have :=Ru.on_length facts ⟨kd,op,pd,ts⟩ y;omega));have HW3:Hid (WayAt (w2.alloc (.cells #[.int .i64 0] 3)) w.heap.size y):=WayAt.below HW2.out bN;have HTB3:Hid _:=(bN.block _ (heap_lt HTB2.out)).trans HTB2.out;have HB3:Hid _:=HB2.out.trans (bN.mono HB2.out.size);have HXW:Hid (w.heap.size<w2.heap.size):=heap_lt HW2.out;have hol:=Ru.on_length facts ⟨kd,op,pd,ts⟩ y;rw[Ru.run_count]at HC;generalize hon:(Ru.on facts ⟨kd,op,pd,ts⟩ y).length=cnt at *;have HON:Hid _:=hon;clear bN hNB hon;generalize w2.alloc (.cells #[.int .i64 0] 3)=w3 at *;(have l0:w3.cell? ⟨TB,0,none⟩=some (.int .i64 kd):=by rw[Lib.cell_of_heap HTB3.out];rfl);(have l1:w3.cell? ⟨TB,1,none⟩=some (.int .i64 op):=by rw[Lib.cell_of_heap HTB3.out];rfl);(have l2:w3.cell? ⟨TB,2,none⟩=some (.int .i64 pd):=by rw[Lib.cell_of_heap HTB3.out];rfl);(have l3:w3.cell? ⟨TB,3,none⟩=some (.slice at_ ts.length ct):=by rw[Lib.cell_of_heap HTB3.out];rfl);go_wp2_with(refine wpList_loadWay (wanted_none rfl) _ rfl _ rfl y HW3.out hy ?_);refine Calls.mono HC.out ?_;rintro _ w4 ⟨rfl,hI4,hK4⟩;rw[Nat.zero_add]at hI4;have HB4:Hid (Below w.heap.size w w4):=⟨hK4.os.trans HB3.out.os,hK4.tape.trans HB3.out.tape,hK4.output.trans HB3.out.output,Nat.le_trans HB3.out.size hK4.size,fun k hk=>(hK4.low k (by have :=HXW.out;omega)).trans (HB3.out.block k hk)⟩;have HW4:Hid (WayAt w4 w.heap.size y):=(hK4.low _ HXW.out).trans HW3.out;(have n0:w4.cell? ⟨w2.heap.size,0,none⟩=some (.int .i64 cnt):=by rw[Lib.cell_of_heap hI4];rfl);clear l0 l1 l2 l3 hI4 hK4 HC HTB3 HB3 HW3 HB2 HW2 HTB2 HB02;generalize w2.heap.size=NX at *;by_cases hf:few<0∨(cnt:Int)<few
   ·(have HN:Hid (Ru.nextStep facts y ⟨kd,op,pd,ts⟩ k (best,few)=(k,(cnt:Int))):=by show _=_;unfold Ru.nextStep;rw[HRD.out,if_pos rfl,HON.out,if_pos hf]);by_cases hf0:few<0
    ·have g1:decide (few<0)=true:=decide_eq_true hf0;clear hf hf0;go_wp2_with fail;go_quiet(fail);go_wp2_with fail;go_roundw;(case rel=>exact⟨k+1,(k,(cnt:Int)),hlt,gN,rfl,rfl,by dsimp only;omega,by dsimp only;omega,by dsimp only;omega,by show _=_;rw[HR.out,HD.out,HN.out],HB4.out.trans ((blw_drewN _ _).mono HB4.out.size),WayAt.below HW4.out (blw_drewN _ _)⟩);case measure=>exact mI
    have g1:decide (few<0)=false:=decide_eq_false hf0;have g2:decide ((cnt:Int)<few)=true:=decide_eq_true oM;clear hf hf0;go_wp2_with fail;go_quiet(fail);go_wp2_with fail;go_roundw;(case rel=>exact⟨k+1,(k,(cnt:Int)),hlt,gN,rfl,rfl,by dsimp only;omega,by dsimp only;omega,by dsimp only;omega,by show _=_;rw[HR.out,HD.out,HN.out],HB4.out.trans ((blw_drewN _ _).mono HB4.out.size),WayAt.below HW4.out (blw_drewN _ _)⟩);case measure=>exact mI
   (have HN:Hid (Ru.nextStep facts y ⟨kd,op,pd,ts⟩ k (best,few)=(best,few)):=by show _=_;unfold Ru.nextStep;rw[HRD.out,if_pos rfl,HON.out,if_neg hf]);have g1:decide (few<0)=false:=decide_eq_false oM;have g2:decide ((cnt:Int)<few)=false:=decide_eq_false oM;clear hf;go_wp2_with fail;go_roundw;(case rel=>exact⟨k+1,(best,few),hlt,gN,rfl,rfl,ha1,ha2,ha3,by show _=_;rw[HR.out,HD.out,HN.out],HB4.out,HW4.out⟩);case measure=>exact mI
  have hdd:decide (k<q.length)=false:=decide_eq_false hlt;(have HE:Hid (Ru.next facts (q.map (·.1)) y=best):=by show _=_;rw[HR.out,List.drop_of_length_le (by rw[List.length_map];omega)];rfl);go_wp2_with fail;go_ret;exact⟨by rw[HE.out];rfl,HB.out⟩
namespace Ru
theorem lv_mem{σ:Type}{step:σ→Way→σ×Bool}{live:σ→Way→Prop}{P:Way→Prop}:∀(L:List Way)(s:σ),Lv step live s L→(∀x,x∈L→P x)→Lv step (fun s x=>live s x∧P x) s L
 |[],_,_,_=>trivial
 |x::L,_,h,hp=>⟨⟨h.1,hp x List.mem_cons_self⟩,fun hs=>lv_mem L _ (h.2 hs) (fun z hz=>hp z (List.mem_cons_of_mem _ hz))⟩
theorem run_one{σ:Type}(step:σ→Way→σ×Bool)(s:σ)(x:Way):run step s [x]=step s x:=by
 rw[run_cons];show(if(step s x).2=true then((step s x).1,true)else((step s x).1,false))=_
 cases h:step s x with
 |mk a b=>cases b<;>rfl
def LitNum(l:Sc.Lit):Prop:=∀t,t∈l.terms→t.var<0→Sc.isNum t.n=true
theorem known_num{m:Nat}{y:Way}{t:Sc.Term}(hg:Good m y)(hc:t.var<0→Sc.isNum t.n=true)(hk:Sc.known y.known t=true):Sc.isNum (num y.nums t)=true:=by
 unfold num;by_cases h:t.var<0
 ·rw[if_pos h];exact hc h
 rw[if_neg h];refine hg.nm _ ?_;unfold Sc.known at hk;rw[Bool.or_eq_true]at hk;rcases hk with hk|hk
 ·exact absurd (by simpa using hk) h
 exact hk
end Ru
theorem holdIn_of{facts:List Rl.Fc}{l:Sc.Lit}{y:Ru.Way}{m:Nat}(hg:Ru.Good m y)(hm:m≤8)(hl:Ru.LitIn m facts l)(ht:l.terms.length≤1000)(hc:Ru.LitNum l)(hr:Ru.ready y l=true):HoldIn facts l y:=by
 (have hk:l.kind=4→(Sc.known y.known (Sc.termD l.terms 0)&&Sc.known y.known (Sc.termD l.terms 1))=true:=fun h=>by unfold Ru.ready at hr;rw[if_neg oM,if_pos h]at hr;exact hr);refine⟨hl.mono hm,ht,fun h=>?_,fun h=>?_⟩
 ·have h3:=hl.k4 h;exact Ru.known_num hg (hc _ (Ru.termD_mem oM)) (by have :=hk h;rw[Bool.and_eq_true]at this;exact this.1)
 have h3:=hl.k4 h;exact Ru.known_num hg (hc _ (Ru.termD_mem oM)) (by have :=hk h;rw[Bool.and_eq_true]at this;exact this.2)
theorem QAt.block{w w':World}{b off:Nat}{q:List Lv}(h:QAt w ⟨b,off,none⟩ q)(hb:w'.heap[b]?=w.heap[b]?):QAt w' ⟨b,off,none⟩ q:=by intro j u hj;have h1:=h j u hj;rw[Addr.add_lit]at h1 ⊢;exact(World.cell?_of_block hb).trans h1
theorem QAt.take{w:World}{b off:Nat}{q:List Lv}(h:QAt w ⟨b,off,none⟩ q)(i:Nat):QAt w ⟨b,off,none⟩ (q.take i):=by intro j u hj;refine h j u ?_;(have e:lCells q=lCells (q.take i)++lCells (q.drop i):=by rw[←lCells_app,List.take_append_drop]);rw[e,List.getElem?_append_left (List.getElem?_eq_some_iff.mp hj).1];exact hj
theorem QAt.drop{w:World}{b off:Nat}{q:List Lv}(h:QAt w ⟨b,off,none⟩ q)(i:Nat)(hi:i≤q.length):QAt w ⟨b,off+i*4,none⟩ (q.drop i):=by intro j u hj;(have e:lCells q=lCells (q.take i)++lCells (q.drop i):=by rw[←lCells_app,List.take_append_drop]);(have hl:(lCells (q.take i)).length=i*4:=by rw[lCells_len,List.length_take,Nat.min_eq_left hi]);have h1:=h (i*4+j) u (by rw[e,List.getElem?_append_right oM,hl,Nat.add_sub_cancel_left];exact hj);rw[Addr.add_lit]at h1 ⊢;rw[Nat.add_assoc];exact h1
theorem BodyV.kp{w0:World}{NB:Nat}{w w':World}{v:Value}{q:List Lv}(h:BodyV w0 NB w v q)(hK:Kp w0.heap.size NB w w'):BodyV w0 NB w' v q:=by
 obtain⟨⟨a,cap,e,hc,hq⟩,ht⟩:=h;refine⟨⟨a,cap,e,hc,fun hne=>?_⟩,ht⟩;obtain⟨b,off,ea,hQ,hb⟩:=hq hne;rcases hb with hb|⟨hb,c,hcs⟩
 ·exact⟨b,off,ea,hQ.block (hK.low b hb), .inl hb⟩
 have hk:=hK.keep b c 49 hcs hb dE;exact⟨b,off,ea,hQ.block (hk.trans hcs.symm), .inr ⟨hb,c,hk⟩⟩
theorem bodyV_own{w0 w:World}{NB X co:Nat}{ao:Option Addr}{r:List Lv}(h:w.ownsRow X 49 4 (.slice ao r.length co) r.length (lCells r))(hNB:NB<X)(ht:∀p,p∈r→PTermsV w0 p.2 p.1.terms):BodyV w0 NB w (.slice ao r.length co) r:=by
 refine⟨⟨ao,co,rfl,?_,fun hne=>?_⟩,ht⟩
 ·rcases h.2 with⟨h1,h2⟩|⟨g,cap,cur,h1,h2,h3,h4,_⟩
  ·rw[h2];exact Nat.zero_le _
  injection h1 with e1 e2 e3;rw[e3];exact h4
 rcases id h.2 with⟨h1,h2⟩|⟨g,cap,cur,h1,h2,h3,h4,_⟩
 ·exact absurd (List.length_eq_zero_iff.mp h2) hne
 injection h1 with e1 e2 e3;subst e1;exact⟨g,0,rfl,h.cells rfl, .inr ⟨oM,cur,h3⟩⟩
structure EachI {σ:Type} (I:σ→World→Prop) (w0:World) (NB X OB:Nat) (vf vo:Value) (hh:Nat) (cb:Array Value) (r:List Lv) (s:σ) (w:World):Prop where
 i:I s w
 f:w.heap[X]?=some (.cells #[vf] 27)
 o:w.heap[OB]?=some (.cells #[vo] 38)
 t:w.heap[X+2]?=some (.cells #[.func (.func hh) #[] cb] 139)
 b:BodyV w0 NB w vo r
 l:Below w0.heap.size w0 w
theorem EachI.kp{σ:Type}{I:σ→World→Prop}{w0:World}{NB X OB:Nat}{vf vo:Value}{hh:Nat}{cb:Array Value}{r:List Lv}{s s':σ}{w w':World}(h:EachI I w0 NB X OB vf vo hh cb r s w)(hX:NB<X)(hO:NB<OB)(hi:I s' w')(hK:Kp w0.heap.size NB w w'):EachI I w0 NB X OB vf vo hh cb r s' w':=
 ⟨hi,hK.keep _ _ _ h.f oM dE,hK.keep _ _ _ h.o oM dE,hK.keep _ _ _ h.t oM dE,h.b.kp hK,hK.below h.l⟩
theorem each1_any{σ:Type}{step:σ→Ru.Way→σ×Bool}{live:σ→Ru.Way→Prop}{I:σ→World→Prop}{NB hh X OB:Nat}{cb:Array Value}{facts:List Rl.Fc}{ru:Sc.Rule}{r:List Lv}{n cf co:Nat}{af ao:Option Addr}{w0:World}
 (TL:Tell w0.heap.size NB hh cb step live I)
 (IH:∀(y:Ru.Way)(w:World)(s:σ),Below w0.heap.size w0 w→BodyV w0 NB w (.slice ao r.length co) r→Ru.Good ru.vars.toNat y→Ru.Left ru y.known (r.map (·.1))→I s w→Ru.Lv step live s (Ru.eachN facts n (r.map (·.1)) y)→Calls Tryz.prog 98 #[.slice af facts.length cf, .slice ao r.length co,wayVal y, .func (.func hh) #[] cb] w fun e w'=>e=.returned (.bool (Ru.run step s (Ru.eachN facts n (r.map (·.1)) y)).2)∧I (Ru.run step s (Ru.eachN facts n (r.map (·.1)) y)).1 w'∧Kp w0.heap.size NB w w')
 (hX:NB<X) (hO:NB<OB) (s:σ) (w:World) (x:Ru.Way) (hE:EachI I w0 NB X OB (.slice af facts.length cf) (.slice ao r.length co) hh cb r s w) (hlv:Ru.Lv step live s (Ru.eachN facts n (r.map (·.1)) x)) (hg:Ru.Good ru.vars.toNat x) (hl:Ru.Left ru x.known (r.map (·.1))):
 Calls Tryz.prog 146 (#[wayVal x]++#[.pointer (some ⟨X,0,none⟩), .pointer (some ⟨OB,0,none⟩), .pointer (some ⟨X+2,0,none⟩)]) w fun e w'=>e=.returned (.bool (Ru.run step s (Ru.eachN facts n (r.map (·.1)) x)).2)∧EachI I w0 NB X OB (.slice af facts.length cf) (.slice ao r.length co) hh cb r (Ru.run step s (Ru.eachN facts n (r.map (·.1)) x)).1 w'∧Kp w0.heap.size NB w w':=by
 show Calls Tryz.prog 146 #[wayVal x, .pointer (some ⟨X,0,none⟩), .pointer (some ⟨OB,0,none⟩), .pointer (some ⟨X+2,0,none⟩)] w _;have bT:=(Below.refl w.heap.size w).alloc (Nat.le_refl _) (.cells (wayArr x) 138);have HK:Hid (Kp w0.heap.size NB w (w.alloc (.cells (wayArr x) 138))):=Kp.of_below bT (TL.room _ _ hE.i).1;have HE:Hid (EachI I w0 NB X OB (.slice af facts.length cf) (.slice ao r.length co) hh cb r s (w.alloc (.cells (wayArr x) 138))):=EachI.kp hE hX hO (TL.grow _ _ _ hE.i bT) HK.out;have HW:Hid (WayAt (w.alloc (.cells (wayArr x) 138)) w.heap.size x):=heap_alloc_new w _;have HC:Hid _:=IH x _ s HE.out.l HE.out.b hg hl HE.out.i hlv;have hy:=hg.wf;(have c0:(w.alloc (.cells (wayArr x) 138)).cell? ⟨X,0,none⟩=some (.slice af facts.length cf):=by rw[Lib.cell_of_heap HE.out.f];rfl);(have c1:(w.alloc (.cells (wayArr x) 138)).cell? ⟨OB,0,none⟩=some (.slice ao r.length co):=by rw[Lib.cell_of_heap HE.out.o];rfl);(have c2:(w.alloc (.cells (wayArr x) 138)).cell? ⟨X+2,0,none⟩=some (.func (.func hh) #[] cb):=by rw[Lib.cell_of_heap HE.out.t];rfl);clear bT TL IH hE hlv hg hl;generalize Ru.run step s (Ru.eachN facts n (r.map (·.1)) x)=R at *
 go_enter Tryz.func146,Tryz.ntmps146
 go_upto_region 1 with fail;generalize w.alloc (.cells (wayArr x) 138)=w1 at *;go_wp2_with(refine wpList_loadWay (wanted_none rfl) _ rfl _ rfl x HW.out hy ?_);refine Calls.mono HC.out ?_;rintro e w4 ⟨he4,hI4,hK4⟩;subst he4;have HI4:Hid _:=hI4;clear hI4 c0 c1 c2 HC;go_wp2_with fail;go_ret;exact⟨rfl,EachI.kp HE.out hX hO HI4.out hK4,HK.out.trans hK4⟩
theorem eachTell{σ:Type}{step:σ→Ru.Way→σ×Bool}{live:σ→Ru.Way→Prop}{I:σ→World→Prop}{NB hh X OB:Nat}{cb:Array Value}{facts:List Rl.Fc}{ru:Sc.Rule}{r:List Lv}{n cf co:Nat}{af ao:Option Addr}{w0:World}
 (TL:Tell w0.heap.size NB hh cb step live I)
 (IH:∀(y:Ru.Way)(w:World)(s:σ),Below w0.heap.size w0 w→BodyV w0 NB w (.slice ao r.length co) r→Ru.Good ru.vars.toNat y→Ru.Left ru y.known (r.map (·.1))→I s w→Ru.Lv step live s (Ru.eachN facts n (r.map (·.1)) y)→Calls Tryz.prog 98 #[.slice af facts.length cf, .slice ao r.length co,wayVal y, .func (.func hh) #[] cb] w fun e w'=>e=.returned (.bool (Ru.run step s (Ru.eachN facts n (r.map (·.1)) y)).2)∧I (Ru.run step s (Ru.eachN facts n (r.map (·.1)) y)).1 w'∧Kp w0.heap.size NB w w')
 (hX:NB<X) (hO:NB<OB):Tell w0.heap.size NB 146 #[.pointer (some ⟨X,0,none⟩), .pointer (some ⟨OB,0,none⟩), .pointer (some ⟨X+2,0,none⟩)] (fun s x=>Ru.run step s (Ru.eachN facts n (r.map (·.1)) x)) (fun s x=>Ru.Lv step live s (Ru.eachN facts n (r.map (·.1)) x)∧Ru.Good ru.vars.toNat x∧Ru.Left ru x.known (r.map (·.1))) (EachI I w0 NB X OB (.slice af facts.length cf) (.slice ao r.length co) hh cb r):=
 ⟨fun s w x hE hl _=>each1_any TL IH hX hO s w x hE hl.1 hl.2.1 hl.2.2,fun _ _ _ hE hb=>EachI.kp hE hX hO (TL.grow _ _ _ hE.i hb) (Kp.of_below hb (TL.room _ _ hE.i).1),fun _ _ hE=>TL.room _ _ hE.i⟩
theorem QAt.below{w w':World}{a:Addr}{q:List Lv}(h:QAt w a q)(hb:Below w.heap.size w w'):QAt w' a q:=fun j u hj=>cell_below' hb (h j u hj)
theorem three_below(w:World)(a b c:Obj):Below w.heap.size w (((w.alloc a).alloc b).alloc c):=(((Below.refl _ _).alloc (Nat.le_refl _) _).alloc sI _).alloc sO _
theorem map_eraseIdx'{α β:Type}(f:α→β):∀(l:List α)(i:Nat),(l.eraseIdx i).map f=(l.map f).eraseIdx i
 |[],_=>by simp
 |_::_,0=>rfl
 |x::l,i+1=>by show f x::(l.eraseIdx i).map f=f x::(l.map f).eraseIdx i;rw[map_eraseIdx' f l i]
def dropOff(off cp i:Nat):Nat:=if cp=i+1 then off else off+(i+1)*4
def each4V(b off n cp i:Nat)(tQ:Nat)(vQ:Value):Prop:=
 match tQ with
 |21=>vQ=(.slice (some ⟨b,off,none⟩) n cp:Value)
 |22=>vQ=(.int .i64 i:Value)
 |23=>vQ=(.slice (some ⟨b,off,none⟩) i cp:Value)
 |24=>vQ=(.slice (some ⟨b,off,none⟩) n cp:Value)
 |25=>vQ=(.int .i64 i:Value)
 |26=>vQ=(.int .i64 ((i+1:Nat):Int):Value)
 |27=>vQ=(.slice (some ⟨b,dropOff off cp i,none⟩) (n-(i+1)) (cp-(i+1)):Value)
 |_=>True
def each4T(b off n cp i B:Nat)(r:List Lv)(tQ:Nat)(vQ:Value)(WQ:World):Prop:=
 if tQ=28 then∃b',vQ=.slice (some ⟨b',0,none⟩) 2 2∧WQ.heap[b']?=some (.cells #[.slice (some ⟨b,off,none⟩) i cp, .slice (some ⟨b,dropOff off cp i,none⟩) (n-(i+1)) (cp-(i+1))] 38)
 else if tQ=29 then WQ.ownsRow B 49 4 vQ r.length (lCells r)
 else if tQ=10 then∃b',vQ=.pointer (some ⟨b',0,none⟩)∧B≤b'∧WQ.heap[b']?=some (.cells #[.slice none 0 0] 38)else each4V b off n cp i tQ vQ
theorem each4T_mono(b off n cp i B:Nat)(r:List Lv)(tQ:Nat)(vQ:Value)(W W':World)(hb:Below W.heap.size W W')(h:each4T b off n cp i B r tQ vQ W):each4T b off n cp i B r tQ vQ W':=by
 unfold each4T at h ⊢;by_cases ht:tQ=28
 ·rw[if_pos ht]at h ⊢;obtain⟨b',h1,h2⟩:=h;exact⟨b',h1,(hb.block b' (Array.getElem?_eq_some_iff.mp h2).1).trans h2⟩
 rw[if_neg ht]at h ⊢;by_cases ht2:tQ=29
 ·rw[if_pos ht2]at h ⊢;exact ownsRow_below h hb
 rw[if_neg ht2]at h ⊢;by_cases ht3:tQ=10
 ·rw[if_pos ht3]at h ⊢;obtain⟨b',h1,h0,h2⟩:=h;exact⟨b',h1,h0,(hb.block b' (Array.getElem?_eq_some_iff.mp h2).1).trans h2⟩
 rw[if_neg ht3]at h ⊢;exact h
def each5Tv(vf:Value)(b off n cp i X OB:Nat)(x:Sc.Lit)(vt:Value)(y:Ru.Way):Nat→Value
 |30=>vf
 |31=>.slice (some ⟨b,off,none⟩) n cp
 |32=>.int .i64 i
 |33=>.pointer (some ⟨b,off+i*4,none⟩)
 |34=>.agg #[.int .i64 x.kind, .int .i64 x.op, .int .i64 x.pred,vt]
 |35=>wayVal y
 |36=>.func (.func 146) #[] #[.pointer (some ⟨X,0,none⟩), .pointer (some ⟨OB,0,none⟩), .pointer (some ⟨X+2,0,none⟩)]
 |_=>.bool false
theorem each0_any{σ:Type}{step:σ→Ru.Way→σ×Bool}{live:σ→Ru.Way→Prop}{I:σ→World→Prop}{NB hh:Nat}{cb:Array Value}{facts:List Rl.Fc}{w0:World}{af:Option Addr}{cf:Nat}(TL:Tell w0.heap.size NB hh cb step live I)(he:∀args w,(callFunc hh args).run Tryz.prog w=.ok (.enter hh args) w)(y:Ru.Way)(vb:Value)(w:World)(s:σ)(hQ:BodyV w0 NB w vb [])(hy:Ru.Wf 8 y)(hI:I s w)(hLv:live s y):
 Calls Tryz.prog 98 #[.slice af facts.length cf,vb,wayVal y, .func (.func hh) #[] cb] w fun e w'=>e=.returned (.bool (step s y).2)∧I (step s y).1 w'∧Kp w0.heap.size NB w w':=by
 obtain⟨⟨ab,cp,rfl,_,_⟩,_⟩:=hQ;obtain⟨h0,h1,h2⟩:=three_new w (.cells #[.slice af facts.length cf] 27) (.cells (wayArr y) 138) (.cells #[.func (.func hh) #[] cb] 139);have hb:=three_below w (.cells #[.slice af facts.length cf] 27) (.cells (wayArr y) 138) (.cells #[.func (.func hh) #[] cb] 139);have HW:Hid (WayAt (((w.alloc (.cells #[.slice af facts.length cf] 27)).alloc (.cells (wayArr y) 138)).alloc (.cells #[.func (.func hh) #[] cb] 139)) (w.heap.size+1) y):=h1;have HK:Hid (Kp w0.heap.size NB w (((w.alloc (.cells #[.slice af facts.length cf] 27)).alloc (.cells (wayArr y) 138)).alloc (.cells #[.func (.func hh) #[] cb] 139))):=Kp.of_below hb (TL.room _ _ hI).1;have HC:Hid _:=TL.call s _ y (TL.grow _ _ _ hI hb) hLv hy;(have c2:(((w.alloc (.cells #[.slice af facts.length cf] 27)).alloc (.cells (wayArr y) 138)).alloc (.cells #[.func (.func hh) #[] cb] 139)).cell? ⟨w.heap.size+2,0,none⟩=some (.func (.func hh) #[] cb):=by rw[Lib.cell_of_heap h2];rfl);clear h0 h1 h2 hb TL hI hLv
 go_enter Tryz.func98,Tryz.ntmps98
 go_upto_region 1 with fail;generalize (((w.alloc (.cells #[.slice af facts.length cf] 27)).alloc (.cells (wayArr y) 138)).alloc (.cells #[.func (.func hh) #[] cb] 139))=w1 at *;go_wp2_with(refine wpList_loadWay (wanted_none rfl) _ rfl _ rfl y HW.out hy ?_);refine Calls.mono HC.out ?_;rintro e w4 ⟨he4,hI4,hK4⟩;subst he4;have HI4:Hid _:=hI4;clear hI4 c2 HC;go_wp2_with fail;go_ret;exact⟨rfl,HI4.out,HK.out.trans hK4⟩
theorem eachS_any{σ:Type}{step:σ→Ru.Way→σ×Bool}{live:σ→Ru.Way→Prop}{I:σ→World→Prop}{NB hh:Nat}{cb:Array Value}{facts:List Rl.Fc}{ru:Sc.Rule}{w0:World}{af:Option Addr}{cf:Nat}(hF:FactsV w0 (.slice af facts.length cf) facts)(hFl:facts.length≤1000)(hFF:∀f,f∈facts→FFit f)(hR:Ru.RuleIn facts ru)(hN:∀f,f∈facts→∀n,n∈f.args→Sc.isNum n=true)(hTl:∀l,l∈ru.body→l.terms.length≤1000)(hC:∀l,l∈ru.body→Ru.LitNum l)(TL:Tell w0.heap.size NB hh cb step live I)(n:Nat)(IH:∀(q:List Lv)(y:Ru.Way)(vb:Value)(w:World)(s:σ),q.length=n→n≤1000→Below w0.heap.size w0 w→BodyV w0 NB w vb q→Ru.Good ru.vars.toNat y→Ru.Left ru y.known (q.map (·.1))→I s w→Ru.Lv step live s (Ru.eachN facts n (q.map (·.1)) y)→Calls Tryz.prog 98 #[.slice af facts.length cf,vb,wayVal y, .func (.func hh) #[] cb] w fun e w'=>e=.returned (.bool (Ru.run step s (Ru.eachN facts n (q.map (·.1)) y)).2)∧I (Ru.run step s (Ru.eachN facts n (q.map (·.1)) y)).1 w'∧Kp w0.heap.size NB w w'):
 ∀(q:List Lv)(y:Ru.Way)(vb:Value)(w:World)(s:σ),q.length=(n+1)→(n+1)≤1000→Below w0.heap.size w0 w→BodyV w0 NB w vb q→Ru.Good ru.vars.toNat y→Ru.Left ru y.known (q.map (·.1))→I s w→Ru.Lv step live s (Ru.eachN facts (n+1) (q.map (·.1)) y)→Calls Tryz.prog 98 #[.slice af facts.length cf,vb,wayVal y, .func (.func hh) #[] cb] w fun e w'=>e=.returned (.bool (Ru.run step s (Ru.eachN facts (n+1) (q.map (·.1)) y)).2)∧I (Ru.run step s (Ru.eachN facts (n+1) (q.map (·.1)) y)).1 w'∧Kp w0.heap.size NB w w':=by
 intro q y vb w s hlen hn1 hB0 hQ hy hL hI hLv;obtain⟨⟨ab,cp,rfl,hcp,hqa⟩,htm⟩:=hQ;obtain⟨b,off,rfl,hqat,hqb⟩:=hqa (fun e=>by rw[e]at hlen;cases hlen);(have hlm:(q.map (·.1)).length=n+1:=by rw[List.length_map];exact hlen);obtain⟨hi,hr,hLi⟩:=Ru.each_step hR hlm hy.wf hL;obtain⟨h0,h1,h2⟩:=three_new w (.cells #[.slice af facts.length cf] 27) (.cells (wayArr y) 138) (.cells #[.func (.func hh) #[] cb] 139);have hb3:=three_below w (.cells #[.slice af facts.length cf] 27) (.cells (wayArr y) 138) (.cells #[.func (.func hh) #[] cb] 139);have hroom:=TL.room _ _ hI;have hlit:∀p,p∈q→p.1∈ru.body:=fun p hp=>hL.sub _ (List.mem_map_of_mem hp);have HC:Hid _:=next_any facts q y (.slice af facts.length cf) (.slice (some ⟨b,off,none⟩) q.length cp) w0 (((w.alloc (.cells #[.slice af facts.length cf] 27)).alloc (.cells (wayArr y) 138)).alloc (.cells #[.func (.func hh) #[] cb] 139)) NB (hB0.trans (hb3.mono hB0.size)) hF hFl hFF (BodyV.kp ⟨⟨_,cp,rfl,hcp,fun _=>⟨b,off,rfl,hqat,hqb⟩⟩,htm⟩ (Kp.of_below hb3 hroom.1)) oM hy.wf (fun p hp=>⟨(hR.lit _ (hlit p hp)).mono hR.v8,hTl _ (hlit p hp)⟩) (fun p hp hrd=>holdIn_of hy hR.v8 (hR.lit _ (hlit p hp)) (hTl _ (hlit p hp)) (hC _ (hlit p hp)) hrd);have hRUN:Ru.run step s (Ru.eachN facts (n+1) (q.map (·.1)) y)=Ru.run (fun s z=>Ru.run step s (Ru.eachN facts n ((q.map (·.1)).eraseIdx (Ru.next facts (q.map (·.1)) y)) z)) s (Ru.on facts (Sc.litD (q.map (·.1)) (Ru.next facts (q.map (·.1)) y)) y):=Ru.run_flat step _ _ s;have hLv2:Ru.Lv step live s ((Ru.on facts (Sc.litD (q.map (fun p:Lv=>p.1)) (Ru.next facts (q.map (fun p:Lv=>p.1)) y)) y).flatMap (Ru.eachN facts n ((q.map (fun p:Lv=>p.1)).eraseIdx (Ru.next facts (q.map (fun p:Lv=>p.1)) y)))):=hLv;have hLV':=Ru.lv_mem (P:=fun z=>Ru.Good ru.vars.toNat z∧Ru.Left ru z.known ((q.map (·.1)).eraseIdx (Ru.next facts (q.map (·.1)) y))) _ s (Ru.lv_flat step live _ _ s hLv2) (fun z hz=>⟨Ru.on_good hR.v8 hy hLi hN hz,Ru.left_next hL hi hr hz hLi⟩);have hmem:=Ru.litD_mem' hi;generalize Ru.run step s (Ru.eachN facts (n+1) (q.map (·.1)) y)=RS at *;generalize Ru.next facts (q.map (·.1)) y=i at *;(have hi2:i<q.length:=by rw[List.length_map]at hi;exact hi);have HHI:Hid (HoldIn facts (Sc.litD (q.map (·.1)) i) y):=holdIn_of hy hR.v8 hLi (hTl _ (hL.sub _ hmem)) (hC _ (hL.sub _ hmem)) hr;rw[←map_eraseIdx']at hRUN hLV';rw[litD_map hi2]at hRUN hLV' HHI;obtain⟨pp0,pp1,pp2,pp3⟩:=QAt.lit hqat hi2;have htx:=htm _ (List.getElem_mem hi2);generalize q[i]=p at *;obtain⟨x,vx⟩:=p;dsimp only at *;obtain⟨at_,ct,rfl,_⟩:=id htx;have HP:Hid _:=And.intro pp0 (And.intro pp1 (And.intro pp2 pp3));have HTX:Hid (PTermsV w0 (.slice at_ x.terms.length ct) x.terms):=htx;have HRUN:Hid _:=hRUN;have HLV':Hid _:=hLV';have HTMR:Hid (∀p,p∈q.eraseIdx i→PTermsV w0 p.2 p.1.terms):=fun p hp=>htm p (List.mem_of_mem_eraseIdx hp);(have hlr:(q.eraseIdx i).length=n:=by rw[List.length_eraseIdx,if_pos hi2];omega);have HIH:Hid (∀(z:Ru.Way)(vo:Value)(w':World)(s':σ),Below w0.heap.size w0 w'→BodyV w0 NB w' vo (q.eraseIdx i)→Ru.Good ru.vars.toNat z→Ru.Left ru z.known ((q.eraseIdx i).map (·.1))→I s' w'→Ru.Lv step live s' (Ru.eachN facts n ((q.eraseIdx i).map (·.1)) z)→Calls Tryz.prog 98 #[.slice af facts.length cf,vo,wayVal z, .func (.func hh) #[] cb] w' fun e w2=>e=.returned (.bool (Ru.run step s' (Ru.eachN facts n ((q.eraseIdx i).map (·.1)) z)).2)∧I (Ru.run step s' (Ru.eachN facts n ((q.eraseIdx i).map (·.1)) z)).1 w2∧Kp w0.heap.size NB w' w2):=fun z vo w' s'=>IH (q.eraseIdx i) z vo w' s' hlr oM;have HQAT:Hid (QAt w ⟨b,off,none⟩ q):=hqat;have HSL:Hid ((∀p,p∈q.take i→∃ao n c,p.2=.slice ao n c)∧(∀p,p∈q.drop (i+1)→∃ao n c,p.2=.slice ao n c)):=⟨fun p hp=>by obtain⟨a1,c1,e1,_⟩:=htm p (List.mem_of_mem_take hp);exact⟨_,_,_,e1⟩,fun p hp=>by obtain⟨a1,c1,e1,_⟩:=htm p (List.mem_of_mem_drop hp);exact⟨_,_,_,e1⟩⟩;have HLEN:Hid ((q.take i).length=i∧(q.drop (i+1)).length=q.length-(i+1)):=⟨by rw[List.length_take];omega,List.length_drop⟩;have HER:Hid (q.take i++q.drop (i+1)=q.eraseIdx i∧(q.eraseIdx i).length=(q.take i).length+(q.drop (i+1)).length):=⟨(List.eraseIdx_eq_take_drop_succ ..).symm,by rw[List.eraseIdx_eq_take_drop_succ,List.length_append]⟩;have HW3:Hid (WayAt (((w.alloc (.cells #[.slice af facts.length cf] 27)).alloc (.cells (wayArr y) 138)).alloc (.cells #[.func (.func hh) #[] cb] 139)) (w.heap.size+1) y):=h1;have HF3:Hid _:=h0;have HT3:Hid _:=h2;have HB3:Hid _:=hb3;have HTL:Hid _:=TL;have HB0:Hid _:=hB0;have HFV:Hid _:=hF;have HFF:Hid _:=hFF;have HIW:Hid _:=hI;have HYG:Hid _:=hy;have hyw:=hy.wf;have hNBX:=hroom.2;have hR0:=hroom.1;have hql:q.length≤1000:=oM;(have c0:(((w.alloc (.cells #[.slice af facts.length cf] 27)).alloc (.cells (wayArr y) 138)).alloc (.cells #[.func (.func hh) #[] cb] 139)).cell? ⟨w.heap.size,0,none⟩=some (.slice af facts.length cf):=by rw[Lib.cell_of_heap h0];rfl);have gl:decide (q.length=0)=false:=decide_eq_false oM;have gl2:((q.length:Int)==0)=false:=beq_eq_false_iff_ne.mpr oM;clear hF hFF hR hN hTl hC TL IH hqa hqat hqb htm hlm hi hr hLi h0 h1 h2 hb3 hroom hlit hRUN hLV' hmem pp0 pp1 pp2 pp3 htx hlr hI hLv hLv2 hB0 hL hy hlen hn1
 go_enter Tryz.func98,Tryz.ntmps98
 go_upto_region 1 with fail;generalize (((w.alloc (.cells #[.slice af facts.length cf] 27)).alloc (.cells (wayArr y) 138)).alloc (.cells #[.func (.func hh) #[] cb] 139))=w1 at *;go_wp2_with(refine wpList_loadWay (wanted_none rfl) _ rfl _ rfl y HW3.out hyw ?_);refine Calls.mono HC.out ?_;rintro _ w2 ⟨rfl,hb2⟩;have HB2:Hid (Below w.heap.size w w2):=HB3.out.trans (hb2.mono HB3.out.size);have HSZ:Hid (w.heap.size≤w2.heap.size):=HB2.out.size;have HFB:Hid (w2.heap[w.heap.size]?=some (.cells #[.slice af facts.length cf] 27)):=(hb2.block _ (heap_lt HF3.out)).trans HF3.out;have HWB:Hid (WayAt w2 (w.heap.size+1) y):=WayAt.below HW3.out hb2;have HTB:Hid (w2.heap[w.heap.size+2]?=some (.cells #[.func (.func hh) #[] cb] 139)):=(hb2.block _ (heap_lt HT3.out)).trans HT3.out;have HQ1:Hid (∀y_,Below w2.heap.size w2 y_→QAt y_ ⟨b,off,none⟩ (q.take i)):=fun y_ hb=>((QAt.take HQAT.out i).below HB2.out).below hb;have HQ2:Hid (∀y_,Below w2.heap.size w2 y_→QAt y_ ⟨b,dropOff off cp i,none⟩ (q.drop (i+1))):=fun y_ hb=>by
  unfold dropOff;by_cases hcc:cp=i+1
  ·rw[List.drop_of_length_le oM];intro j u hj;simp[lCells]at hj
  rw[if_neg hcc];exact((QAt.drop HQAT.out (i+1) hi2).below HB2.out).below hb
 clear hb2 c0 HC HW3 HF3 HT3 HB3;go_upto_region 4 with fail;refine wp_region_tail (each4T b off q.length cp i w.heap.size (q.eraseIdx i)) 10 dE kR kR kR (each4T_mono b off q.length cp i w.heap.size (q.eraseIdx i)) ?hopA ?htailA
 case hopA=>
  refine oC (fun a y_ h=>by have e1:a.eval (.tmp 1)=(.slice (some ⟨b,off,none⟩) q.length cp:Value):=h.old 1;exact opX (.slice (some ⟨b,off,none⟩) q.length cp)) ?_;refine oC (fun a y_ h=>by have e9:a.eval (.tmp 9)=(.int .i64 i:Value):=h.old 9;exact opX (.int .i64 i)) ?_;refine oC (fun a y_ h=>by have e21:a.eval (.tmp 21)=(.slice (some ⟨b,off,none⟩) q.length cp:Value):=h.of 21;have e22:a.eval (.tmp 22)=(.int .i64 i:Value):=h.of 22;refine opV (v:=.slice (some ⟨b,off,none⟩) i cp) ?_;have ec:=evc a;generalize a.eval=ev at *;clear h;go_simp;exact fun hx=>absurd hx oM) ?_;refine oC (fun a y_ h=>by have e1:a.eval (.tmp 1)=(.slice (some ⟨b,off,none⟩) q.length cp:Value):=h.old 1;exact opX (.slice (some ⟨b,off,none⟩) q.length cp)) ?_;refine oC (fun a y_ h=>by have e9:a.eval (.tmp 9)=(.int .i64 i:Value):=h.old 9;exact opX (.int .i64 i)) ?_;refine oC (fun a y_ h=>by have e25:a.eval (.tmp 25)=(.int .i64 i:Value):=h.of 25;refine opV (v:=.int .i64 ((i+1:Nat):Int)) ?_;have ec:=evc a;generalize a.eval=ev at *;clear h;go_simp;simp[IntKind.wrap,IntKind.bits,IntKind.signed];omega) ?_;refine oC (fun a y_ h=>?_) ?_
  ·have e24:a.eval (.tmp 24)=(.slice (some ⟨b,off,none⟩) q.length cp:Value):=h.of 24;have e26:a.eval (.tmp 26)=(.int .i64 ((i+1:Nat):Int):Value):=h.of 26;refine opV (v:=.slice (some ⟨b,dropOff off cp i,none⟩) (q.length-(i+1)) (cp-(i+1))) ?_;have ec:=evc a;generalize a.eval=ev at *;clear h;go_simp;rw[if_pos ⟨oM,oM⟩];unfold dropOff;by_cases hcc:cp=i+1
   ·rw[if_pos hcc,if_pos hcc]
   rw[if_neg hcc,if_neg hcc]
  refine oC (fun a y_ h=>by have e23:a.eval (.tmp 23)=(.slice (some ⟨b,off,none⟩) i cp:Value):=h.of 23;have e27:a.eval (.tmp 27)=(.slice (some ⟨b,dropOff off cp i,none⟩) (q.length-(i+1)) (cp-(i+1)):Value):=h.of 27;refine opOk_val (v:=.slice (some ⟨y_.heap.size,0,none⟩) 2 2) (w':=y_.alloc (.cells #[.slice (some ⟨b,off,none⟩) i cp, .slice (some ⟨b,dropOff off cp i,none⟩) (q.length-(i+1)) (cp-(i+1))] 38)) (wanted_none rfl) ?_ (fun t ht=>by cases ht;exact⟨_,rfl,heap_alloc_new y_ _⟩) ((Below.refl _ _).alloc (Nat.le_refl _) _);have ec:=evc a;generalize a.eval=ev at *;clear h;go_simp) ?_;refine oC (fun a y_ h=>?_) ?_
  ·obtain⟨b',e28,hb'⟩:∃b',a.eval (.tmp 28)=.slice (some ⟨b',0,none⟩) 2 2∧y_.heap[b']?=some (.cells #[.slice (some ⟨b,off,none⟩) i cp, .slice (some ⟨b,dropOff off cp i,none⟩) (q.length-(i+1)) (cp-(i+1))] 38):=h.of 28;refine opOk_call (f:=144) (args:=#[(.slice (some ⟨b',0,none⟩) 2 2)]) (wanted_none rfl) ?_ ?_
   ·have ec:=evc a;have ef:=evf a;generalize a.eval=ev at *;clear h;go_simp
   refine Calls.mono (concatL_any (q.take i) (q.drop (i+1)) b' ⟨b,off,none⟩ ⟨b,dropOff off cp i,none⟩ cp (cp-(i+1)) y_ (HQ1.out y_ h.below) (HQ2.out y_ h.below) HSL.out.1 HSL.out.2 (by rw[HLEN.out.1,Lib.cell_of_heap hb'];rfl) (by rw[HLEN.out.2,Lib.cell_of_heap hb'];rfl) (by rw[HLEN.out.1];omega) (by rw[HLEN.out.2];omega)) ?_;rintro _ y2 ⟨v',rfl,hown,hb2⟩;refine⟨_,rfl,fun t ht=>?_,hb2⟩;cases ht;show y2.ownsRow _ _ _ _ (q.eraseIdx i).length (lCells (q.eraseIdx i));rw[HER.out.2,←HER.out.1];exact rl_own_le hown (Nat.le_trans HSZ.out h.below.size)
  refine oC (fun a y_ h=>by refine opOk_val (v:=.pointer (some ⟨y_.heap.size,0,none⟩)) (w':=y_.alloc (.cells #[.slice none 0 0] 38)) (wanted_none rfl) ?_ (fun t ht=>by cases ht;exact⟨_,rfl,Nat.le_trans HSZ.out h.below.size,heap_alloc_new y_ _⟩) ((Below.refl _ _).alloc (Nat.le_refl _) _);have ec:=evc a;generalize a.eval=ev at *;clear h;go_simp) ?_;exact AllOps.nil
 case htailA=>
  rintro⟨tm0,df⟩ y_ hI;obtain⟨OB,e10,hOB,hbox⟩:∃b',Act.eval ⟨tm0,df⟩ (.tmp 10)=.pointer (some ⟨b',0,none⟩)∧w.heap.size≤b'∧y_.heap[b']?=some (.cells #[.slice none 0 0] 38):=hI.all 9 _ 10 dE rfl rfl;have hown:y_.ownsRow w.heap.size 49 4 (Act.eval ⟨tm0,df⟩ (.tmp 29)) (q.eraseIdx i).length (lCells (q.eraseIdx i)):=hI.all 8 _ 29 dE rfl rfl;obtain⟨ao,co,eo⟩:=own_slice hown;have e29:Act.eval ⟨tm0,df⟩ (.tmp 29)=.slice ao (q.eraseIdx i).length co:=eo;rw[e29]at hown;(have c0:y_.cell? ⟨OB,0,none⟩=some (.slice none 0 0):=by rw[Lib.cell_of_heap hbox];rfl);have f0:=Lib.frozen_of_heap hbox 0;show wpOps Tryz.prog _ _ [10] _ _;rw[wpOps_cons];refine wpOp_void rfl (wanted_none rfl) rfl (w':=y_.setCell ⟨OB,0,none⟩ (.slice ao (q.eraseIdx i).length co)) ?_ ?_
  ·show Sem.run Tryz.prog (execOp (Act.eval ⟨tm0,df⟩) _) y_=_;generalize Act.eval ⟨tm0,df⟩=ev at *;clear hI;go_simp
  have hbE:Below w2.heap.size w2 y_:=hI.below;have hO2:w2.heap.size≤OB∨OB<w2.heap.size:=oM;(have HBX:Hid ((y_.setCell ⟨OB,0,none⟩ (.slice ao (q.eraseIdx i).length co)).heap[OB]?=some (.cells #[.slice ao (q.eraseIdx i).length co] 38)):=by show _=_;rw[Lib.heap_setCell_same hbox];rfl);have HOT:Hid (∀(k:Nat)(c:Array Value)(t:TypeId),y_.heap[k]?=some (.cells c t)→t≠38→(y_.setCell ⟨OB,0,none⟩ (.slice ao (q.eraseIdx i).length co)).heap[k]?=some (.cells c t)):=fun k c t hk ht=>by
   rw[heap_set_other (fun e=>?_)]
   ·exact hk
   subst e;rw[hbox]at hk;injection hk with hk;injection hk with _ hk;exact ht hk.symm
  have HRW:Hid ((y_.setCell ⟨OB,0,none⟩ (.slice ao (q.eraseIdx i).length co)).ownsRow w.heap.size 49 4 (.slice ao (q.eraseIdx i).length co) (q.eraseIdx i).length (lCells (q.eraseIdx i))):=own_type hown (fun k a ha=>HOT.out k a 49 ha dE);have HBE:Hid (Below w.heap.size w (y_.setCell ⟨OB,0,none⟩ (.slice ao (q.eraseIdx i).length co))):=(HB2.out.trans (hbE.mono HSZ.out)).setCell (p:=⟨OB,0,none⟩) hOB _;have hst:=hI.still;have hsN:tm0.size=38:=hI.size;obtain rfl:df=[]:=hI.defers;have h10:tm0.getD 10 undef=.pointer (some ⟨OB,0,none⟩):=e10;have HF4:Hid (y_.heap[w.heap.size]?=some (.cells #[(.slice af facts.length cf)] 27)):=(hbE.block _ (heap_lt HFB.out)).trans HFB.out;have HW4:Hid (WayAt y_ (w.heap.size+1) y):=WayAt.below HWB.out hbE;have HT4:Hid (y_.heap[w.heap.size+2]?=some (.cells #[.func (.func hh) #[] cb] 139)):=(hbE.block _ (heap_lt HTB.out)).trans HTB.out;have HF5:Hid _:=HOT.out _ _ _ HF4.out dE;have HW5:Hid (WayAt _ (w.heap.size+1) y):=HOT.out _ (wayArr y) 138 HW4.out dE;have HT5:Hid _:=HOT.out _ _ _ HT4.out dE;have HI5:Hid (I s (y_.setCell ⟨OB,0,none⟩ (.slice ao (q.eraseIdx i).length co))):=HTL.out.grow _ _ _ HIW.out HBE.out;clear hI hown eo e29 c0 f0 e10 hbE hO2 HF4 HW4 HT4 HFB HWB HTB hbox;generalize y_.setCell ⟨OB,0,none⟩ (.slice ao (q.eraseIdx i).length co)=w5 at *;show Exit.then _ _ Exit.normal ⟨tm0,[]⟩ w5;obtain⟨fQ,hQ,hF8⟩:=tmps_F [21,22,23,24,25,26,27,28,29,10] tm0 _ (hsN.trans rF) hst;clear hst hsN;simp only[List.foldl_cons,List.foldl_nil,(hQ 10).trans h10]at hF8;clear h10 hQ;simp only[List.setIfInBounds_toArray,List.set_cons_zero,List.set_cons_succ]at hF8;subst hF8;have HB05:Hid (Below w0.heap.size w0 w5):=HB0.out.trans (HBE.out.mono HB0.out.size);have HTL':Hid _:=eachTell (ru:=ru) (r:=q.eraseIdx i) (n:=n) (facts:=facts) (af:=af) (cf:=cf) (ao:=ao) (co:=co) (X:=w.heap.size) (OB:=OB) HTL.out (fun z w' s'=>HIH.out z _ w' s') hNBX (Nat.lt_of_lt_of_le hNBX hOB);have HE5:Hid (EachI I w0 NB w.heap.size OB (.slice af facts.length cf) (.slice ao (q.eraseIdx i).length co) hh cb (q.eraseIdx i) s w5):=⟨HI5.out,HF5.out,HBX.out,HT5.out,bodyV_own HRW.out hNBX HTMR.out,HB05.out⟩;(have HHOLD:Hid (∀y_,Below w5.heap.size w5 y_→Calls Tryz.prog 145 #[.slice af facts.length cf, .agg #[.int .i64 x.kind, .int .i64 x.op, .int .i64 x.pred, .slice at_ x.terms.length ct],wayVal y, .func (.func 146) #[] #[.pointer (some ⟨w.heap.size,0,none⟩), .pointer (some ⟨OB,0,none⟩), .pointer (some ⟨w.heap.size+2,0,none⟩)]] y_ fun e w6=>e=.returned (.bool RS.2)∧I RS.1 w6∧Kp w0.heap.size NB w w6):=fun y_ hb=>by refine Calls.mono (hold_any (NB:=NB) (hh:=146) (cb:=#[.pointer (some ⟨w.heap.size,0,none⟩), .pointer (some ⟨OB,0,none⟩), .pointer (some ⟨w.heap.size+2,0,none⟩)]) facts x y (.slice af facts.length cf) (.slice at_ x.terms.length ct) w0 y_ s (HB05.out.trans (hb.mono HB05.out.size)) HFV.out oM HFF.out HTX.out HHI.out hyw HTL'.out (enters_of Tryz.func146 kR rfl) (HTL'.out.grow _ _ _ HE5.out hb) HLV'.out) ?_;rintro e w6 ⟨h1,h2,h3⟩;rw[←HRUN.out]at h1 h2;exact⟨h1,h2.i,((Kp.of_below HBE.out hR0).trans (Kp.of_below hb HB05.out.size)).trans h3⟩);(have fb0:w5.cell? ⟨w.heap.size,0,none⟩=some (.slice af facts.length cf):=by rw[Lib.cell_of_heap HF5.out];rfl);have p0:=cell_below HBE.out HP.out.1;have p1:=cell_below HBE.out HP.out.2.1;have p2:=cell_below HBE.out HP.out.2.2.1;have p3:=cell_below HBE.out HP.out.2.2.2;clear HB05 HTL' HE5 HIH HRUN HLV' HTX HHI HP HTMR HRW HBX HF5 HT5 HI5 HTL HB0 HFV HFF HIW HYG;go_upto_region 5 with fail;refine wp_region_tail (fun tQ vQ _=>vQ=each5Tv (.slice af facts.length cf) b off q.length cp i w.heap.size OB x (.slice at_ x.terms.length ct) y tQ) 7 dE kR kR kR (fun _ _ _ _ _ h=>h) ?hopB ?htailB;case hopB=>refine oC (fun a y_ h=>by have e4:a.eval (.tmp 4)=(.pointer (some ⟨w.heap.size,0,none⟩):Value):=h.old 4;have c0:=cell_below h.below fb0;exact opX (.slice af facts.length cf)) ?_;refine oC (fun a y_ h=>by have e1:a.eval (.tmp 1)=(.slice (some ⟨b,off,none⟩) q.length cp:Value):=h.old 1;exact opX (.slice (some ⟨b,off,none⟩) q.length cp)) ?_;refine oC (fun a y_ h=>by have e9:a.eval (.tmp 9)=(.int .i64 i:Value):=h.old 9;exact opX (.int .i64 i)) ?_;refine oC (fun a y_ h=>by have e31:a.eval (.tmp 31)=(.slice (some ⟨b,off,none⟩) q.length cp:Value):=h.of 31;have e32:a.eval (.tmp 32)=(.int .i64 i:Value):=h.of 32;exact opX (.pointer (some ⟨b,off+i*4,none⟩))) ?_;refine oC (fun a y_ h=>by have e33:a.eval (.tmp 33)=(.pointer (some ⟨b,off+i*4,none⟩):Value):=h.of 33;have c0:=cell_below h.below p0;have c1:=cell_below h.below p1;have c2:=cell_below h.below p2;have c3:=cell_below h.below p3;exact opX (.agg #[.int .i64 x.kind, .int .i64 x.op, .int .i64 x.pred, .slice at_ x.terms.length ct])) ?_;refine oC (fun a y_ h=>by have e6:a.eval (.tmp 6)=(.pointer (some ⟨w.heap.size+1,0,none⟩):Value):=h.old 6;refine opV (v:=wayVal y) ?_;exact load_way rfl e6 (WayAt.below HW5.out h.below) hyw) ?_;refine oC (fun a y_ h=>by have e4:a.eval (.tmp 4)=(.pointer (some ⟨w.heap.size,0,none⟩):Value):=h.old 4;have e10:a.eval (.tmp 10)=(.pointer (some ⟨OB,0,none⟩):Value):=h.old 10;have e7:a.eval (.tmp 7)=(.pointer (some ⟨w.heap.size+2,0,none⟩):Value):=h.old 7;exact opX (.func (.func 146) #[] #[.pointer (some ⟨w.heap.size,0,none⟩), .pointer (some ⟨OB,0,none⟩), .pointer (some ⟨w.heap.size+2,0,none⟩)])) ?_;exact AllOps.nil
  case htailB=>
   rintro⟨tm0,df⟩ y_ hI;have e30:Act.eval ⟨tm0,df⟩ (.tmp 30)=(.slice af facts.length cf):=hI.all 0 _ 30 dE rfl rfl;have e34:Act.eval ⟨tm0,df⟩ (.tmp 34)=(.agg #[.int .i64 x.kind, .int .i64 x.op, .int .i64 x.pred, .slice at_ x.terms.length ct]:Value):=hI.all 4 _ 34 dE rfl rfl;have e35:Act.eval ⟨tm0,df⟩ (.tmp 35)=wayVal y:=hI.all 5 _ 35 dE rfl rfl;have e36:Act.eval ⟨tm0,df⟩ (.tmp 36)=.func (.func 146) #[] #[.pointer (some ⟨w.heap.size,0,none⟩), .pointer (some ⟨OB,0,none⟩), .pointer (some ⟨w.heap.size+2,0,none⟩)]:=hI.all 6 _ 36 dE rfl rfl;have ef:=evf ⟨tm0,df⟩;have hsN:tm0.size=38:=hI.size;show wpOps Tryz.prog _ _ [7,8] _ _;rw[wpOps_cons];refine wpOp_call (f:=145) (args:=#[(.slice af facts.length cf), .agg #[.int .i64 x.kind, .int .i64 x.op, .int .i64 x.pred, .slice at_ x.terms.length ct],wayVal y, .func (.func 146) #[] #[.pointer (some ⟨w.heap.size,0,none⟩), .pointer (some ⟨OB,0,none⟩), .pointer (some ⟨w.heap.size+2,0,none⟩)]]) rfl (wanted_none rfl) ?_ ?_
   ·show Sem.run Tryz.prog (execOp (Act.eval ⟨tm0,df⟩) _) y_=_;generalize Act.eval ⟨tm0,df⟩=ev at *;clear hI;go_simp
   refine Calls.mono (HHOLD.out y_ hI.below) ?_;rintro eR w6 ⟨he6,hI6,hK6⟩;refine⟨_,he6,?_⟩;rw[wpOps_cons];refine wpOp_val (v:=.bool RS.2) (w':=w6) rfl (wanted_none rfl) ?_ ?_
   ·have q2:Act.eval (Act.put ⟨tm0,df⟩ (some 37) (.bool RS.2)) (.tmp 37)=.bool RS.2:=put_get_self (by show 37<tm0.size;omega);show Sem.run Tryz.prog (execOp (Act.eval (Act.put ⟨tm0,df⟩ (some 37) (.bool RS.2))) _) w6=_;generalize Act.eval (Act.put ⟨tm0,df⟩ (some 37) (.bool RS.2))=ev at *;clear hI;go_simp
   (have hst:∀t,t∉[30,31,32,33,34,35,36,37,8]→((tm0.setIfInBounds 37 (.bool RS.2)).setIfInBounds 8 (.bool RS.2)).getD t undef=_:=fun t ht=>by have hA:t≠37:=fun e=>ht (by rw[e];decide);have hB:t≠8:=fun e=>ht (by rw[e];decide);exact((put_get_ne (a:=Act.put ⟨tm0,df⟩ (some 37) (.bool RS.2)) hB).trans (put_get_ne (a:=⟨tm0,df⟩) hA)).trans (hI.still t ht));have h8:((tm0.setIfInBounds 37 (.bool RS.2)).setIfInBounds 8 (.bool RS.2)).getD 8 undef=.bool RS.2:=put_get_self (a:=Act.put ⟨tm0,df⟩ (some 37) (.bool RS.2)) (by rw[put_size];show 8<tm0.size;omega);obtain rfl:df=[]:=hI.defers;(have hs2:((tm0.setIfInBounds 37 (.bool RS.2)).setIfInBounds 8 (.bool RS.2)).size=38:=by simp[hsN]);clear hI e30 e34 e35 e36 ef hsN he6;show Exit.then _ _ Exit.normal ⟨(tm0.setIfInBounds 37 (.bool RS.2)).setIfInBounds 8 (.bool RS.2),[]⟩ w6;generalize (tm0.setIfInBounds 37 (.bool RS.2)).setIfInBounds 8 (.bool RS.2)=tm at *;have hF8:=tmps_fold [30,31,32,33,34,35,36,37,8] tm _ (hs2.trans rF) hst;clear hs2 hst;simp only[List.foldl_cons,List.foldl_nil,h8]at hF8;clear h8;generalize tm.getD 30 undef=z30 at hF8;generalize tm.getD 31 undef=z31 at hF8;generalize tm.getD 32 undef=z32 at hF8;generalize tm.getD 33 undef=z33 at hF8;generalize tm.getD 34 undef=z34 at hF8;generalize tm.getD 35 undef=z35 at hF8;generalize tm.getD 36 undef=z36 at hF8;generalize tm.getD 37 undef=z37 at hF8;simp only[List.setIfInBounds_toArray,List.set_cons_zero,List.set_cons_succ]at hF8;subst hF8;go_wp2_with fail;go_ret;exact⟨rfl,hI6,hK6⟩
theorem each_any{σ:Type}{step:σ→Ru.Way→σ×Bool}{live:σ→Ru.Way→Prop}{I:σ→World→Prop}{NB hh:Nat}{cb:Array Value}{facts:List Rl.Fc}{ru:Sc.Rule}{w0:World}(vf:Value)(hF:FactsV w0 vf facts)(hFl:facts.length≤1000)(hFF:∀f,f∈facts→FFit f)(hR:Ru.RuleIn facts ru)(hN:∀f,f∈facts→∀n,n∈f.args→Sc.isNum n=true)(hTl:∀l,l∈ru.body→l.terms.length≤1000)(hC:∀l,l∈ru.body→Ru.LitNum l)(TL:Tell w0.heap.size NB hh cb step live I)(he:∀args w,(callFunc hh args).run Tryz.prog w=.ok (.enter hh args) w):∀n,∀(q:List Lv)(y:Ru.Way)(vb:Value)(w:World)(s:σ),q.length=n→n≤1000→Below w0.heap.size w0 w→BodyV w0 NB w vb q→Ru.Good ru.vars.toNat y→Ru.Left ru y.known (q.map (·.1))→I s w→Ru.Lv step live s (Ru.eachN facts n (q.map (·.1)) y)→Calls Tryz.prog 98 #[vf,vb,wayVal y, .func (.func hh) #[] cb] w fun e w'=>e=.returned (.bool (Ru.run step s (Ru.eachN facts n (q.map (·.1)) y)).2)∧I (Ru.run step s (Ru.eachN facts n (q.map (·.1)) y)).1 w'∧Kp w0.heap.size NB w w':=by
 obtain⟨af,cf,rfl,hf2⟩:=id hF;intro n
 induction n with
 |zero=>
  intro q y vb w s hlen _ _ hQ hy _ hI hLv;have :q=[]:=List.length_eq_zero_iff.mp hlen;subst this;refine Calls.mono (each0_any TL he y vb w s hQ hy.wf hI hLv.1) ?_;rintro e w' ⟨h1,h2,h3⟩;have hr:=Ru.run_one step s y;exact⟨h1.trans (by show _=Ending.returned (.bool (Ru.run step s [y]).2);rw[hr]),by show I (Ru.run step s [y]).1 w';rw[hr];exact h2,h3⟩
 |succ n ih=>exact eachS_any hF hFl hFF hR hN hTl hC TL n ih
theorem ru_info22:(Tryz.prog.info? 22).map (fun i=>(i.zero,i.size,i.bytes))=some (some (.slice none 0 0),1,24):=kR
namespace Ru
def stepF(m:Nat)(s:List (List Int))(x:Way):List (List Int)×Bool:=(s++[x.nums.take m],decide (s.length+1≤2000))
def liveF(s:List (List Int))(_:Way):Prop:=s.length≤2000
theorem lv_found(m:Nat):∀(L:List Way)(s:List (List Int)),s.length≤2000→Lv (stepF m) liveF s L
 |[],_,_=>trivial
 |_::L,s,h=>⟨h,fun hs=>lv_found m L _ (by have h9:decide (s.length+1≤2000)=true:=hs;have :=of_decide_eq_true h9;show(s++[_]).length≤2000;rw[List.length_append];exact this)⟩
theorem run_found(m:Nat):∀(L:List Way)(s:List (List Int)),s.length≤2000→(run (stepF m) s L).1=s++(L.take (2001-s.length)).map (fun x=>x.nums.take m)
 |[],s,_=>by rw[List.take_nil];show s=s++[];rw[List.append_nil]
 |x::L,s,h=>by
  rw[run_cons];by_cases hs:s.length+1≤2000
  ·have e:(stepF m s x).2=true:=decide_eq_true hs;rw[if_pos e,run_found m L _ (by show(s++[_]).length≤2000;rw[List.length_append];exact hs)];show(s++[x.nums.take m])++(L.take (2001-(s++[x.nums.take m]).length)).map _=_;rw[List.length_append,List.append_assoc,show 2001-s.length=(2001-(s.length+[x.nums.take m].length))+1 from by simp;omega,List.take_succ_cons];rfl
  have e:¬(stepF m s x).2=true:=fun h9=>hs (of_decide_eq_true h9);rw[if_neg e,show 2001-s.length=0+1 from by omega,List.take_succ_cons];rfl
end Ru
theorem WayAt.takeV{w:World}{b m:Nat}{y:Ru.Way}(h:WayAt w b y)(hy:Ru.Wf 8 y)(hm:m≤8):IntsV w (.slice (some ⟨b,0,none⟩) m 8) (y.nums.take m):=by(have hl:(y.nums.take m).length=m:=by rw[List.length_take,hy.n];omega);refine⟨some ⟨b,0,none⟩,8,by rw[hl], .inr ⟨b,0,rfl,fun i hi=>?_⟩⟩;rw[hl]at hi;rw[Nat.zero_add,show Sc.intD (y.nums.take m) i=Sc.intD y.nums i from by unfold Sc.intD;rw[List.getD_eq_getElem?_getD,List.getElem?_take_of_lt hi,List.getD_eq_getElem?_getD]];exact h.num hy oM
def FoundI(NB RB:Nat)(rc:Array Value)(s:List (List Int))(w:World):Prop:=
 ∃(q:List (List Int×Value))(v:Value),q.map (·.1)=s∧w.heap[NB]?=some (.cells #[v] 28)∧w.ownsRow (NB+1) 22 1 v q.length (q.map (·.2))∧(∀p,p∈q→w.ownsRow (NB+1) 3 1 p.2 p.1.length (p.1.map (Value.int .i64)))∧w.heap[RB]?=some (.cells rc 40)
def found1V(RV:Value)(X RB m:Nat)(tQ:Nat)(vQ:Value):Prop:=
 match tQ with
 |5=>vQ=(RV:Value)
 |6=>vQ=(.pointer (some ⟨X,0,none⟩):Value)
 |7=>vQ=(.pointer (some ⟨RB,4,none⟩):Value)
 |8=>vQ=(.int .i64 (m:Nat):Value)
 |9=>vQ=(.slice (some ⟨X,0,none⟩) m 8:Value)
 |_=>True
def found1T(RV:Value)(X RB m B:Nat)(l:List Int)(tQ:Nat)(vQ:Value)(WQ:World):Prop:=
 if tQ=10 then WQ.ownsRow B 3 1 vQ l.length (l.map (Value.int .i64))
 else if tQ=11 then∃b' v',vQ=.slice (some ⟨b',0,none⟩) 1 1∧WQ.heap[b']?=some (.cells #[v'] 22)∧WQ.ownsRow B 3 1 v' l.length (l.map (Value.int .i64))else found1V RV X RB m tQ vQ
theorem found1T_mono(RV:Value)(X RB m B:Nat)(l:List Int)(tQ:Nat)(vQ:Value)(W W':World)(hb:Below W.heap.size W W')(h:found1T RV X RB m B l tQ vQ W):found1T RV X RB m B l tQ vQ W':=by
 unfold found1T at h ⊢;by_cases ht:tQ=10
 ·rw[if_pos ht]at h ⊢;exact ownsRow_below h hb
 rw[if_neg ht]at h ⊢;by_cases ht2:tQ=11
 ·rw[if_pos ht2]at h ⊢;obtain⟨b',v',h1,h2,h3⟩:=h;exact⟨b',v',h1,(hb.block b' (Array.getElem?_eq_some_iff.mp h2).1).trans h2,ownsRow_below h3 hb⟩
 rw[if_neg ht2]at h ⊢;exact h
theorem found1_any(w0:World)(NB RB m:Nat)(rc:Array Value)(hrc:rc[4]?=some (.int .i64 (m:Nat)))(hm8:m≤8)(hw0:w0.heap.size≤NB)(hRB:RB≠NB)(s:List (List Int))(w:World)(x:Ru.Way)(hI:FoundI NB RB rc s w)(hs:s.length≤2000)(hy:Ru.Wf 8 x):
 Calls Tryz.prog 99 #[wayVal x, .pointer (some ⟨NB,0,none⟩), .pointer (some ⟨RB,0,none⟩)] w fun e w'=>e=.returned (.bool (decide (s.length+1≤2000)))∧FoundI NB RB rc (s++[x.nums.take m]) w'∧Kp w0.heap.size NB w w':=by
 obtain⟨i0,hi,hz0,hz1,hz2⟩:=info_parts ru_info22;obtain⟨q,v,hqs,hN,ho,hro,hR⟩:=hI;obtain⟨au,cu,rfl⟩:=own_slice ho;have bT:=(Below.refl w.heap.size w).alloc (Nat.le_refl _) (.cells (wayArr x) 138);(have hql:q.length≤2000:=by rw[←hqs,List.length_map]at hs;exact hs);have HS:Hid _:=hqs;have HN:Hid _:=(bT.block _ (heap_lt hN)).trans hN;have HR:Hid _:=(bT.block _ (heap_lt hR)).trans hR;have HO:Hid _:=ownsRow_below ho bT;have HRO:Hid (∀p,p∈q→(w.alloc (.cells (wayArr x) 138)).ownsRow (NB+1) 3 1 p.2 p.1.length (p.1.map (Value.int .i64))):=fun p hp=>ownsRow_below (hro p hp) bT;have HK:Hid (Kp w0.heap.size NB w (w.alloc (.cells (wayArr x) 138))):=Kp.of_below bT (Nat.le_trans hw0 (Nat.le_of_lt (heap_lt hN)));have HW:Hid (WayAt (w.alloc (.cells (wayArr x) 138)) w.heap.size x):=heap_alloc_new w _;have HSZ:Hid (NB+1≤(w.alloc (.cells (wayArr x) 138)).heap.size):=heap_lt HN.out;(have n0:(w.alloc (.cells (wayArr x) 138)).cell? ⟨NB,0,none⟩=some (.slice au q.length cu):=by rw[Lib.cell_of_heap HN.out];rfl);(have r4:(w.alloc (.cells (wayArr x) 138)).cell? ⟨RB,4,none⟩=some (.int .i64 (m:Nat)):=by rw[Lib.cell_of_heap HR.out];exact hrc);clear hqs hN hR ho hro bT hs hrc
 go_enter Tryz.func99,Tryz.ntmps99
 go_upto_region 1 with fail;generalize w.alloc (.cells (wayArr x) 138)=w1 at *;refine wp_region_tail (found1T (.slice au q.length cu) w.heap.size RB m (NB+1) (x.nums.take m)) 7 dE kR kR kR (found1T_mono (.slice au q.length cu) w.heap.size RB m (NB+1) (x.nums.take m)) ?hopA ?htailA
 case hopA=>
  refine oC (fun a y_ h=>by have e1:a.eval (.tmp 1)=(.pointer (some ⟨NB,0,none⟩):Value):=h.old 1;have c0:=cell_below h.below n0;exact opX (.slice au q.length cu)) ?_;refine oC (fun a y_ h=>by have e3:a.eval (.tmp 3)=(.pointer (some ⟨w.heap.size,0,none⟩):Value):=h.old 3;exact opX (.pointer (some ⟨w.heap.size,0,none⟩))) ?_;refine oC (fun a y_ h=>by have e2:a.eval (.tmp 2)=(.pointer (some ⟨RB,0,none⟩):Value):=h.old 2;exact opX (.pointer (some ⟨RB,4,none⟩))) ?_;refine oC (fun a y_ h=>by have e7:a.eval (.tmp 7)=(.pointer (some ⟨RB,4,none⟩):Value):=h.of 7;have c0:=cell_below h.below r4;exact opX (.int .i64 (m:Nat))) ?_;refine oC (fun a y_ h=>by have e6:a.eval (.tmp 6)=(.pointer (some ⟨w.heap.size,0,none⟩):Value):=h.of 6;have e8:a.eval (.tmp 8)=(.int .i64 (m:Nat):Value):=h.of 8;have g0:(0:Int)≤(m:Int):=oM;have g8:(m:Int)≤8:=oM;exact opX (.slice (some ⟨w.heap.size,0,none⟩) m 8)) ?_;refine oC (fun a y_ h=>?_) ?_
  ·have e9:a.eval (.tmp 9)=(.slice (some ⟨w.heap.size,0,none⟩) m 8:Value):=h.of 9;refine opOk_call (f:=77) (args:=#[.slice (some ⟨w.heap.size,0,none⟩) m 8]) (wanted_none rfl) ?_ ?_
   ·have ec:=evc a;have ef:=evf a;generalize a.eval=ev at *;clear h;go_simp
   refine Calls.mono (cloneI_any (x.nums.take m) _ y_ (by have :=WayAt.takeV (WayAt.below HW.out h.below) hy hm8;exact this) (by rw[List.length_take];omega)) ?_;rintro _ y2 ⟨v',rfl,hown,hb2⟩;refine⟨_,rfl,fun t ht=>?_,hb2⟩;cases ht;exact rl_own_le hown (Nat.le_trans HSZ.out h.below.size)
  refine oC (fun a y_ h=>by have ho:y_.ownsRow (NB+1) 3 1 (a.eval (.tmp 10)) (x.nums.take m).length ((x.nums.take m).map (Value.int .i64)):=h.of 10;obtain⟨ao,co,e10⟩:=own_slice ho;rw[e10]at ho;refine opOk_val (v:=.slice (some ⟨y_.heap.size,0,none⟩) 1 1) (w':=y_.alloc (.cells #[.slice ao (x.nums.take m).length co] 22)) (wanted_none rfl) ?_ (fun t ht=>by cases ht;exact⟨_,_,rfl,heap_alloc_new y_ _,ho.alloc _⟩) ((Below.refl _ _).alloc (Nat.le_refl _) _);have ec:=evc a;generalize a.eval=ev at *;clear h;go_simp) ?_;exact AllOps.nil
 case htailA=>
  rintro⟨tm0,df⟩ y_ hI;have e5:Act.eval ⟨tm0,df⟩ (.tmp 5)=(.slice au q.length cu):=hI.all 0 _ 5 dE rfl rfl;obtain⟨b',v',e11,hb',hov⟩:∃b' v',Act.eval ⟨tm0,df⟩ (.tmp 11)=.slice (some ⟨b',0,none⟩) 1 1∧y_.heap[b']?=some (.cells #[v'] 22)∧y_.ownsRow (NB+1) 3 1 v' (x.nums.take m).length ((x.nums.take m).map (Value.int .i64)):=hI.all 6 _ 11 dE rfl rfl;have e1:Act.eval ⟨tm0,df⟩ (.tmp 1)=.pointer (some ⟨NB,0,none⟩):=hI.still 1 dE;have hoy:=ownsRow_below HO.out hI.below;have hNy:=(hI.below.block _ (heap_lt HN.out)).trans HN.out;have hRy:=(hI.below.block _ (heap_lt HR.out)).trans HR.out;have hrows:∀p,p∈q→y_.ownsRow (NB+1) 3 1 p.2 p.1.length (p.1.map (Value.int .i64)):=fun p hp=>ownsRow_below (HRO.out p hp) hI.below;have hKy:Kp w0.heap.size NB w y_:=HK.out.trans (Kp.of_below hI.below (Nat.le_trans hw0 (Nat.le_of_lt (heap_lt HN.out))));have hszF:NB+1≤y_.heap.size:=heap_lt hNy;obtain⟨ai,ci,evi⟩:=own_slice hov;show wpOps Tryz.prog _ _ [7,8] _ _;rw[wpOps_cons];refine wpOp_wp rfl (wanted_none rfl) (wp_append_own y_ (.tmp 5) (.tmp 11) 28 rfl (NB+1) 22 i0 _ 1 24 Tryz.underlying28 hi hz0 hz1 hz2 rfl dE (.slice au q.length cu) q.length (q.map (·.2)) e5 hoy ⟨b',0,none⟩ 1 1 (#[v']:Array Value).toList e11 rfl (row_news hb') ?h1A ?h63A ?hbyA hszF ?_);(case h1A=>intro u hu;simp only[List.mem_cons,List.not_mem_nil,or_false]at hu;subst hu;rw[evi];rfl);(case h63A=>unfold maxLen;omega);(case hbyA=>omega);intro v9 w9 ho9 hg9 _;obtain⟨av,cv,rfl⟩:=own_slice ho9;have hown9:∀kQ,((.slice au q.length cu):Value).ownBlock=some kQ→NB+1≤kQ:=fun kQ hk=>(hoy.lt kQ hk).1;have hot9:∀(k:Nat)(c:Array Value)(t:TypeId),y_.heap[k]?=some (.cells c t)→t≠22→w9.heap[k]?=some (.cells c t):=fun k c t hk ht=>(hg9.block k (heap_lt hk) (fun e=>ht (own_ty hoy e.symm hk))).trans hk;have hN9:w9.heap[NB]?=some (.cells #[.slice au q.length cu] 28):=hot9 _ _ _ hNy dE;(have c9:w9.cell? ⟨NB,0,none⟩=some (.slice au q.length cu):=by rw[Lib.cell_of_heap hN9];rfl);have f9:=Lib.frozen_of_heap hN9 0;have hsN:tm0.size=16:=hI.size;rw[wpOps_cons];refine wpOp_void rfl (wanted_none rfl) rfl (w':=w9.setCell ⟨NB,0,none⟩ (.slice av (q.length+1) cv)) ?_ ?_
  ·have q1:Act.eval (Act.put ⟨tm0,df⟩ (some 12) (.slice av (q.length+1) cv)) (.tmp 1)=.pointer (some ⟨NB,0,none⟩):=(put_get_ne (a:=⟨tm0,df⟩) (t:=12) (u:=1) dE).trans e1;have q2:Act.eval (Act.put ⟨tm0,df⟩ (some 12) (.slice av (q.length+1) cv)) (.tmp 12)=(.slice av (q.length+1) cv):=put_get_self (by show 12<tm0.size;omega);show Sem.run Tryz.prog (execOp (Act.eval (Act.put ⟨tm0,df⟩ (some 12) (.slice av (q.length+1) cv))) _) w9=_;generalize Act.eval (Act.put ⟨tm0,df⟩ (some 12) (.slice av (q.length+1) cv))=ev at *;clear hI;go_simp
  have hoth:∀(k:Nat)(c:Array Value)(t:TypeId),y_.heap[k]?=some (.cells c t)→k≠NB→t≠22→(w9.setCell ⟨NB,0,none⟩ (.slice av (q.length+1) cv)).heap[k]?=some (.cells c t):=fun k c t hk hne ht=>(heap_set_other hne).trans (hot9 k c t hk ht);(have HN9:Hid ((w9.setCell ⟨NB,0,none⟩ (.slice av (q.length+1) cv)).heap[NB]?=some (.cells #[(.slice av (q.length+1) cv)] 28)):=by show _=_;rw[Lib.heap_setCell_same hN9];rfl);(have HO9:Hid ((w9.setCell ⟨NB,0,none⟩ (.slice av (q.length+1) cv)).ownsRow (NB+1) 22 1 (.slice av (q.length+1) cv) (q.length+1) (q.map (·.2)++[v'])):=by refine rl_own_alone ho9 (fun g hg=>heap_set_other (fun e=>?_));have :=(ho9.lt g hg).1;omega);have h3:∀(l:List Int)(u:Value),y_.ownsRow (NB+1) 3 1 u l.length (l.map (Value.int .i64))→(w9.setCell ⟨NB,0,none⟩ (.slice av (q.length+1) cv)).ownsRow (NB+1) 3 1 u l.length (l.map (Value.int .i64)):=fun l u hu=>own_type hu (fun k c hk=>hoth k c 3 hk (fun e=>by rw[e,hNy]at hk;injection hk with hk;injection hk with _ hk;cases hk) dE);have HR9:Hid _:=hoth _ _ _ hRy hRB dE;have HRO9:Hid (∀p,p∈q++[((x.nums.take m),v')]→(w9.setCell ⟨NB,0,none⟩ (.slice av (q.length+1) cv)).ownsRow (NB+1) 3 1 p.2 p.1.length (p.1.map (Value.int .i64))):=fun p hp=>by
   rcases List.mem_append.mp hp with hp|hp
   ·exact h3 _ _ (hrows p hp)
   rcases List.mem_singleton.mp hp with rfl;exact h3 _ _ hov
  have HK9:Hid (Kp w0.heap.size NB w (w9.setCell ⟨NB,0,none⟩ (.slice av (q.length+1) cv))):=hKy.trans ⟨hg9.os,hg9.tape,hg9.output,by simpa using hg9.size,fun k hk=>(heap_set_other oM).trans (hg9.block k oM (fun e=>by have :=hown9 k e.symm;omega)),fun k c t hk hne ht=>hoth k c t hk hne ht⟩;(have hst:∀t,t∉[5,6,7,8,9,10,11,12]→(tm0.setIfInBounds 12 (.slice av (q.length+1) cv)).getD t undef=_:=fun t ht=>by have hA:t≠12:=fun e=>ht (by rw[e];decide);exact(put_get_ne (a:=⟨tm0,df⟩) hA).trans (hI.still t ht));obtain rfl:df=[]:=hI.defers;(have hs2:(tm0.setIfInBounds 12 (.slice av (q.length+1) cv)).size=16:=by simp[hsN]);clear hI e5 e11 hb' hov e1 hoy hNy hRy hrows hKy hszF evi ho9 hg9 hown9 hot9 hN9 c9 f9 hsN hoth h3;show Exit.then _ _ Exit.normal ⟨tm0.setIfInBounds 12 (.slice av (q.length+1) cv),[]⟩ _;generalize w9.setCell ⟨NB,0,none⟩ (.slice av (q.length+1) cv)=w5 at *;generalize tm0.setIfInBounds 12 (.slice av (q.length+1) cv)=tm at *;obtain⟨fQ,hQ,hF8⟩:=tmps_F [5,6,7,8,9,10,11,12] tm _ (hs2.trans rF) hst;clear hs2 hst;simp only[List.foldl_cons,List.foldl_nil]at hF8;clear hQ;simp only[List.setIfInBounds_toArray,List.set_cons_zero,List.set_cons_succ]at hF8;subst hF8;(have c5:w5.cell? ⟨NB,0,none⟩=some (.slice av (q.length+1) cv):=by rw[Lib.cell_of_heap HN9.out];rfl);have HD:Hid (decide ((q.length:Int)+1≤2000)=decide (q.length+1≤2000)):=decide_eq_decide.mpr oM;go_wp2_with fail;go_ret;refine⟨?_,⟨q++[((x.nums.take m),v')],_,by rw[List.map_append,←HS.out];rfl,HN9.out,by rw[List.length_append,List.map_append];exact HO9.out,HRO9.out,HR9.out⟩,HK9.out⟩;rw[←HS.out,List.length_map];show Ending.returned (.bool (decide ((q.length:Int)+1≤2000)))=_;rw[HD.out]
theorem tellF(w0:World)(NB RB m:Nat)(rc:Array Value)(hrc:rc[4]?=some (.int .i64 (m:Nat)))(hm8:m≤8)(hw0:w0.heap.size≤NB)(hRB:RB≠NB):Tell w0.heap.size NB 99 #[.pointer (some ⟨NB,0,none⟩), .pointer (some ⟨RB,0,none⟩)] (Ru.stepF m) Ru.liveF (FoundI NB RB rc):=
 ⟨fun s w x hI hl hy=>found1_any w0 NB RB m rc hrc hm8 hw0 hRB s w x hI hl hy,fun _ _ _ hI hb=>by
  obtain⟨q,v,h1,h2,h3,h4,h5⟩:=hI
  exact⟨q,v,h1,(hb.block _ (heap_lt h2)).trans h2,ownsRow_below h3 hb,fun p hp=>ownsRow_below (h4 p hp) hb,(hb.block _ (heap_lt h5)).trans h5⟩,fun _ _ hI=>by
  obtain⟨q,v,h1,h2,_⟩:=hI;have :=heap_lt h2
  exact⟨oM,this⟩⟩
def CapOk(v:Value):Prop:=∀ao n cap,v=.slice ao n cap→n≤cap
theorem plits_body{w:World}{v:Value}{l:List Sc.Lit}(h:PLitsV w v l)(hcap:CapOk v)(NB:Nat):∃q:List Lv,q.map (·.1)=l∧BodyV w NB w v q:=by
 obtain⟨ao,cap,rfl,hA⟩:=h;have hc:=hcap _ _ _ rfl;rcases hA with rfl|⟨b,off,rfl,hc4⟩
 ·exact⟨[],rfl,⟨ao,cap,rfl,Nat.zero_le _,fun hne=>absurd rfl hne⟩,fun p hp=>absurd hp sI⟩
 obtain⟨f,hf⟩:=Deep.choose_lt (n:=l.length) (p:=fun i u=>w.cell? ⟨b,off+i*4+3,none⟩=some u∧PTermsV w u (Sc.litD l i).terms) (fun i hi=>by
  obtain⟨_,_,_,u,h3,h4⟩:=hc4 i hi
  exact⟨u,h3,h4⟩)
 (have hlen:((List.range l.length).map fun i=>(Sc.litD l i,f i)).length=l.length:=by rw[List.length_map,List.length_range]);have hQ:QAt w ⟨b,off,none⟩ ((List.range l.length).map fun i=>(Sc.litD l i,f i)):=by
  intro j u hj;obtain⟨p,hp,hu⟩:=flatv_get lvCells 4 dE (fun _=>rfl) _ j u hj;(have hjl:j/4<l.length:=by have :=(List.getElem?_eq_some_iff.mp hp).1;simpa using this);rw[List.getElem?_map,List.getElem?_range hjl]at hp;(obtain rfl:(Sc.litD l (j/4),f (j/4))=p:=by simpa using hp);obtain⟨h0,h1,h2,_⟩:=hc4 (j/4) hjl;have h3:=(hf (j/4) hjl).1;rw[Addr.add_lit];have hm:j% 4=0∨j% 4=1∨j% 4=2∨j% 4=3:=oM;rcases hm with hm|hm|hm|hm
  ·rw[hm]at hu;rw[show off+j=off+j/4*4 by omega,h0];exact hu
  ·rw[hm]at hu;rw[show off+j=off+j/4*4+1 by omega,h1];exact hu
  ·rw[hm]at hu;rw[show off+j=off+j/4*4+2 by omega,h2];exact hu
  rw[hm]at hu;rw[show off+j=off+j/4*4+3 by omega,h3];exact hu
 refine⟨(List.range l.length).map fun i=>(Sc.litD l i,f i),?_,⟨_,cap,by rw[hlen],by rw[hlen];exact hc,fun hne=>⟨b,off,rfl,hQ, .inl ?_⟩⟩,?_⟩
 ·apply List.ext_getElem?;intro i;rw[List.map_map,List.getElem?_map];by_cases hi:i<l.length
  ·rw[List.getElem?_range hi];simp[Sc.litD,hi]
  rw[List.getElem?_eq_none sO,List.getElem?_eq_none oM];rfl
 ·have hp:0<l.length:=by
   rcases Nat.eq_zero_or_pos l.length with h0|h0
   ·exact absurd (by rw[h0];rfl) hne
   exact h0
  exact World.block_lt_of_cell? w _ (hc4 0 hp).1
 intro p hp;obtain⟨i,hi,rfl⟩:=List.mem_map.mp hp;exact(hf i (List.mem_range.mp hi)).2
def NumsP(B:Nat)(w:World)(v:Value)(q:List (List Int×Value)):Prop:=w.ownsRow B 22 1 v q.length (q.map (·.2))∧∀p,p∈q→w.ownsRow B 3 1 p.2 p.1.length (p.1.map (Value.int .i64))
theorem found_any(facts:List Rl.Fc)(r:Sc.Rule)(vt vb vf:Value)(w:World)(hF:FactsV w vf facts)(hFl:facts.length≤1000)(hFF:∀f,f∈facts→FFit f)(hR:Ru.RuleIn facts r)(hN:∀f,f∈facts→∀n,n∈f.args→Sc.isNum n=true)(hTl:∀l,l∈r.body→l.terms.length≤1000)(hC:∀l,l∈r.body→Ru.LitNum l)
 (hT:PTermsV w vt r.terms) (hL:PLitsV w vb r.body) (hcap:CapOk vb) (hbl:r.body.length≤1000) (hv0:0≤r.vars):
 Calls Tryz.prog 53 #[pruleVal r vt vb,vf] w fun e w'=>∃v q,e=.returned v∧NumsP w.heap.size w' v q∧q.map (·.1)=(Ru.ways facts r).take 2001∧Below w.heap.size w w':=by
 obtain⟨q0,hq0,hB⟩:=plits_body hL hcap (w.heap.size+1);obtain⟨at_,ct,rfl,_⟩:=id hT;obtain⟨ab,cb,rfl,_⟩:=id hL;obtain⟨af,cf,hvf,_⟩:=id hF;obtain⟨h0,h1,hb⟩:=ru_two w (.cells #[.int .i64 r.pred, .slice at_ r.terms.length ct, .int .i64 r.fold, .slice ab r.body.length cb, .int .i64 r.vars] 40) (.cells #[.slice none 0 0] 28);have hm:r.vars=((r.vars.toNat:Nat):Int):=(Int.toNat_of_nonneg hv0).symm;have TL:=tellF w (w.heap.size+1) w.heap.size r.vars.toNat #[.int .i64 r.pred, .slice at_ r.terms.length ct, .int .i64 r.fold, .slice ab r.body.length cb, .int .i64 r.vars] (by show some (Value.int .i64 r.vars)=_;rw[←hm]) hR.v8 (Nat.le_succ _) oM;have hfi:FoundI (w.heap.size+1) w.heap.size #[.int .i64 r.pred, .slice at_ r.terms.length ct, .int .i64 r.fold, .slice ab r.body.length cb, .int .i64 r.vars] [] ((w.alloc (.cells #[.int .i64 r.pred, .slice at_ r.terms.length ct, .int .i64 r.fold, .slice ab r.body.length cb, .int .i64 r.vars] 40)).alloc (.cells #[.slice none 0 0] 28)):=⟨[],_,rfl,h1,World.ownsRow_nil _ _ _ _,fun p hp=>absurd hp sI,h0⟩;(have hlen:q0.length=r.body.length:=by rw[←hq0,List.length_map]);have HC:Hid _:=each_any vf hF hFl hFF hR hN hTl hC TL (enters_of Tryz.func99 kR rfl) r.body.length q0 Ru.way0 (.slice ab r.body.length cb) _ [] hlen hbl hb (hB.kp (Kp.of_below hb (Nat.le_refl _))) (Ru.way0_good _) (by rw[hq0];exact Ru.way0_left r) hfi (Ru.lv_found _ _ _ (Nat.zero_le _));(have HE:Hid ((Ru.run (Ru.stepF r.vars.toNat) [] (Ru.eachN facts r.body.length (q0.map (·.1)) Ru.way0)).1=(Ru.ways facts r).take 2001):=by show _=_;rw[Ru.run_found _ _ _ (Nat.zero_le _),hq0];show []++((Ru.each facts r.body Ru.way0).take 2001).map _=_;rw[List.nil_append,List.map_take];rfl);have HK:Hid (Kp w.heap.size (w.heap.size+1) w ((w.alloc (.cells #[.int .i64 r.pred, .slice at_ r.terms.length ct, .int .i64 r.fold, .slice ab r.body.length cb, .int .i64 r.vars] 40)).alloc (.cells #[.slice none 0 0] 28))):=Kp.of_below hb (Nat.le_refl _);(have c3:((w.alloc (.cells #[.int .i64 r.pred, .slice at_ r.terms.length ct, .int .i64 r.fold, .slice ab r.body.length cb, .int .i64 r.vars] 40)).alloc (.cells #[.slice none 0 0] 28)).cell? ⟨w.heap.size,3,none⟩=some (.slice ab r.body.length cb):=by rw[Lib.cell_of_heap h0];rfl);clear h0 h1 hb TL hfi hF hFF hR hN hTl hC hT hL hB hcap hq0 hlen hm hvf;generalize Ru.run (Ru.stepF r.vars.toNat) [] (Ru.eachN facts r.body.length (q0.map (·.1)) Ru.way0)=R at *;generalize (Ru.ways facts r).take 2001=WS at *
 go_enter Tryz.func53,Tryz.ntmps53
 go_upto_region 2 with fail;generalize (w.alloc (.cells #[.int .i64 r.pred, .slice at_ r.terms.length ct, .int .i64 r.fold, .slice ab r.body.length cb, .int .i64 r.vars] 40)).alloc (.cells #[.slice none 0 0] 28)=w1 at *;have hmf:∀(fn:Fn)(first cap:Array Value)(w:World),(Instr.makeFunc fn first cap).run Tryz.prog w=.ok (.func fn first cap) w:=fun _ _ _ _=>rfl;go_wp2_with fail;refine Calls.mono HC.out ?_;rintro _ w4 ⟨rfl,⟨q,v,hq,hN4,ho4,hr4,_⟩,hK4⟩;obtain⟨ao,co,rfl⟩:=own_slice ho4;have HO:Hid _:=ho4;have HRO:Hid (∀p,p∈q→w4.ownsRow (w.heap.size+1+1) 3 1 p.2 p.1.length (p.1.map (Value.int .i64))):=hr4;have HQ:Hid _:=hq;(have c4:w4.cell? ⟨w.heap.size+1,0,none⟩=some (.slice ao q.length co):=by rw[Lib.cell_of_heap hN4];rfl);clear ho4 hr4 hq hN4 c3 HC;go_wp2_with fail;go_ret;exact⟨_,q,rfl,⟨rl_own_le HO.out oM,fun p hp=>rl_own_le (HRO.out p hp) oM⟩,HQ.out.trans HE.out,(HK.out.trans hK4).below (Below.refl _ _)⟩
end Go.Proofs.YthenjegmigeieaaGreat
