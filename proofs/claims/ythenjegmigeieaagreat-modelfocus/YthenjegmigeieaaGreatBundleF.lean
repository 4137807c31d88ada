/- Own texts, one behind the other (part 6). -/
import Derived.Test.YthenjegmigeieaaGreatBundleE
import Derived.Test.YthenjegmigeieaaGreatRows
set_option maxRecDepth 100000
set_option maxHeartbeats 8000000
namespace Go.Proofs.YthenjegmigeieaaGreat
open Go.RowKit
theorem take_rule {l:List Sc.Rule} {k:Nat} (h:k<l.length):l.take (k+1)=l.take k++[Sc.ruleD l k]:=by
 rw [List.take_add_one]
 congr 1
 unfold Sc.ruleD
 rw [List.getD_eq_getElem?_getD,List.getElem?_eq_getElem h]
 rfl
theorem ruleD_mem {l:List Sc.Rule} {k:Nat} (h:k<l.length):Sc.ruleD l k∈l:=by unfold Sc.ruleD; rw [List.getD_eq_getElem?_getD,List.getElem?_eq_getElem h]; exact List.getElem_mem h

def reach (ops:Array Oper):Nat→Nat→Nat→Bool
 | 0,_,_=>false
 | f+1,i,j=>((ops[i]?).map fun o=>o.after.toList.any fun e=>Region.binds .any e && (e.on==j || reach ops f e.on j)).getD false
def Closed (ops:Array Oper) (s:Array Bool):Prop:=∀ (i:Nat) (o:Oper),s[i]?=some true→ops[i]?=some o→∀ e,e∈o.after→Region.binds .any e=true→s[e.on]?=some true
theorem reach_done {ops:Array Oper} {s:Array Bool} (hC:Closed ops s):∀ (f i j:Nat) (o:Oper),ops[i]?=some o→(∀ e,e∈o.after→Region.binds .any e=true→s[e.on]?=some true)→reach ops f i j=true→s[j]?=some true
 | 0,_,_,_,_,_,h=>by cases h
 | f+1,i,j,o,ho,hd,h=>by
  unfold reach at h
  rw [ho,Option.map_some,Option.getD_some] at h
  obtain ⟨e,he,h2⟩:=List.any_eq_true.mp h
  rw [Bool.and_eq_true,Bool.or_eq_true] at h2
  have hse:=hd e (by simpa using he) h2.1
  rcases h2.2 with h3 | h3
  · have h3:e.on=j:=by simpa using h3
    rw [← h3]; exact hse
  · cases hoe:ops[e.on]? with
    | none =>
     cases f with
     | zero=>cases h3
     | succ f=>unfold reach at h3; rw [hoe] at h3; cases h3
    | some oe=>exact reach_done hC f e.on j oe hoe (fun e' he' hb'=>hC e.on oe hse hoe e' he' hb') h3
def tailFine (ops:Array Oper) (L:Nat):Bool:=(List.range L).all (fun j=>reach ops 12 L j) && (List.range ops.size).all fun i=>!decide (L<i) || reach ops 12 i (i - 1)
structure OpInT (ops:Array Oper) (T:Nat→Value→World→Prop) (a0:Act) (w0:World) (L:Nat) (a:Act) (w:World):Prop where
 below:Below w0.heap.size w0 w
 defers:a.defers=a0.defers
 size:a.tmps.size=a0.tmps.size
 still:∀ t,t∉ops.toList.filterMap (·.dst)→a.tmps.getD t undef=a0.tmps.getD t undef
 all:∀ (i:Nat) (o:Oper) (t:Nat),i<L→ops[i]?=some o→o.dst=some t→T t (a.tmps.getD t undef) w
section
variable {P:Program} {ops:Array Oper} {Q:Exit→Act→World→Prop}
theorem wp_region_tail (T:Nat→Value→World→Prop) (L:Nat) {id:Nat} {a0:Act} {w0:World} (hL:L<ops.size) (htf:tailFine ops L=true) (hm:P.follows .mixedOrders=true)
 (hf:tabFine ops a0.tmps.size=true)
 (hmono:∀ t v w w',Below w.heap.size w w'→T t v w→T t v w')
 (hop:AllOps (fun o=>∀ a w,OpIn ops T a0 w0 o a w→OpOk P ops Q T o a w) (ops.toList.take L))
 (htail:∀ a w,OpInT ops T a0 w0 L a w→wpOps P ops Q (List.range' L (ops.size - L)) a w) :
 (Code.region id ops true).wp P Q a0 w0:=by
 unfold tailFine at htf
 rw [Bool.and_eq_true] at htf
 have ht1:∀ j,j<L→reach ops 12 L j=true:=fun j hj=>List.all_eq_true.mp htf.1 j (List.mem_range.mpr hj)
 have ht2:∀ i,i<ops.size→L<i→reach ops 12 i (i - 1)=true:=fun i hi hLi=>by
  have h:=List.all_eq_true.mp htf.2 i (List.mem_range.mpr hi)
  rw [decide_eq_true hLi] at h
  simpa using h
 unfold tabFine at hf
 rw [Bool.and_eq_true,Bool.and_eq_true] at hf
 obtain ⟨⟨hnd,hlt⟩,hah⟩:=hf
 have hnd:=of_decide_eq_true hnd
 have hlt':∀ t,t∈ops.toList.filterMap (·.dst)→t<a0.tmps.size:=fun t ht=>of_decide_eq_true (List.all_eq_true.mp hlt t ht)
 have hah':∀ (i:Nat) (o:Oper),ops[i]?=some o→∀ e,e∈o.after→e.on<i:=fun i o ho e he=>by
  have hi:i<ops.size:=(Array.getElem?_eq_some_iff.mp ho).1
  have h:=List.all_eq_true.mp hah i (List.mem_range.mpr hi)
  rw [ho,Option.map_some,Option.getD_some] at h
  exact of_decide_eq_true (List.all_eq_true.mp h e (by simpa using he))
 refine wp_region_inv (fun s a w=>(s.size=ops.size∧Closed ops s)∧(((∀ i,L≤i→i<ops.size→s[i]?=some false)∧Tabbed ops T a0 w0 s a w) ∨
  (∃ m,L≤m∧m≤ops.size∧(∀ i,i<m→s[i]?=some true)∧(∀ i,m≤i→i<ops.size→s[i]?=some false)∧wpOps P ops Q (List.range' m (ops.size - m)) a w))) hm ?_ ?_ ?_
 · rintro s a w hr ⟨⟨hs,hC⟩,hI⟩
   have hall:∀ n:Nat,n≤ops.size→∀ i:Nat,i<n→s[i]?=some true:=by
    intro n
    induction n with
    | zero=>intro _ i hi; exact absurd hi (Nat.not_lt_zero _)
    | succ n ih =>
     intro hn i hi
     have ih:=ih (by omega)
     by_cases hin:i<n
     · exact ih i hin
     · have hin:i=n:=by omega
       subst hin
       cases hsi:s[i]? with
       | none=>rw [Array.getElem?_eq_none_iff] at hsi; omega
       | some b =>
        cases b with
        | true=>rfl
        | false =>
         exfalso
         have hio:i<ops.size:=by omega
         have:i∈Region.ready .any ops s:=by
          unfold Region.ready
          refine List.mem_filter.mpr ⟨List.mem_range.mpr hio,?_⟩
          rw [Bool.and_eq_true]
          refine ⟨by simp [Array.getD_eq_getD_getElem?,hsi],?_⟩
          have ho:ops[i]?=some ops[i]:=Array.getElem?_eq_getElem hio
          rw [ho,Option.map_some,Option.getD_some,Array.all_eq_true_iff_forall_mem]
          intro e he
          have h1:=ih e.on (hah' i _ ho e he)
          simp [Array.getD_eq_getD_getElem?,h1]
         rw [hr] at this
         exact absurd this (by simp)
   have hd:=hall ops.size (Nat.le_refl _)
   rcases hI with ⟨hF,_⟩ | ⟨m,_,hm1,_,hF,hW⟩
   · have h1:=hF L (Nat.le_refl _) hL
     rw [hd L hL] at h1
     cases h1
   · by_cases hme:m=ops.size
     · subst hme
       rw [Nat.sub_self] at hW
       exact hW
     · have h1:=hF m (Nat.le_refl _) (by omega)
       rw [hd m (by omega)] at h1
       cases h1
 · rintro s a w i hi ⟨⟨hs,hC⟩,hI⟩
   obtain ⟨hsi,o,ho,haf⟩:=ready_mem hi
   have his:i<ops.size:=(Array.getElem?_eq_some_iff.mp ho).1
   have hup:∀ j,s[j]?=some true→(s.setIfInBounds i true)[j]?=some true:=fun j hj=>by
    rw [Array.getElem?_setIfInBounds]
    by_cases hij:i=j
    · rw [if_pos hij,if_pos (by omega)]
    · rw [if_neg hij]; exact hj
   have hss:(s.setIfInBounds i true).size=ops.size∧Closed ops (s.setIfInBounds i true):=by
    refine ⟨by simp [hs],fun i' o' hi' ho' e he hb=>?_⟩
    by_cases hii:i=i'
    · subst hii
      rw [ho] at ho'
      cases ho'
      exact hup _ (haf e he hb)
    · rw [Array.getElem?_setIfInBounds,if_neg hii] at hi'
      exact hup _ (hC i' o' hi' ho' e he hb)
   have go:∀ m,L≤m→m<ops.size→i=m→(∀ j,j<m→s[j]?=some true)→(∀ j,m≤j→j<ops.size→s[j]?=some false)→wpOps P ops Q (List.range' m (ops.size - m)) a w →
    wpOp P ops Q i (fun a' w'=>((s.setIfInBounds i true).size=ops.size∧Closed ops (s.setIfInBounds i true))∧(((∀ j,L≤j→j<ops.size→(s.setIfInBounds i true)[j]?=some false)∧Tabbed ops T a0 w0 (s.setIfInBounds i true) a' w') ∨
     (∃ m,L≤m∧m≤ops.size∧(∀ j,j<m→(s.setIfInBounds i true)[j]?=some true)∧(∀ j,m≤j→j<ops.size→(s.setIfInBounds i true)[j]?=some false)∧wpOps P ops Q (List.range' m (ops.size - m)) a' w'))) a w:=by
    intro m hLm hms him hT hF hW
    subst him
    obtain ⟨d,hd⟩:∃ d,ops.size - i=d+1:=⟨ops.size - i - 1,by omega⟩
    rw [hd,List.range'_succ,wpOps_cons] at hW
    refine wpOp_mono (fun a' w' h'=>⟨hss,.inr ⟨i+1,by omega,by omega,fun j hj=>?_,fun j hj hjs=>?_,?_⟩⟩) hW
    · by_cases hji:j=i
      · subst hji
        rw [Array.getElem?_setIfInBounds,if_pos rfl,if_pos (by omega)]
      · exact hup j (hT j (by omega))
    · rw [Array.getElem?_setIfInBounds,if_neg (by omega)]
      exact hF j (by omega) hjs
    · rw [show ops.size - (i+1)=d by omega]
      exact h'
   rcases hI with ⟨hF,hI⟩ | ⟨m,hLm,hm1,hT,hF,hW⟩
   · by_cases hiL:L≤i
     · have hiL2:i=L:=by
        rcases Nat.lt_or_ge L i with h | h
        · have h1:=reach_done hC 12 i (i - 1) o ho haf (ht2 i his h)
          rw [hF (i - 1) (by omega) (by omega)] at h1
          cases h1
        · omega
       subst hiL2
       have hdn:∀ j,j<i→s[j]?=some true:=fun j hj=>reach_done hC 12 i j o ho haf (ht1 j hj)
       exact go i (Nat.le_refl _) his rfl hdn (fun j hj hjs=>hF j hj hjs) (htail a w ⟨hI.below,hI.defers,hI.size,hI.still,fun j oj t hj hoj hd=>hI.done j oj t (hdn j hj) hoj hd⟩)
     · have hop':OpOk P ops Q T o a w:=by
        refine AllOps.mem _ hop o ?_ a w ⟨hI.below,hI.still,fun e he hb o' t ho' hd=>hI.done e.on o' t (haf e he hb) ho' hd⟩
        rw [← Array.getElem?_toList] at ho
        refine List.mem_of_getElem? (i:=i) ?_
        rw [List.getElem?_take,if_pos (by omega)]
        exact ho
       have hset:∀ {v:Value} {w':World},(∀ t,o.dst=some t→T t v w')→Below w.heap.size w w'→Tabbed ops T a0 w0 (s.setIfInBounds i true) (a.put o.dst v) w':=by
        intro v w' hv hb
        refine ⟨hI.below.trans (hb.mono hI.below.size),by rw [put_defers]; exact hI.defers,by rw [put_size]; exact hI.size,fun t ht=>?_,fun j oj t hj hoj hd=>?_⟩
        · cases hd:o.dst with
          | none=>exact hI.still t ht
          | some u =>
           have hne:t≠u:=fun h=>ht (h ▸ dst_mem ho hd)
           rw [put_get_ne hne]
           exact hI.still t ht
        · by_cases hij:j=i
          · subst hij
            rw [ho] at hoj
            cases hoj
            rw [hd,put_get_self (by rw [hI.size]; exact hlt' t (dst_mem ho hd))]
            exact hv t hd
          · have hj':s[j]?=some true:=by
             rw [Array.getElem?_setIfInBounds,if_neg (fun h=>hij h.symm)] at hj
             exact hj
            have h1:=hmono t _ w w' hb (hI.done j oj t hj' hoj hd)
            cases hd2:o.dst with
            | none=>exact h1
            | some u =>
             have hne:t≠u:=fun h=>hij (dst_inj ops.toList hnd j i oj o t (by rw [Array.getElem?_toList]; exact hoj) (by rw [Array.getElem?_toList]; exact ho) hd (h ▸ hd2))
             rw [put_get_ne hne]
             exact h1
       have hF':∀ j,L≤j→j<ops.size→(s.setIfInBounds i true)[j]?=some false:=fun j hj hjs=>by
        rw [Array.getElem?_setIfInBounds,if_neg (by omega)]
        exact hF j hj hjs
       unfold OpOk at hop'
       unfold wpOp
       rw [ho]
       dsimp only
       by_cases hw:Region.wanted o (yielded ops a.tmps)=true
       · rw [if_pos hw] at hop' ⊢
         refine hop'.imp (Oper.wp_mono ?_) (fun h=>h)
         rintro a' w' ⟨v,rfl,hv,hb⟩
         exact ⟨hss,.inl ⟨hF',hset hv hb⟩⟩
       · rw [if_neg hw] at hop' ⊢
         exact ⟨hss,.inl ⟨hF',hset hop' (Below.refl _ _)⟩⟩
   · have him:m≤i:=by
      rcases Nat.lt_or_ge i m with h | h
      · have h1:=hT i h
        rw [hsi] at h1
        cases h1
      · exact h
     have him2:i=m:=by
      rcases Nat.lt_or_ge m i with h | h
      · have h1:=reach_done hC 12 i (i - 1) o ho haf (ht2 i his (by omega))
        rw [hF (i - 1) (by omega) (by omega)] at h1
        cases h1
      · omega
     exact go m hLm (by omega) him2 hT hF hW
 · refine ⟨⟨by simp,fun i o h=>?_⟩,.inl ⟨fun i _ hi=>?_,⟨⟨rfl,rfl,rfl,Nat.le_refl _,fun _ _=>rfl⟩,rfl,rfl,fun _ _=>rfl,fun i o t h _ _=>?_⟩⟩⟩
   · rw [Array.getElem?_replicate] at h
     split at h <;> simp at h
   · rw [Array.getElem?_replicate,if_pos hi]
   · rw [Array.getElem?_replicate] at h
     split at h <;> simp at h
end
abbrev Rv:=Sc.Rule × Value × Value
def rvCells (p:Rv):List Value:=[.int .i64 p.1.pred,p.2.1,.int .i64 p.1.fold,p.2.2,.int .i64 p.1.vars]
def rCells (q:List Rv):List Value:=(q.map rvCells).flatten
theorem rules_toV {W:World} {B:Nat} {v:Value} {q:List Rv} (h:W.ownsRow B 40 5 v q.length (rCells q)) (hq:∀ p,p∈q→PTermsV W p.2.1 p.1.terms∧PLitsV W p.2.2 p.1.body):PRulesV W v (q.map (·.1)):=by
 obtain ⟨ao,cap,rfl,hle,hc⟩:=own_cells h
 refine ⟨ao,cap,by rw [List.length_map],?_⟩
 rcases hc with h0 | ⟨g,rfl,hc⟩
 · exact .inl (by rw [List.length_eq_zero_iff.mp h0]; rfl)
 · refine .inr ⟨g,0,rfl,fun i hi=>?_⟩
   rw [List.length_map] at hi
   have hl:q[i]?=some q[i]:=List.getElem?_eq_getElem hi
   have hd:Sc.ruleD (q.map (·.1)) i=q[i].1:=by unfold Sc.ruleD; simp [hi]
   rw [hd]
   have hat:=fun t ht=>flat_at rvCells 5 (fun _=>rfl) q i _ t hl ht
   have hm:=hq _ (List.getElem_mem hi)
   have each:∀ t u,t<5→(rvCells q[i])[t]?=some u→W.cell? ⟨g,0+i * 5+t,none⟩=some u:=fun t u ht hu=>by
    have:=hc (i * 5+t) (by omega)
    rw [Nat.zero_add]
    exact (this.trans (hat t ht)).trans hu
   exact ⟨each 0 _ (by decide) rfl,⟨q[i].2.1,each 1 _ (by decide) rfl,hm.1⟩,each 2 _ (by decide) rfl,⟨q[i].2.2,each 3 _ (by decide) rfl,hm.2⟩,each 4 _ (by decide) rfl⟩
section
variable {P:Program} {ops:Array Oper} {Q:Exit→Act→World→Prop} {i:Nat} {o:Oper} {K:Act→World→Prop} {a:Act} {w w':World}
theorem wpOp_val {v:Value} (ho:ops[i]?=some o) (hw:Region.wanted o (yielded ops a.tmps)=true) (hr:(execOp a.eval o).run P w=.ok (.value v) w') (h:K (a.put o.dst v) w'):wpOp P ops Q i K a w:=by
 unfold wpOp
 rw [ho]
 dsimp only
 rw [if_pos hw]
 left
 unfold Oper.wp
 rw [hr,Oper.upon_value]
 exact h
theorem wpOp_void (ho:ops[i]?=some o) (hw:Region.wanted o (yielded ops a.tmps)=true) (hd:o.dst=none) (hr:(execOp a.eval o).run P w=.ok .skip w') (h:K a w'):wpOp P ops Q i K a w:=by
 unfold wpOp
 rw [ho]
 dsimp only
 rw [if_pos hw]
 left
 unfold Oper.wp
 rw [hr,Oper.upon_skip,hd]
 exact h
theorem wpOp_wp (ho:ops[i]?=some o) (hw:Region.wanted o (yielded ops a.tmps)=true) (h:o.wp P a w K Q):wpOp P ops Q i K a w:=by
 unfold wpOp
 rw [ho]
 dsimp only
 rw [if_pos hw]
 exact .inl h
end
theorem st_info65:(Tryz.prog.info? 40).map (fun i=>(i.zero,i.size,i.bytes))=some (some (.agg #[.int .i64 0,.slice none 0 0,.int .i64 0,.slice none 0 0,.int .i64 0]),5,72):=by kernel_rfl
theorem row_news {W:World} {b':Nat} {RC:Array Value} {t:TypeId} (h:W.heap[b']?=some (.cells RC t)):∀ j u,RC.toList[j]?=some u→W.cell? ((⟨b',0,none⟩:Addr).add j)=some u:=by
 intro j u hj
 rw [Addr.add_lit,Nat.zero_add,Lib.cell_of_heap h,← Array.getElem?_toList]
 exact hj
def sCells (l:List (List UInt8)):List Value:=l.map fun s=>Value.string ⟨s.toArray⟩
theorem own_ints {W:World} {B:Nat} {v:Value} {l:List Int} (h:W.ownsRow B 3 1 v l.length (l.map (Value.int .i64))):IntsV W v l:=by
 obtain ⟨ao,cap,rfl,_,hc⟩:=own_cells h
 refine ⟨ao,cap,rfl,?_⟩
 rcases hc with h0 | ⟨g,rfl,hc⟩
 · exact .inl (List.length_eq_zero_iff.mp h0)
 · refine .inr ⟨g,0,rfl,fun i hi=>?_⟩
   rw [Nat.zero_add,hc i (by omega)]
   simp [Sc.intD,hi]
theorem own_strs {W:World} {B:Nat} {v:Value} {l:List (List UInt8)} (h:W.ownsRow B 9 1 v l.length (sCells l)):StrsV W v l:=by
 obtain ⟨ao,cap,rfl,_,hc⟩:=own_cells h
 refine ⟨ao,cap,rfl,?_⟩
 rcases hc with h0 | ⟨g,rfl,hc⟩
 · exact .inl (List.length_eq_zero_iff.mp h0)
 · refine .inr ⟨g,0,rfl,fun i hi=>?_⟩
   rw [Nat.zero_add,hc i (by omega)]
   simp [Sc.strD,sCells,hi]
theorem cloneS_any (l:List (List UInt8)) (v:Value) (w:World) (hV:StrsV w v l) (hl:l.length≤1048576) :
 Calls Tryz.prog 78 #[v] w fun e w'=>∃ v',e=.returned v'∧w'.ownsRow 0 9 1 v' l.length (sCells l)∧Below w.heap.size w w':=by
 obtain ⟨ao,cap,rfl,hA⟩:=hV
 cases ao with
 | none =>
  have hl0:l=[]:=by
   rcases hA with h | ⟨b,off,h,_⟩
   · exact h
   · cases h
  subst hl0
  refine (cloneS_nil _ cap w).mono ?_
  rintro e w' ⟨rfl,hb⟩
  exact ⟨_,rfl,World.ownsRow_nil _ _ _ _,hb⟩
 | some a =>
  refine (cloneS_some a l.length cap (sCells l) w (by simp [sCells]) (fun j u hj=>?_) (fun u hu=>?_) hl).mono ?_
  · rcases hA with h | ⟨b,off,h,hc⟩
    · rw [h] at hj; simp [sCells] at hj
    · have ha:=Option.some.inj h
      subst ha
      have hjl:j<l.length:=by have:=(List.getElem?_eq_some_iff.mp hj).1; simpa [sCells] using this
      have h9:=hc j hjl
      have hu:Value.string ⟨(Sc.strD l j).toArray⟩=u:=by simpa [sCells,Sc.strD,hjl] using hj
      rw [Addr.add_lit,h9,hu]
  · obtain ⟨s,_,rfl⟩:=List.mem_map.mp hu
    rfl
  · rintro e w' ⟨v',rfl,ho,hb⟩
    exact ⟨v',rfl,own_zero ho,hb⟩
theorem check_names {p:Sc.Prog} (h:Sc.check p=0):p.names.length≤1048576:=by
 unfold Sc.check at h
 split at h
 · omega
 · rename_i h1
   split at h
   · omega
   · rename_i h2
     have:p.names.length=p.arity.length:=Classical.byContradiction h2
     omega
namespace St
def focOut (p:Sc.Prog) (k:Int):Sc.Prog:=if needErr p k=0 then focus p k.toNat else ⟨[],[],[]⟩
theorem needErr_cases (p:Sc.Prog) (k:Int) (h:needErr p k=0):Sc.check p=0∧isIn p k=true:=by
 unfold needErr at h
 split at h
 · rename_i hc
   split at h
   · rename_i hi
     exact ⟨hc,hi⟩
   · omega
 · rename_i hc
   exact absurd h hc
end St
def fo4V (X:Nat) (VA VN:Value) (t:Nat) (v:Value):Prop :=
 match t with
 | 21=>v=.pointer (some ⟨X,0,none⟩)
 | 22=>v=VA
 | 24=>v=.pointer (some ⟨X,1,none⟩)
 | 25=>v=VN
 | _=>True
def Ow3 (W:World) (v:Value) (l:List Int):Prop:=W.ownsRow 0 3 1 v l.length (l.map (Value.int .i64))
def Ow9 (W:World) (v:Value) (l:List (List UInt8)):Prop:=W.ownsRow 0 9 1 v l.length (sCells l)
def fo4T (X F0:Nat) (VA VN:Value) (la:List Int) (ln:List (List UInt8)) (t:Nat) (v:Value) (W:World):Prop :=
 if t=23 then Ow3 W v la else if t=26 then Ow9 W v ln
 else if t=27 then ∃ i s,v=.agg #[i,s,.slice none 0 0]∧Ow3 W i la∧Ow9 W s ln
 else if t=8 then ∃ b,v=.pointer (some ⟨b,0,none⟩)∧W.heap[b]?=some (.cells #[.slice none 0 0,.slice none 0 0,.slice none 0 0] 26)∧F0≤b
 else fo4V X VA VN t v
theorem fo4T_mono (X F0:Nat) (VA VN:Value) (la:List Int) (ln:List (List UInt8)) (t:Nat) (v:Value) (W W':World) (hb:Below W.heap.size W W') (h:fo4T X F0 VA VN la ln t v W):fo4T X F0 VA VN la ln t v W':=by
 have keep:∀ {B e c n:Nat} {v:Value} {xs:List Value},W.ownsRow B e c v n xs→W'.ownsRow B e c v n xs:=fun h=>ownsRow_below h hb
 unfold fo4T at h ⊢
 split
 · rename_i ht
   rw [if_pos ht] at h
   exact keep h
 · rename_i ht
   rw [if_neg ht] at h
   split
   · rename_i ht2
     rw [if_pos ht2] at h
     exact keep h
   · rename_i ht2
     rw [if_neg ht2] at h
     split
     · rename_i ht3
       rw [if_pos ht3] at h
       obtain ⟨i,s,h1,h2,h3⟩:=h
       exact ⟨i,s,h1,keep h2,keep h3⟩
     · rename_i ht3
       rw [if_neg ht3] at h
       split
       · rename_i ht4
         rw [if_pos ht4] at h
         obtain ⟨b,h1,h2,h3⟩:=h
         exact ⟨b,h1,(hb.block b (Array.getElem?_eq_some_iff.mp h2).1).trans h2,h3⟩
       · rename_i ht4
         rw [if_neg ht4] at h
         exact h
def OwnR (W:World) (x:Rv):Prop:=TermsO W x.2.1 x.1.terms∧∃ lq:List Lv,lq.map (·.1)=x.1.body∧LitsO W x.2.2 lq
theorem OwnR.keep {W W':World} {x:Rv} (h:OwnR W x) (hk:KeepT W W'):OwnR W' x:=by
 obtain ⟨h1,lq,h2,h3⟩:=h
 exact ⟨h1.keep hk,lq,h2,h3.keep hk⟩
theorem OwnR.toV {W:World} {x:Rv} (h:OwnR W x):PTermsV W x.2.1 x.1.terms∧PLitsV W x.2.2 x.1.body:=by
 obtain ⟨h1,lq,h2,h3⟩:=h
 refine ⟨h1.toV,?_⟩
 rw [← h2]
 exact h3.toV
def fo9V (FB:Nat) (UR:Value) (RC:Array Value) (t:Nat) (v:Value):Prop :=
 match t with
 | 40=>v=.pointer (some ⟨FB,2,none⟩)
 | 41=>v=UR
 | 42=>v=.agg RC
 | _=>True
def fo9T (FB:Nat) (UR:Value) (RC:Array Value) (r:Sc.Rule) (t:Nat) (v:Value) (W:World):Prop :=
 if t=43 then ∃ ut ub,v=pruleVal r ut ub∧OwnR W (r,(ut,ub))
 else if t=44 then ∃ b' ut ub,v=.slice (some ⟨b',0,none⟩) 1 1∧W.heap[b']?=some (.cells #[.int .i64 r.pred,ut,.int .i64 r.fold,ub,.int .i64 r.vars] 40)∧(∃ a n c,ut=.slice a n c)∧(∃ a n c,ub=.slice a n c)∧OwnR W (r,(ut,ub))
 else fo9V FB UR RC t v
theorem fo9T_mono (FB:Nat) (UR:Value) (RC:Array Value) (r:Sc.Rule) (t:Nat) (v:Value) (W W':World) (hb:Below W.heap.size W W') (h:fo9T FB UR RC r t v W):fo9T FB UR RC r t v W':=by
 unfold fo9T at h ⊢
 split
 · rename_i ht
   rw [if_pos ht] at h
   obtain ⟨ut,ub,h1,h2⟩:=h
   exact ⟨ut,ub,h1,h2.keep (KeepT.of_below hb)⟩
 · rename_i ht
   rw [if_neg ht] at h
   split
   · rename_i ht2
     rw [if_pos ht2] at h
     obtain ⟨b',ut,ub,h1,h2,h3,h4,h5⟩:=h
     exact ⟨b',ut,ub,h1,(hb.block b' (Array.getElem?_eq_some_iff.mp h2).1).trans h2,h3,h4,h5.keep (KeepT.of_below hb)⟩
   · rename_i ht2
     rw [if_neg ht2] at h
     exact h
theorem check_terms {p:Sc.Prog} (h:Sc.check p=0):∀ r,r∈p.rules→r.terms.length≤3∧∀ x,x∈r.body→x.terms.length≤3:=by
 unfold Sc.check at h
 split at h
 · omega
 · split at h
   · omega
   · rename_i hnl
     have hnl:p.names.length=p.arity.length:=Classical.byContradiction hnl
     have har:∀ i,i<p.arity.length→Sc.intD p.arity i≤3:=fun i hi=>by
      have h1:=first_zero (St.thn_zero_iff h).1 i (List.mem_range.mpr (by omega))
      unfold Sc.predErr at h1
      have h2:=(St.thn_zero_iff h1).1
      split at h2
      · rename_i h3
        unfold Tr.between at h3
        have h4:0≤Sc.intD p.arity i∧Sc.intD p.arity i≤3:=by simpa using h3
        exact h4.2
      · omega
     intro r hr
     have h2:=first_zero (St.thn_zero_iff h).2 r hr
     unfold Sc.ruleErr at h2
     split at h2
     · rename_i hp
       have hpp:0≤r.pred∧r.pred≤(p.arity.length:Int) - 1:=by unfold Sc.isPred Tr.between at hp; simpa using hp
       obtain ⟨ht,h2⟩:=St.thn_zero_iff h2
       obtain ⟨_,h2⟩:=St.thn_zero_iff h2
       obtain ⟨_,h2⟩:=St.thn_zero_iff h2
       obtain ⟨_,h2⟩:=St.thn_zero_iff h2
       obtain ⟨_,h2⟩:=St.thn_zero_iff h2
       obtain ⟨_,h2⟩:=St.thn_zero_iff h2
       obtain ⟨h5,_⟩:=St.thn_zero_iff h2
       refine ⟨?_,fun x hx=>?_⟩
       · have h9:=har r.pred.toNat (by omega)
         split at ht
         · omega
         · rename_i h8
           have h8:(r.terms.length:Int)=Sc.intD p.arity r.pred.toNat:=Classical.byContradiction h8
           omega
       · have h6:=(St.thn_zero_iff (first_zero h5 x hx)).1
         unfold Sc.litErr at h6
         split at h6
         · split at h6
           · omega
           · split at h6
             · rename_i hq
               have hqq:0≤x.pred∧x.pred≤(p.arity.length:Int) - 1:=by unfold Sc.isPred Tr.between at hq; simpa using hq
               have h9:=har x.pred.toNat (by omega)
               split at h6
               · omega
               · rename_i h8
                 have h8:(x.terms.length:Int)=Sc.intD p.arity x.pred.toNat:=Classical.byContradiction h8
                 omega
             · omega
         · split at h6
           · split at h6
             · split at h6
               · omega
               · rename_i h8
                 have h8:x.terms.length=2:=Classical.byContradiction fun e=>h8 (.inr e)
                 omega
             · omega
           · split at h6
             · split at h6
               · split at h6
                 · omega
                 · rename_i h8
                   have h8:x.terms.length=3:=Classical.byContradiction fun e=>h8 (.inr e)
                   omega
               · omega
             · omega
     · omega
theorem own_ty {W:World} {B c n k:Nat} {e t:TypeId} {v:Value} {xs:List Value} {a:Array Value} (h:W.ownsRow B e c v n xs) (hk:v.ownBlock=some k) (ha:W.heap[k]?=some (.cells a t)):t=e:=by
 rcases h.2 with ⟨h2,_⟩ | ⟨g,cap,cur,hv,_,hh,_⟩
 · rw [h2] at hk; cases hk
 · rw [hv] at hk
   have hg:g=k:=by simpa [Value.ownBlock] using hk
   subst hg
   rw [hh] at ha
   injection ha with ha
   injection ha with _ ha _
   exact ha.symm
theorem Focus_any (p:Sc.Prog) (pd:Int) (va vn vr:Value) (w:World) (hP:ProgV w va vn vr p) (hF:ProgFit p) :
 Calls Tryz.prog 37 #[progVal va vn vr,.int .i64 pd] w fun e w'=>∃ ua un ur,e=.returned (.tuple #[progVal ua un ur,.int .i64 (St.needErr p pd)])∧ProgV w' ua un ur (St.focOut p pd)∧Below w.heap.size w w':=by
 obtain ⟨i0,hi,hz0,hz1,hz2⟩:=info_parts st_info65
 obtain ⟨a0,n0,rfl,_⟩:=id hP.ar
 obtain ⟨a1,n1,rfl,_⟩:=id hP.nm
 obtain ⟨a2,n2,rfl,hA2⟩:=id hP.rl
 have HA2:Hid _:=hA2
 have HP:Hid _:=hP
 have HFT:Hid _:=hF
 have b0:=(Below.refl w.heap.size w).alloc (Nat.le_refl _) (.cells #[.slice a0 p.arity.length n0,.slice a1 p.names.length n1,.slice a2 p.rules.length n2] 26)
 have hX:=heap_alloc_new w (.cells #[.slice a0 p.arity.length n0,.slice a1 p.names.length n1,.slice a2 p.rules.length n2] 26)
 have s1:(w.alloc (.cells #[.slice a0 p.arity.length n0,.slice a1 p.names.length n1,.slice a2 p.rules.length n2] 26)).heap.size=w.heap.size+1:=by simp
 have b1:=(Below.refl (w.alloc (.cells #[.slice a0 p.arity.length n0,.slice a1 p.names.length n1,.slice a2 p.rules.length n2] 26)).heap.size (w.alloc (.cells #[.slice a0 p.arity.length n0,.slice a1 p.names.length n1,.slice a2 p.rules.length n2] 26))).alloc (Nat.le_refl _) (.cells #[.slice none 0 0,.slice none 0 0,.slice none 0 0] 26)
 have hX1:=(b1.block _ (Array.getElem?_eq_some_iff.mp hX).1).trans hX
 have hZ1:=heap_alloc_new (w.alloc (.cells #[.slice a0 p.arity.length n0,.slice a1 p.names.length n1,.slice a2 p.rules.length n2] 26)) (.cells #[.slice none 0 0,.slice none 0 0,.slice none 0 0] 26)
 rw [s1] at hZ1
 have hb1:=b0.trans (b1.mono b0.size)
 have HX1:Hid _:=hX1
 have HZ1:Hid _:=hZ1
 have HB1:Hid _:=hb1
 clear b0 hX s1 b1 hX1 hZ1 hb1 hP hA2 hF
 go_enter Tryz.func37,Tryz.ntmps37
 go_wp2_with fail
 generalize (w.alloc (.cells #[.slice a0 p.arity.length n0,.slice a1 p.names.length n1,.slice a2 p.rules.length n2] 26)).alloc (.cells #[.slice none 0 0,.slice none 0 0,.slice none 0 0] 26)=w1 at *
 refine Calls.mono (Needs_any p pd _ _ _ w1 (HP.out.below HB1.out) HFT.out) ?_
 rintro e w2 ⟨nv,rfl,hnv,hb2⟩
 have hX2:=(hb2.block _ (Array.getElem?_eq_some_iff.mp HX1.out).1).trans HX1.out
 have hZ2:=(hb2.block _ (Array.getElem?_eq_some_iff.mp HZ1.out).1).trans HZ1.out
 have hbw2:=HB1.out.trans (hb2.mono HB1.out.size)
 clear HX1 HZ1 HB1 hb2
 by_cases hne:St.needErr p pd=0
 · obtain ⟨hc,hin⟩:=St.needErr_cases p pd hne
   obtain ⟨hn,hr,hR⟩:=St.check_in hc
   have HR:Hid _:=hR
   have HC:Hid _:=hc
   have HNO:=(St.needErr_in hc hin).2
   have hpd:0≤pd∧pd<(p.arity.length:Int):=by simpa [St.isIn] using hin
   obtain ⟨q0,rfl⟩:∃ q0:Nat,pd=q0:=⟨pd.toNat,by omega⟩
   rw [HNO,Int.toNat_natCast] at hnv
   have HFO:Hid (St.focOut p q0=St.focus p q0):=by show _=_; unfold St.focOut; rw [if_pos hne,Int.toNat_natCast]
   have HNE:Hid _:=hne
   obtain ⟨na,nc,rfl,_,hNA⟩:=hnv
   have HNA:Hid _:=hNA
   have HTR:Hid _:=check_terms HC.out
   rw [St.needs_length]
   have HX2:Hid _:=hX2
   have HZ2:Hid _:=hZ2
   have HBW2:Hid _:=hbw2
   have c0:w2.cell? ⟨w.heap.size,0,none⟩=some (.slice a0 p.arity.length n0):=by rw [Lib.cell_of_heap hX2]; rfl
   have c1:w2.cell? ⟨w.heap.size,1,none⟩=some (.slice a1 p.names.length n1):=by rw [Lib.cell_of_heap hX2]; rfl
   have hnm:p.names.length≤1048576:=check_names HC.out
   rw [hne]
   clear hc hin HNO hR hNA hX2 hZ2 hbw2 hne
   go_upto_region 4 with fail
   refine wp_region_tail (fo4T w.heap.size w2.heap.size (.slice a0 p.arity.length n0) (.slice a1 p.names.length n1) p.arity p.names) 8 (by decide) (by kernel_rfl) (by kernel_rfl) (by kernel_rfl) (fo4T_mono _ _ _ _ _ _) ?hop ?htail
   case hop =>
    refine AllOps.cons (fun a y h=>?_) ?_
    · have e2:a.eval (.tmp 2)=(.pointer (some ⟨w.heap.size,0,none⟩)):=h.old 2 (by kernel_rfl)
      refine opOk_val (v:=(.pointer (some ⟨w.heap.size,0,none⟩))) (w':=y) (wanted_none rfl) ?_ (fun t ht=>by cases ht; exact rfl) (Below.refl _ _)
      have ec:∀ v,a.eval (.const v)=v:=fun _=>rfl
      generalize a.eval=ev at *
      clear h
      go_simp
    refine AllOps.cons (fun a y h=>?_) ?_
    · have e21:a.eval (.tmp 21)=.pointer (some ⟨w.heap.size,0,none⟩):=h.of 21 (by kernel_rfl)
      have cc:=cell_below h.below c0
      refine opOk_val (v:=(.slice a0 p.arity.length n0)) (w':=y) (wanted_none rfl) ?_ (fun t ht=>by cases ht; exact rfl) (Below.refl _ _)
      have ec:∀ v,a.eval (.const v)=v:=fun _=>rfl
      generalize a.eval=ev at *
      clear h
      go_simp
    refine AllOps.cons (fun a y h=>?_) ?_
    · have e22:a.eval (.tmp 22)=(.slice a0 p.arity.length n0):=h.of 22 (by kernel_rfl)
      refine opOk_call (f:=77) (args:=#[(.slice a0 p.arity.length n0)]) (wanted_none rfl) ?_ ?_
      · have ef:∀ f,a.eval (.func f)=.func (.func f) #[] #[]:=fun _=>rfl
        generalize a.eval=ev at *
        clear h
        go_simp
      · refine Calls.mono (cloneI_any p.arity _ y (intsV_below HP.out.ar (HBW2.out.trans (h.below.mono HBW2.out.size))) (by omega)) ?_
        rintro _ y2 ⟨v9,rfl,hv9,hb9⟩
        exact ⟨v9,rfl,fun t ht=>by cases ht; exact own_zero hv9,hb9⟩
    refine AllOps.cons (fun a y h=>?_) ?_
    · have e2:a.eval (.tmp 2)=(.pointer (some ⟨w.heap.size,0,none⟩)):=h.old 2 (by kernel_rfl)
      refine opOk_val (v:=(.pointer (some ⟨w.heap.size,1,none⟩))) (w':=y) (wanted_none rfl) ?_ (fun t ht=>by cases ht; exact rfl) (Below.refl _ _)
      have ec:∀ v,a.eval (.const v)=v:=fun _=>rfl
      generalize a.eval=ev at *
      clear h
      go_simp
    refine AllOps.cons (fun a y h=>?_) ?_
    · have e24:a.eval (.tmp 24)=.pointer (some ⟨w.heap.size,1,none⟩):=h.of 24 (by kernel_rfl)
      have cc:=cell_below h.below c1
      refine opOk_val (v:=(.slice a1 p.names.length n1)) (w':=y) (wanted_none rfl) ?_ (fun t ht=>by cases ht; exact rfl) (Below.refl _ _)
      have ec:∀ v,a.eval (.const v)=v:=fun _=>rfl
      generalize a.eval=ev at *
      clear h
      go_simp
    refine AllOps.cons (fun a y h=>?_) ?_
    · have e25:a.eval (.tmp 25)=(.slice a1 p.names.length n1):=h.of 25 (by kernel_rfl)
      refine opOk_call (f:=78) (args:=#[(.slice a1 p.names.length n1)]) (wanted_none rfl) ?_ ?_
      · have ef:∀ f,a.eval (.func f)=.func (.func f) #[] #[]:=fun _=>rfl
        generalize a.eval=ev at *
        clear h
        go_simp
      · refine Calls.mono (cloneS_any p.names _ y (strsV_below HP.out.nm (HBW2.out.trans (h.below.mono HBW2.out.size))) (by omega)) ?_
        rintro _ y2 ⟨v9,rfl,hv9,hb9⟩
        exact ⟨v9,rfl,fun t ht=>by cases ht; exact hv9,hb9⟩
    refine AllOps.cons (fun a y h=>?_) ?_
    · have t23:Ow3 y (a.eval (.tmp 23)) p.arity:=h.of 23 (by kernel_rfl)
      have t26:Ow9 y (a.eval (.tmp 26)) p.names:=h.of 26 (by kernel_rfl)
      obtain ⟨ia,ic,e23⟩:=own_slice t23
      obtain ⟨sa,sc,e26⟩:=own_slice t26
      rw [e23] at t23
      rw [e26] at t26
      refine opOk_val (v:=.agg #[.slice ia p.arity.length ic,.slice sa p.names.length sc,.slice none 0 0]) (w':=y) (wanted_none rfl) ?_ (fun t ht=>by cases ht; exact ⟨_,_,rfl,t23,t26⟩) (Below.refl _ _)
      generalize a.eval=ev at *
      clear h t23 t26
      go_simp
    refine AllOps.cons (fun a y h=>?_) ?_
    · have hfb:w2.heap.size≤y.heap.size:=h.below.size
      refine opOk_val (v:=.pointer (some ⟨y.heap.size,0,none⟩)) (w':=y.alloc (.cells #[.slice none 0 0,.slice none 0 0,.slice none 0 0] 26)) (wanted_none rfl) ?_ (fun t ht=>by cases ht; exact ⟨_,rfl,heap_alloc_new y _,hfb⟩) ((Below.refl _ _).alloc (Nat.le_refl _) _)
      generalize a.eval=ev at *
      clear h
      go_simp
    exact AllOps.nil
   case htail =>
    rintro ⟨tm,df⟩ y hI
    obtain ⟨ii,ss,e27,h3,h9⟩:∃ i s,Act.eval ⟨tm,df⟩ (.tmp 27)=.agg #[i,s,.slice none 0 0]∧Ow3 y i p.arity∧Ow9 y s p.names:=hI.all 6 _ 27 (by decide) rfl rfl
    obtain ⟨FB,e8,hFB,hF0⟩:∃ b,Act.eval ⟨tm,df⟩ (.tmp 8)=.pointer (some ⟨b,0,none⟩)∧y.heap[b]?=some (.cells #[.slice none 0 0,.slice none 0 0,.slice none 0 0] 26)∧w2.heap.size≤b:=hI.all 7 _ 8 (by decide) rfl rfl
    obtain ⟨ia,ic,rfl⟩:=own_slice h3
    obtain ⟨sa,sc,rfl⟩:=own_slice h9
    have k0:=hFB
    have z0:y.cell? ⟨FB,0,none⟩=some (.slice none 0 0):=by rw [Lib.cell_of_heap k0]; rfl
    have y0:=Lib.frozen_of_heap k0 0
    have k1:(y.setCell ⟨FB,0,none⟩ (.slice ia p.arity.length ic)).heap[FB]?=some (.cells #[.slice ia p.arity.length ic,.slice none 0 0,.slice none 0 0] 26):=by rw [Lib.heap_setCell_same k0]; rfl
    have z1:(y.setCell ⟨FB,0,none⟩ (.slice ia p.arity.length ic)).cell? ⟨FB,1,none⟩=some (.slice none 0 0):=by rw [Lib.cell_of_heap k1]; rfl
    have y1:=Lib.frozen_of_heap k1 1
    have k2:((y.setCell ⟨FB,0,none⟩ (.slice ia p.arity.length ic)).setCell ⟨FB,1,none⟩ (.slice sa p.names.length sc)).heap[FB]?=some (.cells #[.slice ia p.arity.length ic,.slice sa p.names.length sc,.slice none 0 0] 26):=by rw [Lib.heap_setCell_same k1]; rfl
    have z2:((y.setCell ⟨FB,0,none⟩ (.slice ia p.arity.length ic)).setCell ⟨FB,1,none⟩ (.slice sa p.names.length sc)).cell? ⟨FB,2,none⟩=some (.slice none 0 0):=by rw [Lib.cell_of_heap k2]; rfl
    have y2:=Lib.frozen_of_heap k2 2
    have k3:(((y.setCell ⟨FB,0,none⟩ (.slice ia p.arity.length ic)).setCell ⟨FB,1,none⟩ (.slice sa p.names.length sc)).setCell ⟨FB,2,none⟩ (.slice none 0 0)).heap[FB]?=some (.cells #[.slice ia p.arity.length ic,.slice sa p.names.length sc,.slice none 0 0] 26):=by rw [Lib.heap_setCell_same k2]; rfl
    have d0:(((y.setCell ⟨FB,0,none⟩ (.slice ia p.arity.length ic)).setCell ⟨FB,1,none⟩ (.slice sa p.names.length sc)).setCell ⟨FB,2,none⟩ (.slice none 0 0)).cell? ⟨FB,0,none⟩=some (.slice ia p.arity.length ic):=by rw [Lib.cell_of_heap k3]; rfl
    have d1:(((y.setCell ⟨FB,0,none⟩ (.slice ia p.arity.length ic)).setCell ⟨FB,1,none⟩ (.slice sa p.names.length sc)).setCell ⟨FB,2,none⟩ (.slice none 0 0)).cell? ⟨FB,1,none⟩=some (.slice sa p.names.length sc):=by rw [Lib.cell_of_heap k3]; rfl
    have d2:(((y.setCell ⟨FB,0,none⟩ (.slice ia p.arity.length ic)).setCell ⟨FB,1,none⟩ (.slice sa p.names.length sc)).setCell ⟨FB,2,none⟩ (.slice none 0 0)).cell? ⟨FB,2,none⟩=some (.slice none 0 0):=by rw [Lib.cell_of_heap k3]; rfl
    show wpOps Tryz.prog _ _ [8] _ _
    rw [wpOps_cons]
    refine wpOp_void rfl (wanted_none rfl) rfl (w':=(((y.setCell ⟨FB,0,none⟩ (.slice ia p.arity.length ic)).setCell ⟨FB,1,none⟩ (.slice sa p.names.length sc)).setCell ⟨FB,2,none⟩ (.slice none 0 0))) ?_ ?_
    · generalize Act.eval ⟨tm,df⟩=ev at *
      clear hI h3 h9
      go_simp
    have ot:∀ (e:TypeId),e≠26→∀ (k:Nat) (a:Array Value),y.heap[k]?=some (.cells a e)→(((y.setCell ⟨FB,0,none⟩ (.slice ia p.arity.length ic)).setCell ⟨FB,1,none⟩ (.slice sa p.names.length sc)).setCell ⟨FB,2,none⟩ (.slice none 0 0)).heap[k]?=some (.cells a e):=fun e he k a ha=>by
     have hk:¬ k=FB:=fun hk=>by rw [hk,hFB] at ha; injection ha with ha; injection ha with _ ha _; exact he ha.symm
     rw [heap_set_other hk,heap_set_other hk,heap_set_other hk]
     exact ha
    have HF:Hid _:=k3
    have HI3:Hid (Ow3 (((y.setCell ⟨FB,0,none⟩ (.slice ia p.arity.length ic)).setCell ⟨FB,1,none⟩ (.slice sa p.names.length sc)).setCell ⟨FB,2,none⟩ (.slice none 0 0)) (.slice ia p.arity.length ic) p.arity):=own_type h3 (ot 3 (by decide))
    have HI9:Hid (Ow9 (((y.setCell ⟨FB,0,none⟩ (.slice ia p.arity.length ic)).setCell ⟨FB,1,none⟩ (.slice sa p.names.length sc)).setCell ⟨FB,2,none⟩ (.slice none 0 0)) (.slice sa p.names.length sc) p.names):=own_type h9 (ot 9 (by decide))
    have HB:Hid (Below w2.heap.size w2 (((y.setCell ⟨FB,0,none⟩ (.slice ia p.arity.length ic)).setCell ⟨FB,1,none⟩ (.slice sa p.names.length sc)).setCell ⟨FB,2,none⟩ (.slice none 0 0))):=(((hI.below.setCell (p:=⟨FB,0,none⟩) hF0 (.slice ia p.arity.length ic)).setCell (p:=⟨FB,1,none⟩) hF0 (.slice sa p.names.length sc)).setCell (p:=⟨FB,2,none⟩) hF0 (.slice none 0 0))
    have hsz:(((y.setCell ⟨FB,0,none⟩ (.slice ia p.arity.length ic)).setCell ⟨FB,1,none⟩ (.slice sa p.names.length sc)).setCell ⟨FB,2,none⟩ (.slice none 0 0)).heap.size=y.heap.size:=by simp
    have hFy:FB<y.heap.size:=(Array.getElem?_eq_some_iff.mp hFB).1
    have hs2:=hI.size
    have hst:=hI.still
    obtain rfl:df=[]:=hI.defers
    have h8:tm.getD 8 undef=.pointer (some ⟨FB,0,none⟩):=e8
    clear hI h3 h9 ot e27 e8 hFB k0 k1 k2 k3 z0 z1 z2 y0 y1 y2 d0 d1 d2 c0 c1
    generalize (((y.setCell ⟨FB,0,none⟩ (.slice ia p.arity.length ic)).setCell ⟨FB,1,none⟩ (.slice sa p.names.length sc)).setCell ⟨FB,2,none⟩ (.slice none 0 0))=y3 at *
    have hF3:FB+1≤y3.heap.size:=by omega
    clear hsz hFy
    show Exit.then _ _ Exit.normal ⟨tm,[]⟩ y3
    have hF8:=tmps_fold [21,22,23,24,25,26,27,8] tm _ hs2 hst
    clear hs2 hst
    simp only [List.foldl_cons,List.foldl_nil,h8] at hF8
    clear h8
    generalize tm.getD 21 undef=x21 at hF8
    generalize tm.getD 22 undef=x22 at hF8
    generalize tm.getD 23 undef=x23 at hF8
    generalize tm.getD 24 undef=x24 at hF8
    generalize tm.getD 25 undef=x25 at hF8
    generalize tm.getD 26 undef=x26 at hF8
    generalize tm.getD 27 undef=x27 at hF8
    simp only [List.setIfInBounds_toArray,List.set_cons_zero,List.set_cons_succ] at hF8
    subst hF8
    have hXr:=(HB.out.block _ (Array.getElem?_eq_some_iff.mp HX2.out).1).trans HX2.out
    have c2:y3.cell? ⟨w.heap.size,2,none⟩=some (.slice a2 p.rules.length n2):=by rw [Lib.cell_of_heap hXr]; rfl
    go_wp2_with fail
    have HF3:Hid _:=HF.out
    clear c2 hXr
    go_loopw [31] (fun i wr=>∃ (k:Nat) (q:List Rv) (ur:Value),k≤p.rules.length∧i=.int .i64 k∧q.length≤k∧wr.heap[FB]?=some (.cells #[.slice ia p.arity.length ic,.slice sa p.names.length sc,ur] 26)∧wr.ownsRow (FB+1) 40 5 ur q.length (rCells q)∧q.map (·.1)=(p.rules.take k).filter (fun r=>(St.needs p q0).getD r.pred.toNat false)∧(∀ x,x∈q→OwnR wr x)∧Ow3 wr (.slice ia p.arity.length ic) p.arity∧Ow9 wr (.slice sa p.names.length sc) p.names∧Below w2.heap.size w2 wr) (fun i _=>p.rules.length - (intOf i).toNat)
    case atStart=>exact ⟨0,[],.slice none 0 0,Nat.zero_le _,rfl,Nat.le_refl _,HF.out,World.ownsRow_nil _ _ _ _,rfl,fun _ h=>absurd h (by simp),HI3.out,HI9.out,HB.out⟩
    case round =>
     clear HF HF3 HI3 HI9 HB
     obtain ⟨k,q,ur,hk,rfl,hqk,hF,ho,hqm,hqv,h3,h9,hb⟩:=hrel
     obtain ⟨au,cu,rfl⟩:=own_slice ho
     have hZr:=(hb.block _ (Array.getElem?_eq_some_iff.mp HZ2.out).1).trans HZ2.out
     have HF:Hid _:=hF
     have HO:Hid _:=ho
     have HQM:Hid _:=hqm
     have HQV:Hid _:=hqv
     have HI3:Hid _:=h3
     have HI9:Hid _:=h9
     have HB:Hid _:=hb
     have HZR:Hid _:=hZr
     have HBW:Hid _:=HBW2.out.trans (hb.mono HBW2.out.size)
     clear hF ho hqm hqv h3 h9 hb hZr
     by_cases hlt:k<p.rules.length
     · obtain ⟨b,off,rfl,p0,⟨vt,p1,hT⟩,p2,⟨vb,p3,hLL⟩,p4⟩:=prules_at HA2.out k hlt
       have HTV:Hid _:=hT
       have HLV:Hid _:=hLL
       obtain ⟨at_,ct,rfl,_⟩:=hT
       obtain ⟨ab,cb,rfl,_⟩:=hLL
       have HRI:Hid (St.RuleIn p.arity.length (Sc.ruleD p.rules k)):=HR.out _ (ruleD_mem hlt)
       have HTM:Hid _:=HTR.out _ (ruleD_mem hlt)
       have HTK:Hid _:=take_rule hlt
       have s0:=cell_below HBW.out p0
       have s1:=cell_below HBW.out p1
       have s2:=cell_below HBW.out p2
       have s3:=cell_below HBW.out p3
       have s4:=cell_below HBW.out p4
       clear p0 p1 p2 p3 p4
       generalize Sc.ruleD p.rules k=r at *
       obtain ⟨pd,ts,fo,bd,vs⟩:=r
       obtain ⟨pr,rfl⟩:∃ pr:Nat,pd=pr:=⟨pd.toNat,by have:=HRI.out.h0; dsimp only at this; omega⟩
       dsimp only at *
       have hpn:pr<p.arity.length:=by have:=HRI.out.h1; dsimp only at this; omega
       obtain ⟨bb,oo,rfl,hnb⟩:=bools_at HNA.out pr (by rw [St.needs_length]; exact hpn)
       have bq:=(Below.refl wr.heap.size wr).alloc (Nat.le_refl _) (.cells #[.int .i64 pr,(.slice at_ ts.length ct),.int .i64 fo,(.slice ab bd.length cb),.int .i64 vs] 40)
       have nb:=cell_below bq (cell_below HB.out hnb)
       have hQ:=heap_alloc_new wr (.cells #[.int .i64 pr,(.slice at_ ts.length ct),.int .i64 fo,(.slice ab bd.length cb),.int .i64 vs] 40)
       have HFI:Hid ((p.rules.take (k+1)).filter (fun r=>(St.needs p q0).getD r.pred.toNat false)=(p.rules.take k).filter (fun r=>(St.needs p q0).getD r.pred.toNat false)++if Rl.boolD (St.needs p q0) pr then [(⟨pr,ts,fo,bd,vs⟩:Sc.Rule)] else []):=by
        show _=_
        rw [HTK.out,List.filter_append,List.filter_cons,List.filter_nil]
        rfl
       have HQ:Hid _:=hQ
       have HBq:Hid _:=bq
       clear hnb hQ bq
       cases hnd:Rl.boolD (St.needs p q0) pr
       · rw [hnd] at nb HFI
         clear hnd
         go_wp2_with fail
         go_roundw
         case rel=>exact ⟨k+1,q,_,hlt,by go_num,by omega,(HBq.out.block _ (Array.getElem?_eq_some_iff.mp HF.out).1).trans HF.out,ownsRow_below HO.out HBq.out,by rw [HQM.out,HFI.out]; simp,fun x hx=>OwnR.keep (HQV.out x hx) (KeepT.of_below HBq.out),ownsRow_below HI3.out HBq.out,ownsRow_below HI9.out HBq.out,HB.out.trans (HBq.out.mono HB.out.size)⟩
         case measure=>simp [intOf]; omega
       rw [hnd] at nb HFI
       clear hnd
       go_upto_region 9 with fail
       have HFq:Hid _:=(HBq.out.block _ (Array.getElem?_eq_some_iff.mp HF.out).1).trans HF.out
       have HOq:Hid _:=ownsRow_below HO.out HBq.out
       have HQVq:Hid (∀ x,x∈q→OwnR _ x):=fun x hx=>OwnR.keep (HQV.out x hx) (KeepT.of_below HBq.out)
       have HI3q:Hid _:=ownsRow_below HI3.out HBq.out
       have HI9q:Hid _:=ownsRow_below HI9.out HBq.out
       have HB2:Hid _:=HB.out.trans (HBq.out.mono HB.out.size)
       have HBQ:Hid _:=HBW.out.trans (HBq.out.mono HBW.out.size)
       clear nb s0 s1 s2 s3 s4 HBq
       generalize wr.alloc (.cells #[.int .i64 pr,(.slice at_ ts.length ct),.int .i64 fo,(.slice ab bd.length cb),.int .i64 vs] 40)=wq at *
       generalize wr.heap.size=QB at *
       have r0:wq.cell? ⟨QB,0,none⟩=some (.int .i64 pr):=by rw [Lib.cell_of_heap HQ.out]; rfl
       have r1:wq.cell? ⟨QB,1,none⟩=some (.slice at_ ts.length ct):=by rw [Lib.cell_of_heap HQ.out]; rfl
       have r2:wq.cell? ⟨QB,2,none⟩=some (.int .i64 fo):=by rw [Lib.cell_of_heap HQ.out]; rfl
       have r3:wq.cell? ⟨QB,3,none⟩=some (.slice ab bd.length cb):=by rw [Lib.cell_of_heap HQ.out]; rfl
       have r4:wq.cell? ⟨QB,4,none⟩=some (.int .i64 vs):=by rw [Lib.cell_of_heap HQ.out]; rfl
       have cF2:wq.cell? ⟨FB,2,none⟩=some (.slice au q.length cu):=by rw [Lib.cell_of_heap HFq.out]; rfl
       refine wp_region_tail (fo9T FB (.slice au q.length cu) #[.int .i64 pr,(.slice at_ ts.length ct),.int .i64 fo,(.slice ab bd.length cb),.int .i64 vs] (⟨pr,ts,fo,bd,vs⟩:Sc.Rule)) 5 (by decide) (by kernel_rfl) (by kernel_rfl) (by kernel_rfl) (fo9T_mono _ _ _ _) ?hop9 ?htail9
       case hop9 =>
        refine AllOps.cons (fun a y h=>?_) ?_
        · have e8:a.eval (.tmp 8)=.pointer (some ⟨FB,0,none⟩):=h.old 8 (by kernel_rfl)
          refine opOk_val (v:=(.pointer (some ⟨FB,2,none⟩))) (w':=y) (wanted_none rfl) ?_ (fun t ht=>by cases ht; exact rfl) (Below.refl _ _)
          have ec:∀ v,a.eval (.const v)=v:=fun _=>rfl
          generalize a.eval=ev at *
          clear h
          go_simp
        refine AllOps.cons (fun a y h=>?_) ?_
        · have e40:a.eval (.tmp 40)=.pointer (some ⟨FB,2,none⟩):=h.of 40 (by kernel_rfl)
          have cF:=cell_below h.below cF2
          refine opOk_val (v:=(.slice au q.length cu)) (w':=y) (wanted_none rfl) ?_ (fun t ht=>by cases ht; exact rfl) (Below.refl _ _)
          have ec:∀ v,a.eval (.const v)=v:=fun _=>rfl
          generalize a.eval=ev at *
          clear h
          go_simp
        refine AllOps.cons (fun a y h=>?_) ?_
        · have e10:a.eval (.tmp 10)=.pointer (some ⟨QB,0,none⟩):=h.old 10 (by kernel_rfl)
          have g0:=cell_below h.below r0
          have g1:=cell_below h.below r1
          have g2:=cell_below h.below r2
          have g3:=cell_below h.below r3
          have g4:=cell_below h.below r4
          refine opOk_val (v:=(.agg #[.int .i64 pr,(.slice at_ ts.length ct),.int .i64 fo,(.slice ab bd.length cb),.int .i64 vs])) (w':=y) (wanted_none rfl) ?_ (fun t ht=>by cases ht; exact rfl) (Below.refl _ _)
          have ec:∀ v,a.eval (.const v)=v:=fun _=>rfl
          generalize a.eval=ev at *
          clear h
          go_simp
        refine AllOps.cons (fun a y h=>?_) ?_
        · have e42:a.eval (.tmp 42)=.agg #[.int .i64 pr,(.slice at_ ts.length ct),.int .i64 fo,(.slice ab bd.length cb),.int .i64 vs]:=h.of 42 (by kernel_rfl)
          refine opOk_call (f:=79) (args:=#[pruleVal (⟨pr,ts,fo,bd,vs⟩:Sc.Rule) (.slice at_ ts.length ct) (.slice ab bd.length cb)]) (wanted_none rfl) ?_ ?_
          · have ef:∀ f,a.eval (.func f)=.func (.func f) #[] #[]:=fun _=>rfl
            generalize a.eval=ev at *
            clear h
            go_simp
          · have hwy:=HBQ.out.trans (h.below.mono HBQ.out.size)
            refine Calls.mono (copied_any (⟨pr,ts,fo,bd,vs⟩:Sc.Rule) _ _ y (ptermsV_below HTV.out hwy) (plitsV_below HLV.out hwy) (Nat.le_trans HTM.out.1 (by decide)) HRI.out.hl (fun x hx=>Nat.le_trans (HTM.out.2 x hx) (by decide))) ?_
            rintro _ y2 ⟨ut,ub,lq,rfl,hlq,hut,hub,hb9⟩
            exact ⟨_,rfl,fun t ht=>by cases ht; exact ⟨ut,ub,rfl,hut,lq,hlq,hub⟩,hb9⟩
        refine AllOps.cons (fun a y h=>?_) ?_
        · obtain ⟨ut,ub,e43,hut,lq,hlq,hub⟩:∃ ut ub,a.eval (.tmp 43)=pruleVal (⟨pr,ts,fo,bd,vs⟩:Sc.Rule) ut ub∧OwnR y ((⟨pr,ts,fo,bd,vs⟩:Sc.Rule),(ut,ub)):=h.of 43 (by kernel_rfl)
          have hut:TermsO y ut ts:=hut
          have hub:LitsO y ub lq:=hub
          obtain ⟨xa,xc,rfl⟩:=own_slice hut
          obtain ⟨ya,yc,rfl⟩:=own_slice hub.1
          have hor:OwnR (y.alloc (.cells #[.int .i64 pr,.slice xa ts.length xc,.int .i64 fo,.slice ya lq.length yc,.int .i64 vs] 40)) ((⟨pr,ts,fo,bd,vs⟩:Sc.Rule),(.slice xa ts.length xc,.slice ya lq.length yc)):=OwnR.keep ⟨hut,lq,hlq,hub⟩ (KeepT.of_below ((Below.refl _ _).alloc (Nat.le_refl _) _))
          refine opOk_val (v:=.slice (some ⟨y.heap.size,0,none⟩) 1 1) (w':=y.alloc (.cells #[.int .i64 pr,.slice xa ts.length xc,.int .i64 fo,.slice ya lq.length yc,.int .i64 vs] 40)) (wanted_none rfl) ?_ (fun t ht=>by cases ht; exact ⟨_,_,_,rfl,heap_alloc_new y _,⟨_,_,_,rfl⟩,⟨_,_,_,rfl⟩,hor⟩) ((Below.refl _ _).alloc (Nat.le_refl _) _)
          generalize a.eval=ev at *
          clear h hut hub hor hlq
          go_simp
        exact AllOps.nil
       case htail9 =>
        rintro ⟨tm0,df⟩ y hI
        have e41:Act.eval ⟨tm0,df⟩ (.tmp 41)=(.slice au q.length cu):=hI.all 1 _ 41 (by decide) rfl rfl
        obtain ⟨b',ut,ub,e44,hb',⟨xa,xn,xc,rfl⟩,⟨ya,yn,yc,rfl⟩,hor⟩:∃ b' ut ub,Act.eval ⟨tm0,df⟩ (.tmp 44)=.slice (some ⟨b',0,none⟩) 1 1∧y.heap[b']?=some (.cells #[.int .i64 pr,ut,.int .i64 fo,ub,.int .i64 vs] 40)∧(∃ a n c,ut=.slice a n c)∧(∃ a n c,ub=.slice a n c)∧OwnR y ((⟨pr,ts,fo,bd,vs⟩:Sc.Rule),(ut,ub)):=hI.all 4 _ 44 (by decide) rfl rfl
        have e8:Act.eval ⟨tm0,df⟩ (.tmp 8)=.pointer (some ⟨FB,0,none⟩):=hI.still 8 (by decide)
        have hoy:=ownsRow_below HOq.out hI.below
        have hFy:=(hI.below.block _ (Array.getElem?_eq_some_iff.mp HFq.out).1).trans HFq.out
        have hby:Below w2.heap.size w2 y:=HB2.out.trans (hI.below.mono HB2.out.size)
        have hszF:FB+1≤y.heap.size:=(Array.getElem?_eq_some_iff.mp hFy).1
        show wpOps Tryz.prog _ _ [5,6,7] _ _
        rw [wpOps_cons]
        refine wpOp_wp rfl (wanted_none rfl) (wp_append_own y (.tmp 41) (.tmp 44) 24 rfl (FB+1) 40 i0 _ 5 72 Tryz.underlying24 hi hz0 hz1 hz2 rfl (by decide) (.slice au q.length cu) q.length (rCells q) e41 hoy ⟨b',0,none⟩ 1 1 (#[.int .i64 pr,(.slice xa xn xc),.int .i64 fo,(.slice ya yn yc),.int .i64 vs]).toList e44 rfl (row_news hb') ?h1 ?h63 ?hby hszF ?_)
        case h1 =>
         intro u hu
         simp only [List.mem_cons,List.not_mem_nil,or_false] at hu
         rcases hu with rfl | rfl | rfl | rfl | rfl <;> rfl
        case h63=>unfold maxLen; omega
        case hby=>omega
        intro v9 w9 ho9 hg9 _
        obtain ⟨av,cv,rfl⟩:=own_slice ho9
        have hown9:∀ k,((.slice au q.length cu):Value).ownBlock=some k→FB+1≤k:=fun k hk=>(hoy.lt k hk).1
        have hF9:w9.heap[FB]?=some (.cells #[.slice ia p.arity.length ic,.slice sa p.names.length sc,(.slice au q.length cu)] 26):=(hg9.block FB (Array.getElem?_eq_some_iff.mp hFy).1 (fun e=>by have:=hown9 FB e.symm; omega)).trans hFy
        have hb9:Below w2.heap.size w2 w9:=hby.grown hg9 hby.size (fun k hk=>by have:=hown9 k hk; omega)
        have hs49:tm0.size=49:=hI.size
        rw [wpOps_cons]
        refine wpOp_val (v:=(.pointer (some ⟨FB,2,none⟩))) (w':=w9) rfl (wanted_none rfl) ?_ ?_
        · have e8':Act.eval (Act.put ⟨tm0,df⟩ (some 45) (.slice av (q.length+1) cv)) (.tmp 8)=.pointer (some ⟨FB,0,none⟩):=(put_get_ne (a:=⟨tm0,df⟩) (t:=45) (u:=8) (by decide)).trans e8
          show Sem.run Tryz.prog (execOp (Act.eval (Act.put ⟨tm0,df⟩ (some 45) (.slice av (q.length+1) cv))) _) w9=_
          generalize Act.eval (Act.put ⟨tm0,df⟩ (some 45) (.slice av (q.length+1) cv))=ev at *
          clear hI hor
          go_simp
        have e46:Act.eval (Act.put (Act.put ⟨tm0,df⟩ (some 45) (.slice av (q.length+1) cv)) (some 46) (.pointer (some ⟨FB,2,none⟩))) (.tmp 46)=(.pointer (some ⟨FB,2,none⟩)):=put_get_self (by rw [put_size]; show 46<tm0.size; omega)
        have e45:Act.eval (Act.put (Act.put ⟨tm0,df⟩ (some 45) (.slice av (q.length+1) cv)) (some 46) (.pointer (some ⟨FB,2,none⟩))) (.tmp 45)=(.slice av (q.length+1) cv):=(put_get_ne (by decide)).trans (put_get_self (by show 45<tm0.size; omega))
        have cF9:w9.cell? ⟨FB,2,none⟩=some (.slice au q.length cu):=by rw [Lib.cell_of_heap hF9]; rfl
        have fF9:=Lib.frozen_of_heap hF9 2
        rw [wpOps_cons]
        refine wpOp_void rfl (wanted_none rfl) rfl (w':=(w9.setCell ⟨FB,2,none⟩ (.slice av (q.length+1) cv))) ?_ ?_
        · show Sem.run Tryz.prog (execOp (Act.eval (Act.put (Act.put ⟨tm0,df⟩ (some 45) (.slice av (q.length+1) cv)) (some 46) (.pointer (some ⟨FB,2,none⟩)))) _) w9=_
          generalize Act.eval (Act.put (Act.put ⟨tm0,df⟩ (some 45) (.slice av (q.length+1) cv)) (some 46) (.pointer (some ⟨FB,2,none⟩)))=ev at *
          clear hI hor
          go_simp
        have ot:∀ (e:TypeId),e≠26→e≠40→∀ (k:Nat) (a:Array Value),y.heap[k]?=some (.cells a e)→(w9.setCell ⟨FB,2,none⟩ (.slice av (q.length+1) cv)).heap[k]?=some (.cells a e):=fun e he he2 k a ha=>by
         have hk:¬ k=FB:=fun hk=>by rw [hk,hFy] at ha; injection ha with ha; injection ha with _ ha _; exact he ha.symm
         rw [heap_set_other hk]
         exact (hg9.block k (Array.getElem?_eq_some_iff.mp ha).1 (fun e9=>he2 (own_ty hoy e9.symm ha))).trans ha
        have hkt:KeepT y (w9.setCell ⟨FB,2,none⟩ (.slice av (q.length+1) cv)):=fun k a t ha ht=>ot t (by rcases ht with rfl | rfl <;> decide) (by rcases ht with rfl | rfl <;> decide) k a ha
        have HN:Hid (∃ q':List Rv,q'.length=q.length+1∧(w9.setCell ⟨FB,2,none⟩ (.slice av (q.length+1) cv)).heap[FB]?=some (.cells #[.slice ia p.arity.length ic,.slice sa p.names.length sc,(.slice av (q.length+1) cv)] 26)∧(w9.setCell ⟨FB,2,none⟩ (.slice av (q.length+1) cv)).ownsRow (FB+1) 40 5 (.slice av (q.length+1) cv) q'.length (rCells q')∧q'.map (·.1)=q.map (·.1)++[(⟨pr,ts,fo,bd,vs⟩:Sc.Rule)]∧(∀ x,x∈q'→OwnR (w9.setCell ⟨FB,2,none⟩ (.slice av (q.length+1) cv)) x)∧Ow3 (w9.setCell ⟨FB,2,none⟩ (.slice av (q.length+1) cv)) (.slice ia p.arity.length ic) p.arity∧Ow9 (w9.setCell ⟨FB,2,none⟩ (.slice av (q.length+1) cv)) (.slice sa p.names.length sc) p.names∧Below w2.heap.size w2 (w9.setCell ⟨FB,2,none⟩ (.slice av (q.length+1) cv))):=by
         refine ⟨q++[((⟨pr,ts,fo,bd,vs⟩:Sc.Rule),((.slice xa xn xc),(.slice ya yn yc)))],by simp,?_,?_,by simp,fun x hx=>?_,own_type (ownsRow_below HI3q.out hI.below) (ot 3 (by decide) (by decide)),own_type (ownsRow_below HI9q.out hI.below) (ot 9 (by decide) (by decide)),hb9.setCell (p:=⟨FB,2,none⟩) hF0 _⟩
         · rw [Lib.heap_setCell_same hF9]; rfl
         · refine rl_own_alone ?_ (fun g hg=>heap_set_other (fun e=>?_)) (w:=w9)
           · rw [List.length_append]
             show w9.ownsRow (FB+1) 40 5 (.slice av (q.length+1) cv) (q.length+1) (rCells (q++[((⟨pr,ts,fo,bd,vs⟩:Sc.Rule),((.slice xa xn xc),(.slice ya yn yc)))]))
             rw [show rCells (q++[((⟨pr,ts,fo,bd,vs⟩:Sc.Rule),((.slice xa xn xc),(.slice ya yn yc)))])=rCells q++rvCells ((⟨pr,ts,fo,bd,vs⟩:Sc.Rule),((.slice xa xn xc),(.slice ya yn yc))) by simp [rCells]]
             exact ho9
           · have:=(ho9.lt g hg).1
             omega
         · rcases List.mem_append.mp hx with h | h
           · exact ((HQVq.out x h).keep (KeepT.of_below hI.below)).keep hkt
           · rw [List.mem_singleton.mp h]
             exact hor.keep hkt
        have hst:∀ t,t∉[40,41,42,43,44,45,46]→((tm0.setIfInBounds 45 (.slice av (q.length+1) cv)).setIfInBounds 46 (.pointer (some ⟨FB,2,none⟩))).getD t undef=_:=fun t ht=>by
         have h46:t≠46:=fun e=>ht (by rw [e]; decide)
         have h45:t≠45:=fun e=>ht (by rw [e]; decide)
         exact ((put_get_ne (a:=(Act.put ⟨tm0,df⟩ (some 45) (.slice av (q.length+1) cv))) h46).trans (put_get_ne (a:=⟨tm0,df⟩) h45)).trans (hI.still t ht)
        obtain rfl:df=[]:=hI.defers
        clear hI e41 e44 hb' hor e8 hoy hFy hby hszF ho9 hg9 hown9 hF9 hb9 e46 e45 cF9 fF9 ot hkt
        generalize (w9.setCell ⟨FB,2,none⟩ (.slice av (q.length+1) cv))=y9 at *
        have hs2:((tm0.setIfInBounds 45 (.slice av (q.length+1) cv)).setIfInBounds 46 (.pointer (some ⟨FB,2,none⟩))).size=49:=by simp [hs49]
        show Exit.inBlock 1 (Exit.then _ _) Exit.normal ⟨(tm0.setIfInBounds 45 (.slice av (q.length+1) cv)).setIfInBounds 46 (.pointer (some ⟨FB,2,none⟩)),[]⟩ y9
        generalize (tm0.setIfInBounds 45 (.slice av (q.length+1) cv)).setIfInBounds 46 (.pointer (some ⟨FB,2,none⟩))=tm at *
        have hF8:=tmps_fold [40,41,42,43,44,45,46] tm _ (hs2.trans (by rfl)) hst
        clear hs2 hst hs49
        simp only [List.foldl_cons,List.foldl_nil] at hF8
        generalize tm.getD 40 undef=x40 at hF8
        generalize tm.getD 41 undef=x41 at hF8
        generalize tm.getD 42 undef=x42 at hF8
        generalize tm.getD 43 undef=x43 at hF8
        generalize tm.getD 44 undef=x44 at hF8
        generalize tm.getD 45 undef=x45 at hF8
        generalize tm.getD 46 undef=x46 at hF8
        simp only [List.setIfInBounds_toArray,List.set_cons_zero,List.set_cons_succ] at hF8
        subst hF8
        clear r0 r1 r2 r3 r4 cF2
        go_wp2_with fail
        go_roundw
        case rel =>
         obtain ⟨q',h1,h2,h3,h4,h5,h6,h7,h8⟩:=HN.out
         exact ⟨k+1,q',_,hlt,by go_num,by omega,h2,h3,by rw [h4,HQM.out,HFI.out]; rfl,h5,h6,h7,h8⟩
        case measure=>simp [intOf]; omega
     · obtain rfl:k=p.rules.length:=by omega
       have g0:wr.cell? ⟨FB,0,none⟩=some (.slice ia p.arity.length ic):=by rw [Lib.cell_of_heap HF.out]; rfl
       have g1:wr.cell? ⟨FB,1,none⟩=some (.slice sa p.names.length sc):=by rw [Lib.cell_of_heap HF.out]; rfl
       have g2:wr.cell? ⟨FB,2,none⟩=some (.slice au q.length cu):=by rw [Lib.cell_of_heap HF.out]; rfl
       have k0:=HZR.out
       have z0:wr.cell? ⟨w.heap.size+1,0,none⟩=some (.slice none 0 0):=by rw [Lib.cell_of_heap k0]; rfl
       have y0:=Lib.frozen_of_heap k0 0
       have k1:(wr.setCell ⟨w.heap.size+1,0,none⟩ (.slice ia p.arity.length ic)).heap[w.heap.size+1]?=some (.cells #[.slice ia p.arity.length ic,.slice none 0 0,.slice none 0 0] 26):=by rw [Lib.heap_setCell_same k0]; rfl
       have z1:(wr.setCell ⟨w.heap.size+1,0,none⟩ (.slice ia p.arity.length ic)).cell? ⟨w.heap.size+1,1,none⟩=some (.slice none 0 0):=by rw [Lib.cell_of_heap k1]; rfl
       have y1:=Lib.frozen_of_heap k1 1
       have k2:((wr.setCell ⟨w.heap.size+1,0,none⟩ (.slice ia p.arity.length ic)).setCell ⟨w.heap.size+1,1,none⟩ (.slice sa p.names.length sc)).heap[w.heap.size+1]?=some (.cells #[.slice ia p.arity.length ic,.slice sa p.names.length sc,.slice none 0 0] 26):=by rw [Lib.heap_setCell_same k1]; rfl
       have z2:((wr.setCell ⟨w.heap.size+1,0,none⟩ (.slice ia p.arity.length ic)).setCell ⟨w.heap.size+1,1,none⟩ (.slice sa p.names.length sc)).cell? ⟨w.heap.size+1,2,none⟩=some (.slice none 0 0):=by rw [Lib.cell_of_heap k2]; rfl
       have y2:=Lib.frozen_of_heap k2 2
       have k3:(((wr.setCell ⟨w.heap.size+1,0,none⟩ (.slice ia p.arity.length ic)).setCell ⟨w.heap.size+1,1,none⟩ (.slice sa p.names.length sc)).setCell ⟨w.heap.size+1,2,none⟩ (.slice au q.length cu)).heap[w.heap.size+1]?=some (.cells #[.slice ia p.arity.length ic,.slice sa p.names.length sc,.slice au q.length cu] 26):=by rw [Lib.heap_setCell_same k2]; rfl
       have d0:(((wr.setCell ⟨w.heap.size+1,0,none⟩ (.slice ia p.arity.length ic)).setCell ⟨w.heap.size+1,1,none⟩ (.slice sa p.names.length sc)).setCell ⟨w.heap.size+1,2,none⟩ (.slice au q.length cu)).cell? ⟨w.heap.size+1,0,none⟩=some (.slice ia p.arity.length ic):=by rw [Lib.cell_of_heap k3]; rfl
       have d1:(((wr.setCell ⟨w.heap.size+1,0,none⟩ (.slice ia p.arity.length ic)).setCell ⟨w.heap.size+1,1,none⟩ (.slice sa p.names.length sc)).setCell ⟨w.heap.size+1,2,none⟩ (.slice au q.length cu)).cell? ⟨w.heap.size+1,1,none⟩=some (.slice sa p.names.length sc):=by rw [Lib.cell_of_heap k3]; rfl
       have d2:(((wr.setCell ⟨w.heap.size+1,0,none⟩ (.slice ia p.arity.length ic)).setCell ⟨w.heap.size+1,1,none⟩ (.slice sa p.names.length sc)).setCell ⟨w.heap.size+1,2,none⟩ (.slice au q.length cu)).cell? ⟨w.heap.size+1,2,none⟩=some (.slice au q.length cu):=by rw [Lib.cell_of_heap k3]; rfl
       have HBB:Hid (Below w.heap.size w (((wr.setCell ⟨w.heap.size+1,0,none⟩ (.slice ia p.arity.length ic)).setCell ⟨w.heap.size+1,1,none⟩ (.slice sa p.names.length sc)).setCell ⟨w.heap.size+1,2,none⟩ (.slice au q.length cu))):=(((HBW.out.setCell (p:=⟨w.heap.size+1,0,none⟩) (Nat.le_succ _) (.slice ia p.arity.length ic)).setCell (p:=⟨w.heap.size+1,1,none⟩) (Nat.le_succ _) (.slice sa p.names.length sc)).setCell (p:=⟨w.heap.size+1,2,none⟩) (Nat.le_succ _) (.slice au q.length cu))
       have hZw:=(Array.getElem?_eq_some_iff.mp HZ2.out).1
       have ot:∀ (e:TypeId),e≠26→∀ (k:Nat) (a:Array Value),wr.heap[k]?=some (.cells a e)→(((wr.setCell ⟨w.heap.size+1,0,none⟩ (.slice ia p.arity.length ic)).setCell ⟨w.heap.size+1,1,none⟩ (.slice sa p.names.length sc)).setCell ⟨w.heap.size+1,2,none⟩ (.slice au q.length cu)).heap[k]?=some (.cells a e):=fun e he k a ha=>by
        have hk:¬ k=w.heap.size+1:=fun hk=>by rw [hk,HZR.out] at ha; injection ha with ha; injection ha with _ ha _; exact he ha.symm
        rw [heap_set_other hk,heap_set_other hk,heap_set_other hk]
        exact ha
       have HPV:Hid (ProgV (((wr.setCell ⟨w.heap.size+1,0,none⟩ (.slice ia p.arity.length ic)).setCell ⟨w.heap.size+1,1,none⟩ (.slice sa p.names.length sc)).setCell ⟨w.heap.size+1,2,none⟩ (.slice au q.length cu)) (.slice ia p.arity.length ic) (.slice sa p.names.length sc) (.slice au q.length cu) (St.focus p q0)):=by
        refine ⟨own_ints (own_type HI3.out (ot 3 (by decide))),own_strs (own_type HI9.out (ot 9 (by decide))),?_⟩
        have h9:=rules_toV (own_type HO.out (ot 40 (by decide))) (fun x hx=>OwnR.toV (OwnR.keep (HQV.out x hx) (fun k a t ha ht=>ot t (by rcases ht with rfl | rfl <;> decide) k a ha)))
        rw [HQM.out,List.take_length] at h9
        exact h9
       clear k0 k1 k2 k3 ot hZw
       go_wp2_with fail
       refine bodyPost_ret (v:=.tuple #[progVal (.slice ia p.arity.length ic) (.slice sa p.names.length sc) (.slice au q.length cu),.int .i64 0]) (by simp [results,Tryz.results37,go_sem,d0,d1,d2]) rfl ⟨_,_,_,by rw [HNE.out],?_,HBB.out⟩
       rw [HFO.out]
       exact HPV.out
 · have hnd:(St.needErr p pd==0)=false:=by simp [hne]
   have HFO:Hid (St.focOut p pd=⟨[],[],[]⟩):=by show _=_; unfold St.focOut; rw [if_neg hne]
   have k0:=hZ2
   have z0:w2.cell? ⟨w.heap.size+1,0,none⟩=some (.slice none 0 0):=by rw [Lib.cell_of_heap k0]; rfl
   have y0:=Lib.frozen_of_heap k0 0
   have k1:(w2.setCell ⟨w.heap.size+1,0,none⟩ (.slice none 0 0)).heap[w.heap.size+1]?=some (.cells #[.slice none 0 0,.slice none 0 0,.slice none 0 0] 26):=by rw [Lib.heap_setCell_same k0]; rfl
   have z1:(w2.setCell ⟨w.heap.size+1,0,none⟩ (.slice none 0 0)).cell? ⟨w.heap.size+1,1,none⟩=some (.slice none 0 0):=by rw [Lib.cell_of_heap k1]; rfl
   have y1:=Lib.frozen_of_heap k1 1
   have k2:((w2.setCell ⟨w.heap.size+1,0,none⟩ (.slice none 0 0)).setCell ⟨w.heap.size+1,1,none⟩ (.slice none 0 0)).heap[w.heap.size+1]?=some (.cells #[.slice none 0 0,.slice none 0 0,.slice none 0 0] 26):=by rw [Lib.heap_setCell_same k1]; rfl
   have z2:((w2.setCell ⟨w.heap.size+1,0,none⟩ (.slice none 0 0)).setCell ⟨w.heap.size+1,1,none⟩ (.slice none 0 0)).cell? ⟨w.heap.size+1,2,none⟩=some (.slice none 0 0):=by rw [Lib.cell_of_heap k2]; rfl
   have y2:=Lib.frozen_of_heap k2 2
   have k3:(((w2.setCell ⟨w.heap.size+1,0,none⟩ (.slice none 0 0)).setCell ⟨w.heap.size+1,1,none⟩ (.slice none 0 0)).setCell ⟨w.heap.size+1,2,none⟩ (.slice none 0 0)).heap[w.heap.size+1]?=some (.cells #[.slice none 0 0,.slice none 0 0,.slice none 0 0] 26):=by rw [Lib.heap_setCell_same k2]; rfl
   have d0:(((w2.setCell ⟨w.heap.size+1,0,none⟩ (.slice none 0 0)).setCell ⟨w.heap.size+1,1,none⟩ (.slice none 0 0)).setCell ⟨w.heap.size+1,2,none⟩ (.slice none 0 0)).cell? ⟨w.heap.size+1,0,none⟩=some (.slice none 0 0):=by rw [Lib.cell_of_heap k3]; rfl
   have d1:(((w2.setCell ⟨w.heap.size+1,0,none⟩ (.slice none 0 0)).setCell ⟨w.heap.size+1,1,none⟩ (.slice none 0 0)).setCell ⟨w.heap.size+1,2,none⟩ (.slice none 0 0)).cell? ⟨w.heap.size+1,1,none⟩=some (.slice none 0 0):=by rw [Lib.cell_of_heap k3]; rfl
   have d2:(((w2.setCell ⟨w.heap.size+1,0,none⟩ (.slice none 0 0)).setCell ⟨w.heap.size+1,1,none⟩ (.slice none 0 0)).setCell ⟨w.heap.size+1,2,none⟩ (.slice none 0 0)).cell? ⟨w.heap.size+1,2,none⟩=some (.slice none 0 0):=by rw [Lib.cell_of_heap k3]; rfl
   have HBB:Hid (Below w.heap.size w (((w2.setCell ⟨w.heap.size+1,0,none⟩ (.slice none 0 0)).setCell ⟨w.heap.size+1,1,none⟩ (.slice none 0 0)).setCell ⟨w.heap.size+1,2,none⟩ (.slice none 0 0))):=(((hbw2.setCell (p:=⟨w.heap.size+1,0,none⟩) (Nat.le_succ _) (.slice none 0 0)).setCell (p:=⟨w.heap.size+1,1,none⟩) (Nat.le_succ _) (.slice none 0 0)).setCell (p:=⟨w.heap.size+1,2,none⟩) (Nat.le_succ _) (.slice none 0 0))
   clear k0 k1 k2 k3 hne
   go_wp2_with fail
   refine bodyPost_ret (v:=.tuple #[progVal (.slice none 0 0) (.slice none 0 0) (.slice none 0 0),.int .i64 (St.needErr p pd)]) (by simp [results,Tryz.results37,go_sem,d0,d1,d2]) rfl ⟨_,_,_,rfl,?_,HBB.out⟩
   rw [HFO.out]
   exact ⟨⟨none,0,rfl,.inl rfl⟩,⟨none,0,rfl,.inl rfl⟩,⟨none,0,rfl,.inl rfl⟩⟩
theorem isSo_any (op a b:Int) (w:World):Calls Tryz.prog 186 #[.int .i64 op,.int .i64 a,.int .i64 b] w fun e w'=>e=.returned (.bool (Ru.isSo op a b))∧w'=w:=by
 by_cases h1:op=1
 · subst h1
   go_enter Tryz.func186,Tryz.ntmps186
   go_wp2
   go_ret
   exact ⟨by unfold Ru.isSo; simp,rfl⟩
 · have g1:(op==1)=false:=by simpa using h1
   by_cases h2:op=2
   · subst h2
     clear h1 g1
     go_enter Tryz.func186,Tryz.ntmps186
     go_wp2
     go_ret
     exact ⟨by unfold Ru.isSo; simp,rfl⟩
   · have g2:(op==2)=false:=by simpa using h2
     by_cases h3:op=3
     · subst h3
       clear h1 g1 h2 g2
       go_enter Tryz.func186,Tryz.ntmps186
       go_wp2
       go_ret
       exact ⟨by unfold Ru.isSo; rw [if_neg (by decide),if_neg (by decide),if_pos rfl]; simp; rfl,rfl⟩
     · have g3:(op==3)=false:=by simpa using h3
       have HV:Hid (Ru.isSo op a b=decide (a≠b)):=by show _=_; unfold Ru.isSo; rw [if_neg h1,if_neg h2,if_neg h3]
       clear h1 h2 h3
       go_enter Tryz.func186,Tryz.ntmps186
       go_wp2
       go_ret
       exact ⟨by rw [HV.out]; simp [bne]; rfl,rfl⟩
theorem mul_small {a b:Int} (ha:-1000000≤a∧a≤1000000) (hb:-1000000≤b∧b≤1000000):-1000000000000≤a * b∧a * b≤1000000000000:=by
 have h1:(a * b).natAbs≤1000000 * 1000000:=by
  rw [Int.natAbs_mul]
  exact Nat.mul_le_mul (by omega) (by omega)
 omega
theorem reckoned_any (op a b:Int) (w:World) (ha:-1000000≤a∧a≤1000000) (hb:-1000000≤b∧b≤1000000):Calls Tryz.prog 188 #[.int .i64 op,.int .i64 a,.int .i64 b] w fun e w'=>e=.returned (.int .i64 (Ru.reck op a b))∧w'=w:=by
 obtain ⟨a1,a2⟩:=ha
 obtain ⟨b1,b2⟩:=hb
 by_cases h1:op=5
 · subst h1
   go_enter Tryz.func188,Tryz.ntmps188
   go_wp2
   go_ret
   exact ⟨by unfold Ru.reck; simp,rfl⟩
 · have g1:(op==5)=false:=by simpa using h1
   by_cases h2:op=6
   · subst h2
     clear h1 g1
     go_enter Tryz.func188,Tryz.ntmps188
     go_wp2
     go_ret
     exact ⟨by unfold Ru.reck; simp,rfl⟩
   · have g2:(op==6)=false:=by simpa using h2
     have HV:Hid (Ru.reck op a b=a * b):=by show _=_; unfold Ru.reck; rw [if_neg h1,if_neg h2]
     obtain ⟨m1,m2⟩:=mul_small ⟨a1,a2⟩ ⟨b1,b2⟩
     clear h1 h2
     go_enter Tryz.func188,Tryz.ntmps188
     go_wp2
     go_ret
     exact ⟨by rw [HV.out]; simp,rfl⟩
theorem isNum_any (n:Int) (w:World):Calls Tryz.prog 109 #[.int .i64 n] w fun e w'=>e=.returned (.bool (Sc.isNum n))∧w'=w:=by
 unfold Sc.isNum Tr.between
 by_cases h1:-1000000≤n
 · have g1:decide (-1000000≤n)=true:=decide_eq_true h1
   go_enter Tryz.func109,Tryz.ntmps109
   go_wp2
   go_ret
   exact ⟨by rw [g1]; rfl,rfl⟩
 · have g1:decide (-1000000≤n)=false:=decide_eq_false h1
   clear h1
   go_enter Tryz.func109,Tryz.ntmps109
   go_wp2
   go_ret
   exact ⟨by rw [g1]; rfl,rfl⟩
abbrev IRow (w:World) (B:Nat) (v:Value) (l:List Int):Prop:=w.ownsRow B 3 1 v l.length (l.map (Value.int .i64))
theorem IRow.ints {w:World} {B:Nat} {v:Value} {l:List Int} (h:IRow w B v l):IntsV w v l:=own_ints h
def fillFV (FB:Nat) (RV VX:Value) (t:Sc.Term) (n:Int) (tQ:Nat) (vQ:Value):Prop :=
 match tQ with
 | 18=>vQ=(.pointer (some ⟨FB,1,none⟩):Value)
 | 19=>vQ=(RV:Value)
 | 20=>vQ=(ptermVal t:Value)
 | 21=>vQ=(VX:Value)
 | 22=>vQ=(.int .i64 n:Value)
 | _=>True
def fillFT (FB:Nat) (RV VX:Value) (t:Sc.Term) (n:Int) (tQ:Nat) (vQ:Value) (WQ:World):Prop:=if tQ=23 then ∃ b',vQ=.slice (some ⟨b',0,none⟩) 1 1∧WQ.heap[b']?=some (.cells #[.int .i64 n] 3) else fillFV FB RV VX t n tQ vQ
theorem fillFT_mono (FB:Nat) (RV VX:Value) (t:Sc.Term) (n:Int) (tQ:Nat) (vQ:Value) (W W':World) (hb:Below W.heap.size W W') (h:fillFT FB RV VX t n tQ vQ W):fillFT FB RV VX t n tQ vQ W':=by
 unfold fillFT at h ⊢
 by_cases ht:tQ=23
 · rw [if_pos ht] at h ⊢
   obtain ⟨b',h1,h2⟩:=h
   exact ⟨b',h1,(hb.block b' (Array.getElem?_eq_some_iff.mp h2).1).trans h2⟩
 · rw [if_neg ht] at h ⊢
   exact h
theorem FillFact_any (pd:Int) (ts:List Sc.Term) (x:List Int) (vt vx:Value) (w:World) (hT:PTermsV w vt ts) (hX:IntsV w vx x) (hl:ts.length≤1000000) (hI:Ru.TermsIn x.length ts) :
 Calls Tryz.prog 57 #[.int .i64 pd,vt,vx] w fun e w'=>∃ v,e=.returned (.agg #[.int .i64 pd,v])∧IRow w' w.heap.size v (Ru.fill ts x)∧Below w.heap.size w w':=by
 obtain ⟨i0,hi,hz0,hz1,hz2⟩:=info_parts rl_info3
 obtain ⟨at_,ct,rfl,_,hT⟩:=hT
 obtain ⟨ax,cx,rfl,_⟩:=id hX
 have HT:Hid _:=hT
 have HX:Hid _:=hX
 have HTI:Hid _:=hI
 obtain ⟨h0,h1,hb⟩:=ru_two w (.cells #[.int .i64 0,.slice none 0 0] 55) (.cells #[.int .i64 pd,.slice none 0 0] 55)
 have H0:Hid _:=h0
 have H1:Hid _:=h1
 have HB:Hid _:=hb
 clear hT hX hI h0 h1 hb
 go_enter Tryz.func57,Tryz.ntmps57
 go_wp2_with fail
 generalize (w.alloc (.cells #[.int .i64 0,.slice none 0 0] 55)).alloc (.cells #[.int .i64 pd,.slice none 0 0] 55)=w1 at *
 go_loopw [14] (fun i wr=>∃ k:Nat,k≤ts.length∧i=.int .i64 k∧∃ vs:Value,wr.heap[w.heap.size]?=some (.cells #[.int .i64 0,.slice none 0 0] 55)∧wr.heap[w.heap.size+1]?=some (.cells #[.int .i64 pd,vs] 55)∧wr.ownsRow (w.heap.size+2) 3 1 vs k ((Ru.fill (ts.take k) x).map (Value.int .i64))∧Below w.heap.size w wr) (fun i _=>ts.length - (intOf i).toNat)
 case atStart=>exact ⟨0,Nat.zero_le _,rfl,_,H0.out,H1.out,World.ownsRow_nil _ _ _ _,HB.out⟩
 case round =>
  clear H0 H1 HB
  obtain ⟨k,hk,rfl,vs,h0,h1,ho,hb⟩:=hrel
  obtain ⟨au,cu,rfl⟩:=own_slice ho
  have HZ:Hid _:=h0
  have HF:Hid _:=h1
  have HO:Hid _:=ho
  have HB:Hid _:=hb
  clear h0 h1 ho hb
  by_cases hlt:k<ts.length
  · obtain ⟨b,off,rfl,hc⟩:=pterms_at HT.out k hlt
    have hc:=hc k hlt
    have q0:=cell_below HB.out hc.1
    have q1:=cell_below HB.out hc.2
    have HTK:Hid (Ru.fill (ts.take (k+1)) x=Ru.fill (ts.take k) x++[Ru.num x (Sc.termD ts k)]):=by
     show _=_
     unfold Ru.fill
     rw [List.take_add_one,List.map_append]
     congr 1
     unfold Sc.termD
     rw [List.getD_eq_getElem?_getD,List.getElem?_eq_getElem hlt]
     rfl
    have HTI2:Hid (Ru.TermIn x.length (Sc.termD ts k)):=HTI.out _ (Ru.termD_mem hlt)
    clear hc
    generalize Sc.termD ts k=t at *
    go_upto_region 5 with fail
    have bT:=(Below.refl wr.heap.size wr).alloc (Nat.le_refl _) (.cells #[.int .i64 t.var,.int .i64 t.n] 147)
    have hTB:=heap_alloc_new wr (.cells #[.int .i64 t.var,.int .i64 t.n] 147)
    have t0:(wr.alloc (.cells #[.int .i64 t.var,.int .i64 t.n] 147)).cell? ⟨wr.heap.size,0,none⟩=some (.int .i64 t.var):=by rw [Lib.cell_of_heap hTB]; rfl
    have t1:(wr.alloc (.cells #[.int .i64 t.var,.int .i64 t.n] 147)).cell? ⟨wr.heap.size,1,none⟩=some (.int .i64 t.n):=by rw [Lib.cell_of_heap hTB]; rfl
    have HZq:Hid _:=(bT.block _ (heap_lt HZ.out)).trans HZ.out
    have HFq:Hid _:=(bT.block _ (heap_lt HF.out)).trans HF.out
    have HOq:Hid _:=ownsRow_below HO.out bT
    have HBq:Hid _:=HB.out.trans (bT.mono HB.out.size)
    have HXq:Hid _:=intsV_below HX.out HBq.out
    clear q0 q1 bT hTB HZ HF HO HB
    generalize wr.alloc (.cells #[.int .i64 t.var,.int .i64 t.n] 147)=wq at *
    generalize wr.heap.size=TB at *
    have cF1:wq.cell? ⟨w.heap.size+1,1,none⟩=some (.slice au k cu):=by rw [Lib.cell_of_heap HFq.out]; rfl
    refine wp_region_tail (fillFT (w.heap.size+1) (.slice au k cu) (.slice ax x.length cx) t (Ru.num x t)) 6 (by decide) (by kernel_rfl) (by kernel_rfl) (by kernel_rfl) (fillFT_mono (w.heap.size+1) (.slice au k cu) (.slice ax x.length cx) t (Ru.num x t)) ?hop ?htail
    case hop =>
     refine AllOps.cons (fun a y h=>?_) ?_
     · have e7:a.eval (.tmp 7)=(.pointer (some ⟨w.heap.size+1,0,none⟩):Value):=h.old 7 (by kernel_rfl)
       refine opOk_val (v:=.pointer (some ⟨w.heap.size+1,1,none⟩)) (w':=y) (wanted_none rfl) ?_ (fun t ht=>by cases ht; exact rfl) (Below.refl _ _)
       have ec:∀ v,a.eval (.const v)=v:=fun _=>rfl
       generalize a.eval=ev at *
       clear h
       go_simp
     refine AllOps.cons (fun a y h=>?_) ?_
     · have e18:a.eval (.tmp 18)=(.pointer (some ⟨w.heap.size+1,1,none⟩):Value):=h.of 18 (by kernel_rfl)
       have cF:=cell_below h.below cF1
       refine opOk_val (v:=.slice au k cu) (w':=y) (wanted_none rfl) ?_ (fun t ht=>by cases ht; exact rfl) (Below.refl _ _)
       have ec:∀ v,a.eval (.const v)=v:=fun _=>rfl
       generalize a.eval=ev at *
       clear h
       go_simp
     refine AllOps.cons (fun a y h=>?_) ?_
     · have e9:a.eval (.tmp 9)=(.pointer (some ⟨TB,0,none⟩):Value):=h.old 9 (by kernel_rfl)
       have c0:=cell_below h.below t0
       have c1:=cell_below h.below t1
       refine opOk_val (v:=ptermVal t) (w':=y) (wanted_none rfl) ?_ (fun t ht=>by cases ht; exact rfl) (Below.refl _ _)
       have ec:∀ v,a.eval (.const v)=v:=fun _=>rfl
       generalize a.eval=ev at *
       clear h
       go_simp
     refine AllOps.cons (fun a y h=>?_) ?_
     · have e2:a.eval (.tmp 2)=(.slice ax x.length cx:Value):=h.old 2 (by kernel_rfl)
       refine opOk_val (v:=.slice ax x.length cx) (w':=y) (wanted_none rfl) ?_ (fun t ht=>by cases ht; exact rfl) (Below.refl _ _)
       have ec:∀ v,a.eval (.const v)=v:=fun _=>rfl
       generalize a.eval=ev at *
       clear h
       go_simp
     refine AllOps.cons (fun a y h=>?_) ?_
     · have e20:a.eval (.tmp 20)=(ptermVal t:Value):=h.of 20 (by kernel_rfl)
       have e21:a.eval (.tmp 21)=(.slice ax x.length cx:Value):=h.of 21 (by kernel_rfl)
       refine opOk_call (f:=105) (args:=#[ptermVal t,.slice ax x.length cx]) (wanted_none rfl) ?_ ?_
       · have ec:∀ v,a.eval (.const v)=v:=fun _=>rfl
         have ef:∀ f,a.eval (.func f)=.func (.func f) #[] #[]:=fun _=>rfl
         generalize a.eval=ev at *
         clear h
         go_simp
       · refine Calls.mono (Number_any t x _ y (intsV_below HXq.out h.below) HTI2.out) ?_
         rintro _ y2 ⟨rfl,hb2⟩
         exact ⟨_,rfl,fun t ht=>by cases ht; exact rfl,hb2⟩
     refine AllOps.cons (fun a y h=>?_) ?_
     · have e22:a.eval (.tmp 22)=(.int .i64 (Ru.num x t):Value):=h.of 22 (by kernel_rfl)
       refine opOk_val (v:=.slice (some ⟨y.heap.size,0,none⟩) 1 1) (w':=y.alloc (.cells #[.int .i64 (Ru.num x t)] 3)) (wanted_none rfl) ?_ (fun t ht=>by cases ht; exact ⟨_,rfl,heap_alloc_new y _⟩) ((Below.refl _ _).alloc (Nat.le_refl _) _)
       have ec:∀ v,a.eval (.const v)=v:=fun _=>rfl
       generalize a.eval=ev at *
       clear h
       go_simp
     exact AllOps.nil
    case htail =>
     rintro ⟨tm0,df⟩ y hI
     have e19:Act.eval ⟨tm0,df⟩ (.tmp 19)=(.slice au k cu):=hI.all 1 _ 19 (by decide) rfl rfl
     obtain ⟨b',e23,hb'⟩:∃ b',Act.eval ⟨tm0,df⟩ (.tmp 23)=.slice (some ⟨b',0,none⟩) 1 1∧y.heap[b']?=some (.cells #[.int .i64 (Ru.num x t)] 3):=hI.all 5 _ 23 (by decide) rfl rfl
     have e7:Act.eval ⟨tm0,df⟩ (.tmp 7)=.pointer (some ⟨w.heap.size+1,0,none⟩):=hI.still 7 (by decide)
     have hoy:=ownsRow_below HOq.out hI.below
     have hFy:=(hI.below.block _ (Array.getElem?_eq_some_iff.mp HFq.out).1).trans HFq.out
     have hby:Below w.heap.size w y:=HBq.out.trans (hI.below.mono HBq.out.size)
     have hszF:w.heap.size+2≤y.heap.size:=(Array.getElem?_eq_some_iff.mp hFy).1
     show wpOps Tryz.prog _ _ [6,7,8] _ _
     rw [wpOps_cons]
     refine wpOp_wp rfl (wanted_none rfl) (wp_append_own y (.tmp 19) (.tmp 23) 22 rfl (w.heap.size+2) 3 i0 _ 1 8 Tryz.underlying22 hi hz0 hz1 hz2 rfl (by decide) (.slice au k cu) k ((Ru.fill (ts.take k) x).map (Value.int .i64)) e19 hoy ⟨b',0,none⟩ 1 1 (#[.int .i64 (Ru.num x t)]:Array Value).toList e23 rfl (row_news hb') ?h1 ?h63 ?hby hszF ?_)
     case h1 =>
      intro u hu
      simp only [List.mem_cons,List.not_mem_nil,or_false] at hu
      subst hu; rfl
     case h63=>unfold maxLen; omega
     case hby=>omega
     intro v9 w9 ho9 hg9 _
     obtain ⟨av,cv,rfl⟩:=own_slice ho9
     have hown9:∀ kQ,((.slice au k cu):Value).ownBlock=some kQ→w.heap.size+2≤kQ:=fun kQ hk=>(hoy.lt kQ hk).1
     have hF9:w9.heap[w.heap.size+1]?=some (.cells #[.int .i64 pd,.slice au k cu] 55):=(hg9.block (w.heap.size+1) (Array.getElem?_eq_some_iff.mp hFy).1 (fun e=>by have:=hown9 (w.heap.size+1) e.symm; omega)).trans hFy
     have hb9:Below w.heap.size w w9:=hby.grown hg9 hby.size (fun kQ hk=>by have:=hown9 kQ hk; omega)
     rw [wpOps_cons]
     refine wpOp_val (v:=.pointer (some ⟨w.heap.size+1,1,none⟩)) (w':=w9) rfl (wanted_none rfl) ?_ ?_
     · have e7':Act.eval (Act.put ⟨tm0,df⟩ (some 24) (.slice av (k+1) cv)) (.tmp 7)=.pointer (some ⟨w.heap.size+1,0,none⟩):=(put_get_ne (a:=⟨tm0,df⟩) (t:=24) (u:=7) (by decide)).trans e7
       show Sem.run Tryz.prog (execOp (Act.eval (Act.put ⟨tm0,df⟩ (some 24) (.slice av (k+1) cv))) _) w9=_
       generalize Act.eval (Act.put ⟨tm0,df⟩ (some 24) (.slice av (k+1) cv))=ev at *
       clear hI
       go_simp
     have hsN:tm0.size=28:=hI.size
     have e25:Act.eval (Act.put (Act.put ⟨tm0,df⟩ (some 24) (.slice av (k+1) cv)) (some 25) (.pointer (some ⟨w.heap.size+1,1,none⟩))) (.tmp 25)=.pointer (some ⟨w.heap.size+1,1,none⟩):=put_get_self (by rw [put_size]; show 25<tm0.size; omega)
     have e24:Act.eval (Act.put (Act.put ⟨tm0,df⟩ (some 24) (.slice av (k+1) cv)) (some 25) (.pointer (some ⟨w.heap.size+1,1,none⟩))) (.tmp 24)=(.slice av (k+1) cv):=(put_get_ne (by decide)).trans (put_get_self (by show 24<tm0.size; omega))
     have cF9:w9.cell? ⟨w.heap.size+1,1,none⟩=some (.slice au k cu):=by rw [Lib.cell_of_heap hF9]; rfl
     have fF9:=Lib.frozen_of_heap hF9 1
     rw [wpOps_cons]
     refine wpOp_void rfl (wanted_none rfl) rfl (w':=w9.setCell ⟨w.heap.size+1,1,none⟩ (.slice av (k+1) cv)) ?_ ?_
     · show Sem.run Tryz.prog (execOp (Act.eval (Act.put (Act.put ⟨tm0,df⟩ (some 24) (.slice av (k+1) cv)) (some 25) (.pointer (some ⟨w.heap.size+1,1,none⟩)))) _) w9=_
       generalize Act.eval (Act.put (Act.put ⟨tm0,df⟩ (some 24) (.slice av (k+1) cv)) (some 25) (.pointer (some ⟨w.heap.size+1,1,none⟩)))=ev at *
       clear hI
       go_simp
     have hF9b:(w9.setCell ⟨w.heap.size+1,1,none⟩ (.slice av (k+1) cv)).heap[w.heap.size+1]?=some (.cells #[.int .i64 pd,(.slice av (k+1) cv)] 55):=by rw [Lib.heap_setCell_same hF9]; rfl
     have ho9b:(w9.setCell ⟨w.heap.size+1,1,none⟩ (.slice av (k+1) cv)).ownsRow (w.heap.size+2) 3 1 (.slice av (k+1) cv) (k+1) ((Ru.fill (ts.take k) x).map (Value.int .i64)++(#[.int .i64 (Ru.num x t)]:Array Value).toList):=by
      refine rl_own_alone ho9 (fun g hg=>heap_set_other (fun e=>?_))
      have:=(ho9.lt g hg).1
      omega
     have hb9b:Below w.heap.size w (w9.setCell ⟨w.heap.size+1,1,none⟩ (.slice av (k+1) cv)):=hb9.setCell (p:=⟨w.heap.size+1,1,none⟩) (by show w.heap.size≤w.heap.size+1; omega) _
     have HZ9:(w9.setCell ⟨w.heap.size+1,1,none⟩ (.slice av (k+1) cv)).heap[w.heap.size]?=some (.cells #[.int .i64 0,.slice none 0 0] 55):=(heap_set_other (by omega)).trans ((hg9.block (w.heap.size) (by omega) (fun e=>by have:=hown9 _ e.symm; omega)).trans ((hI.below.block _ (heap_lt HZq.out)).trans HZq.out))
     have hst:∀ t,t∉[18,19,20,21,22,23,24,25]→((tm0.setIfInBounds 24 (.slice av (k+1) cv)).setIfInBounds 25 (.pointer (some ⟨w.heap.size+1,1,none⟩))).getD t undef=_:=fun t ht=>by
      have hA:t≠24:=fun e=>ht (by rw [e]; decide)
      have hB:t≠25:=fun e=>ht (by rw [e]; decide)
      exact ((put_get_ne (a:=Act.put ⟨tm0,df⟩ (some 24) (.slice av (k+1) cv)) hB).trans (put_get_ne (a:=⟨tm0,df⟩) hA)).trans (hI.still t ht)
     obtain rfl:df=[]:=hI.defers
     clear hI e19 e23 hb' e7 hoy hFy hby hszF ho9 hg9 hown9 hF9 hb9 e25 e24 cF9 fF9
     generalize w9.setCell ⟨w.heap.size+1,1,none⟩ (.slice av (k+1) cv)=y9 at *
     have hs2:((tm0.setIfInBounds 24 (.slice av (k+1) cv)).setIfInBounds 25 (.pointer (some ⟨w.heap.size+1,1,none⟩))).size=28:=by simp [hsN]
     show Exit.inBlock 1 (Exit.then _ _) Exit.normal ⟨(tm0.setIfInBounds 24 (.slice av (k+1) cv)).setIfInBounds 25 (.pointer (some ⟨w.heap.size+1,1,none⟩)),[]⟩ y9
     generalize (tm0.setIfInBounds 24 (.slice av (k+1) cv)).setIfInBounds 25 (.pointer (some ⟨w.heap.size+1,1,none⟩))=tm at *
     have hF8:=tmps_fold [18,19,20,21,22,23,24,25] tm _ (hs2.trans (by rfl)) hst
     clear hs2 hst hsN
     simp only [List.foldl_cons,List.foldl_nil] at hF8
     generalize tm.getD 18 undef=x18 at hF8
     generalize tm.getD 19 undef=x19 at hF8
     generalize tm.getD 20 undef=x20 at hF8
     generalize tm.getD 21 undef=x21 at hF8
     generalize tm.getD 22 undef=x22 at hF8
     generalize tm.getD 23 undef=x23 at hF8
     generalize tm.getD 24 undef=x24 at hF8
     generalize tm.getD 25 undef=x25 at hF8
     simp only [List.setIfInBounds_toArray,List.set_cons_zero,List.set_cons_succ] at hF8
     subst hF8
     have HO5:Hid (y9.ownsRow (w.heap.size+2) 3 1 (.slice av (k+1) cv) (k+1) ((Ru.fill (ts.take (k+1)) x).map (Value.int .i64))):=by
      rw [HTK.out,List.map_append]
      exact ho9b
     clear ho9b
     go_wp2_with fail
     go_roundw
     case rel=>exact ⟨k+1,hlt,by go_num,_,HZ9,hF9b,HO5.out,hb9b⟩
     case measure=>simp [intOf]; omega
  · have hdd:decide (k<ts.length)=false:=decide_eq_false hlt
    have HTK:Hid (Ru.fill (ts.take k) x=Ru.fill ts x):=by show _=_; rw [List.take_of_length_le (by omega)]
    have hfl:(Ru.fill (ts.take k) x).length=k:=by unfold Ru.fill; rw [List.length_map,List.length_take]; omega
    have g0:wr.cell? ⟨w.heap.size+1,0,none⟩=some (.int .i64 pd):=by rw [Lib.cell_of_heap HF.out]; rfl
    have g1:wr.cell? ⟨w.heap.size+1,1,none⟩=some (.slice au k cu):=by rw [Lib.cell_of_heap HF.out]; rfl
    have z0:wr.cell? ⟨w.heap.size,0,none⟩=some (.int .i64 0):=by rw [Lib.cell_of_heap HZ.out]; rfl
    have z1:wr.cell? ⟨w.heap.size,1,none⟩=some (.slice none 0 0):=by rw [Lib.cell_of_heap HZ.out]; rfl
    have y0:=Lib.frozen_of_heap HZ.out 0
    have y1:=Lib.frozen_of_heap HZ.out 1
    have hS0:(wr.setCell ⟨w.heap.size,0,none⟩ (.int .i64 pd)).heap[w.heap.size]?=some (.cells #[.int .i64 pd,.slice none 0 0] 55):=by rw [Lib.heap_setCell_same HZ.out]; rfl
    have z2:(wr.setCell ⟨w.heap.size,0,none⟩ (.int .i64 pd)).cell? ⟨w.heap.size,1,none⟩=some (.slice none 0 0):=by rw [Lib.cell_of_heap hS0]; rfl
    have y2:=Lib.frozen_of_heap hS0 1
    have hS1:((wr.setCell ⟨w.heap.size,0,none⟩ (.int .i64 pd)).setCell ⟨w.heap.size,1,none⟩ (.slice au k cu)).heap[w.heap.size]?=some (.cells #[.int .i64 pd,.slice au k cu] 55):=by rw [Lib.heap_setCell_same hS0]; rfl
    have d0:((wr.setCell ⟨w.heap.size,0,none⟩ (.int .i64 pd)).setCell ⟨w.heap.size,1,none⟩ (.slice au k cu)).cell? ⟨w.heap.size,0,none⟩=some (.int .i64 pd):=by rw [Lib.cell_of_heap hS1]; rfl
    have d1:((wr.setCell ⟨w.heap.size,0,none⟩ (.int .i64 pd)).setCell ⟨w.heap.size,1,none⟩ (.slice au k cu)).cell? ⟨w.heap.size,1,none⟩=some (.slice au k cu):=by rw [Lib.cell_of_heap hS1]; rfl
    have HR:Hid (IRow ((wr.setCell ⟨w.heap.size,0,none⟩ (.int .i64 pd)).setCell ⟨w.heap.size,1,none⟩ (.slice au k cu)) w.heap.size (.slice au k cu) (Ru.fill ts x)):=by
     rw [← HTK.out]
     show World.ownsRow _ _ _ _ _ (Ru.fill (ts.take k) x).length _
     rw [hfl]
     refine rl_own_le ?_ (Nat.le_add_right _ 2)
     refine rl_own_alone HO.out (fun g hg=>?_)
     have:=(World.ownsRow.lt HO.out g hg).1
     rw [heap_set_other (by omega),heap_set_other (by omega)]
    have HB9:Hid (Below w.heap.size w ((wr.setCell ⟨w.heap.size,0,none⟩ (.int .i64 pd)).setCell ⟨w.heap.size,1,none⟩ (.slice au k cu))):=(HB.out.setCell (Nat.le_refl _) _).setCell (Nat.le_refl _) _
    clear hS0 hS1 hfl
    go_wp2_with fail
    refine bodyPost_ret (v:=.agg #[.int .i64 pd,.slice au k cu]) (by simp [results,Tryz.results57,go_sem,d0,d1]) rfl ⟨_,rfl,HR.out,HB9.out⟩
theorem ready1_any (X:Nat) (y:Ru.Way) (t:Sc.Term) (w:World) (hW:WayAt w X y) (hy:Ru.Wf 8 y) (ht:Ru.TermIn 8 t) :
 Calls Tryz.prog 212 #[ptermVal t,.pointer (some ⟨X,0,none⟩)] w fun e w'=>e=.returned (.bool (!Sc.known y.known t))∧Below w.heap.size w w':=by
 have bT:=(Below.refl w.heap.size w).alloc (Nat.le_refl _) (.cells #[.int .i64 t.var,.int .i64 t.n] 147)
 have HW:Hid (WayAt (w.alloc (.cells #[.int .i64 t.var,.int .i64 t.n] 147)) X y):=hW.below bT
 have HB:Hid _:=bT
 have hTB:=heap_alloc_new w (.cells #[.int .i64 t.var,.int .i64 t.n] 147)
 have t0:(w.alloc (.cells #[.int .i64 t.var,.int .i64 t.n] 147)).cell? ⟨w.heap.size,0,none⟩=some (.int .i64 t.var):=by rw [Lib.cell_of_heap hTB]; rfl
 have t1:(w.alloc (.cells #[.int .i64 t.var,.int .i64 t.n] 147)).cell? ⟨w.heap.size,1,none⟩=some (.int .i64 t.n):=by rw [Lib.cell_of_heap hTB]; rfl
 clear hW bT hTB
 go_enter Tryz.func212,Tryz.ntmps212
 go_upto_region 1 with fail
 generalize w.alloc (.cells #[.int .i64 t.var,.int .i64 t.n] 147)=w1 at *
 go_wp2_with (refine wpList_loadWay (wanted_none rfl) _ rfl _ rfl y HW.out hy ?_)
 refine Calls.mono (knows_any y t w1 hy ht) ?_
 rintro _ w2 ⟨rfl,hb2⟩
 have HB2:Hid _:=HB.out.trans (hb2.mono HB.out.size)
 clear t0 t1 hb2
 go_wp2_with fail
 go_ret
 exact ⟨rfl,HB2.out⟩
theorem termD_drop' (l:List Sc.Term) (k:Nat) (hk:k<l.length):l.drop k=Sc.termD l k::l.drop (k+1):=by
 rw [List.drop_eq_getElem_cons hk]
 simp [Sc.termD,List.getD_eq_getElem?_getD,hk]
theorem indexT_any (l:List Sc.Term) (v:Value) (X:Nat) (y:Ru.Way) (w:World) (hT:PTermsV w v l) (hl:l.length≤1000000) (hW:WayAt w X y) (hy:Ru.Wf 8 y) (hI:Ru.TermsIn 8 l) :
 Calls Tryz.prog 226 #[v,.func (.func 212) #[] #[.pointer (some ⟨X,0,none⟩)]] w fun e w'=>∃ r:Int,e=.returned (.int .i64 r)∧decide (0≤r)=(!l.all (Sc.known y.known))∧Below w.heap.size w w':=by
 obtain ⟨ao,cap,rfl,_,hA⟩:=hT
 have HA:Hid _:=hA
 have HW:Hid (WayAt w X y):=hW
 have HI:Hid _:=hI
 have he:∀ args w,(callFunc 212 args).run Tryz.prog w=.ok (.enter 212 args) w:=enters_of Tryz.func212 (by kernel_rfl) rfl
 clear hA hW hI
 go_enter Tryz.func226,Tryz.ntmps226
 go_wp2_with fail
 go_loopw [8] (fun i wr=>∃ k:Nat,k≤l.length∧i=.int .i64 k∧Hid (l.all (Sc.known y.known)=(l.drop k).all (Sc.known y.known))∧Hid (Below w.heap.size w wr)) (fun i _=>l.length - (intOf i).toNat)
 case atStart=>exact ⟨0,Nat.zero_le _,rfl,rfl,Below.refl _ _⟩
 case round =>
  obtain ⟨k,hk,rfl,HAL,HB⟩:=hrel
  by_cases hlt:k<l.length
  · obtain ⟨b,off,rfl,hc⟩:=pterms_at HA.out k hlt
    have hc:=hc k hlt
    have q0:=cell_below HB.out hc.1
    have q1:=cell_below HB.out hc.2
    have HD:Hid (l.all (Sc.known y.known)=(Sc.known y.known (Sc.termD l k) && (l.drop (k+1)).all (Sc.known y.known))):=by show _=_; rw [HAL.out,termD_drop' l k hlt,List.all_cons]
    have HTk:Hid _:=HI.out _ (Ru.termD_mem hlt)
    clear hc HAL
    generalize Sc.termD l k=t at *
    go_wp2_with fail
    refine Calls.mono (ready1_any X y t wr (HW.out.below HB.out) hy HTk.out) ?_
    rintro e w1 ⟨he1,hb1⟩
    subst he1
    have HB2:Hid _:=HB.out.trans (hb1.mono HB.out.size)
    clear hb1 q0 q1
    cases hx:Sc.known y.known t
    · have HV:Hid (l.all (Sc.known y.known)=false):=by show _=_; rw [HD.out,hx]; rfl
      clear HD
      go_wp2_with fail
      go_ret
      exact ⟨k,rfl,by rw [HV.out]; simp,HB2.out⟩
    · have HV:Hid (l.all (Sc.known y.known)=(l.drop (k+1)).all (Sc.known y.known)):=by show _=_; rw [HD.out,hx]; rfl
      clear HD
      go_wp2_with fail
      go_roundw
      case rel=>exact ⟨k+1,by omega,by go_num,HV.out,HB2.out⟩
      case measure=>simp [intOf]; omega
  · have HV:Hid (l.all (Sc.known y.known)=true):=by show _=_; rw [HAL.out,List.drop_of_length_le (by omega)]; rfl
    go_wp2_with fail
    go_ret
    exact ⟨-1,rfl,by rw [HV.out]; rfl,HB.out⟩
theorem containsT_any (l:List Sc.Term) (v:Value) (X:Nat) (y:Ru.Way) (w:World) (hT:PTermsV w v l) (hl:l.length≤1000000) (hW:WayAt w X y) (hy:Ru.Wf 8 y) (hI:Ru.TermsIn 8 l) :
 Calls Tryz.prog 211 #[v,.func (.func 212) #[] #[.pointer (some ⟨X,0,none⟩)]] w fun e w'=>e=.returned (.bool (!l.all (Sc.known y.known)))∧Below w.heap.size w w':=by
 have HI:Hid _:=indexT_any l v X y w hT hl hW hy hI
 obtain ⟨ao,cap,rfl,_,_⟩:=hT
 clear hW hI
 go_enter Tryz.func211,Tryz.ntmps211
 go_wp2_with fail
 refine Calls.mono HI.out ?_
 rintro e w1 ⟨r,rfl,hr,hb⟩
 go_wp2_with fail
 go_ret
 exact ⟨by rw [← hr]; rfl,hb⟩
def readyTvT (y:Ru.Way) (X b off ct:Nat) (t0 t1:Sc.Term):Nat→Value
 | 11=>wayVal y
 | 12=>.pointer (some ⟨X,3,none⟩)
 | 13=>.slice (some ⟨b,off,none⟩) 3 ct
 | 14=>.pointer (some ⟨b,off,none⟩)
 | 15=>ptermVal t0
 | 16=>.bool true
 | 17=>.bool true
 | 18=>wayVal y
 | 19=>.pointer (some ⟨X,3,none⟩)
 | 20=>.slice (some ⟨b,off,none⟩) 3 ct
 | 21=>.pointer (some ⟨b,off+2,none⟩)
 | 22=>ptermVal t1
 | 23=>.bool (Sc.known y.known t1)
 | 24=>.bool (Sc.known y.known t1)
 | 4=>.bool (Sc.known y.known t1)
 | _=>.bool false
def readyTvF (y:Ru.Way) (X b off ct:Nat) (t0:Sc.Term):Nat→Value
 | 11=>wayVal y
 | 12=>.pointer (some ⟨X,3,none⟩)
 | 13=>.slice (some ⟨b,off,none⟩) 3 ct
 | 14=>.pointer (some ⟨b,off,none⟩)
 | 15=>ptermVal t0
 | 16=>.bool false
 | 17=>.bool false
 | 18=>undef
 | 19=>undef
 | 20=>undef
 | 21=>undef
 | 22=>undef
 | 23=>undef
 | 24=>.bool false
 | 4=>.bool false
 | _=>.bool false
theorem ready_any (l:Sc.Lit) (vt:Value) (y:Ru.Way) (w:World) (hT:PTermsV w vt l.terms) (hy:Ru.Wf 8 y) (hI:Ru.TermsIn 8 l.terms) (h4:l.kind=4→l.terms.length=3) (hl:l.terms.length≤1000000) :
 Calls Tryz.prog 181 #[plitVal l vt,wayVal y] w fun e w'=>e=.returned (.bool (Ru.ready y l))∧Below w.heap.size w w':=by
 have hmf:∀ (fn:Fn) (first cap:Array Value) (w:World),(Instr.makeFunc fn first cap).run Tryz.prog w=.ok (.func fn first cap) w:=fun _ _ _ _=>rfl
 have HT:Hid _:=hT
 obtain ⟨at_,ct,rfl,_⟩:=id hT
 obtain ⟨kd,op,pd,ts⟩:=l
 dsimp only at *
 obtain ⟨h0,h1,hb⟩:=ru_two w (.cells #[.int .i64 kd,.int .i64 op,.int .i64 pd,.slice at_ ts.length ct] 49) (.cells (wayArr y) 138)
 have HL:Hid _:=h0
 have HW:Hid (WayAt ((w.alloc (.cells #[.int .i64 kd,.int .i64 op,.int .i64 pd,.slice at_ ts.length ct] 49)).alloc (.cells (wayArr y) 138)) (w.heap.size+1) y):=h1
 have HB:Hid _:=hb
 have HI:Hid _:=hI
 have HTq:Hid _:=ptermsV_below hT hb
 clear h0 h1 hb hT hI
 by_cases hk1:kd=1
 · have HV:Hid (Ru.ready y ⟨kd,op,pd,ts⟩=true):=by show _=_; unfold Ru.ready; rw [if_pos hk1]
   have g1:(kd==1)=true:=by simpa using hk1
   clear h4 hk1
   have d0:((w.alloc (.cells #[.int .i64 kd,.int .i64 op,.int .i64 pd,.slice at_ ts.length ct] 49)).alloc (.cells (wayArr y) 138)).cell? ⟨w.heap.size,0,none⟩=some (.int .i64 kd):=by rw [Lib.cell_of_heap HL.out]; rfl
   go_enter Tryz.func181,Tryz.ntmps181
   go_wp2_with fail
   go_ret
   exact ⟨by rw [HV.out]; rfl,HB.out⟩
 · have g1:(kd==1)=false:=by simpa using hk1
   by_cases hk4:kd=4
   · have g4:(kd==4)=true:=by simpa using hk4
     have h3:=h4 hk4
     have hV0:Ru.ready y ⟨kd,op,pd,ts⟩=(Sc.known y.known (Sc.termD ts 0) && Sc.known y.known (Sc.termD ts 1)):=by unfold Ru.ready; rw [if_neg hk1,if_pos hk4]
     obtain ⟨b,off,rfl,hc⟩:=pterms_at (by obtain ⟨_,_,e,_,hA⟩:=HTq.out; injection e with e _ _; subst e; exact hA) 0 (by omega)
     have hc0:=hc 0 (by omega)
     have hc1:=hc 1 (by omega)
     have HT0:Hid (Ru.TermIn 8 (Sc.termD ts 0)):=HI.out _ (Ru.termD_mem (by omega))
     have HT1:Hid (Ru.TermIn 8 (Sc.termD ts 1)):=HI.out _ (Ru.termD_mem (by omega))
     obtain ⟨p0,p1⟩:=hc0
     obtain ⟨p2,p3⟩:=hc1
     clear hc h4 hk1 hk4
     have d0:((w.alloc (.cells #[.int .i64 kd,.int .i64 op,.int .i64 pd,.slice (some ⟨b,off,none⟩) ts.length ct] 49)).alloc (.cells (wayArr y) 138)).cell? ⟨w.heap.size,0,none⟩=some (.int .i64 kd):=by rw [Lib.cell_of_heap HL.out]; rfl
     have d3:((w.alloc (.cells #[.int .i64 kd,.int .i64 op,.int .i64 pd,.slice (some ⟨b,off,none⟩) ts.length ct] 49)).alloc (.cells (wayArr y) 138)).cell? ⟨w.heap.size,3,none⟩=some (.slice (some ⟨b,off,none⟩) ts.length ct):=by rw [Lib.cell_of_heap HL.out]; rfl
     generalize Sc.termD ts 0=t0 at *
     generalize Sc.termD ts 1=t1 at *
     clear HT HTq HL HI
     rw [Nat.zero_mul,Nat.add_zero] at p0 p1
     rw [Nat.one_mul] at p2 p3
     generalize ts.length=nl at *
     subst h3
     go_enter Tryz.func181,Tryz.ntmps181
     go_upto_region 5 with fail
     generalize (w.alloc (.cells #[.int .i64 kd,.int .i64 op,.int .i64 pd,.slice (some ⟨b,off,none⟩) 3 ct] 49)).alloc (.cells (wayArr y) 138)=w1 at *
     cases hk:Sc.known y.known t0
     · have HK:Hid _:=hk
       have HV:Hid (Ru.ready y ⟨kd,op,pd,ts⟩=false):=by show _=_; rw [hV0,hk]; rfl
       clear hk hV0
       refine wp_region_tabA (fun tQ vQ _=>vQ=readyTvF y w.heap.size b off ct t0 tQ) (by kernel_rfl) (by kernel_rfl) (fun _ _ _ _ _ h=>h) ?hop ?hend
       case hop =>
        refine AllOps.cons (fun a y_ h=>?_) ?_
        · have e3:a.eval (.tmp 3)=(.pointer (some ⟨w.heap.size+1,0,none⟩):Value):=h.old 3 (by kernel_rfl)
          refine opOk_val (v:=wayVal y) (w':=y_) (wanted_none rfl) ?_ (fun t ht=>by cases ht; exact rfl) (Below.refl _ _)
          exact load_way rfl e3 (HW.out.below h.below) hy
        refine AllOps.cons (fun a y_ h=>?_) ?_
        · have e2:a.eval (.tmp 2)=(.pointer (some ⟨w.heap.size,0,none⟩):Value):=h.old 2 (by kernel_rfl)
          refine opOk_val (v:=.pointer (some ⟨w.heap.size,3,none⟩)) (w':=y_) (wanted_none rfl) ?_ (fun t ht=>by cases ht; exact rfl) (Below.refl _ _)
          have ec:∀ v,a.eval (.const v)=v:=fun _=>rfl
          generalize a.eval=ev at *
          clear h
          go_simp
        refine AllOps.cons (fun a y_ h=>?_) ?_
        · have e12:a.eval (.tmp 12)=(.pointer (some ⟨w.heap.size,3,none⟩):Value):=h.of 12 (by kernel_rfl)
          have c3:=cell_below h.below d3
          refine opOk_val (v:=.slice (some ⟨b,off,none⟩) 3 ct) (w':=y_) (wanted_none rfl) ?_ (fun t ht=>by cases ht; exact rfl) (Below.refl _ _)
          have ec:∀ v,a.eval (.const v)=v:=fun _=>rfl
          generalize a.eval=ev at *
          clear h
          go_simp
        refine AllOps.cons (fun a y_ h=>?_) ?_
        · have e13:a.eval (.tmp 13)=(.slice (some ⟨b,off,none⟩) 3 ct:Value):=h.of 13 (by kernel_rfl)
          refine opOk_val (v:=.pointer (some ⟨b,off,none⟩)) (w':=y_) (wanted_none rfl) ?_ (fun t ht=>by cases ht; exact rfl) (Below.refl _ _)
          have ec:∀ v,a.eval (.const v)=v:=fun _=>rfl
          generalize a.eval=ev at *
          clear h
          go_simp
        refine AllOps.cons (fun a y_ h=>?_) ?_
        · have e14:a.eval (.tmp 14)=(.pointer (some ⟨b,off,none⟩):Value):=h.of 14 (by kernel_rfl)
          have c0:=cell_below h.below p0
          have c1:=cell_below h.below p1
          refine opOk_val (v:=ptermVal t0) (w':=y_) (wanted_none rfl) ?_ (fun t ht=>by cases ht; exact rfl) (Below.refl _ _)
          have ec:∀ v,a.eval (.const v)=v:=fun _=>rfl
          generalize a.eval=ev at *
          clear h
          go_simp
        refine AllOps.cons (fun a y_ h=>?_) ?_
        · have e11:a.eval (.tmp 11)=(wayVal y:Value):=h.of 11 (by kernel_rfl)
          have e15:a.eval (.tmp 15)=(ptermVal t0:Value):=h.of 15 (by kernel_rfl)
          refine opOk_call (f:=210) (args:=#[wayVal y,ptermVal t0]) (wanted_none rfl) ?_ ?_
          · have ec:∀ v,a.eval (.const v)=v:=fun _=>rfl
            have ef:∀ f,a.eval (.func f)=.func (.func f) #[] #[]:=fun _=>rfl
            generalize a.eval=ev at *
            clear h
            go_simp
          · refine Calls.mono (knows_any y t0 y_ hy HT0.out) ?_
            rintro _ y2 ⟨rfl,hb2⟩
            exact ⟨_,rfl,fun t ht=>by cases ht; exact congrArg Value.bool HK.out,hb2⟩
        refine AllOps.cons (fun a y_ h=>?_) ?_
        · have e16:a.eval (.tmp 16)=(.bool false:Value):=h.of 16 (by kernel_rfl)
          refine opOk_val (v:=.bool false) (w':=y_) (wanted_none rfl) ?_ (fun t ht=>by cases ht; exact rfl) (Below.refl _ _)
          have ec:∀ v,a.eval (.const v)=v:=fun _=>rfl
          generalize a.eval=ev at *
          clear h
          go_simp
        refine AllOps.cons (fun a y_ h=>?_) ?_
        · exact opOk_skip (j:=6) (t:=17) (b:=true) (c:=false) rfl rfl rfl (h.of 17 (by kernel_rfl)) (by decide) (fun t ht=>by cases ht; exact rfl)
        refine AllOps.cons (fun a y_ h=>?_) ?_
        · exact opOk_skip (j:=6) (t:=17) (b:=true) (c:=false) rfl rfl rfl (h.of 17 (by kernel_rfl)) (by decide) (fun t ht=>by cases ht; exact rfl)
        refine AllOps.cons (fun a y_ h=>?_) ?_
        · exact opOk_skip (j:=6) (t:=17) (b:=true) (c:=false) rfl rfl rfl (h.of 17 (by kernel_rfl)) (by decide) (fun t ht=>by cases ht; exact rfl)
        refine AllOps.cons (fun a y_ h=>?_) ?_
        · exact opOk_skip (j:=6) (t:=17) (b:=true) (c:=false) rfl rfl rfl (h.of 17 (by kernel_rfl)) (by decide) (fun t ht=>by cases ht; exact rfl)
        refine AllOps.cons (fun a y_ h=>?_) ?_
        · exact opOk_skip (j:=6) (t:=17) (b:=true) (c:=false) rfl rfl rfl (h.of 17 (by kernel_rfl)) (by decide) (fun t ht=>by cases ht; exact rfl)
        refine AllOps.cons (fun a y_ h=>?_) ?_
        · exact opOk_skip (j:=6) (t:=17) (b:=true) (c:=false) rfl rfl rfl (h.of 17 (by kernel_rfl)) (by decide) (fun t ht=>by cases ht; exact rfl)
        refine AllOps.cons (fun a y_ h=>?_) ?_
        · have e17:a.eval (.tmp 17)=(.bool false:Value):=h.of 17 (by kernel_rfl)
          have e23:a.eval (.tmp 23)=(undef:Value):=h.of 23 (by kernel_rfl)
          refine opOk_val (v:=.bool false) (w':=y_) (wanted_none rfl) ?_ (fun t ht=>by cases ht; exact rfl) (Below.refl _ _)
          have ec:∀ v,a.eval (.const v)=v:=fun _=>rfl
          generalize a.eval=ev at *
          clear h
          go_simp
        refine AllOps.cons (fun a y_ h=>?_) ?_
        · have e24:a.eval (.tmp 24)=(.bool false:Value):=h.of 24 (by kernel_rfl)
          refine opOk_val (v:=.bool false) (w':=y_) (wanted_none rfl) ?_ (fun t ht=>by cases ht; exact rfl) (Below.refl _ _)
          have ec:∀ v,a.eval (.const v)=v:=fun _=>rfl
          generalize a.eval=ev at *
          clear h
          go_simp
        exact AllOps.nil
       case hend =>
        rintro ⟨tm,df⟩ wE hbE hdE hsE hstE hTE
        have h4:tm.getD 4 undef=.bool false:=ends_at (T:=fun tQ vQ _=>vQ=readyTvF y w.heap.size b off ct t0 tQ) (w:=wE) (a:=⟨tm,df⟩) (t:=4) hTE (by kernel_rfl)
        obtain rfl:df=[]:=hdE
        have hFE:=tmps_fold [11,12,13,14,15,16,17,18,19,20,21,22,23,24,4] tm _ hsE hstE
        clear hsE hstE hTE
        simp only [List.foldl_cons,List.foldl_nil,h4] at hFE
        clear h4
        generalize tm.getD 11 undef=x11 at hFE
        generalize tm.getD 12 undef=x12 at hFE
        generalize tm.getD 13 undef=x13 at hFE
        generalize tm.getD 14 undef=x14 at hFE
        generalize tm.getD 15 undef=x15 at hFE
        generalize tm.getD 16 undef=x16 at hFE
        generalize tm.getD 17 undef=x17 at hFE
        generalize tm.getD 18 undef=x18 at hFE
        generalize tm.getD 19 undef=x19 at hFE
        generalize tm.getD 20 undef=x20 at hFE
        generalize tm.getD 21 undef=x21 at hFE
        generalize tm.getD 22 undef=x22 at hFE
        generalize tm.getD 23 undef=x23 at hFE
        generalize tm.getD 24 undef=x24 at hFE
        simp only [List.setIfInBounds_toArray,List.set_cons_zero,List.set_cons_succ] at hFE
        subst hFE
        go_wp2_with fail
        go_ret
        exact ⟨by rw [HV.out]; rfl,HB.out.trans (hbE.mono HB.out.size)⟩
     · have HK:Hid _:=hk
       have HV:Hid (Ru.ready y ⟨kd,op,pd,ts⟩=Sc.known y.known t1):=by show _=_; rw [hV0,hk]; rfl
       clear hk hV0
       refine wp_region_tabA (fun tQ vQ _=>vQ=readyTvT y w.heap.size b off ct t0 t1 tQ) (by kernel_rfl) (by kernel_rfl) (fun _ _ _ _ _ h=>h) ?hop ?hend
       case hop =>
        refine AllOps.cons (fun a y_ h=>?_) ?_
        · have e3:a.eval (.tmp 3)=(.pointer (some ⟨w.heap.size+1,0,none⟩):Value):=h.old 3 (by kernel_rfl)
          refine opOk_val (v:=wayVal y) (w':=y_) (wanted_none rfl) ?_ (fun t ht=>by cases ht; exact rfl) (Below.refl _ _)
          exact load_way rfl e3 (HW.out.below h.below) hy
        refine AllOps.cons (fun a y_ h=>?_) ?_
        · have e2:a.eval (.tmp 2)=(.pointer (some ⟨w.heap.size,0,none⟩):Value):=h.old 2 (by kernel_rfl)
          refine opOk_val (v:=.pointer (some ⟨w.heap.size,3,none⟩)) (w':=y_) (wanted_none rfl) ?_ (fun t ht=>by cases ht; exact rfl) (Below.refl _ _)
          have ec:∀ v,a.eval (.const v)=v:=fun _=>rfl
          generalize a.eval=ev at *
          clear h
          go_simp
        refine AllOps.cons (fun a y_ h=>?_) ?_
        · have e12:a.eval (.tmp 12)=(.pointer (some ⟨w.heap.size,3,none⟩):Value):=h.of 12 (by kernel_rfl)
          have c3:=cell_below h.below d3
          refine opOk_val (v:=.slice (some ⟨b,off,none⟩) 3 ct) (w':=y_) (wanted_none rfl) ?_ (fun t ht=>by cases ht; exact rfl) (Below.refl _ _)
          have ec:∀ v,a.eval (.const v)=v:=fun _=>rfl
          generalize a.eval=ev at *
          clear h
          go_simp
        refine AllOps.cons (fun a y_ h=>?_) ?_
        · have e13:a.eval (.tmp 13)=(.slice (some ⟨b,off,none⟩) 3 ct:Value):=h.of 13 (by kernel_rfl)
          refine opOk_val (v:=.pointer (some ⟨b,off,none⟩)) (w':=y_) (wanted_none rfl) ?_ (fun t ht=>by cases ht; exact rfl) (Below.refl _ _)
          have ec:∀ v,a.eval (.const v)=v:=fun _=>rfl
          generalize a.eval=ev at *
          clear h
          go_simp
        refine AllOps.cons (fun a y_ h=>?_) ?_
        · have e14:a.eval (.tmp 14)=(.pointer (some ⟨b,off,none⟩):Value):=h.of 14 (by kernel_rfl)
          have c0:=cell_below h.below p0
          have c1:=cell_below h.below p1
          refine opOk_val (v:=ptermVal t0) (w':=y_) (wanted_none rfl) ?_ (fun t ht=>by cases ht; exact rfl) (Below.refl _ _)
          have ec:∀ v,a.eval (.const v)=v:=fun _=>rfl
          generalize a.eval=ev at *
          clear h
          go_simp
        refine AllOps.cons (fun a y_ h=>?_) ?_
        · have e11:a.eval (.tmp 11)=(wayVal y:Value):=h.of 11 (by kernel_rfl)
          have e15:a.eval (.tmp 15)=(ptermVal t0:Value):=h.of 15 (by kernel_rfl)
          refine opOk_call (f:=210) (args:=#[wayVal y,ptermVal t0]) (wanted_none rfl) ?_ ?_
          · have ec:∀ v,a.eval (.const v)=v:=fun _=>rfl
            have ef:∀ f,a.eval (.func f)=.func (.func f) #[] #[]:=fun _=>rfl
            generalize a.eval=ev at *
            clear h
            go_simp
          · refine Calls.mono (knows_any y t0 y_ hy HT0.out) ?_
            rintro _ y2 ⟨rfl,hb2⟩
            exact ⟨_,rfl,fun t ht=>by cases ht; exact congrArg Value.bool HK.out,hb2⟩
        refine AllOps.cons (fun a y_ h=>?_) ?_
        · have e16:a.eval (.tmp 16)=(.bool true:Value):=h.of 16 (by kernel_rfl)
          refine opOk_val (v:=.bool true) (w':=y_) (wanted_none rfl) ?_ (fun t ht=>by cases ht; exact rfl) (Below.refl _ _)
          have ec:∀ v,a.eval (.const v)=v:=fun _=>rfl
          generalize a.eval=ev at *
          clear h
          go_simp
        refine AllOps.cons (fun a y_ h=>?_) ?_
        · have e3:a.eval (.tmp 3)=(.pointer (some ⟨w.heap.size+1,0,none⟩):Value):=h.old 3 (by kernel_rfl)
          refine opOk_val (v:=wayVal y) (w':=y_) (wanted_some (j:=6) (t:=17) (b:=true) rfl rfl rfl (h.of 17 (by kernel_rfl))) ?_ (fun t ht=>by cases ht; exact rfl) (Below.refl _ _)
          exact load_way rfl e3 (HW.out.below h.below) hy
        refine AllOps.cons (fun a y_ h=>?_) ?_
        · have e2:a.eval (.tmp 2)=(.pointer (some ⟨w.heap.size,0,none⟩):Value):=h.old 2 (by kernel_rfl)
          refine opOk_val (v:=.pointer (some ⟨w.heap.size,3,none⟩)) (w':=y_) (wanted_some (j:=6) (t:=17) (b:=true) rfl rfl rfl (h.of 17 (by kernel_rfl))) ?_ (fun t ht=>by cases ht; exact rfl) (Below.refl _ _)
          have ec:∀ v,a.eval (.const v)=v:=fun _=>rfl
          generalize a.eval=ev at *
          clear h
          go_simp
        refine AllOps.cons (fun a y_ h=>?_) ?_
        · have e19:a.eval (.tmp 19)=(.pointer (some ⟨w.heap.size,3,none⟩):Value):=h.of 19 (by kernel_rfl)
          have c3:=cell_below h.below d3
          refine opOk_val (v:=.slice (some ⟨b,off,none⟩) 3 ct) (w':=y_) (wanted_some (j:=6) (t:=17) (b:=true) rfl rfl rfl (h.of 17 (by kernel_rfl))) ?_ (fun t ht=>by cases ht; exact rfl) (Below.refl _ _)
          have ec:∀ v,a.eval (.const v)=v:=fun _=>rfl
          generalize a.eval=ev at *
          clear h
          go_simp
        refine AllOps.cons (fun a y_ h=>?_) ?_
        · have e20:a.eval (.tmp 20)=(.slice (some ⟨b,off,none⟩) 3 ct:Value):=h.of 20 (by kernel_rfl)
          refine opOk_val (v:=.pointer (some ⟨b,off+2,none⟩)) (w':=y_) (wanted_some (j:=6) (t:=17) (b:=true) rfl rfl rfl (h.of 17 (by kernel_rfl))) ?_ (fun t ht=>by cases ht; exact rfl) (Below.refl _ _)
          have ec:∀ v,a.eval (.const v)=v:=fun _=>rfl
          generalize a.eval=ev at *
          clear h
          go_simp
        refine AllOps.cons (fun a y_ h=>?_) ?_
        · have e21:a.eval (.tmp 21)=(.pointer (some ⟨b,off+2,none⟩):Value):=h.of 21 (by kernel_rfl)
          have c0:=cell_below h.below p2
          have c1:=cell_below h.below p3
          refine opOk_val (v:=ptermVal t1) (w':=y_) (wanted_some (j:=6) (t:=17) (b:=true) rfl rfl rfl (h.of 17 (by kernel_rfl))) ?_ (fun t ht=>by cases ht; exact rfl) (Below.refl _ _)
          have ec:∀ v,a.eval (.const v)=v:=fun _=>rfl
          generalize a.eval=ev at *
          clear h
          go_simp
        refine AllOps.cons (fun a y_ h=>?_) ?_
        · have e18:a.eval (.tmp 18)=(wayVal y:Value):=h.of 18 (by kernel_rfl)
          have e22:a.eval (.tmp 22)=(ptermVal t1:Value):=h.of 22 (by kernel_rfl)
          refine opOk_call (f:=210) (args:=#[wayVal y,ptermVal t1]) (wanted_some (j:=6) (t:=17) (b:=true) rfl rfl rfl (h.of 17 (by kernel_rfl))) ?_ ?_
          · have ec:∀ v,a.eval (.const v)=v:=fun _=>rfl
            have ef:∀ f,a.eval (.func f)=.func (.func f) #[] #[]:=fun _=>rfl
            generalize a.eval=ev at *
            clear h
            go_simp
          · refine Calls.mono (knows_any y t1 y_ hy HT1.out) ?_
            rintro _ y2 ⟨rfl,hb2⟩
            exact ⟨_,rfl,fun t ht=>by cases ht; exact rfl,hb2⟩
        refine AllOps.cons (fun a y_ h=>?_) ?_
        · have e17:a.eval (.tmp 17)=(.bool true:Value):=h.of 17 (by kernel_rfl)
          have e23:a.eval (.tmp 23)=(.bool (Sc.known y.known t1):Value):=h.of 23 (by kernel_rfl)
          refine opOk_val (v:=.bool (Sc.known y.known t1)) (w':=y_) (wanted_none rfl) ?_ (fun t ht=>by cases ht; exact rfl) (Below.refl _ _)
          have ec:∀ v,a.eval (.const v)=v:=fun _=>rfl
          generalize a.eval=ev at *
          clear h
          go_simp
        refine AllOps.cons (fun a y_ h=>?_) ?_
        · have e24:a.eval (.tmp 24)=(.bool (Sc.known y.known t1):Value):=h.of 24 (by kernel_rfl)
          refine opOk_val (v:=.bool (Sc.known y.known t1)) (w':=y_) (wanted_none rfl) ?_ (fun t ht=>by cases ht; exact rfl) (Below.refl _ _)
          have ec:∀ v,a.eval (.const v)=v:=fun _=>rfl
          generalize a.eval=ev at *
          clear h
          go_simp
        exact AllOps.nil
       case hend =>
        rintro ⟨tm,df⟩ wE hbE hdE hsE hstE hTE
        have h4:tm.getD 4 undef=.bool (Sc.known y.known t1):=ends_at (T:=fun tQ vQ _=>vQ=readyTvT y w.heap.size b off ct t0 t1 tQ) (w:=wE) (a:=⟨tm,df⟩) (t:=4) hTE (by kernel_rfl)
        obtain rfl:df=[]:=hdE
        have hFE:=tmps_fold [11,12,13,14,15,16,17,18,19,20,21,22,23,24,4] tm _ hsE hstE
        clear hsE hstE hTE
        simp only [List.foldl_cons,List.foldl_nil,h4] at hFE
        clear h4
        generalize tm.getD 11 undef=x11 at hFE
        generalize tm.getD 12 undef=x12 at hFE
        generalize tm.getD 13 undef=x13 at hFE
        generalize tm.getD 14 undef=x14 at hFE
        generalize tm.getD 15 undef=x15 at hFE
        generalize tm.getD 16 undef=x16 at hFE
        generalize tm.getD 17 undef=x17 at hFE
        generalize tm.getD 18 undef=x18 at hFE
        generalize tm.getD 19 undef=x19 at hFE
        generalize tm.getD 20 undef=x20 at hFE
        generalize tm.getD 21 undef=x21 at hFE
        generalize tm.getD 22 undef=x22 at hFE
        generalize tm.getD 23 undef=x23 at hFE
        generalize tm.getD 24 undef=x24 at hFE
        simp only [List.setIfInBounds_toArray,List.set_cons_zero,List.set_cons_succ] at hFE
        subst hFE
        go_wp2_with fail
        go_ret
        exact ⟨by rw [HV.out]; rfl,HB.out.trans (hbE.mono HB.out.size)⟩
   · have g4:(kd==4)=false:=by simpa using hk4
     have HV:Hid (Ru.ready y ⟨kd,op,pd,ts⟩=ts.all (Sc.known y.known)):=by show _=_; unfold Ru.ready; rw [if_neg hk1,if_neg hk4]
     have d0:((w.alloc (.cells #[.int .i64 kd,.int .i64 op,.int .i64 pd,.slice at_ ts.length ct] 49)).alloc (.cells (wayArr y) 138)).cell? ⟨w.heap.size,0,none⟩=some (.int .i64 kd):=by rw [Lib.cell_of_heap HL.out]; rfl
     have d3:((w.alloc (.cells #[.int .i64 kd,.int .i64 op,.int .i64 pd,.slice at_ ts.length ct] 49)).alloc (.cells (wayArr y) 138)).cell? ⟨w.heap.size,3,none⟩=some (.slice at_ ts.length ct):=by rw [Lib.cell_of_heap HL.out]; rfl
     clear hk1 hk4 h4
     go_enter Tryz.func181,Tryz.ntmps181
     go_upto_region 6 with fail
     generalize (w.alloc (.cells #[.int .i64 kd,.int .i64 op,.int .i64 pd,.slice at_ ts.length ct] 49)).alloc (.cells (wayArr y) 138)=w1 at *
     go_wp2_with fail
     refine Calls.mono (containsT_any ts _ (w.heap.size+1) y w1 HTq.out hl HW.out hy HI.out) ?_
     rintro _ w2 ⟨rfl,hb2⟩
     have HB2:Hid _:=HB.out.trans (hb2.mono HB.out.size)
     clear hb2 d0 d3
     go_wp2_with fail
     go_ret
     exact ⟨by rw [HV.out]; simp,HB2.out⟩
theorem WayAt.setKn {w:World} {b:Nat} {y:Ru.Way} (h:WayAt w b y) (hy:Ru.Wf 8 y) (i:Nat):WayAt (w.setCell ⟨b,8+i,none⟩ (.bool true)) b ⟨y.nums,y.known.set i true⟩:=by
 unfold WayAt at h ⊢
 rw [Lib.heap_setCell_same h]
 congr 2
 unfold wayArr
 have h1:(y.nums.map (Value.int .i64)).length=8:=by rw [List.length_map,hy.n]
 rw [List.setIfInBounds_toArray,List.set_append_right _ _ (by omega),h1,Nat.add_sub_cancel_left,List.map_set]
theorem WayAt.setNum {w:World} {b:Nat} {y:Ru.Way} (h:WayAt w b y) (hy:Ru.Wf 8 y) {i:Nat} (hi:i<8) (n:Int):WayAt (w.setCell ⟨b,i,none⟩ (.int .i64 n)) b ⟨y.nums.set i n,y.known⟩:=by
 unfold WayAt at h ⊢
 rw [Lib.heap_setCell_same h]
 congr 2
 unfold wayArr
 have h1:(y.nums.map (Value.int .i64)).length=8:=by rw [List.length_map,hy.n]
 rw [List.setIfInBounds_toArray,List.set_append_left _ _ (by omega),List.map_set]
namespace Ru
def withO (y:Way) (ts:List Sc.Term) (ns:List Int):Way:=(withW y ts ns).getD way0
theorem with1_yes {y:Way} {t:Sc.Term} {n:Int} (hk:Sc.known y.known t=true) (h:num y.nums t=n):with1 y t n=some y:=by unfold with1; rw [if_pos hk,if_pos h]
theorem with1_no {y:Way} {t:Sc.Term} {n:Int} (hk:Sc.known y.known t=true) (h:¬ num y.nums t=n):with1 y t n=none:=by unfold with1; rw [if_pos hk,if_neg h]
theorem with1_new {y:Way} {t:Sc.Term} {n:Int} (hk:Sc.known y.known t=false):with1 y t n=some ⟨y.nums.set t.var.toNat n,y.known.set t.var.toNat true⟩:=by unfold with1; rw [if_neg (by rw [hk]; decide)]
theorem withW_drop (y:Way) (ts:List Sc.Term) (ns:List Int) (k:Nat) (h:k<ts.length):withW y (ts.drop k) (ns.drop k)=match with1 y (Sc.termD ts k) (Sc.intD ns k) with | none=>none | some y'=>withW y' (ts.drop (k+1)) (ns.drop (k+1)):=by
 rw [List.drop_eq_getElem_cons h]
 have e1:Sc.termD ts k=ts[k]:=by unfold Sc.termD; rw [List.getD_eq_getElem?_getD,List.getElem?_eq_getElem h]; rfl
 have e2:(ns.drop k).headD 0=Sc.intD ns k:=by
  unfold Sc.intD
  rw [List.headD_eq_head?_getD,List.head?_drop,List.getD_eq_getElem?_getD]
 have e3:(ns.drop k).tail=ns.drop (k+1):=by rw [List.tail_drop]
 show (match with1 y ts[k] ((ns.drop k).headD 0) with | none=>none | some w'=>withW w' (ts.drop (k+1)) (ns.drop k).tail)=_
 rw [e1,e2,e3]
theorem withW_end (y:Way) (ts:List Sc.Term) (ns:List Int):withW y (ts.drop ts.length) ns=some y:=by rw [List.drop_length]; rfl
end Ru
structure WIn (w wr:World) (y:Ru.Way):Prop where
 box:WayAt wr w.heap.size y
 res:WayAt wr (w.heap.size+1) Ru.way0
 bel:Below w.heap.size w wr
 wf:Ru.Wf 8 y
theorem WIn.below {w wr wx:World} {y:Ru.Way} (h:WIn w wr y) (hb:Below wr.heap.size wr wx):WIn w wx y :=
 ⟨h.box.below hb,h.res.below hb,h.bel.trans (hb.mono h.bel.size),h.wf⟩
theorem WIn.set {w wr:World} {y:Ru.Way} (h:WIn w wr y) {i:Nat} (hi:i<8) (n:Int):WIn w ((wr.setCell ⟨w.heap.size,8+i,none⟩ (.bool true)).setCell ⟨w.heap.size,i,none⟩ (.int .i64 n)) ⟨y.nums.set i n,y.known.set i true⟩:=by
 have h1:=h.box.setKn h.wf i
 have h2:=WayAt.setNum h1 ⟨h.wf.n,by simpa using h.wf.k⟩ hi n
 refine ⟨h2,?_,?_,⟨by simpa using h.wf.n,by simpa using h.wf.k⟩⟩
 · unfold WayAt
   rw [heap_set_other (by omega),heap_set_other (by omega)]
   exact h.res
 · exact (h.bel.setCell (Nat.le_refl _) _).setCell (Nat.le_refl _) _
def withTv (z:Ru.Way) (t:Sc.Term) (bn on nl cn k:Nat) (n:Int):Nat→Value
 | 33=>wayVal z
 | 34=>.agg #[.int .i64 t.var,.int .i64 t.n]
 | 35=>.int .i64 (Ru.num z.nums t)
 | 36=>.slice (some ⟨bn,on,none⟩) nl cn
 | 37=>.int .i64 k
 | 38=>.pointer (some ⟨bn,on+k,none⟩)
 | 39=>.int .i64 n
 | 40=>.bool (Ru.num z.nums t != n)
 | _=>.bool false
theorem with_any (y:Ru.Way) (ts:List Sc.Term) (ns:List Int) (vt vn:Value) (w:World) (hy:Ru.Wf 8 y) (hT:PTermsV w vt ts) (hN:IntsV w vn ns) (hl:ts.length=ns.length) (h3:ts.length≤1000) (hI:Ru.TermsIn 8 ts) :
 Calls Tryz.prog 189 #[wayVal y,vt,vn] w fun e w'=>e=.returned (.tuple #[wayVal (Ru.withO y ts ns),.bool (Ru.withW y ts ns).isSome])∧Below w.heap.size w w':=by
 obtain ⟨at_,ct,rfl,_,hT⟩:=hT
 obtain ⟨an,cn,rfl,hN⟩:=hN
 obtain ⟨h0,h1,hb⟩:=ru_two w (.cells (wayArr y) 138) (.cells #[.int .i64 0,.int .i64 0,.int .i64 0,.int .i64 0,.int .i64 0,.int .i64 0,.int .i64 0,.int .i64 0,.bool false,.bool false,.bool false,.bool false,.bool false,.bool false,.bool false,.bool false] 138)
 have HI:Hid (WIn w ((w.alloc (.cells (wayArr y) 138)).alloc (.cells #[.int .i64 0,.int .i64 0,.int .i64 0,.int .i64 0,.int .i64 0,.int .i64 0,.int .i64 0,.int .i64 0,.bool false,.bool false,.bool false,.bool false,.bool false,.bool false,.bool false,.bool false] 138)) y):=⟨h0,h1,hb,hy⟩
 have HT:Hid _:=hT
 have HN:Hid _:=hN
 have HL:Hid _:=hl
 have HTI:Hid _:=hI
 clear h0 h1 hb hT hN hl hy hI
 go_enter Tryz.func189,Tryz.ntmps189
 go_wp2_with fail
 generalize (w.alloc (.cells (wayArr y) 138)).alloc (.cells #[.int .i64 0,.int .i64 0,.int .i64 0,.int .i64 0,.int .i64 0,.int .i64 0,.int .i64 0,.int .i64 0,.bool false,.bool false,.bool false,.bool false,.bool false,.bool false,.bool false,.bool false] 138)=w1 at *
 go_loopw [12] (fun i12 wr=>∃ (k:Nat) (y':Ru.Way),k≤ts.length∧i12=.int .i64 k∧Hid (WIn w wr y')∧Hid (Ru.withW y ts ns=Ru.withW y' (ts.drop k) (ns.drop k))) (fun i12 _=>ts.length - (intOf i12).toNat)
 case atStart=>exact ⟨0,y,Nat.zero_le _,rfl,HI.out,rfl⟩
 case round =>
  clear HI
  obtain ⟨k,yy,hk,rfl,HW,HE⟩:=hrel
  by_cases hkl:k<ts.length
  · obtain ⟨b,off,rfl,hc⟩:=pterms_at HT.out k hkl
    have hc:=hc k hkl
    obtain ⟨bn,on,rfl,z0⟩:=ints_at HN.out k (by rw [← HL.out]; exact hkl)
    have q0:=cell_below HW.out.bel hc.1
    have q1:=cell_below HW.out.bel hc.2
    have hkn:k<ns.length:=by rw [← HL.out]; exact hkl
    have HD:Hid _:=Ru.withW_drop yy ts ns k hkl
    have HTk:Hid (Ru.TermIn 8 (Sc.termD ts k)):=HTI.out _ (Ru.termD_mem hkl)
    have Z0:Hid _:=z0
    clear hc z0
    generalize Sc.termD ts k=t at *
    generalize Sc.intD ns k=n at *
    go_upto_region 4 with fail
    have bT:=(Below.refl wr.heap.size wr).alloc (Nat.le_refl _) (.cells #[.int .i64 t.var,.int .i64 t.n] 147)
    have HWq:Hid _:=HW.out.below bT
    have HTB:Hid _:=heap_alloc_new wr (.cells #[.int .i64 t.var,.int .i64 t.n] 147)
    clear q0 q1 bT HW
    generalize wr.alloc (.cells #[.int .i64 t.var,.int .i64 t.n] 147)=wq at *
    generalize wr.heap.size=TB at *
    have t0:wq.cell? ⟨TB,0,none⟩=some (.int .i64 t.var):=by rw [Lib.cell_of_heap HTB.out]; rfl
    have t1:wq.cell? ⟨TB,1,none⟩=some (.int .i64 t.n):=by rw [Lib.cell_of_heap HTB.out]; rfl
    go_wp2_with (refine wpList_loadWay (wanted_none rfl) _ rfl _ rfl yy HWq.out.box HWq.out.wf ?_)
    clear t0 t1
    refine Calls.mono (knows_any yy t wq HWq.out.wf HTk.out) ?_
    rintro _ w2 ⟨rfl,hb2⟩
    have HW2:Hid _:=HWq.out.below hb2
    have HT2:Hid _:=(hb2.block _ (heap_lt HTB.out)).trans HTB.out
    clear hb2 HWq HTB
    cases hkn2:Sc.known yy.known t
    · have HK:Hid _:=hkn2
      obtain ⟨h0,_⟩:=Ru.known_in (w:=yy) (t:=t) (by rw [hkn2]; decide)
      obtain ⟨v,hv⟩:∃ v:Nat,t.var=v:=⟨t.var.toNat,by omega⟩
      have hv8:v<8:=by rcases HTk.out with h9 | h9 <;> omega
      obtain ⟨var,nn⟩:=t
      dsimp only at hv
      subst hv
      have hne:¬ TB=w.heap.size:=fun e9=>by
       have h9:=HT2.out
       rw [e9,HW2.out.box] at h9
       injection h9 with h9
       injection h9 with h91 h92
       exact absurd h92 (by decide)
      have t0:w2.cell? ⟨TB,0,none⟩=some (.int .i64 v):=by rw [Lib.cell_of_heap HT2.out]; rfl
      have b0:=HW2.out.box.kn HW2.out.wf hv8
      have f0:=Lib.frozen_of_heap HW2.out.box (8+v)
      clear hkn2 h0
      go_upto_region 6 with fail
      have bel3:Below w.heap.size w (w2.setCell ⟨w.heap.size,8+v,none⟩ (.bool true)):=HW2.out.bel.setCell (Nat.le_refl _) _
      have hT3:=(heap_set_other (w:=w2) (i:=8+v) (v:=.bool true) hne).trans HT2.out
      have hB3:=HW2.out.box.setKn HW2.out.wf v
      have z4:=cell_below bel3 Z0.out
      have t0':(w2.setCell ⟨w.heap.size,8+v,none⟩ (.bool true)).cell? ⟨TB,0,none⟩=some (.int .i64 v):=by rw [Lib.cell_of_heap hT3]; rfl
      have b1:=hB3.num ⟨HW2.out.wf.n,by simpa using HW2.out.wf.k⟩ hv8
      have f1:=Lib.frozen_of_heap hB3 v
      have HT3:Hid _:=hT3
      have HW4:Hid _:=HW2.out.set hv8 n
      clear hT3 hB3 bel3 t0 b0 f0
      go_region
      have hT4:=(heap_set_other (w:=w2.setCell ⟨w.heap.size,8+v,none⟩ (.bool true)) (i:=v) (v:=.int .i64 n) hne).trans HT3.out
      have HT5:Hid _:=hT4
      clear hT4 z4 t0' b1 f1 HT3 HT2 HW2
      generalize (w2.setCell ⟨w.heap.size,8+v,none⟩ (.bool true)).setCell ⟨w.heap.size,v,none⟩ (.int .i64 n)=w3 at *
      have HW4':Hid _:=HW4.out.below ((Below.refl _ _).drew)
      have HT4:Hid (w3.drew.heap[TB]?=some (.cells #[.int .i64 v,.int .i64 nn] 147)):=HT5.out
      clear HW4 HT5
      have HW4:Hid _:=HW4'.out
      clear HW4'
      generalize w3.drew=w4 at *
      have HNUM:Hid (Ru.num (yy.nums.set v n) ⟨v,nn⟩=n):=by
       show _=_
       unfold Ru.num
       rw [if_neg (show ¬ (v:Int)<0 by omega)]
       have h9:=HW4.out.wf.n
       simp only [List.length_set] at h9
       exact Ru.getD_set_eq _ _ _ _ (by show v<yy.nums.length; rw [h9]; exact hv8)
      have HE2:Hid (Ru.withW y ts ns=Ru.withW ⟨yy.nums.set v n,yy.known.set v true⟩ (ts.drop (k+1)) (ns.drop (k+1))):=by
       show _=_
       rw [HE.out,HD.out,Ru.with1_new HK.out]
       rfl
      go_upto_region 7 with fail
      refine wp_region_tabA (fun tQ vQ _=>vQ=withTv ((⟨yy.nums.set v n,yy.known.set v true⟩:Ru.Way)) ⟨v,nn⟩ bn on ns.length cn k n tQ) (by kernel_rfl) (by kernel_rfl) (fun _ _ _ _ _ h=>h) ?hopA ?hendA
      case hopA =>
       refine AllOps.cons (fun a y h=>?_) ?_
       · have e3:a.eval (.tmp 3)=(.pointer (some ⟨w.heap.size,0,none⟩):Value):=h.old 3 (by kernel_rfl)
         refine opOk_val (v:=wayVal (⟨yy.nums.set v n,yy.known.set v true⟩:Ru.Way)) (w':=y) (wanted_none rfl) ?_ (fun t ht=>by cases ht; exact rfl) (Below.refl _ _)
         exact load_way rfl e3 (HW4.out.below h.below).box HW4.out.wf
       refine AllOps.cons (fun a y h=>?_) ?_
       · have e9:a.eval (.tmp 9)=(.pointer (some ⟨TB,0,none⟩):Value):=h.old 9 (by kernel_rfl)
         have c0:y.cell? ⟨TB,0,none⟩=some (.int .i64 v):=by rw [Lib.cell_of_heap ((h.below.block _ (heap_lt HT4.out)).trans HT4.out)]; rfl
         have c1:y.cell? ⟨TB,1,none⟩=some (.int .i64 nn):=by rw [Lib.cell_of_heap ((h.below.block _ (heap_lt HT4.out)).trans HT4.out)]; rfl
         refine opOk_val (v:=.agg #[.int .i64 v,.int .i64 nn]) (w':=y) (wanted_none rfl) ?_ (fun t ht=>by cases ht; exact rfl) (Below.refl _ _)
         have ec:∀ v,a.eval (.const v)=v:=fun _=>rfl
         generalize a.eval=ev at *
         clear h
         go_simp
       refine AllOps.cons (fun a y h=>?_) ?_
       · have e33:a.eval (.tmp 33)=(wayVal (⟨yy.nums.set v n,yy.known.set v true⟩:Ru.Way):Value):=h.of 33 (by kernel_rfl)
         have e34:a.eval (.tmp 34)=(.agg #[.int .i64 v,.int .i64 nn]:Value):=h.of 34 (by kernel_rfl)
         refine opOk_call (f:=187) (args:=#[wayVal (⟨yy.nums.set v n,yy.known.set v true⟩:Ru.Way),.agg #[.int .i64 v,.int .i64 nn]]) (wanted_none rfl) ?_ ?_
         · have ec:∀ v,a.eval (.const v)=v:=fun _=>rfl
           have ef:∀ f,a.eval (.func f)=.func (.func f) #[] #[]:=fun _=>rfl
           generalize a.eval=ev at *
           clear h
           go_simp
         · refine Calls.mono (number_any ((⟨yy.nums.set v n,yy.known.set v true⟩:Ru.Way)) ⟨v,nn⟩ y HW4.out.wf HTk.out) ?_
           rintro _ y2 ⟨rfl,hb2⟩
           exact ⟨_,rfl,fun t ht=>by cases ht; exact rfl,hb2⟩
       refine AllOps.cons (fun a y h=>?_) ?_
       · have e2:a.eval (.tmp 2)=(.slice (some ⟨bn,on,none⟩) ns.length cn:Value):=h.old 2 (by kernel_rfl)
         refine opOk_val (v:=.slice (some ⟨bn,on,none⟩) ns.length cn) (w':=y) (wanted_none rfl) ?_ (fun t ht=>by cases ht; exact rfl) (Below.refl _ _)
         have ec:∀ v,a.eval (.const v)=v:=fun _=>rfl
         generalize a.eval=ev at *
         clear h
         go_simp
       refine AllOps.cons (fun a y h=>?_) ?_
       · have e8:a.eval (.tmp 8)=(.int .i64 k:Value):=h.old 8 (by kernel_rfl)
         refine opOk_val (v:=.int .i64 k) (w':=y) (wanted_none rfl) ?_ (fun t ht=>by cases ht; exact rfl) (Below.refl _ _)
         have ec:∀ v,a.eval (.const v)=v:=fun _=>rfl
         generalize a.eval=ev at *
         clear h
         go_simp
       refine AllOps.cons (fun a y h=>?_) ?_
       · have e36:a.eval (.tmp 36)=(.slice (some ⟨bn,on,none⟩) ns.length cn:Value):=h.of 36 (by kernel_rfl)
         have e37:a.eval (.tmp 37)=(.int .i64 k:Value):=h.of 37 (by kernel_rfl)
         refine opOk_val (v:=.pointer (some ⟨bn,on+k,none⟩)) (w':=y) (wanted_none rfl) ?_ (fun t ht=>by cases ht; exact rfl) (Below.refl _ _)
         have ec:∀ v,a.eval (.const v)=v:=fun _=>rfl
         generalize a.eval=ev at *
         clear h
         go_simp
       refine AllOps.cons (fun a y h=>?_) ?_
       · have e38:a.eval (.tmp 38)=(.pointer (some ⟨bn,on+k,none⟩):Value):=h.of 38 (by kernel_rfl)
         have c2:=cell_below (HW4.out.below h.below).bel Z0.out
         refine opOk_val (v:=.int .i64 n) (w':=y) (wanted_none rfl) ?_ (fun t ht=>by cases ht; exact rfl) (Below.refl _ _)
         have ec:∀ v,a.eval (.const v)=v:=fun _=>rfl
         generalize a.eval=ev at *
         clear h
         go_simp
       refine AllOps.cons (fun a y h=>?_) ?_
       · have e35:a.eval (.tmp 35)=(.int .i64 (Ru.num ((⟨yy.nums.set v n,yy.known.set v true⟩:Ru.Way)).nums ⟨v,nn⟩):Value):=h.of 35 (by kernel_rfl)
         have e39:a.eval (.tmp 39)=(.int .i64 n:Value):=h.of 39 (by kernel_rfl)
         refine opOk_val (v:=.bool (Ru.num ((⟨yy.nums.set v n,yy.known.set v true⟩:Ru.Way)).nums ⟨v,nn⟩ != n)) (w':=y) (wanted_none rfl) ?_ (fun t ht=>by cases ht; exact rfl) (Below.refl _ _)
         have ec:∀ v,a.eval (.const v)=v:=fun _=>rfl
         generalize a.eval=ev at *
         clear h
         go_simp
       exact AllOps.nil
      case hendA =>
       rintro ⟨tm,df⟩ wE hbE hdE hsE hstE hTE
       have h40:tm.getD 40 undef=.bool (Ru.num ((⟨yy.nums.set v n,yy.known.set v true⟩:Ru.Way)).nums ⟨v,nn⟩ != n):=ends_at (T:=fun tQ vQ _=>vQ=withTv ((⟨yy.nums.set v n,yy.known.set v true⟩:Ru.Way)) ⟨v,nn⟩ bn on ns.length cn k n tQ) (w:=wE) (a:=⟨tm,df⟩) (t:=40) hTE (by kernel_rfl)
       obtain rfl:df=[]:=hdE
       have hFE:=tmps_fold [33,34,35,36,37,38,39,40] tm _ hsE hstE
       clear hsE hstE hTE
       simp only [List.foldl_cons,List.foldl_nil,h40] at hFE
       clear h40
       generalize tm.getD 33 undef=x33 at hFE
       generalize tm.getD 34 undef=x34 at hFE
       generalize tm.getD 35 undef=x35 at hFE
       generalize tm.getD 36 undef=x36 at hFE
       generalize tm.getD 37 undef=x37 at hFE
       generalize tm.getD 38 undef=x38 at hFE
       generalize tm.getD 39 undef=x39 at hFE
       simp only [List.setIfInBounds_toArray,List.set_cons_zero,List.set_cons_succ] at hFE
       subst hFE
       have HW5:Hid _:=HW4.out.below hbE
       clear hbE HW4 HT4
       have hq:(Ru.num (yy.nums.set v n) ⟨v,nn⟩ != n)=false:=by rw [HNUM.out]; simp
       rw [hq]
       go_wp2_with fail
       go_roundw
       case rel=>exact ⟨k+1,_,hkl,by go_num,HW5.out,HE2.out⟩
       case measure=>simp [intOf]; omega
    · have HK:Hid _:=hkn2
      clear hkn2
      have HW4:Hid _:=HW2.out
      have HT4:Hid _:=HT2.out
      clear HW2 HT2
      generalize w2=w4 at *
      go_upto_region 7 with fail
      refine wp_region_tabA (fun tQ vQ _=>vQ=withTv (yy) t bn on ns.length cn k n tQ) (by kernel_rfl) (by kernel_rfl) (fun _ _ _ _ _ h=>h) ?hopB ?hendB
      case hopB =>
       refine AllOps.cons (fun a y h=>?_) ?_
       · have e3:a.eval (.tmp 3)=(.pointer (some ⟨w.heap.size,0,none⟩):Value):=h.old 3 (by kernel_rfl)
         refine opOk_val (v:=wayVal yy) (w':=y) (wanted_none rfl) ?_ (fun t ht=>by cases ht; exact rfl) (Below.refl _ _)
         exact load_way rfl e3 (HW4.out.below h.below).box HW4.out.wf
       refine AllOps.cons (fun a y h=>?_) ?_
       · have e9:a.eval (.tmp 9)=(.pointer (some ⟨TB,0,none⟩):Value):=h.old 9 (by kernel_rfl)
         have c0:y.cell? ⟨TB,0,none⟩=some (.int .i64 t.var):=by rw [Lib.cell_of_heap ((h.below.block _ (heap_lt HT4.out)).trans HT4.out)]; rfl
         have c1:y.cell? ⟨TB,1,none⟩=some (.int .i64 t.n):=by rw [Lib.cell_of_heap ((h.below.block _ (heap_lt HT4.out)).trans HT4.out)]; rfl
         refine opOk_val (v:=.agg #[.int .i64 t.var,.int .i64 t.n]) (w':=y) (wanted_none rfl) ?_ (fun t ht=>by cases ht; exact rfl) (Below.refl _ _)
         have ec:∀ v,a.eval (.const v)=v:=fun _=>rfl
         generalize a.eval=ev at *
         clear h
         go_simp
       refine AllOps.cons (fun a y h=>?_) ?_
       · have e33:a.eval (.tmp 33)=(wayVal yy:Value):=h.of 33 (by kernel_rfl)
         have e34:a.eval (.tmp 34)=(.agg #[.int .i64 t.var,.int .i64 t.n]:Value):=h.of 34 (by kernel_rfl)
         refine opOk_call (f:=187) (args:=#[wayVal yy,.agg #[.int .i64 t.var,.int .i64 t.n]]) (wanted_none rfl) ?_ ?_
         · have ec:∀ v,a.eval (.const v)=v:=fun _=>rfl
           have ef:∀ f,a.eval (.func f)=.func (.func f) #[] #[]:=fun _=>rfl
           generalize a.eval=ev at *
           clear h
           go_simp
         · refine Calls.mono (number_any (yy) t y HW4.out.wf HTk.out) ?_
           rintro _ y2 ⟨rfl,hb2⟩
           exact ⟨_,rfl,fun t ht=>by cases ht; exact rfl,hb2⟩
       refine AllOps.cons (fun a y h=>?_) ?_
       · have e2:a.eval (.tmp 2)=(.slice (some ⟨bn,on,none⟩) ns.length cn:Value):=h.old 2 (by kernel_rfl)
         refine opOk_val (v:=.slice (some ⟨bn,on,none⟩) ns.length cn) (w':=y) (wanted_none rfl) ?_ (fun t ht=>by cases ht; exact rfl) (Below.refl _ _)
         have ec:∀ v,a.eval (.const v)=v:=fun _=>rfl
         generalize a.eval=ev at *
         clear h
         go_simp
       refine AllOps.cons (fun a y h=>?_) ?_
       · have e8:a.eval (.tmp 8)=(.int .i64 k:Value):=h.old 8 (by kernel_rfl)
         refine opOk_val (v:=.int .i64 k) (w':=y) (wanted_none rfl) ?_ (fun t ht=>by cases ht; exact rfl) (Below.refl _ _)
         have ec:∀ v,a.eval (.const v)=v:=fun _=>rfl
         generalize a.eval=ev at *
         clear h
         go_simp
       refine AllOps.cons (fun a y h=>?_) ?_
       · have e36:a.eval (.tmp 36)=(.slice (some ⟨bn,on,none⟩) ns.length cn:Value):=h.of 36 (by kernel_rfl)
         have e37:a.eval (.tmp 37)=(.int .i64 k:Value):=h.of 37 (by kernel_rfl)
         refine opOk_val (v:=.pointer (some ⟨bn,on+k,none⟩)) (w':=y) (wanted_none rfl) ?_ (fun t ht=>by cases ht; exact rfl) (Below.refl _ _)
         have ec:∀ v,a.eval (.const v)=v:=fun _=>rfl
         generalize a.eval=ev at *
         clear h
         go_simp
       refine AllOps.cons (fun a y h=>?_) ?_
       · have e38:a.eval (.tmp 38)=(.pointer (some ⟨bn,on+k,none⟩):Value):=h.of 38 (by kernel_rfl)
         have c2:=cell_below (HW4.out.below h.below).bel Z0.out
         refine opOk_val (v:=.int .i64 n) (w':=y) (wanted_none rfl) ?_ (fun t ht=>by cases ht; exact rfl) (Below.refl _ _)
         have ec:∀ v,a.eval (.const v)=v:=fun _=>rfl
         generalize a.eval=ev at *
         clear h
         go_simp
       refine AllOps.cons (fun a y h=>?_) ?_
       · have e35:a.eval (.tmp 35)=(.int .i64 (Ru.num (yy).nums t):Value):=h.of 35 (by kernel_rfl)
         have e39:a.eval (.tmp 39)=(.int .i64 n:Value):=h.of 39 (by kernel_rfl)
         refine opOk_val (v:=.bool (Ru.num (yy).nums t != n)) (w':=y) (wanted_none rfl) ?_ (fun t ht=>by cases ht; exact rfl) (Below.refl _ _)
         have ec:∀ v,a.eval (.const v)=v:=fun _=>rfl
         generalize a.eval=ev at *
         clear h
         go_simp
       exact AllOps.nil
      case hendB =>
       rintro ⟨tm,df⟩ wE hbE hdE hsE hstE hTE
       have h40:tm.getD 40 undef=.bool (Ru.num (yy).nums t != n):=ends_at (T:=fun tQ vQ _=>vQ=withTv (yy) t bn on ns.length cn k n tQ) (w:=wE) (a:=⟨tm,df⟩) (t:=40) hTE (by kernel_rfl)
       obtain rfl:df=[]:=hdE
       have hFE:=tmps_fold [33,34,35,36,37,38,39,40] tm _ hsE hstE
       clear hsE hstE hTE
       simp only [List.foldl_cons,List.foldl_nil,h40] at hFE
       clear h40
       generalize tm.getD 33 undef=x33 at hFE
       generalize tm.getD 34 undef=x34 at hFE
       generalize tm.getD 35 undef=x35 at hFE
       generalize tm.getD 36 undef=x36 at hFE
       generalize tm.getD 37 undef=x37 at hFE
       generalize tm.getD 38 undef=x38 at hFE
       generalize tm.getD 39 undef=x39 at hFE
       simp only [List.setIfInBounds_toArray,List.set_cons_zero,List.set_cons_succ] at hFE
       subst hFE
       have HW5:Hid _:=HW4.out.below hbE
       clear hbE HW4 HT4
       by_cases hnum:Ru.num yy.nums t=n
       · have HE2:Hid (Ru.withW y ts ns=Ru.withW yy (ts.drop (k+1)) (ns.drop (k+1))):=by
          show _=_
          rw [HE.out,HD.out,Ru.with1_yes HK.out hnum]
         have hq:(Ru.num yy.nums t != n)=false:=by rw [hnum]; simp
         rw [hq]
         clear hnum hq
         go_wp2_with fail
         go_roundw
         case rel=>exact ⟨k+1,_,hkl,by go_num,HW5.out,HE2.out⟩
         case measure=>simp [intOf]; omega
       · have HE2:Hid (Ru.withW y ts ns=none):=by
          show _=_
          rw [HE.out,HD.out,Ru.with1_no HK.out hnum]
         have hq:(Ru.num yy.nums t != n)=true:=by simpa using hnum
         rw [hq]
         clear hnum hq
         go_wp2_with (refine wpList_storeWay rfl _ _ rfl _ rfl Ru.way0 Ru.way0 rfl HW5.out.res ⟨rfl,rfl⟩ ⟨rfl,rfl⟩ ?_)
         refine bodyPost_ret (results_way rfl rfl (way_set HW5.out.res) ⟨rfl,rfl⟩) rfl ⟨?_,way_set_below HW5.out.bel (Nat.le_succ _)⟩
         unfold Ru.withO
         rw [HE2.out]
         rfl
  · have hdd:decide (k<ts.length)=false:=decide_eq_false hkl
    have hke:k=ts.length:=by omega
    have HE2:Hid (Ru.withW y ts ns=some yy):=by
     show _=_
     rw [HE.out,hke]
     exact Ru.withW_end _ _ _
    clear hke
    go_wp2_with (first
     | (refine wpList_loadWay (wanted_none rfl) _ rfl _ rfl yy HW.out.box HW.out.wf ?_)
     | (refine wpList_storeWay rfl _ _ rfl _ rfl Ru.way0 yy rfl HW.out.res ⟨rfl,rfl⟩ HW.out.wf ?_))
    refine bodyPost_ret (results_way rfl rfl (way_set HW.out.res) HW.out.wf) rfl ⟨?_,way_set_below HW.out.bel (Nat.le_succ _)⟩
    unfold Ru.withO
    rw [HE2.out]
    rfl
namespace Ru
section
variable {σ:Type}
def run (step:σ→Way→σ × Bool):σ→List Way→σ × Bool
 | s,[]=>(s,true)
 | s,x::L=>if (step s x).2=true then run step (step s x).1 L else ((step s x).1,false)
def Lv (step:σ→Way→σ × Bool) (live:σ→Way→Prop):σ→List Way→Prop
 | _,[]=>True
 | s,x::L=>live s x∧((step s x).2=true→Lv step live (step s x).1 L)
theorem run_cons (step:σ→Way→σ × Bool) (s:σ) (x:Way) (L:List Way):run step s (x::L)=if (step s x).2=true then run step (step s x).1 L else ((step s x).1,false):=rfl
theorem run_append (step:σ→Way→σ × Bool):∀ (L M:List Way) (s:σ),run step s (L++M)=if (run step s L).2=true then run step (run step s L).1 M else ((run step s L).1,false)
 | [],M,s=>by rw [List.nil_append]; show _=if true=true then run step s M else _; rw [if_pos rfl]
 | x::L,M,s=>by
  rw [List.cons_append,run_cons,run_cons]
  by_cases h:(step s x).2=true
  · rw [if_pos h,if_pos h,run_append step L M]
  · rw [if_neg h,if_neg h]
    rfl
theorem run_flat (step:σ→Way→σ × Bool) (f:Way→List Way):∀ (L:List Way) (s:σ),run step s (L.flatMap f)=run (fun s x=>run step s (f x)) s L
 | [],s=>rfl
 | x::L,s=>by
  rw [List.flatMap_cons,run_append]
  show _=if (run step s (f x)).2=true then run (fun s x=>run step s (f x)) (run step s (f x)).1 L else ((run step s (f x)).1,false)
  rw [run_flat step f L]
theorem lv_append (step:σ→Way→σ × Bool) (live:σ→Way→Prop):∀ (L M:List Way) (s:σ),Lv step live s (L++M)→Lv step live s L∧((run step s L).2=true→Lv step live (run step s L).1 M)
 | [],M,s,h=>⟨trivial,fun _=>h⟩
 | x::L,M,s,h=>by
  obtain ⟨h1,h2⟩:=h
  refine ⟨⟨h1,fun hs=>(lv_append step live L M _ (h2 hs)).1⟩,fun hr=>?_⟩
  rw [run_cons] at hr ⊢
  by_cases hs:(step s x).2=true
  · rw [if_pos hs] at hr ⊢
    exact (lv_append step live L M _ (h2 hs)).2 hr
  · rw [if_neg hs] at hr
    cases hr
theorem lv_flat (step:σ→Way→σ × Bool) (live:σ→Way→Prop) (f:Way→List Way):∀ (L:List Way) (s:σ),Lv step live s (L.flatMap f)→Lv (fun s x=>run step s (f x)) (fun s x=>Lv step live s (f x)) s L
 | [],s,_=>trivial
 | x::L,s,h=>by
  rw [List.flatMap_cons] at h
  obtain ⟨h1,h2⟩:=lv_append step live _ _ _ h
  exact ⟨h1,fun hs=>lv_flat step live f L _ (h2 hs)⟩
end
end Ru
structure Kp (n0 NB:Nat) (w w':World):Prop where
 os:w'.os=w.os
 tape:w'.tape=w.tape
 output:w'.output=w.output
 size:w.heap.size≤w'.heap.size
 low:∀ k,k<n0→w'.heap[k]?=w.heap[k]?
 keep:∀ k c t,w.heap[k]?=some (.cells c t)→k≠NB→t≠22→w'.heap[k]?=some (.cells c t)
theorem Kp.trans {n0 NB:Nat} {a b c:World} (h:Kp n0 NB a b) (k:Kp n0 NB b c):Kp n0 NB a c :=
 ⟨k.os.trans h.os,k.tape.trans h.tape,k.output.trans h.output,Nat.le_trans h.size k.size,fun j hj=>(k.low j hj).trans (h.low j hj),fun j o t hj h1 h2=>k.keep j o t (h.keep j o t hj h1 h2) h1 h2⟩
theorem Kp.of_below {n0 NB:Nat} {w w':World} (h:Below w.heap.size w w') (hn:n0≤w.heap.size):Kp n0 NB w w' :=
 ⟨h.os,h.tape,h.output,h.size,fun k hk=>h.block k (Nat.lt_of_lt_of_le hk hn),fun k _ _ hk _ _=>(h.block k (heap_lt hk)).trans hk⟩
theorem Kp.below {n0 NB:Nat} {w0 w w':World} (h:Kp n0 NB w w') (hb:Below n0 w0 w):Below n0 w0 w' :=
 ⟨h.os.trans hb.os,h.tape.trans hb.tape,h.output.trans hb.output,Nat.le_trans hb.size h.size,fun k hk=>(h.low k hk).trans (hb.block k hk)⟩
theorem Kp.way {n0 NB:Nat} {w w':World} (h:Kp n0 NB w w') {b:Nat} {y:Ru.Way} (hb:b≠NB) (hW:WayAt w b y):WayAt w' b y:=h.keep b _ _ hW hb (by decide)
structure Tell (n0 NB h:Nat) (cb:Array Value) {σ:Type} (step:σ→Ru.Way→σ × Bool) (live:σ→Ru.Way→Prop) (I:σ→World→Prop):Prop where
 call:∀ s w x,I s w→live s x→Ru.Wf 8 x→Calls Tryz.prog h (#[wayVal x]++cb) w fun e w'=>e=.returned (.bool (step s x).2)∧I (step s x).1 w'∧Kp n0 NB w w'
 grow:∀ s w w',I s w→Below w.heap.size w w'→I s w'
 room:∀ s w,I s w→n0≤w.heap.size∧NB<w.heap.size
end Go.Proofs.YthenjegmigeieaaGreat
