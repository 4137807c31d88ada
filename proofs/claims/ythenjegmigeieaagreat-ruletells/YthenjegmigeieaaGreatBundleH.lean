/- Own texts, one behind the other (part 8). -/
import Derived.Test.YthenjegmigeieaaGreatBundleG
import Derived.Test.YthenjegmigeieaaGreatRows
set_option maxRecDepth 100000
set_option maxHeartbeats 8000000
namespace Go.Proofs.YthenjegmigeieaaGreat
open Go.RowKit
def earlyFine (ops:Array Oper) (S:Nat) (early:Nat→Bool):Bool:=(List.range ops.size).all fun i=>i==S || reach ops 12 i S || ((ops[i]?).map fun o=>(o.dst.map early).getD true).getD true
section
variable {P:Program} {ops:Array Oper} {Q:Exit→Act→World→Prop}
theorem wp_region_tailS (T T1:Nat→Value→World→Prop) (L S:Nat) (early:Nat→Bool) {id:Nat} {a0:Act} {w0:World} (hL:L<ops.size) (htf:tailFine ops L=true) (hm:P.follows .mixedOrders=true)
 (hf:tabFine ops a0.tmps.size=true) (hear:earlyFine ops S early=true)
 (hmono:∀ t v w w',Below w.heap.size w w'→T t v w→T t v w') (hmono1:∀ t v w w',Below w.heap.size w w'→T1 t v w→T1 t v w')
 (hmonoE:∀ t v w w',early t=true→Below w0.heap.size w w'→T t v w→T t v w')
 (hop:AllOpsI (fun i o=>∀ a w,OpIn ops T a0 w0 o a w→(∀ t,t∉(ops.toList.take L).filterMap (·.dst)→a.tmps.getD t undef=a0.tmps.getD t undef)→if i=S then (OpIn ops T1 a0 w0 o a w→Region.wanted o (yielded ops a.tmps)=true∧o.wp P a w (fun a' w'=>∃ v,a'=a.put o.dst v∧(∀ t,o.dst=some t→T t v w')∧w.heap.size≤w'.heap.size∧Below w0.heap.size w w') Q) else OpOk P ops Q (fun t v w=>T t v w∧T1 t v w) o a w) 0 (ops.toList.take L))
 (htail:∀ a w,OpInT ops T a0 w0 L a w→(∀ t,t∉(ops.toList.take L).filterMap (·.dst)→a.tmps.getD t undef=a0.tmps.getD t undef)→wpOps P ops Q (List.range' L (ops.size - L)) a w) :
 (Code.region id ops true).wp P Q a0 w0:=by
 have hear':∀ (i:Nat) (o:Oper) (t:Nat),ops[i]?=some o→o.dst=some t→¬ i=S→reach ops 12 i S=false→early t=true:=fun i o t ho hd hne hr=>by
  unfold earlyFine at hear
  have h:=List.all_eq_true.mp hear i (List.mem_range.mpr (Array.getElem?_eq_some_iff.mp ho).1)
  rw [ho,hr] at h
  simp only [Option.map_some,Option.getD_some,hd,Bool.or_false,Bool.or_eq_true,beq_iff_eq] at h
  rcases h with h | h
  · exact absurd h hne
  · exact h
 unfold tailFine at htf
 rw [Bool.and_eq_true] at htf
 have ht1:∀ j,j<L→reach ops 12 L j=true:=fun j hj=>List.all_eq_true.mp htf.1 j (List.mem_range.mpr hj)
 have ht2:∀ i,i<ops.size→L<i→reach ops 12 i (i - 1)=true:=fun i hi hLi=>by
  have h:=List.all_eq_true.mp htf.2 i (List.mem_range.mpr hi)
  rw [decide_eq_true hLi] at h
  simpa using h
 unfold tabFine at hf
 rw [Bool.and_eq_true,Bool.and_eq_true] at hf
 obtain ⟨⟨hnd,hlt⟩,hah⟩:=hf
 have hnd:=of_decide_eq_true hnd
 have hlt':∀ t,t∈ops.toList.filterMap (·.dst)→t<a0.tmps.size:=fun t ht=>of_decide_eq_true (List.all_eq_true.mp hlt t ht)
 have hah':∀ (i:Nat) (o:Oper),ops[i]?=some o→∀ e,e∈o.after→e.on<i:=fun i o ho e he=>by
  have hi:i<ops.size:=(Array.getElem?_eq_some_iff.mp ho).1
  have h:=List.all_eq_true.mp hah i (List.mem_range.mpr hi)
  rw [ho,Option.map_some,Option.getD_some] at h
  exact of_decide_eq_true (List.all_eq_true.mp h e (by simpa using he))
 refine wp_region_inv (fun s a w=>(s.size=ops.size∧Closed ops s)∧(((∀ i,L≤i→i<ops.size→s[i]?=some false)∧(∀ t,t∉(ops.toList.take L).filterMap (·.dst)→a.tmps.getD t undef=a0.tmps.getD t undef)∧(s[S]?=some false→Tabbed ops T1 a0 w0 s a w)∧Tabbed ops T a0 w0 s a w) ∨
  (∃ m,L≤m∧m≤ops.size∧(∀ i,i<m→s[i]?=some true)∧(∀ i,m≤i→i<ops.size→s[i]?=some false)∧wpOps P ops Q (List.range' m (ops.size - m)) a w))) hm ?_ ?_ ?_
 · rintro s a w hr ⟨⟨hs,hC⟩,hI⟩
   have hall:∀ n:Nat,n≤ops.size→∀ i:Nat,i<n→s[i]?=some true:=by
    intro n
    induction n with
    | zero=>intro _ i hi; exact absurd hi (Nat.not_lt_zero _)
    | succ n ih =>
     intro hn i hi
     have ih:=ih (by omega)
     by_cases hin:i<n
     · exact ih i hin
     · have hin:i=n:=by omega
       subst hin
       cases hsi:s[i]? with
       | none=>rw [Array.getElem?_eq_none_iff] at hsi; omega
       | some b =>
        cases b with
        | true=>rfl
        | false =>
         exfalso
         have hio:i<ops.size:=by omega
         have:i∈Region.ready .any ops s:=by
          unfold Region.ready
          refine List.mem_filter.mpr ⟨List.mem_range.mpr hio,?_⟩
          rw [Bool.and_eq_true]
          refine ⟨by simp [Array.getD_eq_getD_getElem?,hsi],?_⟩
          have ho:ops[i]?=some ops[i]:=Array.getElem?_eq_getElem hio
          rw [ho,Option.map_some,Option.getD_some,Array.all_eq_true_iff_forall_mem]
          intro e he
          have h1:=ih e.on (hah' i _ ho e he)
          simp [Array.getD_eq_getD_getElem?,h1]
         rw [hr] at this
         exact absurd this (by simp)
   have hd:=hall ops.size (Nat.le_refl _)
   rcases hI with ⟨hF,_,_,_⟩ | ⟨m,_,hm1,_,hF,hW⟩
   · have h1:=hF L (Nat.le_refl _) hL
     rw [hd L hL] at h1
     cases h1
   · by_cases hme:m=ops.size
     · subst hme
       rw [Nat.sub_self] at hW
       exact hW
     · have h1:=hF m (Nat.le_refl _) (by omega)
       rw [hd m (by omega)] at h1
       cases h1
 · rintro s a w i hi ⟨⟨hs,hC⟩,hI⟩
   obtain ⟨hsi,o,ho,haf⟩:=ready_mem hi
   have his:i<ops.size:=(Array.getElem?_eq_some_iff.mp ho).1
   have hup:∀ j,s[j]?=some true→(s.setIfInBounds i true)[j]?=some true:=fun j hj=>by
    rw [Array.getElem?_setIfInBounds]
    by_cases hij:i=j
    · rw [if_pos hij,if_pos (by omega)]
    · rw [if_neg hij]; exact hj
   have hss:(s.setIfInBounds i true).size=ops.size∧Closed ops (s.setIfInBounds i true):=by
    refine ⟨by simp [hs],fun i' o' hi' ho' e he hb=>?_⟩
    by_cases hii:i=i'
    · subst hii
      rw [ho] at ho'
      cases ho'
      exact hup _ (haf e he hb)
    · rw [Array.getElem?_setIfInBounds,if_neg hii] at hi'
      exact hup _ (hC i' o' hi' ho' e he hb)
   have go:∀ m,L≤m→m<ops.size→i=m→(∀ j,j<m→s[j]?=some true)→(∀ j,m≤j→j<ops.size→s[j]?=some false)→wpOps P ops Q (List.range' m (ops.size - m)) a w →
    wpOp P ops Q i (fun a' w'=>((s.setIfInBounds i true).size=ops.size∧Closed ops (s.setIfInBounds i true))∧(((∀ j,L≤j→j<ops.size→(s.setIfInBounds i true)[j]?=some false)∧(∀ t,t∉(ops.toList.take L).filterMap (·.dst)→a'.tmps.getD t undef=a0.tmps.getD t undef)∧((s.setIfInBounds i true)[S]?=some false→Tabbed ops T1 a0 w0 (s.setIfInBounds i true) a' w')∧Tabbed ops T a0 w0 (s.setIfInBounds i true) a' w') ∨
     (∃ m,L≤m∧m≤ops.size∧(∀ j,j<m→(s.setIfInBounds i true)[j]?=some true)∧(∀ j,m≤j→j<ops.size→(s.setIfInBounds i true)[j]?=some false)∧wpOps P ops Q (List.range' m (ops.size - m)) a' w'))) a w:=by
    intro m hLm hms him hT hF hW
    subst him
    obtain ⟨d,hd⟩:∃ d,ops.size - i=d+1:=⟨ops.size - i - 1,by omega⟩
    rw [hd,List.range'_succ,wpOps_cons] at hW
    refine wpOp_mono (fun a' w' h'=>⟨hss,.inr ⟨i+1,by omega,by omega,fun j hj=>?_,fun j hj hjs=>?_,?_⟩⟩) hW
    · by_cases hji:j=i
      · subst hji
        rw [Array.getElem?_setIfInBounds,if_pos rfl,if_pos (by omega)]
      · exact hup j (hT j (by omega))
    · rw [Array.getElem?_setIfInBounds,if_neg (by omega)]
      exact hF j (by omega) hjs
    · rw [show ops.size - (i+1)=d by omega]
      exact h'
   rcases hI with ⟨hF,hO,hI1,hI⟩ | ⟨m,hLm,hm1,hT,hF,hW⟩
   · by_cases hiL:L≤i
     · have hiL2:i=L:=by
        rcases Nat.lt_or_ge L i with h | h
        · have h1:=reach_done hC 12 i (i - 1) o ho haf (ht2 i his h)
          rw [hF (i - 1) (by omega) (by omega)] at h1
          cases h1
        · omega
       subst hiL2
       have hdn:∀ j,j<i→s[j]?=some true:=fun j hj=>reach_done hC 12 i j o ho haf (ht1 j hj)
       exact go i (Nat.le_refl _) his rfl hdn (fun j hj hjs=>hF j hj hjs) (htail a w ⟨hI.below,hI.defers,hI.size,hI.still,fun j oj t hj hoj hd=>hI.done j oj t (hdn j hj) hoj hd⟩ hO)
     · have hmo:o∈ops.toList.take L:=by
        rw [← Array.getElem?_toList] at ho
        refine List.mem_of_getElem? (i:=i) ?_
        rw [List.getElem?_take,if_pos (by omega)]
        exact ho
       have hopI:=AllOpsI.get _ 0 hop i o (by
        rw [List.getElem?_take,if_pos (by omega),Array.getElem?_toList]
        exact ho) a w ⟨hI.below,hI.still,fun e he hb o' t ho' hd=>hI.done e.on o' t (haf e he hb) ho' hd⟩ hO
       rw [Nat.zero_add] at hopI
       have hOset:∀ (v:Value) t,t∉(ops.toList.take L).filterMap (·.dst)→(a.put o.dst v).tmps.getD t undef=a0.tmps.getD t undef:=fun v t ht=>by
        cases hd:o.dst with
        | none=>exact hO t ht
        | some u =>
         have hne:t≠u:=fun h=>ht (h ▸ List.mem_filterMap.mpr ⟨o,hmo,hd⟩)
         rw [put_get_ne hne]
         exact hO t ht
       have hset:∀ {T:Nat→Value→World→Prop} {v:Value} {w':World},Tabbed ops T a0 w0 s a w→(∀ t,o.dst=some t→T t v w')→w.heap.size≤w'.heap.size→Below w0.heap.size w w'→(∀ (j:Nat) (oj:Oper) (t:Nat),s[j]?=some true→ops[j]?=some oj→oj.dst=some t→∀ u,T t u w→T t u w')→Tabbed ops T a0 w0 (s.setIfInBounds i true) (a.put o.dst v) w':=by
        intro T v w' hI hv hsz hb hmono
        refine ⟨hI.below.trans hb,by rw [put_defers]; exact hI.defers,by rw [put_size]; exact hI.size,fun t ht=>?_,fun j oj t hj hoj hd=>?_⟩
        · cases hd:o.dst with
          | none=>exact hI.still t ht
          | some u =>
           have hne:t≠u:=fun h=>ht (h ▸ dst_mem ho hd)
           rw [put_get_ne hne]
           exact hI.still t ht
        · by_cases hij:j=i
          · subst hij
            rw [ho] at hoj
            cases hoj
            rw [hd,put_get_self (by rw [hI.size]; exact hlt' t (dst_mem ho hd))]
            exact hv t hd
          · have hj':s[j]?=some true:=by
             rw [Array.getElem?_setIfInBounds,if_neg (fun h=>hij h.symm)] at hj
             exact hj
            have h1:=hmono j oj t hj' hoj hd _ (hI.done j oj t hj' hoj hd)
            cases hd2:o.dst with
            | none=>exact h1
            | some u =>
             have hne:t≠u:=fun h=>hij (dst_inj ops.toList hnd j i oj o t (by rw [Array.getElem?_toList]; exact hoj) (by rw [Array.getElem?_toList]; exact ho) hd (h ▸ hd2))
             rw [put_get_ne hne]
             exact h1
       have hF':∀ j,L≤j→j<ops.size→(s.setIfInBounds i true)[j]?=some false:=fun j hj hjs=>by
        rw [Array.getElem?_setIfInBounds,if_neg (by omega)]
        exact hF j hj hjs
       by_cases hiS:i=S
       · rw [if_pos hiS] at hopI
         have hT1:=hI1 (by rw [← hiS]; exact hsi)
         obtain ⟨hw,hwp⟩:=hopI ⟨hT1.below,hT1.still,fun e he hb o' t ho' hd=>hT1.done e.on o' t (haf e he hb) ho' hd⟩
         unfold wpOp
         rw [ho]
         dsimp only
         rw [if_pos hw]
         refine .inl (Oper.wp_mono ?_ hwp)
         rintro a' w' ⟨v,rfl,hv,hsz,hb⟩
         refine ⟨hss,.inl ⟨hF',hOset v,fun h=>?_,hset hI hv hsz hb (fun j oj t hj hoj hd u hu=>?_)⟩⟩
         · rw [hiS,Array.getElem?_setIfInBounds,if_pos rfl,if_pos (by omega)] at h
           cases h
         · have hjS:¬ j=S:=fun e=>by rw [e,← hiS,hsi] at hj; cases hj
           have hr:reach ops 12 j S=false:=by
            cases hr:reach ops 12 j S with
            | false=>rfl
            | true =>
             have h1:=reach_done hC 12 j S oj hoj (fun e he hb=>hC j oj hj hoj e he hb) hr
             rw [← hiS,hsi] at h1
             cases h1
           exact hmonoE t u w w' (hear' j oj t hoj hd hjS hr) hb hu
       · rw [if_neg hiS] at hopI
         have hSs:(s.setIfInBounds i true)[S]?=some false→s[S]?=some false:=fun h=>by
          rw [Array.getElem?_setIfInBounds,if_neg hiS] at h
          exact h
         have hlow:∀ {w':World},Below w.heap.size w w'→Below w0.heap.size w w':=fun hb=>hb.mono hI.below.size
         unfold OpOk at hopI
         unfold wpOp
         rw [ho]
         dsimp only
         by_cases hw:Region.wanted o (yielded ops a.tmps)=true
         · rw [if_pos hw] at hopI ⊢
           refine hopI.imp (Oper.wp_mono ?_) (fun h=>h)
           rintro a' w' ⟨v,rfl,hv,hb⟩
           exact ⟨hss,.inl ⟨hF',hOset v,fun h=>hset (hI1 (hSs h)) (fun t ht=>(hv t ht).2) hb.size (hlow hb) (fun _ _ t _ _ _ u hu=>hmono1 t u w w' hb hu),hset hI (fun t ht=>(hv t ht).1) hb.size (hlow hb) (fun _ _ t _ _ _ u hu=>hmono t u w w' hb hu)⟩⟩
         · rw [if_neg hw] at hopI ⊢
           exact ⟨hss,.inl ⟨hF',hOset _,fun h=>hset (hI1 (hSs h)) (fun t ht=>(hopI t ht).2) (Nat.le_refl _) (hlow (Below.refl _ _)) (fun _ _ t _ _ _ u hu=>hu),hset hI (fun t ht=>(hopI t ht).1) (Nat.le_refl _) (hlow (Below.refl _ _)) (fun _ _ t _ _ _ u hu=>hu)⟩⟩
   · have him:m≤i:=by
      rcases Nat.lt_or_ge i m with h | h
      · have h1:=hT i h
        rw [hsi] at h1
        cases h1
      · exact h
     have him2:i=m:=by
      rcases Nat.lt_or_ge m i with h | h
      · have h1:=reach_done hC 12 i (i - 1) o ho haf (ht2 i his (by omega))
        rw [hF (i - 1) (by omega) (by omega)] at h1
        cases h1
      · omega
     exact go m hLm (by omega) him2 hT hF hW
 · refine ⟨⟨by simp,fun i o h=>?_⟩,.inl ⟨fun i _ hi=>?_,fun _ _=>rfl,fun _=>⟨⟨rfl,rfl,rfl,Nat.le_refl _,fun _ _=>rfl⟩,rfl,rfl,fun _ _=>rfl,fun i o t h _ _=>?_⟩,⟨⟨rfl,rfl,rfl,Nat.le_refl _,fun _ _=>rfl⟩,rfl,rfl,fun _ _=>rfl,fun i o t h _ _=>?_⟩⟩⟩
   · rw [Array.getElem?_replicate] at h
     split at h <;> simp at h
   · rw [Array.getElem?_replicate,if_pos hi]
   · rw [Array.getElem?_replicate] at h
     split at h <;> simp at h
   · rw [Array.getElem?_replicate] at h
     split at h <;> simp at h
end
theorem EqualI_q (x y:List Int) (v u:Value) (w:World) (hV:IntsV w v x) (hU:IntsV w u y) (hl:x.length≤1000000):Calls Tryz.prog 107 #[v,u] w fun e w'=>e=.returned (.bool (decide (x=y)))∧∃ n,w'=w.drewN n:=by
 obtain ⟨ao,cap,rfl,hA⟩:=hV
 obtain ⟨bo,cbp,rfl,hB⟩:=hU
 have HA:Hid _:=hA
 have HB:Hid _:=hB
 clear hA hB
 by_cases hlen:x.length=y.length
 · have HLEN:Hid _:=hlen
   have g0:((x.length:Int) != (y.length:Int))=false:=by rw [hlen]; simp
   clear hlen
   go_enter Tryz.func107,Tryz.ntmps107
   go_wp2_with fail
   go_loopw [13] (fun iv wr=>∃ k nq:Nat,k≤x.length∧iv=.int .i64 k∧Hid (x=y↔x.drop k=y.drop k)∧wr=w.drewN nq) (fun iv _=>x.length - (intOf iv).toNat)
   case atStart=>exact ⟨0,0,by omega,rfl,Iff.rfl,rfl⟩
   case round =>
    obtain ⟨k,nq,hk,rfl,HR,rfl⟩:=hrel
    by_cases hlt:k<x.length
    · have hlt2:k<y.length:=by have:=HLEN.out; omega
      obtain ⟨b',off',rfl,hck⟩:=ints_cell HA.out hlt
      obtain ⟨b2,off2,rfl,hck2⟩:=ints_cell HB.out hlt2
      have HS:Hid _:=Ru.eq_step HLEN.out hlt
      generalize Sc.intD x k=a at *
      generalize Sc.intD y k=c at *
      by_cases hac:a=c
      · have gx:(a != c)=false:=by simpa using hac
        have HR2:Hid (x=y↔x.drop (k+1)=y.drop (k+1)):=HR.out.trans (HS.out.trans ⟨fun h=>h.2,fun h=>⟨hac,h⟩⟩)
        clear hac
        go_upto_region 6 with fail
        go_quiet (fail)
        go_wp2_with fail
        go_roundw
        case rel=>exact ⟨k+1,_,hlt,by go_num,HR2.out,rfl⟩
        case measure=>simp [intOf]; omega
      · have gx:(a != c)=true:=by simpa using hac
        have HE:Hid (decide (x=y)=false):=decide_eq_false (fun h=>hac (HS.out.mp (HR.out.mp h)).1)
        clear hac
        go_upto_region 6 with fail
        go_quiet (fail)
        go_wp2_with fail
        go_ret
        exact ⟨by rw [HE.out]; rfl,_,World.drewN_drewN _ _ _⟩
    · have hdd:decide (k<x.length)=false:=decide_eq_false hlt
      have HE:Hid (decide (x=y)=true):=decide_eq_true (HR.out.mpr (by have:=HLEN.out; rw [List.drop_of_length_le (by omega),List.drop_of_length_le (by omega)]))
      go_wp2_with fail
      go_ret
      exact ⟨by rw [HE.out]; rfl,_,rfl⟩
 · have HE:Hid (decide (x=y)=false):=decide_eq_false (fun h=>hlen (by rw [h]))
   have g0:((x.length:Int) != (y.length:Int))=true:=by simp; omega
   clear hlen
   go_enter Tryz.func107,Tryz.ntmps107
   go_wp2_with fail
   go_ret
   exact ⟨by rw [HE.out]; rfl,0,rfl⟩
def fold12V (RV:Value) (FB fb fc m:Nat) (pd nn:Int) (tQ:Nat) (vQ:Value):Prop :=
 match tQ with
 | 57=>vQ=(RV:Value)
 | 58=>vQ=(.pointer (some ⟨FB,0,none⟩):Value)
 | 59=>vQ=(.int .i64 pd:Value)
 | 60=>vQ=(.pointer (some ⟨FB,1,none⟩):Value)
 | 61=>vQ=(.slice (some ⟨fb,0,none⟩) (m+1) fc:Value)
 | 62=>vQ=(.int .i64 (m:Nat):Value)
 | 63=>vQ=(.slice (some ⟨fb,0,none⟩) m fc:Value)
 | 65=>vQ=(.int .i64 nn:Value)
 | _=>True
def fold12T (RV:Value) (FB fb fc m:Nat) (pd nn:Int) (B:Nat) (l:List Int) (tQ:Nat) (vQ:Value) (WQ:World):Prop :=
 if tQ=67 then WQ.ownsRow B 3 1 vQ (l++[nn]).length ((l++[nn]).map (Value.int .i64))
 else if tQ=68 then ∃ u,vQ=.agg #[.int .i64 pd,u]∧WQ.ownsRow B 3 1 u (l++[nn]).length ((l++[nn]).map (Value.int .i64))
 else if tQ=69 then ∃ b' u,vQ=.slice (some ⟨b',0,none⟩) 1 1∧WQ.heap[b']?=some (.cells #[.int .i64 pd,u] 55)∧WQ.ownsRow B 3 1 u (l++[nn]).length ((l++[nn]).map (Value.int .i64)) else fold12V RV FB fb fc m pd nn tQ vQ
theorem fold12T_mono (RV:Value) (FB fb fc m:Nat) (pd nn:Int) (B:Nat) (l:List Int) (tQ:Nat) (vQ:Value) (W W':World) (hb:Below W.heap.size W W') (h:fold12T RV FB fb fc m pd nn B l tQ vQ W):fold12T RV FB fb fc m pd nn B l tQ vQ W':=by
 unfold fold12T at h ⊢
 by_cases ht:tQ=67
 · rw [if_pos ht] at h ⊢
   exact ownsRow_below h hb
 · rw [if_neg ht] at h ⊢
   by_cases ht2:tQ=68
   · rw [if_pos ht2] at h ⊢
     obtain ⟨u,h1,h2⟩:=h
     exact ⟨u,h1,ownsRow_below h2 hb⟩
   · rw [if_neg ht2] at h ⊢
     by_cases ht3:tQ=69
     · rw [if_pos ht3] at h ⊢
       obtain ⟨b',u,h1,h2,h3⟩:=h
       exact ⟨b',u,h1,(hb.block b' (Array.getElem?_eq_some_iff.mp h2).1).trans h2,ownsRow_below h3 hb⟩
     · rw [if_neg ht3] at h ⊢
       exact h
def fold12E (t:Nat):Bool:=!(t==67 || t==68 || t==69)
theorem fold12T_early (RV:Value) (FB fb fc m:Nat) (pd nn:Int) (B:Nat) (l:List Int) (tQ:Nat) (vQ:Value) (W W':World) (he:fold12E tQ=true) (h:fold12T RV FB fb fc m pd nn B l tQ vQ W):fold12T RV FB fb fc m pd nn B l tQ vQ W':=by
 unfold fold12E at he
 simp only [Bool.not_eq_true',Bool.or_eq_false_iff,beq_eq_false_iff_ne] at he
 unfold fold12T at h ⊢
 rw [if_neg he.1.1,if_neg he.1.2,if_neg he.2] at h ⊢
 exact h
def fold12U (nn:Int) (B:Nat) (l:List Int) (tQ:Nat) (vQ:Value) (WQ:World):Prop :=
 if tQ=64 then WQ.ownsRow B 3 1 vQ l.length (l.map (Value.int .i64))
 else if tQ=66 then ∃ b',vQ=.slice (some ⟨b',0,none⟩) 1 1∧WQ.heap[b']?=some (.cells #[.int .i64 nn] 3) else True
theorem fold12U_mono (nn:Int) (B:Nat) (l:List Int) (tQ:Nat) (vQ:Value) (W W':World) (hb:Below W.heap.size W W') (h:fold12U nn B l tQ vQ W):fold12U nn B l tQ vQ W':=by
 unfold fold12U at h ⊢
 by_cases ht:tQ=64
 · rw [if_pos ht] at h ⊢
   exact ownsRow_below h hb
 · rw [if_neg ht] at h ⊢
   by_cases ht2:tQ=66
   · rw [if_pos ht2] at h ⊢
     obtain ⟨b',h1,h2⟩:=h
     exact ⟨b',h1,(hb.block b' (Array.getElem?_eq_some_iff.mp h2).1).trans h2⟩
   · rw [if_neg ht2] at h ⊢
     exact h
theorem sortF_none (p:Option Addr) (cap:Nat) (fv:Value) (w:World):Calls Tryz.prog 106 #[.slice p 0 cap,fv] w fun e w'=>e=.returned (.tuple #[])∧w'=w:=by
 have hs:=AnyF.slices_SortFunc_none Tryz.sortF p cap fv w
 exact hs
theorem own_form3 {w:World} {B n:Nat} {v:Value} {l:List Int} (h:w.ownsRow B 3 1 v l.length (l.map (Value.int .i64))) (hn:l.length=n+1):∃ g c,v=.slice (some ⟨g,0,none⟩) (n+1) c∧n+1≤c∧∀ i,i<n+1→w.cell? ⟨g,i,none⟩=some (.int .i64 (Sc.intD l i)):=by
 have h':=h
 obtain ⟨_,h2⟩:=h
 rcases h2 with ⟨_,h2⟩ | ⟨g,cap,cur,rfl,_,_,hc,_⟩
 · omega
 · rw [hn] at hc
   refine ⟨g,cap,by rw [hn],hc,fun i hi=>?_⟩
   rw [World.ownsRow.cellAt h' i (by omega),List.getElem?_map,List.getElem?_eq_getElem (by omega)]
   unfold Sc.intD
   rw [List.getD_eq_getElem?_getD,List.getElem?_eq_getElem (by omega)]
   rfl
theorem folded_any (f:Int) (m:Nat) (q:List Fv) (v:Value) (B:Nat) (w:World) (hq:w.ownsRow B 55 2 v q.length (q.map fcCells).flatten) (hro:∀ p,p∈q→w.ownsRow B 3 1 p.2 p.1.args.length (p.1.args.map (Value.int .i64))) (hl:q.length≤2000) (hm:m≤1000) (hA:∀ p,p∈q→p.1.args.length=m+1∧∀ n,n∈p.1.args→Sc.isNum n=true) :
 Calls Tryz.prog 58 #[.int .i64 f,v] w fun e w'=>∃ v' S,e=.returned v'∧S.Perm (q.map (·.1))∧S.Pairwise (fun a b=>Rl.ord a b≤0)∧FactsP w.heap.size w' v' (Ru.folded f S [])∧Below B w w':=by
 obtain ⟨i0,hi,hz0,hz1,hz2⟩:=info_parts rl_info49
 obtain ⟨j0,hj,hy0,hy1,hy2⟩:=info_parts rl_info3
 rcases ownsRow_forms9 hq with ⟨hv,hq0⟩ | ⟨g,cap,hv⟩
 · have hq1:q=[]:=List.eq_nil_of_length_eq_zero hq0
   subst hq1 hv
   clear hq hro hA hl hq0
   go_enter Tryz.func58,Tryz.ntmps58
   go_wp2_with fail
   refine Calls.mono (sortF_none _ _ _ _) ?_
   rintro e w5 ⟨rfl,rfl⟩
   go_wp2_with fail
   refine wp_loop_rounds 1 ?_
   rw [rounds_succ]
   go_wp2_with fail
   go_ret
   exact ⟨_,[],rfl,List.Perm.refl _,List.Pairwise.nil,⟨[],rfl,World.ownsRow_nil _ _ _ _,fun _ hp=>absurd hp (by simp)⟩,Below.refl _ _⟩
 · subst hv
   have HSO:Hid _:=sortF_any w B g cap q hq (fun p hp=>⟨fun w' hw'=>own_ints (own_type (hro p hp) (fun k c hk=>(hw' k (heap_lt hk) (fun e=>by have:=own_ty hq (k:=k) (by rw [e]; rfl) hk; cases this)).trans hk)),by have:=(hA p hp).1; show _≤_; omega⟩) (by omega)
   have HQ:Hid (FRow w B g cap q):=hq
   have HRq:Hid _:=hro
   have HAq:Hid _:=hA
   clear hq hro hA
   go_enter Tryz.func58,Tryz.ntmps58
   go_wp2_with fail
   refine Calls.mono HSO.out ?_
   rintro e w1 ⟨rfl,Q,hperm,hsorted,hrow,hgr⟩
   have hQl:Q.length=q.length:=hperm.length_eq
   have hQR:∀ p,p∈Q→w1.ownsRow B 3 1 p.2 p.1.args.length (p.1.args.map (Value.int .i64)):=fun p hp=>own_type (HRq.out p (hperm.mem_iff.mp hp)) (fun k c hk=>(hgr.block k (heap_lt hk) (fun e=>by have:=own_ty HQ.out (k:=k) e.symm hk; cases this)).trans hk)
   have HQR:Hid _:=hQR
   have HQA:Hid (∀ p,p∈Q→p.1.args.length=m+1∧∀ n,n∈p.1.args→Sc.isNum n=true):=fun p hp=>HAq.out p (hperm.mem_iff.mp hp)
   have HPM:Hid ((Q.map (·.1)).Perm (q.map (·.1))):=hperm.map _
   have HSRT:Hid ((Q.map (·.1)).Pairwise (fun a b=>Rl.ord a b≤0)):=hsorted.imp fun {a b} hab=>by
    have h1:¬ Rl.ord b a<0:=hab
    have:=Rl.ord_flip a b
    omega
   have HROW:Hid (FRow w1 B g cap Q):=hrow
   have HB0:Hid (Below B w w1):=⟨hgr.os,hgr.tape,hgr.output,hgr.size,fun k hk=>hgr.block k (by have:=HQ.out.lt; omega) (fun e=>by injection e with e; have:=HQ.out.lt.1; omega)⟩
   have HSZ:Hid (w.heap.size≤w1.heap.size):=hgr.size
   have HBW:Hid (B≤w.heap.size):=by have:=HQ.out.lt; show _≤_; omega
   rw [← hQl] at hl ⊢
   have HQL:Hid _:=hQl
   clear hperm hsorted hrow hgr hQR HRq HAq HSO HQ hQl
   go_wp2_with fail
   go_loopw [5,6,15] (fun vo vn iv wr=>∃ (k:Nat) (qo:List Fv) (ns:List Int) (Bn:Nat),k≤Q.length∧iv=.int .i64 k∧Hid (Ru.folded f (Q.map (·.1)) []=qo.map (·.1)++Ru.folded f ((Q.map (·.1)).drop k) ns)∧Hid (wr.ownsRow w1.heap.size 55 2 vo qo.length (qo.map fcCells).flatten)∧Hid (∀ p,p∈qo→wr.ownsRow w1.heap.size 3 1 p.2 p.1.args.length (p.1.args.map (Value.int .i64))∧∀ k,p.2.ownBlock=some k→k<Bn)∧Hid (wr.ownsRow Bn 3 1 vn ns.length (ns.map (Value.int .i64)))∧Hid (Bn≤wr.heap.size∧w1.heap.size≤Bn)∧qo.length≤k∧ns.length≤k∧Hid (∀ n,n∈ns→Sc.isNum n=true)∧Hid (Below w1.heap.size w1 wr)) (fun _ _ iv _=>Q.length - (intOf iv).toNat)
   case atStart=>exact ⟨0,[],[],w1.heap.size,Nat.zero_le _,rfl,by show _=_; rw [List.drop_zero]; rfl,World.ownsRow_nil _ _ _ _,fun _ hp=>absurd hp (by simp),World.ownsRow_nil _ _ _ _,⟨Nat.le_refl _,Nat.le_refl _⟩,Nat.le_refl _,Nat.le_refl _,fun _ h=>absurd h (by simp),Below.refl _ _⟩
   case round =>
    obtain ⟨wo,hwo⟩:∃ wo,wo=wr:=⟨_,rfl⟩
    subst hwo
    obtain ⟨k,qo,ns,Bn,hk,rfl,HE,HO,HRO,HN,HBn,hqk,hnk,HNN,HB⟩:=hrel
    obtain ⟨ao,co,rfl⟩:=own_slice HO.out
    obtain ⟨an,cn,rfl⟩:=own_slice HN.out
    by_cases hlt:k<Q.length
    · obtain ⟨x,hx,hxm⟩:=get_lt hlt
      obtain ⟨fb,fc,hxv,hfc,hxc⟩:=own_form3 (HQR.out x hxm) (HQA.out x hxm).1
      obtain ⟨c0,c1⟩:=HROW.out.cell hx
      rw [hxv] at c1
      have q0:=cell_below HB.out c0
      have q1:=cell_below HB.out c1
      have l1:=cell_below HB.out (hxc m (Nat.lt_succ_self m))
      have HXV:Hid (IntsV w1 (.slice (some ⟨fb,0,none⟩) m fc) (Ru.pre x.1.args)):=by
       have:=ints_pre (w:=w1) (ao:=some ⟨fb,0,none⟩) (l:=x.1.args) fc (.inr ⟨fb,0,rfl,fun i hi=>by rw [(HQA.out x hxm).1] at hi; rw [Nat.zero_add]; exact hxc i hi⟩)
       rw [(HQA.out x hxm).1] at this
       exact this
      have HFD:Hid (Rl.factD (Q.map (·.1)) k=x.1):=by show _=_; unfold Rl.factD; rw [List.getD_eq_getElem?_getD,List.getElem?_map,hx]; rfl
      have HLS:Hid (Ru.lst x.1.args=Sc.intD x.1.args m):=by show _=_; rw [Ru.lst_eq,(HQA.out x hxm).1]; rfl
      have HLN:Hid (Sc.isNum (Ru.lst x.1.args)=true):=Ru.lst_num (by have:=(HQA.out x hxm).1; omega) (HQA.out x hxm).2
      have HPL:Hid ((Ru.pre x.1.args).length=m):=by show _=_; rw [Ru.pre_length,(HQA.out x hxm).1]; rfl
      rw [← HLS.out] at l1
      have HNX:Hid (k+1<Q.length→∃ gb gc,w1.cell? ⟨g,(k+1) * 2+1,none⟩=some (.slice (some ⟨gb,0,none⟩) (m+1) gc)∧m+1≤gc∧IntsV w1 (.slice (some ⟨gb,0,none⟩) m gc) (Ru.pre (Rl.factD (Q.map (·.1)) (k+1)).args)):=fun h1=>by
       obtain ⟨y,hy,hym⟩:=get_lt h1
       obtain ⟨gb,gc,hyv,hgc,hyc⟩:=own_form3 (HQR.out y hym) (HQA.out y hym).1
       obtain ⟨_,d1⟩:=HROW.out.cell hy
       rw [hyv] at d1
       have:=ints_pre (w:=w1) (ao:=some ⟨gb,0,none⟩) (l:=y.1.args) gc (.inr ⟨gb,0,rfl,fun i hi=>by rw [(HQA.out y hym).1] at hi; rw [Nat.zero_add]; exact hyc i hi⟩)
       rw [(HQA.out y hym).1] at this
       refine ⟨gb,gc,d1,hgc,?_⟩
       rw [show Rl.factD (Q.map (·.1)) (k+1)=y.1 from by unfold Rl.factD; rw [List.getD_eq_getElem?_getD,List.getElem?_map,hy]; rfl]
       exact this
      have HGO:Hid _:=fun h1 hp=>Ru.folded_go f (S:=Q.map (·.1)) (k:=k) h1 hp ns
      have HCUT:Hid _:=fun hp=>Ru.folded_cut f (S:=Q.map (·.1)) (k:=k) (by rw [List.length_map]; exact hlt) hp ns
      rw [HFD.out,List.length_map] at HGO HCUT
      clear c0 c1 hxc hx hxm hxv HFD HLS
      obtain ⟨⟨pd,fa⟩,xv⟩:=x
      dsimp only at *
      generalize Ru.lst fa=la at *
      go_upto_region 7 with fail
      have hba:Below wo.heap.size wo (wo.alloc (.cells #[.int .i64 pd,.slice (some ⟨fb,0,none⟩) (m+1) fc] 55)):=(Below.refl _ _).alloc (Nat.le_refl _) _
      have hbx:=heap_alloc_new wo (.cells #[.int .i64 pd,.slice (some ⟨fb,0,none⟩) (m+1) fc] 55)
      have HO1:Hid ((wo.alloc (.cells #[.int .i64 pd,.slice (some ⟨fb,0,none⟩) (m+1) fc] 55)).ownsRow w1.heap.size 55 2 (.slice ao qo.length co) qo.length (qo.map fcCells).flatten):=ownsRow_below HO.out hba
      have HN1:Hid ((wo.alloc (.cells #[.int .i64 pd,.slice (some ⟨fb,0,none⟩) (m+1) fc] 55)).ownsRow Bn 3 1 (.slice an ns.length cn) ns.length (ns.map (Value.int .i64))):=ownsRow_below HN.out hba
      have HRO1:Hid (∀ p,p∈qo→(wo.alloc (.cells #[.int .i64 pd,.slice (some ⟨fb,0,none⟩) (m+1) fc] 55)).ownsRow w1.heap.size 3 1 p.2 p.1.args.length (p.1.args.map (Value.int .i64))∧∀ k,p.2.ownBlock=some k→k<Bn):=fun p hp=>⟨ownsRow_below (HRO.out p hp).1 hba,(HRO.out p hp).2⟩
      have HB1:Hid _:=HB.out.trans (hba.mono HB.out.size)
      have HBn1:Hid _:=Nat.le_trans HBn.out.1 hba.size
      have hBn2:=HBn.out.2
      have l2:=cell_below hba l1
      clear q0 q1 l1 HO HN HRO HB HBn hba
      generalize hfb:wo.heap.size=FB at *
      generalize wo.alloc (.cells #[.int .i64 pd,.slice (some ⟨fb,0,none⟩) (m+1) fc] 55)=wa at *
      clear hfb
      have f0:wa.cell? ⟨FB,0,none⟩=some (.int .i64 pd):=by rw [Lib.cell_of_heap hbx]; rfl
      have f1:wa.cell? ⟨FB,1,none⟩=some (.slice (some ⟨fb,0,none⟩) (m+1) fc):=by rw [Lib.cell_of_heap hbx]; rfl
      have HBX:Hid _:=hbx
      clear hbx
      have hBnn:=HBn1.out
      go_wp2_with (at_builtin; refine wpList_append_own _ rfl (.tmp 24) (.tmp 30) 22 rfl Bn 3 j0 _ 1 8 Tryz.underlying22 hj hy0 hy1 hy2 rfl (by decide) _ _ _ rfl (HN1.out.alloc _) ⟨wa.heap.size,0,none⟩ 1 1 [.int .i64 la] rfl rfl ?c1 ?c2 ?c3 ?c4 ?c5 ?_)
      case c2=>rfl
      case c3=>unfold maxLen; omega
      case c4=>omega
      case c5=>omega
      intro vn2 w4 hn4 hg4 _
      obtain ⟨an4,cn4,rfl⟩:=own_slice hn4
      have hba:Below wa.heap.size wa (wa.alloc (.cells #[.int .i64 la] 3)):=(Below.refl _ _).alloc (Nat.le_refl _) _
      have hn1:=ownsRow_below HN1.out hba
      have hot:∀ (k:Nat) (c:Array Value) (t:TypeId),wa.heap[k]?=some (.cells c t)→t≠3→w4.heap[k]?=some (.cells c t):=fun k c t hk ht=>(hg4.block k (Nat.lt_of_lt_of_le (heap_lt hk) hba.size) (fun e=>ht (own_ty HN1.out e.symm hk))).trans ((hba.block k (heap_lt hk)).trans hk)
      have HO4:Hid (w4.ownsRow w1.heap.size 55 2 (.slice ao qo.length co) qo.length (qo.map fcCells).flatten):=own_type HO1.out (fun k c hk=>hot k c 55 hk (by decide))
      have HN4:Hid (w4.ownsRow Bn 3 1 (.slice an4 (ns.length+1) cn4) (ns++[la]).length ((ns++[la]).map (Value.int .i64))):=by
       show World.ownsRow _ _ _ _ _ _ _
       rw [List.length_append,List.map_append]
       exact hn4
      have HRO4:Hid (∀ p,p∈qo→w4.ownsRow w1.heap.size 3 1 p.2 p.1.args.length (p.1.args.map (Value.int .i64))∧∀ k,p.2.ownBlock=some k→k<Bn):=fun p hp=>⟨rl_own_alone (HRO1.out p hp).1 (fun g hg=>(hg4.block g (Nat.lt_of_lt_of_le ((HRO1.out p hp).1.lt g hg).2 hba.size) (fun e=>by have:=(HRO1.out p hp).2 g hg; have:=(hn1.lt g e.symm).1; omega)).trans (hba.block g ((HRO1.out p hp).1.lt g hg).2)),(HRO1.out p hp).2⟩
      have HB4:Hid (Below w1.heap.size w1 w4):=(HB1.out.trans (hba.mono HB1.out.size)).grown hg4 (by have:=HB1.out.size; have:=hba.size; omega) (fun k hk=>by have:=(hn1.lt k hk).1; omega)
      have HBn4:Hid (Bn≤w4.heap.size):=Nat.le_trans HBn1.out (Nat.le_trans hba.size hg4.size)
      have HBX4:Hid _:=hot _ _ _ HBX.out (by decide)
      have HNN4:Hid (∀ n,n∈ns++[la]→Sc.isNum n=true):=fun n hn=>by
       rcases List.mem_append.mp hn with hn | hn
       · exact HNN.out n hn
       · rw [List.mem_singleton.mp hn]; exact HLN.out
      have HPV4:Hid (IntsV w4 (.slice (some ⟨fb,0,none⟩) m fc) (Ru.pre fa)):=intsV_below HXV.out HB4.out
      have f04:w4.cell? ⟨FB,0,none⟩=some (.int .i64 pd):=by rw [Lib.cell_of_heap HBX4.out]; rfl
      have f14:w4.cell? ⟨FB,1,none⟩=some (.slice (some ⟨fb,0,none⟩) (m+1) fc):=by rw [Lib.cell_of_heap HBX4.out]; rfl
      clear f0 f1 hn4 hg4 hba hn1 hot HO1 HN1 HRO1 HB1 HBn1 HBX l2 HNN HLN
      by_cases h1:k+1<Q.length
      · obtain ⟨gb,gc,d1,hgc,hpg⟩:=HNX.out h1
        have d4:=cell_below HB4.out d1
        have HQE:Hid (∀ j,Calls Tryz.prog 107 #[.slice (some ⟨fb,0,none⟩) m fc,.slice (some ⟨gb,0,none⟩) m gc] (w4.drewN j) fun e w'=>e=.returned (.bool (decide (Ru.pre fa=Ru.pre (Rl.factD (Q.map (·.1)) (k+1)).args)))∧∃ n,w'=(w4.drewN j).drewN n):=fun j=>EqualI_q _ _ _ _ _ (intsV_below HPV4.out (blw_drewN _ _)) (intsV_below (intsV_below hpg HB4.out) (blw_drewN _ _)) (by have:=HPL.out; omega)
        have g1:decide ((k:Int)+1<(Q.length:Int))=true:=decide_eq_true (by omega)
        clear hpg d1 HNX
        by_cases hp:Ru.pre fa=Ru.pre (Rl.factD (Q.map (·.1)) (k+1)).args
        · rw [decide_eq_true hp] at HQE
          have HE3:Hid (Ru.folded f (Q.map (·.1)) []=qo.map (·.1)++Ru.folded f ((Q.map (·.1)).drop (k+1)) (ns++[la])):=by show _=_; rw [HE.out,HGO.out h1 hp]
          clear hp HE HGO HCUT
          go_upto_region 9 with fail
          go_quiet (first | (go_at_call 107; exact Calls.quiet_of (HQE.out _)))
          go_wp2_with fail
          go_roundw
          case rel=>exact ⟨k+1,qo,ns++[la],Bn,hlt,by go_num,HE3.out,ownsRow_below HO4.out (blw_drewN _ _),fun p hp=>⟨ownsRow_below (HRO4.out p hp).1 (blw_drewN _ _),(HRO4.out p hp).2⟩,ownsRow_below HN4.out (blw_drewN _ _),⟨Nat.le_trans HBn4.out (blw_drewN _ _).size,hBn2⟩,Nat.le_succ_of_le hqk,by rw [List.length_append]; exact Nat.succ_le_succ hnk,HNN4.out,HB4.out.trans ((blw_drewN _ _).mono HB4.out.size)⟩
          case measure=>simp [intOf]; omega
        · rw [decide_eq_false hp] at HQE
          have HNP:Hid (¬ (k+1<Q.length∧Ru.pre fa=Ru.pre (Rl.factD (Q.map (·.1)) (k+1)).args)):=fun h=>hp h.2
          clear hp HGO
          go_upto_region 9 with fail
          go_quiet (first | (go_at_call 107; exact Calls.quiet_of (HQE.out _)))
          clear HQE d4
          have HO5:Hid ((w4.drewN nq).ownsRow w1.heap.size 55 2 (.slice ao qo.length co) qo.length (qo.map fcCells).flatten):=ownsRow_below HO4.out (blw_drewN w4 nq)
          have HN5:Hid ((w4.drewN nq).ownsRow Bn 3 1 (.slice an4 (ns.length+1) cn4) (ns++[la]).length ((ns++[la]).map (Value.int .i64))):=ownsRow_below HN4.out (blw_drewN w4 nq)
          have HRO5:Hid (∀ p,p∈qo→(w4.drewN nq).ownsRow w1.heap.size 3 1 p.2 p.1.args.length (p.1.args.map (Value.int .i64))∧∀ k,p.2.ownBlock=some k→k<Bn):=fun p hp=>⟨ownsRow_below (HRO4.out p hp).1 (blw_drewN w4 nq),(HRO4.out p hp).2⟩
          have HB5:Hid _:=HB4.out.trans ((blw_drewN w4 nq).mono HB4.out.size)
          have HPV5:Hid _:=intsV_below HPV4.out (blw_drewN w4 nq)
          have f0:=cell_below (blw_drewN w4 nq) f04
          have f1:=cell_below (blw_drewN w4 nq) f14
          clear f04 f14 HO4 HN4 HRO4 HB4 HPV4 HBX4 HBn4
          generalize w4.drewN nq=wd at *
          have HF:Hid _:=foldedNumber_any f (ns++[la]) _ wd (own_ints HN5.out) (by rw [List.length_append]; exact Nat.succ_pos _) (by rw [List.length_append,List.length_singleton]; omega) HNN4.out
          go_wp2_with fail
          refine Calls.mono HF.out ?_
          rintro _ z ⟨rfl,rfl⟩
          clear HF
          have HE4:Hid (Ru.folded f (Q.map (·.1)) []=qo.map (·.1)++((if Sc.isNum (Ru.foldN f (ns++[la]))=true then [(⟨pd,Ru.pre fa++[Ru.foldN f (ns++[la])]⟩:Rl.Fc)] else [])++Ru.folded f ((Q.map (·.1)).drop (k+1)) [])):=by show _=_; rw [HE.out,HCUT.out HNP.out]; rfl
          generalize Ru.foldN f (ns++[la])=nn at *
          have HI:Hid _:=isNum_any nn z
          go_wp2_with fail
          refine Calls.mono HI.out ?_
          rintro _ wd ⟨rfl,rfl⟩
          clear HI
          cases hn:Sc.isNum nn
          · have HE3:Hid (Ru.folded f (Q.map (·.1)) []=qo.map (·.1)++Ru.folded f ((Q.map (·.1)).drop (k+1)) []):=by show _=_; rw [HE4.out,hn]; rfl
            clear HE4 hn
            go_wp2_with fail
            go_roundw
            case rel=>exact ⟨k+1,qo,[],wd.heap.size,hlt,by go_num,HE3.out,HO5.out,fun p hp=>⟨(HRO5.out p hp).1,fun k hk=>((HRO5.out p hp).1.lt k hk).2⟩,World.ownsRow_nil _ _ _ _,⟨Nat.le_refl _,HB5.out.size⟩,Nat.le_succ_of_le hqk,Nat.zero_le _,fun _ h=>absurd h (by simp),HB5.out⟩
            case measure=>simp [intOf]; omega
          · have HE3:Hid (∀ u:Value,Ru.folded f (Q.map (·.1)) []=(qo++[((⟨pd,Ru.pre fa++[nn]⟩:Rl.Fc),u)]).map (·.1)++Ru.folded f ((Q.map (·.1)).drop (k+1)) []):=fun u=>by rw [HE4.out,hn,if_pos rfl,List.map_append,List.append_assoc]; rfl
            clear HE4 hn
            go_upto_region 12 with fail
            obtain ⟨WS,HWS⟩:∃ WS,Hid (WS=wd.heap.size):=⟨_,rfl⟩
            refine wp_region_tailS (fold12T (.slice ao qo.length co) FB fb fc m pd nn WS (Ru.pre fa)) (fold12U nn WS (Ru.pre fa)) 13 10 fold12E (by decide) (by kernel_rfl) (by kernel_rfl) (by kernel_rfl) (by kernel_rfl) (fold12T_mono (.slice ao qo.length co) FB fb fc m pd nn WS (Ru.pre fa)) (fold12U_mono nn WS (Ru.pre fa)) (fun t v w w' he _ h=>fold12T_early (.slice ao qo.length co) FB fb fc m pd nn WS (Ru.pre fa) t v w w' he h) ?hopA ?htailA
            case hopA =>
             refine AllOpsI.cons (fun a y_ h hO=>?_) ?_
             · rw [if_neg (by decide)]
               have e5:a.eval (.tmp 5)=(.slice ao qo.length co:Value):=hO 5 (by decide)
               refine opOk_val (v:=.slice ao qo.length co) (w':=y_) (wanted_none rfl) ?_ (fun t ht=>by cases ht; exact ⟨rfl,trivial⟩) (Below.refl _ _)
               have ec:=evc a
               generalize a.eval=ev at *
               clear h hO
               go_simp
             refine AllOpsI.cons (fun a y_ h hO=>?_) ?_
             · rw [if_neg (by decide)]
               have e8:a.eval (.tmp 8)=(.pointer (some ⟨FB,0,none⟩):Value):=h.old 8 (by kernel_rfl)
               refine opOk_val (v:=.pointer (some ⟨FB,0,none⟩)) (w':=y_) (wanted_none rfl) ?_ (fun t ht=>by cases ht; exact ⟨rfl,trivial⟩) (Below.refl _ _)
               have ec:=evc a
               generalize a.eval=ev at *
               clear h hO
               go_simp
             refine AllOpsI.cons (fun a y_ h hO=>?_) ?_
             · rw [if_neg (by decide)]
               have e58:a.eval (.tmp 58)=(.pointer (some ⟨FB,0,none⟩):Value):=h.of 58 (by kernel_rfl)
               have c0:=cell_below h.below f0
               refine opOk_val (v:=.int .i64 pd) (w':=y_) (wanted_none rfl) ?_ (fun t ht=>by cases ht; exact ⟨rfl,trivial⟩) (Below.refl _ _)
               have ec:=evc a
               generalize a.eval=ev at *
               clear h hO
               go_simp
             refine AllOpsI.cons (fun a y_ h hO=>?_) ?_
             · rw [if_neg (by decide)]
               have e8:a.eval (.tmp 8)=(.pointer (some ⟨FB,0,none⟩):Value):=h.old 8 (by kernel_rfl)
               refine opOk_val (v:=.pointer (some ⟨FB,1,none⟩)) (w':=y_) (wanted_none rfl) ?_ (fun t ht=>by cases ht; exact ⟨rfl,trivial⟩) (Below.refl _ _)
               have ec:=evc a
               generalize a.eval=ev at *
               clear h hO
               go_simp
             refine AllOpsI.cons (fun a y_ h hO=>?_) ?_
             · rw [if_neg (by decide)]
               have e60:a.eval (.tmp 60)=(.pointer (some ⟨FB,1,none⟩):Value):=h.of 60 (by kernel_rfl)
               have c0:=cell_below h.below f1
               refine opOk_val (v:=.slice (some ⟨fb,0,none⟩) (m+1) fc) (w':=y_) (wanted_none rfl) ?_ (fun t ht=>by cases ht; exact ⟨rfl,trivial⟩) (Below.refl _ _)
               have ec:=evc a
               generalize a.eval=ev at *
               clear h hO
               go_simp
             refine AllOpsI.cons (fun a y_ h hO=>?_) ?_
             · rw [if_neg (by decide)]
               have e9:a.eval (.tmp 9)=(.int .i64 (m:Nat):Value):=h.old 9 (by kernel_rfl)
               refine opOk_val (v:=.int .i64 (m:Nat)) (w':=y_) (wanted_none rfl) ?_ (fun t ht=>by cases ht; exact ⟨rfl,trivial⟩) (Below.refl _ _)
               have ec:=evc a
               generalize a.eval=ev at *
               clear h hO
               go_simp
             refine AllOpsI.cons (fun a y_ h hO=>?_) ?_
             · rw [if_neg (by decide)]
               have e61:a.eval (.tmp 61)=(.slice (some ⟨fb,0,none⟩) (m+1) fc:Value):=h.of 61 (by kernel_rfl)
               have e62:a.eval (.tmp 62)=(.int .i64 (m:Nat):Value):=h.of 62 (by kernel_rfl)
               have g0:(0:Int)≤(m:Int):=by omega
               have g8:(m:Int)≤(fc:Int):=by omega
               refine opOk_val (v:=.slice (some ⟨fb,0,none⟩) m fc) (w':=y_) (wanted_none rfl) ?_ (fun t ht=>by cases ht; exact ⟨rfl,trivial⟩) (Below.refl _ _)
               have ec:=evc a
               generalize a.eval=ev at *
               clear h hO
               go_simp
             refine AllOpsI.cons (fun a y_ h hO=>?_) ?_
             · rw [if_neg (by decide)]
               have e63:a.eval (.tmp 63)=(.slice (some ⟨fb,0,none⟩) m fc:Value):=h.of 63 (by kernel_rfl)
               refine opOk_call (f:=77) (args:=#[.slice (some ⟨fb,0,none⟩) m fc]) (wanted_none rfl) ?_ ?_
               · have ec:=evc a
                 have ef:=evf a
                 generalize a.eval=ev at *
                 clear h hO
                 go_simp
               · refine Calls.mono (cloneI_any (Ru.pre fa) _ y_ (intsV_below HPV5.out h.below) (by have:=HPL.out; omega)) ?_
                 rintro _ y2 ⟨v',rfl,hown,hb2⟩
                 refine ⟨_,rfl,fun t ht=>?_,hb2⟩
                 cases ht
                 exact ⟨trivial,rl_own_le hown (by rw [HWS.out]; exact h.below.size)⟩
             refine AllOpsI.cons (fun a y_ h hO=>?_) ?_
             · rw [if_neg (by decide)]
               have e10:a.eval (.tmp 10)=(.int .i64 nn:Value):=h.old 10 (by kernel_rfl)
               refine opOk_val (v:=.int .i64 nn) (w':=y_) (wanted_none rfl) ?_ (fun t ht=>by cases ht; exact ⟨rfl,trivial⟩) (Below.refl _ _)
               have ec:=evc a
               generalize a.eval=ev at *
               clear h hO
               go_simp
             refine AllOpsI.cons (fun a y_ h hO=>?_) ?_
             · rw [if_neg (by decide)]
               have e65:a.eval (.tmp 65)=(.int .i64 nn:Value):=h.of 65 (by kernel_rfl)
               refine opOk_val (v:=.slice (some ⟨y_.heap.size,0,none⟩) 1 1) (w':=y_.alloc (.cells #[.int .i64 nn] 3)) (wanted_none rfl) ?_ (fun t ht=>by cases ht; exact ⟨trivial,⟨_,rfl,heap_alloc_new y_ _⟩⟩) ((Below.refl _ _).alloc (Nat.le_refl _) _)
               have ec:=evc a
               generalize a.eval=ev at *
               clear h hO
               go_simp
             refine AllOpsI.cons (fun a y_ h hO=>?_) ?_
             · rw [if_pos (by decide)]
               intro h1
               refine ⟨wanted_none rfl,?_⟩
               have ho64:y_.ownsRow WS 3 1 (a.eval (.tmp 64)) (Ru.pre fa).length ((Ru.pre fa).map (Value.int .i64)):=h1.of 64 (by kernel_rfl)
               obtain ⟨b',e66,hb'⟩:∃ b',a.eval (.tmp 66)=.slice (some ⟨b',0,none⟩) 1 1∧y_.heap[b']?=some (.cells #[.int .i64 nn] 3):=h1.of 66 (by kernel_rfl)
               have hWy:WS≤y_.heap.size:=by rw [HWS.out]; exact h.below.size
               refine wp_append_own y_ (.tmp 64) (.tmp 66) 22 rfl WS 3 j0 _ 1 8 Tryz.underlying22 hj hy0 hy1 hy2 rfl (by decide) _ _ _ rfl ho64 ⟨b',0,none⟩ 1 1 (#[Value.int .i64 nn]:Array Value).toList e66 rfl (row_news hb') (fun u hu=>by simp only [List.mem_cons,List.not_mem_nil,or_false] at hu; subst hu; rfl) (by have:=HPL.out; unfold maxLen; omega) (by have:=HPL.out; omega) hWy ?_
               intro v9 w9 ho9 hg9 _
               refine ⟨v9,rfl,fun t ht=>?_,hg9.size,hg9.os,hg9.tape,hg9.output,hg9.size,fun k hk=>hg9.block k (by rw [HWS.out] at hWy; omega) (fun e=>by have:=(ho64.lt k e.symm).1; rw [HWS.out] at this; omega)⟩
               cases ht
               show w9.ownsRow WS 3 1 v9 ((Ru.pre fa)++[nn]).length (((Ru.pre fa)++[nn]).map (Value.int .i64))
               rw [List.length_append,List.map_append]
               exact ho9
             refine AllOpsI.cons (fun a y_ h hO=>?_) ?_
             · rw [if_neg (by decide)]
               have ho:y_.ownsRow WS 3 1 (a.eval (.tmp 67)) ((Ru.pre fa)++[nn]).length (((Ru.pre fa)++[nn]).map (Value.int .i64)):=h.of 67 (by kernel_rfl)
               have e59:a.eval (.tmp 59)=(.int .i64 pd:Value):=h.of 59 (by kernel_rfl)
               obtain ⟨a9,c9,e67⟩:=own_slice ho
               rw [e67] at ho
               refine opOk_val (v:=.agg #[.int .i64 pd,.slice a9 ((Ru.pre fa)++[nn]).length c9]) (w':=y_) (wanted_none rfl) ?_ (fun t ht=>by cases ht; exact ⟨⟨_,rfl,ho⟩,trivial⟩) (Below.refl _ _)
               have ec:=evc a
               generalize a.eval=ev at *
               clear h hO
               go_simp
             refine AllOpsI.cons (fun a y_ h hO=>?_) ?_
             · rw [if_neg (by decide)]
               obtain ⟨u,e68,ho⟩:∃ u,a.eval (.tmp 68)=.agg #[.int .i64 pd,u]∧y_.ownsRow WS 3 1 u ((Ru.pre fa)++[nn]).length (((Ru.pre fa)++[nn]).map (Value.int .i64)):=h.of 68 (by kernel_rfl)
               obtain ⟨a9,c9,rfl⟩:=own_slice ho
               refine opOk_val (v:=.slice (some ⟨y_.heap.size,0,none⟩) 1 1) (w':=y_.alloc (.cells #[.int .i64 pd,.slice a9 ((Ru.pre fa)++[nn]).length c9] 55)) (wanted_none rfl) ?_ (fun t ht=>by cases ht; exact ⟨⟨_,_,rfl,heap_alloc_new y_ _,ho.alloc _⟩,trivial⟩) ((Below.refl _ _).alloc (Nat.le_refl _) _)
               have ec:=evc a
               generalize a.eval=ev at *
               clear h hO
               go_simp
             exact AllOpsI.nil
            case htailA =>
             rintro ⟨tm0,df⟩ y_ hI _
             have e57:Act.eval ⟨tm0,df⟩ (.tmp 57)=(.slice ao qo.length co):=hI.all 0 _ 57 (by decide) rfl rfl
             obtain ⟨b',u9,e69,hb',hou⟩:∃ b' u,Act.eval ⟨tm0,df⟩ (.tmp 69)=.slice (some ⟨b',0,none⟩) 1 1∧y_.heap[b']?=some (.cells #[.int .i64 pd,u] 55)∧y_.ownsRow WS 3 1 u (Ru.pre fa++[nn]).length ((Ru.pre fa++[nn]).map (Value.int .i64)):=hI.all 12 _ 69 (by decide) rfl rfl
             have hoy:=ownsRow_below HO5.out hI.below
             have hby:Below w1.heap.size w1 y_:=HB5.out.trans (hI.below.mono HB5.out.size)
             have hWS:w1.heap.size≤WS:=by rw [HWS.out]; exact HB5.out.size
             have hsz10:w1.heap.size≤y_.heap.size:=hby.size
             have hsN:tm0.size=73:=hI.size
             obtain ⟨a9,c9,evi⟩:=own_slice hou
             show wpOps Tryz.prog _ _ [13,14] _ _
             rw [wpOps_cons]
             refine wpOp_wp rfl (wanted_none rfl) (wp_append_own y_ (.tmp 57) (.tmp 69) 27 rfl w1.heap.size 55 i0 _ 2 32 Tryz.underlying27 hi hz0 hz1 hz2 rfl (by decide) (.slice ao qo.length co) qo.length _ e57 hoy ⟨b',0,none⟩ 1 1 (#[Value.int .i64 pd,u9]:Array Value).toList e69 rfl (row_news hb') ?h1B ?h63B ?hbyB hsz10 ?_)
             case h1B =>
              intro u hu
              simp only [List.mem_cons,List.not_mem_nil,or_false] at hu
              rcases hu with rfl | rfl
              · rfl
              · rw [evi]
                rfl
             case h63B=>unfold maxLen; omega
             case hbyB=>omega
             intro v11 w11 ho11 hg11 _
             obtain ⟨av,cv,rfl⟩:=own_slice ho11
             have hown11:∀ kQ,((.slice ao qo.length co):Value).ownBlock=some kQ→w1.heap.size≤kQ:=fun kQ hk=>(hoy.lt kQ hk).1
             have h3:∀ (B':Nat) (l:List Int) (u:Value),y_.ownsRow B' 3 1 u l.length (l.map (Value.int .i64))→w11.ownsRow B' 3 1 u l.length (l.map (Value.int .i64)):=fun B' l u hu=>own_type hu (fun k c hk=>(hg11.block k (heap_lt hk) (fun e=>by have:=own_ty hoy e.symm hk; cases this)).trans hk)
             have HB11:Hid (Below w1.heap.size w1 w11):=hby.grown hg11 hby.size (fun kQ hk=>hown11 kQ hk)
             have HR11:Hid (w11.ownsRow w1.heap.size 3 1 u9 (Ru.pre fa++[nn]).length ((Ru.pre fa++[nn]).map (Value.int .i64))):=rl_own_le (h3 _ _ _ hou) hWS
             have HRO11:Hid (∀ p,p∈qo→w11.ownsRow w1.heap.size 3 1 p.2 p.1.args.length (p.1.args.map (Value.int .i64))):=fun p hp=>h3 _ _ _ (ownsRow_below (HRO5.out p hp).1 hI.below)
             have HO11:Hid (w11.ownsRow w1.heap.size 55 2 (.slice av (qo.length+1) cv) (qo++[((⟨pd,Ru.pre fa++[nn]⟩:Rl.Fc),u9)]).length ((qo++[((⟨pd,Ru.pre fa++[nn]⟩:Rl.Fc),u9)]).map fcCells).flatten):=by
              show World.ownsRow _ _ _ _ _ _ _
              rw [List.length_append,List.map_append,List.flatten_append]
              exact ho11
             have e70:Act.eval (Act.put ⟨tm0,df⟩ (some 70) (.slice av (qo.length+1) cv)) (.tmp 70)=(.slice av (qo.length+1) cv):=put_get_self (by show 70<tm0.size; omega)
             rw [wpOps_cons]
             refine wpOp_val (v:=(.slice av (qo.length+1) cv)) (w':=w11) rfl (wanted_none rfl) ?_ ?_
             · show Sem.run Tryz.prog (execOp (Act.eval (Act.put ⟨tm0,df⟩ (some 70) (.slice av (qo.length+1) cv))) _) w11=_
               generalize Act.eval (Act.put ⟨tm0,df⟩ (some 70) (.slice av (qo.length+1) cv))=ev at *
               clear hI
               go_simp
             have hst:∀ t,t∉[57,58,59,60,61,62,63,64,65,66,67,68,69,70,5]→((tm0.setIfInBounds 70 (.slice av (qo.length+1) cv)).setIfInBounds 5 (.slice av (qo.length+1) cv)).getD t undef=_:=fun t ht=>by
              have hB:t≠70:=fun e=>ht (by rw [e]; decide)
              have hC:t≠5:=fun e=>ht (by rw [e]; decide)
              exact ((put_get_ne (a:=Act.put ⟨tm0,df⟩ (some 70) (.slice av (qo.length+1) cv)) hC).trans (put_get_ne (a:=⟨tm0,df⟩) hB)).trans (hI.still t ht)
             have hs3:((tm0.setIfInBounds 70 (.slice av (qo.length+1) cv)).setIfInBounds 5 (.slice av (qo.length+1) cv)).size=73:=by simp [hsN]
             have h5:((tm0.setIfInBounds 70 (.slice av (qo.length+1) cv)).setIfInBounds 5 (.slice av (qo.length+1) cv)).getD 5 undef=(.slice av (qo.length+1) cv):=put_get_self (a:=Act.put ⟨tm0,df⟩ (some 70) (.slice av (qo.length+1) cv)) (by rw [put_size]; show 5<tm0.size; omega)
             obtain rfl:df=[]:=hI.defers
             clear hI e57 e69 hb' hou hoy hby hsz10 hsN evi ho11 hg11 hown11 h3 e70
             show Exit.then _ _ Exit.normal ⟨(tm0.setIfInBounds 70 (.slice av (qo.length+1) cv)).setIfInBounds 5 (.slice av (qo.length+1) cv),[]⟩ _
             generalize (tm0.setIfInBounds 70 (.slice av (qo.length+1) cv)).setIfInBounds 5 (.slice av (qo.length+1) cv)=tm at *
             have hF8:=tmps_fold [57,58,59,60,61,62,63,64,65,66,67,68,69,70,5] tm _ (hs3.trans (by rfl)) hst
             clear hs3 hst
             simp only [List.foldl_cons,List.foldl_nil,h5] at hF8
             clear h5
             generalize tm.getD 57 undef=x57 at hF8
             generalize tm.getD 58 undef=x58 at hF8
             generalize tm.getD 59 undef=x59 at hF8
             generalize tm.getD 60 undef=x60 at hF8
             generalize tm.getD 61 undef=x61 at hF8
             generalize tm.getD 62 undef=x62 at hF8
             generalize tm.getD 63 undef=x63 at hF8
             generalize tm.getD 64 undef=x64 at hF8
             generalize tm.getD 65 undef=x65 at hF8
             generalize tm.getD 66 undef=x66 at hF8
             generalize tm.getD 67 undef=x67 at hF8
             generalize tm.getD 68 undef=x68 at hF8
             generalize tm.getD 69 undef=x69 at hF8
             generalize tm.getD 70 undef=x70 at hF8
             simp only [List.setIfInBounds_toArray,List.set_cons_zero,List.set_cons_succ] at hF8
             subst hF8
             go_wp2_with fail
             go_roundw
             case rel=>exact ⟨k+1,qo++[((⟨pd,Ru.pre fa++[nn]⟩:Rl.Fc),u9)],[],w11.heap.size,hlt,by go_num,HE3.out _,HO11.out,fun p hp=>by
              rcases List.mem_append.mp hp with hp | hp
              · exact ⟨HRO11.out p hp,fun k hk=>((HRO11.out p hp).lt k hk).2⟩
              · rcases List.mem_singleton.mp hp with rfl
                exact ⟨HR11.out,fun k hk=>(HR11.out.lt k hk).2⟩,World.ownsRow_nil _ _ _ _,⟨Nat.le_refl _,HB11.out.size⟩,by rw [List.length_append]; exact Nat.succ_le_succ hqk,Nat.zero_le _,fun _ h=>absurd h (by simp),HB11.out⟩
             case measure=>simp [intOf]; omega
      · have HNP:Hid (¬ (k+1<Q.length∧Ru.pre fa=Ru.pre (Rl.factD (Q.map (·.1)) (k+1)).args)):=fun h=>h1 h.1
        have g1:decide ((k:Int)+1<(Q.length:Int))=false:=decide_eq_false (by omega)
        clear HGO HNX h1
        go_upto_region 9 with fail
        go_quiet (fail)
        have HO5:Hid ((w4.drewN nq).ownsRow w1.heap.size 55 2 (.slice ao qo.length co) qo.length (qo.map fcCells).flatten):=ownsRow_below HO4.out (blw_drewN w4 nq)
        have HN5:Hid ((w4.drewN nq).ownsRow Bn 3 1 (.slice an4 (ns.length+1) cn4) (ns++[la]).length ((ns++[la]).map (Value.int .i64))):=ownsRow_below HN4.out (blw_drewN w4 nq)
        have HRO5:Hid (∀ p,p∈qo→(w4.drewN nq).ownsRow w1.heap.size 3 1 p.2 p.1.args.length (p.1.args.map (Value.int .i64))∧∀ k,p.2.ownBlock=some k→k<Bn):=fun p hp=>⟨ownsRow_below (HRO4.out p hp).1 (blw_drewN w4 nq),(HRO4.out p hp).2⟩
        have HB5:Hid _:=HB4.out.trans ((blw_drewN w4 nq).mono HB4.out.size)
        have HPV5:Hid _:=intsV_below HPV4.out (blw_drewN w4 nq)
        have f0:=cell_below (blw_drewN w4 nq) f04
        have f1:=cell_below (blw_drewN w4 nq) f14
        clear f04 f14 HO4 HN4 HRO4 HB4 HPV4 HBX4 HBn4
        generalize w4.drewN nq=wd at *
        have HF:Hid _:=foldedNumber_any f (ns++[la]) _ wd (own_ints HN5.out) (by rw [List.length_append]; exact Nat.succ_pos _) (by rw [List.length_append,List.length_singleton]; omega) HNN4.out
        go_wp2_with fail
        refine Calls.mono HF.out ?_
        rintro _ z ⟨rfl,rfl⟩
        clear HF
        have HE4:Hid (Ru.folded f (Q.map (·.1)) []=qo.map (·.1)++((if Sc.isNum (Ru.foldN f (ns++[la]))=true then [(⟨pd,Ru.pre fa++[Ru.foldN f (ns++[la])]⟩:Rl.Fc)] else [])++Ru.folded f ((Q.map (·.1)).drop (k+1)) [])):=by show _=_; rw [HE.out,HCUT.out HNP.out]; rfl
        generalize Ru.foldN f (ns++[la])=nn at *
        have HI:Hid _:=isNum_any nn z
        go_wp2_with fail
        refine Calls.mono HI.out ?_
        rintro _ wd ⟨rfl,rfl⟩
        clear HI
        cases hn:Sc.isNum nn
        · have HE3:Hid (Ru.folded f (Q.map (·.1)) []=qo.map (·.1)++Ru.folded f ((Q.map (·.1)).drop (k+1)) []):=by show _=_; rw [HE4.out,hn]; rfl
          clear HE4 hn
          go_wp2_with fail
          go_roundw
          case rel=>exact ⟨k+1,qo,[],wd.heap.size,hlt,by go_num,HE3.out,HO5.out,fun p hp=>⟨(HRO5.out p hp).1,fun k hk=>((HRO5.out p hp).1.lt k hk).2⟩,World.ownsRow_nil _ _ _ _,⟨Nat.le_refl _,HB5.out.size⟩,Nat.le_succ_of_le hqk,Nat.zero_le _,fun _ h=>absurd h (by simp),HB5.out⟩
          case measure=>simp [intOf]; omega
        · have HE3:Hid (∀ u:Value,Ru.folded f (Q.map (·.1)) []=(qo++[((⟨pd,Ru.pre fa++[nn]⟩:Rl.Fc),u)]).map (·.1)++Ru.folded f ((Q.map (·.1)).drop (k+1)) []):=fun u=>by rw [HE4.out,hn,if_pos rfl,List.map_append,List.append_assoc]; rfl
          clear HE4 hn
          go_upto_region 12 with fail
          obtain ⟨WS,HWS⟩:∃ WS,Hid (WS=wd.heap.size):=⟨_,rfl⟩
          refine wp_region_tailS (fold12T (.slice ao qo.length co) FB fb fc m pd nn WS (Ru.pre fa)) (fold12U nn WS (Ru.pre fa)) 13 10 fold12E (by decide) (by kernel_rfl) (by kernel_rfl) (by kernel_rfl) (by kernel_rfl) (fold12T_mono (.slice ao qo.length co) FB fb fc m pd nn WS (Ru.pre fa)) (fold12U_mono nn WS (Ru.pre fa)) (fun t v w w' he _ h=>fold12T_early (.slice ao qo.length co) FB fb fc m pd nn WS (Ru.pre fa) t v w w' he h) ?hopA ?htailA
          case hopA =>
           refine AllOpsI.cons (fun a y_ h hO=>?_) ?_
           · rw [if_neg (by decide)]
             have e5:a.eval (.tmp 5)=(.slice ao qo.length co:Value):=hO 5 (by decide)
             refine opOk_val (v:=.slice ao qo.length co) (w':=y_) (wanted_none rfl) ?_ (fun t ht=>by cases ht; exact ⟨rfl,trivial⟩) (Below.refl _ _)
             have ec:=evc a
             generalize a.eval=ev at *
             clear h hO
             go_simp
           refine AllOpsI.cons (fun a y_ h hO=>?_) ?_
           · rw [if_neg (by decide)]
             have e8:a.eval (.tmp 8)=(.pointer (some ⟨FB,0,none⟩):Value):=h.old 8 (by kernel_rfl)
             refine opOk_val (v:=.pointer (some ⟨FB,0,none⟩)) (w':=y_) (wanted_none rfl) ?_ (fun t ht=>by cases ht; exact ⟨rfl,trivial⟩) (Below.refl _ _)
             have ec:=evc a
             generalize a.eval=ev at *
             clear h hO
             go_simp
           refine AllOpsI.cons (fun a y_ h hO=>?_) ?_
           · rw [if_neg (by decide)]
             have e58:a.eval (.tmp 58)=(.pointer (some ⟨FB,0,none⟩):Value):=h.of 58 (by kernel_rfl)
             have c0:=cell_below h.below f0
             refine opOk_val (v:=.int .i64 pd) (w':=y_) (wanted_none rfl) ?_ (fun t ht=>by cases ht; exact ⟨rfl,trivial⟩) (Below.refl _ _)
             have ec:=evc a
             generalize a.eval=ev at *
             clear h hO
             go_simp
           refine AllOpsI.cons (fun a y_ h hO=>?_) ?_
           · rw [if_neg (by decide)]
             have e8:a.eval (.tmp 8)=(.pointer (some ⟨FB,0,none⟩):Value):=h.old 8 (by kernel_rfl)
             refine opOk_val (v:=.pointer (some ⟨FB,1,none⟩)) (w':=y_) (wanted_none rfl) ?_ (fun t ht=>by cases ht; exact ⟨rfl,trivial⟩) (Below.refl _ _)
             have ec:=evc a
             generalize a.eval=ev at *
             clear h hO
             go_simp
           refine AllOpsI.cons (fun a y_ h hO=>?_) ?_
           · rw [if_neg (by decide)]
             have e60:a.eval (.tmp 60)=(.pointer (some ⟨FB,1,none⟩):Value):=h.of 60 (by kernel_rfl)
             have c0:=cell_below h.below f1
             refine opOk_val (v:=.slice (some ⟨fb,0,none⟩) (m+1) fc) (w':=y_) (wanted_none rfl) ?_ (fun t ht=>by cases ht; exact ⟨rfl,trivial⟩) (Below.refl _ _)
             have ec:=evc a
             generalize a.eval=ev at *
             clear h hO
             go_simp
           refine AllOpsI.cons (fun a y_ h hO=>?_) ?_
           · rw [if_neg (by decide)]
             have e9:a.eval (.tmp 9)=(.int .i64 (m:Nat):Value):=h.old 9 (by kernel_rfl)
             refine opOk_val (v:=.int .i64 (m:Nat)) (w':=y_) (wanted_none rfl) ?_ (fun t ht=>by cases ht; exact ⟨rfl,trivial⟩) (Below.refl _ _)
             have ec:=evc a
             generalize a.eval=ev at *
             clear h hO
             go_simp
           refine AllOpsI.cons (fun a y_ h hO=>?_) ?_
           · rw [if_neg (by decide)]
             have e61:a.eval (.tmp 61)=(.slice (some ⟨fb,0,none⟩) (m+1) fc:Value):=h.of 61 (by kernel_rfl)
             have e62:a.eval (.tmp 62)=(.int .i64 (m:Nat):Value):=h.of 62 (by kernel_rfl)
             have g0:(0:Int)≤(m:Int):=by omega
             have g8:(m:Int)≤(fc:Int):=by omega
             refine opOk_val (v:=.slice (some ⟨fb,0,none⟩) m fc) (w':=y_) (wanted_none rfl) ?_ (fun t ht=>by cases ht; exact ⟨rfl,trivial⟩) (Below.refl _ _)
             have ec:=evc a
             generalize a.eval=ev at *
             clear h hO
             go_simp
           refine AllOpsI.cons (fun a y_ h hO=>?_) ?_
           · rw [if_neg (by decide)]
             have e63:a.eval (.tmp 63)=(.slice (some ⟨fb,0,none⟩) m fc:Value):=h.of 63 (by kernel_rfl)
             refine opOk_call (f:=77) (args:=#[.slice (some ⟨fb,0,none⟩) m fc]) (wanted_none rfl) ?_ ?_
             · have ec:=evc a
               have ef:=evf a
               generalize a.eval=ev at *
               clear h hO
               go_simp
             · refine Calls.mono (cloneI_any (Ru.pre fa) _ y_ (intsV_below HPV5.out h.below) (by have:=HPL.out; omega)) ?_
               rintro _ y2 ⟨v',rfl,hown,hb2⟩
               refine ⟨_,rfl,fun t ht=>?_,hb2⟩
               cases ht
               exact ⟨trivial,rl_own_le hown (by rw [HWS.out]; exact h.below.size)⟩
           refine AllOpsI.cons (fun a y_ h hO=>?_) ?_
           · rw [if_neg (by decide)]
             have e10:a.eval (.tmp 10)=(.int .i64 nn:Value):=h.old 10 (by kernel_rfl)
             refine opOk_val (v:=.int .i64 nn) (w':=y_) (wanted_none rfl) ?_ (fun t ht=>by cases ht; exact ⟨rfl,trivial⟩) (Below.refl _ _)
             have ec:=evc a
             generalize a.eval=ev at *
             clear h hO
             go_simp
           refine AllOpsI.cons (fun a y_ h hO=>?_) ?_
           · rw [if_neg (by decide)]
             have e65:a.eval (.tmp 65)=(.int .i64 nn:Value):=h.of 65 (by kernel_rfl)
             refine opOk_val (v:=.slice (some ⟨y_.heap.size,0,none⟩) 1 1) (w':=y_.alloc (.cells #[.int .i64 nn] 3)) (wanted_none rfl) ?_ (fun t ht=>by cases ht; exact ⟨trivial,⟨_,rfl,heap_alloc_new y_ _⟩⟩) ((Below.refl _ _).alloc (Nat.le_refl _) _)
             have ec:=evc a
             generalize a.eval=ev at *
             clear h hO
             go_simp
           refine AllOpsI.cons (fun a y_ h hO=>?_) ?_
           · rw [if_pos (by decide)]
             intro h1
             refine ⟨wanted_none rfl,?_⟩
             have ho64:y_.ownsRow WS 3 1 (a.eval (.tmp 64)) (Ru.pre fa).length ((Ru.pre fa).map (Value.int .i64)):=h1.of 64 (by kernel_rfl)
             obtain ⟨b',e66,hb'⟩:∃ b',a.eval (.tmp 66)=.slice (some ⟨b',0,none⟩) 1 1∧y_.heap[b']?=some (.cells #[.int .i64 nn] 3):=h1.of 66 (by kernel_rfl)
             have hWy:WS≤y_.heap.size:=by rw [HWS.out]; exact h.below.size
             refine wp_append_own y_ (.tmp 64) (.tmp 66) 22 rfl WS 3 j0 _ 1 8 Tryz.underlying22 hj hy0 hy1 hy2 rfl (by decide) _ _ _ rfl ho64 ⟨b',0,none⟩ 1 1 (#[Value.int .i64 nn]:Array Value).toList e66 rfl (row_news hb') (fun u hu=>by simp only [List.mem_cons,List.not_mem_nil,or_false] at hu; subst hu; rfl) (by have:=HPL.out; unfold maxLen; omega) (by have:=HPL.out; omega) hWy ?_
             intro v9 w9 ho9 hg9 _
             refine ⟨v9,rfl,fun t ht=>?_,hg9.size,hg9.os,hg9.tape,hg9.output,hg9.size,fun k hk=>hg9.block k (by rw [HWS.out] at hWy; omega) (fun e=>by have:=(ho64.lt k e.symm).1; rw [HWS.out] at this; omega)⟩
             cases ht
             show w9.ownsRow WS 3 1 v9 ((Ru.pre fa)++[nn]).length (((Ru.pre fa)++[nn]).map (Value.int .i64))
             rw [List.length_append,List.map_append]
             exact ho9
           refine AllOpsI.cons (fun a y_ h hO=>?_) ?_
           · rw [if_neg (by decide)]
             have ho:y_.ownsRow WS 3 1 (a.eval (.tmp 67)) ((Ru.pre fa)++[nn]).length (((Ru.pre fa)++[nn]).map (Value.int .i64)):=h.of 67 (by kernel_rfl)
             have e59:a.eval (.tmp 59)=(.int .i64 pd:Value):=h.of 59 (by kernel_rfl)
             obtain ⟨a9,c9,e67⟩:=own_slice ho
             rw [e67] at ho
             refine opOk_val (v:=.agg #[.int .i64 pd,.slice a9 ((Ru.pre fa)++[nn]).length c9]) (w':=y_) (wanted_none rfl) ?_ (fun t ht=>by cases ht; exact ⟨⟨_,rfl,ho⟩,trivial⟩) (Below.refl _ _)
             have ec:=evc a
             generalize a.eval=ev at *
             clear h hO
             go_simp
           refine AllOpsI.cons (fun a y_ h hO=>?_) ?_
           · rw [if_neg (by decide)]
             obtain ⟨u,e68,ho⟩:∃ u,a.eval (.tmp 68)=.agg #[.int .i64 pd,u]∧y_.ownsRow WS 3 1 u ((Ru.pre fa)++[nn]).length (((Ru.pre fa)++[nn]).map (Value.int .i64)):=h.of 68 (by kernel_rfl)
             obtain ⟨a9,c9,rfl⟩:=own_slice ho
             refine opOk_val (v:=.slice (some ⟨y_.heap.size,0,none⟩) 1 1) (w':=y_.alloc (.cells #[.int .i64 pd,.slice a9 ((Ru.pre fa)++[nn]).length c9] 55)) (wanted_none rfl) ?_ (fun t ht=>by cases ht; exact ⟨⟨_,_,rfl,heap_alloc_new y_ _,ho.alloc _⟩,trivial⟩) ((Below.refl _ _).alloc (Nat.le_refl _) _)
             have ec:=evc a
             generalize a.eval=ev at *
             clear h hO
             go_simp
           exact AllOpsI.nil
          case htailA =>
           rintro ⟨tm0,df⟩ y_ hI _
           have e57:Act.eval ⟨tm0,df⟩ (.tmp 57)=(.slice ao qo.length co):=hI.all 0 _ 57 (by decide) rfl rfl
           obtain ⟨b',u9,e69,hb',hou⟩:∃ b' u,Act.eval ⟨tm0,df⟩ (.tmp 69)=.slice (some ⟨b',0,none⟩) 1 1∧y_.heap[b']?=some (.cells #[.int .i64 pd,u] 55)∧y_.ownsRow WS 3 1 u (Ru.pre fa++[nn]).length ((Ru.pre fa++[nn]).map (Value.int .i64)):=hI.all 12 _ 69 (by decide) rfl rfl
           have hoy:=ownsRow_below HO5.out hI.below
           have hby:Below w1.heap.size w1 y_:=HB5.out.trans (hI.below.mono HB5.out.size)
           have hWS:w1.heap.size≤WS:=by rw [HWS.out]; exact HB5.out.size
           have hsz10:w1.heap.size≤y_.heap.size:=hby.size
           have hsN:tm0.size=73:=hI.size
           obtain ⟨a9,c9,evi⟩:=own_slice hou
           show wpOps Tryz.prog _ _ [13,14] _ _
           rw [wpOps_cons]
           refine wpOp_wp rfl (wanted_none rfl) (wp_append_own y_ (.tmp 57) (.tmp 69) 27 rfl w1.heap.size 55 i0 _ 2 32 Tryz.underlying27 hi hz0 hz1 hz2 rfl (by decide) (.slice ao qo.length co) qo.length _ e57 hoy ⟨b',0,none⟩ 1 1 (#[Value.int .i64 pd,u9]:Array Value).toList e69 rfl (row_news hb') ?h1B ?h63B ?hbyB hsz10 ?_)
           case h1B =>
            intro u hu
            simp only [List.mem_cons,List.not_mem_nil,or_false] at hu
            rcases hu with rfl | rfl
            · rfl
            · rw [evi]
              rfl
           case h63B=>unfold maxLen; omega
           case hbyB=>omega
           intro v11 w11 ho11 hg11 _
           obtain ⟨av,cv,rfl⟩:=own_slice ho11
           have hown11:∀ kQ,((.slice ao qo.length co):Value).ownBlock=some kQ→w1.heap.size≤kQ:=fun kQ hk=>(hoy.lt kQ hk).1
           have h3:∀ (B':Nat) (l:List Int) (u:Value),y_.ownsRow B' 3 1 u l.length (l.map (Value.int .i64))→w11.ownsRow B' 3 1 u l.length (l.map (Value.int .i64)):=fun B' l u hu=>own_type hu (fun k c hk=>(hg11.block k (heap_lt hk) (fun e=>by have:=own_ty hoy e.symm hk; cases this)).trans hk)
           have HB11:Hid (Below w1.heap.size w1 w11):=hby.grown hg11 hby.size (fun kQ hk=>hown11 kQ hk)
           have HR11:Hid (w11.ownsRow w1.heap.size 3 1 u9 (Ru.pre fa++[nn]).length ((Ru.pre fa++[nn]).map (Value.int .i64))):=rl_own_le (h3 _ _ _ hou) hWS
           have HRO11:Hid (∀ p,p∈qo→w11.ownsRow w1.heap.size 3 1 p.2 p.1.args.length (p.1.args.map (Value.int .i64))):=fun p hp=>h3 _ _ _ (ownsRow_below (HRO5.out p hp).1 hI.below)
           have HO11:Hid (w11.ownsRow w1.heap.size 55 2 (.slice av (qo.length+1) cv) (qo++[((⟨pd,Ru.pre fa++[nn]⟩:Rl.Fc),u9)]).length ((qo++[((⟨pd,Ru.pre fa++[nn]⟩:Rl.Fc),u9)]).map fcCells).flatten):=by
            show World.ownsRow _ _ _ _ _ _ _
            rw [List.length_append,List.map_append,List.flatten_append]
            exact ho11
           have e70:Act.eval (Act.put ⟨tm0,df⟩ (some 70) (.slice av (qo.length+1) cv)) (.tmp 70)=(.slice av (qo.length+1) cv):=put_get_self (by show 70<tm0.size; omega)
           rw [wpOps_cons]
           refine wpOp_val (v:=(.slice av (qo.length+1) cv)) (w':=w11) rfl (wanted_none rfl) ?_ ?_
           · show Sem.run Tryz.prog (execOp (Act.eval (Act.put ⟨tm0,df⟩ (some 70) (.slice av (qo.length+1) cv))) _) w11=_
             generalize Act.eval (Act.put ⟨tm0,df⟩ (some 70) (.slice av (qo.length+1) cv))=ev at *
             clear hI
             go_simp
           have hst:∀ t,t∉[57,58,59,60,61,62,63,64,65,66,67,68,69,70,5]→((tm0.setIfInBounds 70 (.slice av (qo.length+1) cv)).setIfInBounds 5 (.slice av (qo.length+1) cv)).getD t undef=_:=fun t ht=>by
            have hB:t≠70:=fun e=>ht (by rw [e]; decide)
            have hC:t≠5:=fun e=>ht (by rw [e]; decide)
            exact ((put_get_ne (a:=Act.put ⟨tm0,df⟩ (some 70) (.slice av (qo.length+1) cv)) hC).trans (put_get_ne (a:=⟨tm0,df⟩) hB)).trans (hI.still t ht)
           have hs3:((tm0.setIfInBounds 70 (.slice av (qo.length+1) cv)).setIfInBounds 5 (.slice av (qo.length+1) cv)).size=73:=by simp [hsN]
           have h5:((tm0.setIfInBounds 70 (.slice av (qo.length+1) cv)).setIfInBounds 5 (.slice av (qo.length+1) cv)).getD 5 undef=(.slice av (qo.length+1) cv):=put_get_self (a:=Act.put ⟨tm0,df⟩ (some 70) (.slice av (qo.length+1) cv)) (by rw [put_size]; show 5<tm0.size; omega)
           obtain rfl:df=[]:=hI.defers
           clear hI e57 e69 hb' hou hoy hby hsz10 hsN evi ho11 hg11 hown11 h3 e70
           show Exit.then _ _ Exit.normal ⟨(tm0.setIfInBounds 70 (.slice av (qo.length+1) cv)).setIfInBounds 5 (.slice av (qo.length+1) cv),[]⟩ _
           generalize (tm0.setIfInBounds 70 (.slice av (qo.length+1) cv)).setIfInBounds 5 (.slice av (qo.length+1) cv)=tm at *
           have hF8:=tmps_fold [57,58,59,60,61,62,63,64,65,66,67,68,69,70,5] tm _ (hs3.trans (by rfl)) hst
           clear hs3 hst
           simp only [List.foldl_cons,List.foldl_nil,h5] at hF8
           clear h5
           generalize tm.getD 57 undef=x57 at hF8
           generalize tm.getD 58 undef=x58 at hF8
           generalize tm.getD 59 undef=x59 at hF8
           generalize tm.getD 60 undef=x60 at hF8
           generalize tm.getD 61 undef=x61 at hF8
           generalize tm.getD 62 undef=x62 at hF8
           generalize tm.getD 63 undef=x63 at hF8
           generalize tm.getD 64 undef=x64 at hF8
           generalize tm.getD 65 undef=x65 at hF8
           generalize tm.getD 66 undef=x66 at hF8
           generalize tm.getD 67 undef=x67 at hF8
           generalize tm.getD 68 undef=x68 at hF8
           generalize tm.getD 69 undef=x69 at hF8
           generalize tm.getD 70 undef=x70 at hF8
           simp only [List.setIfInBounds_toArray,List.set_cons_zero,List.set_cons_succ] at hF8
           subst hF8
           go_wp2_with fail
           go_roundw
           case rel=>exact ⟨k+1,qo++[((⟨pd,Ru.pre fa++[nn]⟩:Rl.Fc),u9)],[],w11.heap.size,hlt,by go_num,HE3.out _,HO11.out,fun p hp=>by
            rcases List.mem_append.mp hp with hp | hp
            · exact ⟨HRO11.out p hp,fun k hk=>((HRO11.out p hp).lt k hk).2⟩
            · rcases List.mem_singleton.mp hp with rfl
              exact ⟨HR11.out,fun k hk=>(HR11.out.lt k hk).2⟩,World.ownsRow_nil _ _ _ _,⟨Nat.le_refl _,HB11.out.size⟩,by rw [List.length_append]; exact Nat.succ_le_succ hqk,Nat.zero_le _,fun _ h=>absurd h (by simp),HB11.out⟩
           case measure=>simp [intOf]; omega
    · have HEND:Hid (Ru.folded f (Q.map (·.1)) []=qo.map (·.1)):=by show _=_; rw [HE.out,List.drop_of_length_le (by rw [List.length_map]; omega)]; exact List.append_nil _
      have hdd:decide (k<Q.length)=false:=decide_eq_false hlt
      clear HE
      go_wp2_with fail
      go_ret
      exact ⟨_,rfl,Q.map (·.1),HPM.out,HSRT.out,⟨qo,HEND.out.symm,rl_own_le HO.out HSZ.out,fun p hp=>rl_own_le (HRO.out p hp).1 HSZ.out⟩,HB0.out.trans (HB.out.mono (Nat.le_trans HBW.out HSZ.out))⟩
namespace Ru
def headsOut (p:Sc.Prog) (i:Int) (l:List Rl.Fc):List Rl.Fc:=heads (rule p i) (waysOut p i l)
theorem heads_nil (r:Sc.Rule):heads r []=[]:=by unfold heads headsL; split <;> rfl
theorem mem_waysOut {p:Sc.Prog} {i:Int} {l:List Rl.Fc} (hi:In p i l) {x:List Int} (hx:x∈waysOut p i l):Sol (Rl.set l) (rule p i) x:=by
 unfold waysOut at hx
 split at hx
 · cases hx
 · exact (mem_ways (ruleIn_of hi.rule hi.set) (right_nums hi.set) x).mp (mem_srt.mp hx)
theorem waysErr_in {p:Sc.Prog} {i:Int} {l:List Rl.Fc} (h:waysErr p i l=0):In p i l:=by
 refine check_in (Classical.byContradiction fun hc=>?_)
 unfold waysErr at h
 rw [if_pos hc] at h
 exact hc h
theorem waysOut_le {p:Sc.Prog} {i:Int} {l:List Rl.Fc} (h:waysErr p i l=0):(waysOut p i l).length≤2000:=by
 have hin:=waysErr_in h
 unfold waysOut
 rw [if_neg (fun hn=>hn h)]
 have hnd:=ways_nodup (ruleIn_of hin.rule hin.set) (right_nums hin.set) (set_nodup l)
 rw [(srt_perm hnd).length_eq]
 unfold waysErr at h
 split at h
 · exact absurd h (by assumption)
 · split at h
   · cases h
   · omega
theorem termsIn_of {ar:List Int} {r:Sc.Rule} (hr:RuleOk ar r):TermsIn r.vars.toNat r.terms:=fun t ht=>by
 have h:=hr.tm t ht
 by_cases h0:t.var<0
 · exact .inl h0
 · exact .inr (by have:=h.hi; omega)
theorem rule_short {p:Sc.Prog} (h:ProgOk p) {r:Sc.Rule} (hr:RuleOk p.arity r):r.terms.length≤3:=by
 have h2:=h.ar r.pred.toNat (by have:=hr.p0; have:=hr.p1; omega)
 have:=hr.tl
 omega
end Ru
theorem RulesCap.below {w w':World} {vr:Value} {l:List Sc.Rule} (h:RulesCap w vr) (hP:PRulesV w vr l) (hb:Below w.heap.size w w'):RulesCap w' vr:=by
 intro b off n cap hv k hk v hc
 obtain ⟨ao,c,hv2,hA⟩:=hP
 rw [hv] at hv2
 injection hv2 with e1 e2 e3
 subst e1 e2
 obtain ⟨b',off',hb',_,_,_,⟨vb,q3,_⟩,_⟩:=prules_at hA k hk
 injection hb' with hb'
 injection hb' with e1 e2
 subst e1 e2
 have h1:=cell_below hb q3
 rw [hc] at h1
 injection h1 with h1
 subst h1
 exact h b off l.length cap hv k hk _ q3
theorem nums_cell {B:Nat} {w:World} {v:Value} {q:List (List Int × Value)} (h:NumsP B w v q) {k:Nat} (hk:k<q.length):∃ g cap y,v=.slice (some ⟨g,0,none⟩) q.length cap∧q[k]?=some y∧y∈q∧w.cell? ⟨g,k,none⟩=some y.2∧w.ownsRow B 3 1 y.2 y.1.length (y.1.map (Value.int .i64)):=by
 rcases ownsRow_forms9 h.1 with ⟨_,h0⟩ | ⟨g,cap,hv⟩
 · omega
 · subst hv
   refine ⟨g,cap,q[k],rfl,List.getElem?_eq_getElem hk,List.getElem_mem hk,?_,h.2 _ (List.getElem_mem hk)⟩
   rw [World.ownsRow.cellAt h.1 k (by omega),List.getElem?_map,List.getElem?_eq_getElem hk]
   rfl
theorem Heads_any (p:Sc.Prog) (i:Int) (facts:List Rl.Fc) (va vn vr vf:Value) (w:World) (hP:ProgV w va vn vr p) (hF:ProgFit p) (hcap:RulesCap w vr) (hV:FactsV w vf facts) (hFl:facts.length≤9223372036854775807) (hFF:∀ f,f∈facts→FFit f) :
 Calls Tryz.prog 15 #[progVal va vn vr,.int .i64 i,vf] w fun e w'=>∃ v,e=.returned (.tuple #[v,.int .i64 (Ru.waysErr p i facts)])∧FactsP w.heap.size w' v (Ru.headsOut p i facts)∧Below w.heap.size w w':=by
 obtain ⟨i0,hi,hz0,hz1,hz2⟩:=info_parts rl_info49
 obtain ⟨a0,n0,rfl,_⟩:=id hP.ar
 obtain ⟨a1,n1,rfl,_⟩:=id hP.nm
 obtain ⟨a2,n2,rfl,hRA⟩:=id hP.rl
 obtain ⟨af,cf,rfl,_,hFA⟩:=id hV
 have bT:=(Below.refl w.heap.size w).alloc (Nat.le_refl _) (.cells #[.slice a0 p.arity.length n0,.slice a1 p.names.length n1,.slice a2 p.rules.length n2] 26)
 have HBX:Hid _:=heap_alloc_new w (.cells #[.slice a0 p.arity.length n0,.slice a1 p.names.length n1,.slice a2 p.rules.length n2] 26)
 have HB:Hid _:=bT
 have HC:Hid _:=Ways_any p i facts _ _ _ _ _ (hP.below bT) hF (hcap.below hP.rl bT) (factsV_below hV bT) hFl hFF
 have HRA:Hid _:=hRA
 have HHO:Hid (Ru.headsOut p i facts=Ru.heads (Ru.rule p i) (Ru.waysOut p i facts)):=rfl
 clear hP hF hV hFA hFF bT hcap hRA
 go_enter Tryz.func15,Tryz.ntmps15
 go_upto_region 1 with fail
 generalize w.alloc (.cells #[.slice a0 p.arity.length n0,.slice a1 p.names.length n1,.slice a2 p.rules.length n2] 26)=w1 at *
 have c0:w1.cell? ⟨w.heap.size,0,none⟩=some (.slice a0 p.arity.length n0):=by rw [Lib.cell_of_heap HBX.out]; rfl
 have c1:w1.cell? ⟨w.heap.size,1,none⟩=some (.slice a1 p.names.length n1):=by rw [Lib.cell_of_heap HBX.out]; rfl
 have c2:w1.cell? ⟨w.heap.size,2,none⟩=some (.slice a2 p.rules.length n2):=by rw [Lib.cell_of_heap HBX.out]; rfl
 go_wp2_with fail
 refine Calls.mono HC.out ?_
 rintro _ w2 ⟨v,q,rfl,hN,hq,hb2⟩
 have HB2:Hid (Below w.heap.size w w2):=HB.out.trans (hb2.mono HB.out.size)
 have HBX2:Hid _:=(hb2.block _ (heap_lt HBX.out)).trans HBX.out
 have HQ:Hid _:=hq
 have HSZ:Hid (w.heap.size≤w2.heap.size):=HB2.out.size
 obtain ⟨av,cv,rfl⟩:=own_slice hN.1
 have HN:Hid (NumsP w1.heap.size w2 (.slice av q.length cv) q):=hN
 clear c0 c1 c2 hb2 HB HBX HC hN hq
 by_cases he:Ru.waysErr p i facts=0
 · have hin:=Ru.waysErr_in he
   have hql:q.length≤2000:=by have:=Ru.waysOut_le he; rw [← HQ.out,List.length_map] at this; exact this
   have HSOL:Hid (∀ y,y∈q→Ru.Sol (Rl.set facts) (Ru.rule p i) y.1):=fun y hy=>Ru.mem_waysOut hin (by rw [← HQ.out]; exact List.mem_map_of_mem hy)
   have HRT:Hid (∀ y,y∈q→Ru.Right p.arity (Ru.head (Ru.rule p i) y.1)):=fun y hy=>Ru.head_right hin.rule hin.set (HSOL.out y hy)
   have HTI:Hid (∀ y,y∈q→Ru.TermsIn y.1.length (Ru.rule p i).terms):=fun y hy=>by rw [(HSOL.out y hy).1]; exact Ru.termsIn_of hin.rule
   have htl:=Ru.rule_short hin.ok hin.rule
   have HFO:Hid (¬ (Ru.rule p i).fold=0→¬ (Ru.rule p i).terms.length=0):=fun h=>(hin.rule.ff h).1
   obtain ⟨k,rfl⟩:∃ k:Nat,i=k:=⟨i.toNat,by have:=hin.lo; omega⟩
   have hk:k<p.rules.length:=by have:=hin.hi; omega
   have HRU:Hid (Ru.rule p (k:Int)=Sc.ruleD p.rules k):=by show _=_; unfold Ru.rule; rw [Int.toNat_natCast]
   rw [HRU.out] at HSOL HRT HTI HFO htl HHO
   obtain ⟨b,off,rfl,q0,⟨vt,q1,hT⟩,q2,⟨vb,q3,hL⟩,q4⟩:=prules_at HRA.out k hk
   obtain ⟨at_,ct,rfl,_⟩:=id hT
   obtain ⟨ab,cb,rfl,_⟩:=id hL
   have HT:Hid _:=hT
   have p0:=cell_below HB2.out q0
   have p1:=cell_below HB2.out q1
   have p2:=cell_below HB2.out q2
   have p3:=cell_below HB2.out q3
   have p4:=cell_below HB2.out q4
   have c2:w2.cell? ⟨w.heap.size,2,none⟩=some (.slice (some ⟨b,off,none⟩) p.rules.length n2):=by rw [Lib.cell_of_heap HBX2.out]; rfl
   clear q0 q1 q2 q3 q4 hT hL hin HRA HRU HBX2
   generalize Sc.ruleD p.rules k=r at *
   have HER:Hid _:=he
   rw [he]
   clear he
   go_upto_region 5 with fail
   have hba:Below w2.heap.size w2 (w2.alloc (.cells #[.int .i64 r.pred,.slice at_ r.terms.length ct,.int .i64 r.fold,.slice ab r.body.length cb,.int .i64 r.vars] 40)):=(Below.refl _ _).alloc (Nat.le_refl _) _
   have HRB:Hid _:=heap_alloc_new w2 (.cells #[.int .i64 r.pred,.slice at_ r.terms.length ct,.int .i64 r.fold,.slice ab r.body.length cb,.int .i64 r.vars] 40)
   have HN3:Hid (NumsP w1.heap.size (w2.alloc (.cells #[.int .i64 r.pred,.slice at_ r.terms.length ct,.int .i64 r.fold,.slice ab r.body.length cb,.int .i64 r.vars] 40)) (.slice av q.length cv) q):=NumsP.below HN.out hba
   have HB3:Hid _:=HB2.out.trans (hba.mono HB2.out.size)
   have HT3:Hid _:=ptermsV_below HT.out HB3.out
   clear p0 p1 p2 p3 p4 c2 HB2 HN HT hba
   generalize hRBn:w2.heap.size=RB at *
   generalize w2.alloc (.cells #[.int .i64 r.pred,.slice at_ r.terms.length ct,.int .i64 r.fold,.slice ab r.body.length cb,.int .i64 r.vars] 40)=w3 at *
   clear hRBn
   have r0:w3.cell? ⟨RB,0,none⟩=some (.int .i64 r.pred):=by rw [Lib.cell_of_heap HRB.out]; rfl
   have r1:w3.cell? ⟨RB,1,none⟩=some (.slice at_ r.terms.length ct):=by rw [Lib.cell_of_heap HRB.out]; rfl
   have r2:w3.cell? ⟨RB,2,none⟩=some (.int .i64 r.fold):=by rw [Lib.cell_of_heap HRB.out]; rfl
   clear HRB
   go_wp2_with fail
   go_loopw [11,31] (fun vh iv wr=>∃ (j:Nat) (qh:List Fv),j≤q.length∧iv=.int .i64 j∧Hid (wr.ownsRow w3.heap.size 55 2 vh qh.length (qh.map fcCells).flatten)∧Hid (qh.map (·.1)=(q.take j).map (fun y=>Ru.head r y.1))∧Hid (∀ p,p∈qh→wr.ownsRow w3.heap.size 3 1 p.2 p.1.args.length (p.1.args.map (Value.int .i64)))∧qh.length≤j∧Hid (Below w3.heap.size w3 wr)) (fun _ iv _=>q.length - (intOf iv).toNat)
   case atStart=>exact ⟨0,[],Nat.zero_le _,rfl,World.ownsRow_nil _ _ _ _,rfl,fun _ hp=>absurd hp (by simp),Nat.le_refl _,Below.refl _ _⟩
   case round =>
    obtain ⟨wo,hwo⟩:∃ wo,wo=wr:=⟨_,rfl⟩
    subst hwo
    obtain ⟨j,qh,hj,rfl,HO,HQH,HRO,hqk,HB4⟩:=hrel
    obtain ⟨ao,co,rfl⟩:=own_slice HO.out
    have t0:=cell_below HB4.out r0
    have t1:=cell_below HB4.out r1
    have t2:=cell_below HB4.out r2
    by_cases hlt:j<q.length
    · obtain ⟨g,cap,y,hv,hy,hym,hyc,hyo⟩:=nums_cell HN3.out hlt
      injection hv with e1 e2 e3
      subst e1 e3
      obtain ⟨ay,cy,hyv⟩:=own_slice hyo
      have HYI:Hid (IntsV wo y.2 y.1):=intsV_below (own_ints hyo) HB4.out
      rw [hyv] at hyc HYI
      have yc:=cell_below HB4.out hyc
      have HFI:Hid _:=FillFact_any r.pred r.terms y.1 _ _ wo (ptermsV_below HT3.out HB4.out) HYI.out (by omega) (HTI.out y hym)
      have HTK:Hid ((q.take (j+1)).map (fun y=>Ru.head r y.1)=(q.take j).map (fun y=>Ru.head r y.1)++[(⟨r.pred,Ru.fill r.terms y.1⟩:Rl.Fc)]):=by
       show _=_
       rw [List.take_add_one,hy,List.map_append]
       rfl
      clear hy hym hyc hyo hyv HYI
      generalize Ru.fill r.terms y.1=fa at *
      generalize y.1.length=yl at *
      go_wp2_with fail
      refine Calls.mono HFI.out ?_
      rintro _ w5 ⟨u,rfl,hrow,hb5⟩
      have HO5:Hid (w5.ownsRow w3.heap.size 55 2 (.slice ao qh.length co) qh.length (qh.map fcCells).flatten):=ownsRow_below HO.out hb5
      have HRO5:Hid (∀ p,p∈qh→w5.ownsRow w3.heap.size 3 1 p.2 p.1.args.length (p.1.args.map (Value.int .i64))):=fun p hp=>ownsRow_below (HRO.out p hp) hb5
      have HB5:Hid _:=HB4.out.trans (hb5.mono HB4.out.size)
      have HR5:Hid (w5.ownsRow w3.heap.size 3 1 u fa.length (fa.map (Value.int .i64))):=rl_own_le hrow HB4.out.size
      obtain ⟨au,cu,rfl⟩:=own_slice hrow
      have hsz5:=HB5.out.size
      clear hrow hb5 HFI HO HRO HB4 t0 t1 t2 yc
      go_wp2_with (at_builtin; refine wpList_append_own _ rfl (.tmp 35) (.tmp 42) 27 rfl w3.heap.size 55 i0 _ 2 32 Tryz.underlying27 hi hz0 hz1 hz2 rfl (by decide) _ _ _ rfl (HO5.out.alloc _) ⟨w5.heap.size,0,none⟩ 1 1 (fcCells (⟨r.pred,fa⟩,.slice au fa.length cu)) rfl rfl ?c1 ?c2 ?c3 ?c4 ?c5 ?_)
      case c1=>exact news2 w5 _ _ 55
      case c2=>intro u hu; simp [fcCells] at hu; rcases hu with rfl | rfl <;> rfl
      case c3=>unfold maxLen; omega
      case c4=>omega
      case c5=>simp; omega
      intro vs2 w6 hown6 hgrow6 _
      obtain ⟨ao9,cap9,rfl⟩:=own_slice hown6
      have hba:Below w5.heap.size w5 (w5.alloc (.cells #[.int .i64 r.pred,.slice au fa.length cu] 55)):=(Below.refl _ _).alloc (Nat.le_refl _) _
      have h3:∀ (l:List Int) (u:Value),w5.ownsRow w3.heap.size 3 1 u l.length (l.map (Value.int .i64))→w6.ownsRow w3.heap.size 3 1 u l.length (l.map (Value.int .i64)):=fun l u hu=>own_type hu (fun k c hk=>(hgrow6.block k (Nat.lt_of_lt_of_le (heap_lt hk) hba.size) (fun e=>by have:=own_ty HO5.out e.symm hk; cases this)).trans ((hba.block k (heap_lt hk)).trans hk))
      have HB6:Hid (Below w3.heap.size w3 w6):=(HB5.out.alloc HB5.out.size _).grown hgrow6 (by simp; omega) (fun k hk=>(HO5.out.lt k hk).1)
      have HO6:Hid (w6.ownsRow w3.heap.size 55 2 (.slice ao9 (qh.length+1) cap9) (qh++[((⟨r.pred,fa⟩:Rl.Fc),Value.slice au fa.length cu)]).length ((qh++[((⟨r.pred,fa⟩:Rl.Fc),Value.slice au fa.length cu)]).map fcCells).flatten):=by
       show World.ownsRow _ _ _ _ _ _ _
       rw [List.length_append,List.map_append,List.flatten_append]
       simpa using hown6
      have HRO6:Hid (∀ p,p∈qh++[((⟨r.pred,fa⟩:Rl.Fc),Value.slice au fa.length cu)]→w6.ownsRow w3.heap.size 3 1 p.2 p.1.args.length (p.1.args.map (Value.int .i64))):=fun p hp=>by
       rcases List.mem_append.mp hp with hp | hp
       · exact h3 _ _ (HRO5.out p hp)
       · rcases List.mem_singleton.mp hp with rfl
         exact h3 _ _ HR5.out
      have HT2:Hid ((qh++[((⟨r.pred,fa⟩:Rl.Fc),Value.slice au fa.length cu)]).map (·.1)=(q.take (j+1)).map (fun y=>Ru.head r y.1)):=by show _=_; rw [HTK.out,← HQH.out,List.map_append]; rfl
      clear hown6 hgrow6 HO5 HRO5 HB5 HR5 h3 hba HTK HQH
      go_wp2_with fail
      go_roundw
      case rel=>exact ⟨j+1,_,hlt,by go_num,HO6.out,HT2.out,HRO6.out,by rw [List.length_append]; exact Nat.succ_le_succ hqk,HB6.out⟩
      case measure=>simp [intOf]; omega
    · have hdd:decide (j<q.length)=false:=decide_eq_false hlt
      have HQE:Hid (qh.map (·.1)=(Ru.waysOut p k facts).map (Ru.head r)):=by show _=_; rw [HQH.out,List.take_of_length_le (by omega),← HQ.out,List.map_map]; rfl
      have HAR:Hid (∀ p,p∈qh→p.1.args.length=r.terms.length∧∀ n,n∈p.1.args→Sc.isNum n=true):=fun f hf=>by
       have h1:f.1∈qh.map (·.1):=List.mem_map_of_mem hf
       rw [HQH.out] at h1
       obtain ⟨y,hy,hy2⟩:=List.mem_map.mp h1
       have h2:=HRT.out y (List.mem_of_mem_take hy)
       rw [← hy2]
       exact ⟨by show (Ru.fill r.terms y.1).length=_; unfold Ru.fill; rw [List.length_map],h2.nm⟩
      have hql2:qh.length≤2000:=by omega
      have HB7:Hid (Below w.heap.size w wo):=HB3.out.trans (HB4.out.mono HB3.out.size)
      clear HQH HN3
      by_cases hf:r.fold=0
      · have g0:(r.fold != 0)=false:=by simpa using hf
        have HSE:Hid (Rl.set (qh.map (·.1))=Ru.headsOut p k facts):=by show _=_; rw [HHO.out,HQE.out]; unfold Ru.heads Ru.headsL; rw [if_pos hf]
        have hFP:FactsP w3.heap.size wo (.slice ao qh.length co) (qh.map (·.1)):=⟨qh,rfl,HO.out,HRO.out⟩
        have HS:Hid _:=Set_any (qh.map (·.1)) _ wo hFP.toV (by rw [List.length_map]; omega) (fun f hf2=>by
         obtain ⟨z,hz,rfl⟩:=List.mem_map.mp hf2
         have:=(HAR.out z hz).1
         omega)
        clear hf hFP
        go_wp2_with fail
        refine Calls.mono HS.out ?_
        rintro _ w8 ⟨v',rfl,hFP,hb8⟩
        obtain ⟨q8,h81,h82,h83⟩:=hFP
        obtain ⟨a8,c8,rfl⟩:=own_slice h82
        have HF8:Hid (FactsP w.heap.size w8 (.slice a8 q8.length c8) (Ru.headsOut p k facts)):=⟨q8,by rw [h81]; exact HSE.out,rl_own_le h82 HB7.out.size,fun p hp=>rl_own_le (h83 p hp) HB7.out.size⟩
        have HB8:Hid (Below w.heap.size w w8):=HB7.out.trans (hb8.mono HB7.out.size)
        clear h81 h82 h83 hb8 HS
        go_wp2_with fail
        refine bodyPost_ret (results_tmp2 rfl _ _ _) rfl ?_
        exact ⟨_,by rw [HER.out]; rfl,HF8.out,HB8.out⟩
      · have g0:(r.fold != 0)=true:=by simpa using hf
        have ht0:=HFO.out hf
        have HFD:Hid _:=folded_any r.fold (r.terms.length - 1) qh (.slice ao qh.length co) w3.heap.size wo HO.out HRO.out hql2 (by omega) (fun p hp=>⟨by have:=(HAR.out p hp).1; omega,(HAR.out p hp).2⟩)
        have HSE:Hid (∀ S:List Rl.Fc,S.Perm (qh.map (·.1))→S.Pairwise (fun a b=>Rl.ord a b≤0)→Rl.set (Ru.folded r.fold S [])=Ru.headsOut p k facts):=fun S h1 h2=>by rw [HHO.out]; exact Ru.heads_folded hf (by rw [← HQE.out]; exact h1) h2
        have HW3:Hid (w.heap.size≤w3.heap.size):=HB3.out.size
        clear hf ht0
        go_wp2_with fail
        refine Calls.mono HFD.out ?_
        rintro _ w7 ⟨v7,S,rfl,hS1,hS2,hFP7,hb7⟩
        have HSE2:Hid _:=HSE.out S hS1 hS2
        have hSl:S.length=qh.length:=by have:=hS1.length_eq; rw [List.length_map] at this; exact this
        have HB9:Hid (Below w.heap.size w w7):=HB7.out.trans (hb7.mono HW3.out)
        have HSA:Hid (∀ f,f∈S→f.args.length=r.terms.length):=fun f hf=>by
         obtain ⟨z,hz,rfl⟩:=List.mem_map.mp (hS1.mem_iff.mp hf)
         exact (HAR.out z hz).1
        have HS:Hid _:=Set_any (Ru.folded r.fold S []) _ w7 hFP7.toV (by have:=Ru.folded_length r.fold S []; omega) (fun f hf2=>by
         have:=Ru.folded_args r.fold r.terms.length S [] HSA.out f hf2
         omega)
        obtain ⟨q7,_,h72,_⟩:=hFP7
        obtain ⟨a7,c7,rfl⟩:=own_slice h72
        clear hS1 hS2 h72 hb7 HFD HSE hSl
        go_wp2_with fail
        refine Calls.mono HS.out ?_
        rintro _ w8 ⟨v',rfl,hFP,hb8⟩
        obtain ⟨q8,h81,h82,h83⟩:=hFP
        obtain ⟨a8,c8,rfl⟩:=own_slice h82
        have HF8:Hid (FactsP w.heap.size w8 (.slice a8 q8.length c8) (Ru.headsOut p k facts)):=⟨q8,by rw [h81]; exact HSE2.out,rl_own_le h82 HB9.out.size,fun p hp=>rl_own_le (h83 p hp) HB9.out.size⟩
        have HB8:Hid (Below w.heap.size w w8):=HB9.out.trans (hb8.mono HB9.out.size)
        clear h81 h82 h83 hb8 HS
        go_wp2_with fail
        refine bodyPost_ret (results_tmp2 rfl _ _ _) rfl ?_
        exact ⟨_,by rw [HER.out]; rfl,HF8.out,HB8.out⟩
 · have g0:(Ru.waysErr p i facts != 0)=true:=by simpa using he
   have HE:Hid (Ru.headsOut p i facts=[]):=by show _=_; unfold Ru.headsOut Ru.waysOut; rw [if_pos he]; exact Ru.heads_nil _
   clear he
   go_wp2_with fail
   refine bodyPost_ret (results_tmp2 rfl _ _ _) rfl ?_
   exact ⟨_,rfl,by rw [HE.out]; exact FactsP.nil _ _,HB2.out⟩
theorem btw_any (n a b:Int) (w:World):Calls Tryz.prog 66 #[.int .i64 n,.int .i64 a,.int .i64 b] w fun e w'=>e=.returned (.bool (Tr.between n a b))∧w'=w:=between_any n a b w
theorem refNum_any (n:Int) (w:World):Calls Tryz.prog 23 #[.int .i64 n] w fun e w'=>e=.returned (.bool (Sc.isNum n))∧w'=w:=by
 go_enter Tryz.func23,Tryz.ntmps23
 go_wp2_with fail
 refine (btw_any _ _ _ _).mono ?_
 rintro e w1 ⟨rfl,rfl⟩
 go_wp2_with fail
 go_ret
 exact ⟨rfl,rfl⟩
theorem rpTerms_some (l:List Sc.Term) (vars:Int) (w:World) (n b off cap:Nat) (hv:0≤vars∧vars≤8) (hn:l.length=n) (hmax:n≤9223372036854775807) (hA:∀ i,i<n→PTermIn w b (off+i * 2) (Sc.termD l i)) :
 Calls Tryz.prog 165 #[.slice (some ⟨b,off,none⟩) n cap,.int .i64 vars] w fun e w'=>e=.returned (.int .i64 (Sc.termsErr vars l))∧w'=w:=by
 have HN:Hid (l.length=n):=hn
 clear hn
 go_enter Tryz.func165,Tryz.ntmps165
 go_wp2_with fail
 obtain ⟨hv0,hv8⟩:=hv
 go_loopw [5] (fun i wr=>∃ k:Nat,k≤n∧i=.int .i64 k∧Sc.termsErr vars l=Sc.first (Sc.termErr vars) (l.drop k)∧wr=w) (fun i _=>n - (intOf i).toNat)
 case atStart=>exact ⟨0,Nat.zero_le _,rfl,rfl,rfl⟩
 case round =>
  obtain ⟨k,hk,rfl,hall,rfl⟩:=hrel
  have HA:Hid (Sc.termsErr vars l=Sc.first (Sc.termErr vars) (l.drop k)):=hall
  clear hall
  by_cases hlt:k<n
  · obtain ⟨a0,a1⟩:=hA k hlt
    have HD:Hid (Sc.termsErr vars l=Sc.thn (Sc.termErr vars (Sc.termD l k)) (Sc.first (Sc.termErr vars) (l.drop (k+1)))):=HA.out.trans (Sc.first_drop _ _ _ k (by rw [HN.out]; exact hlt))
    clear hA HA
    generalize Sc.termD l k=t at *
    go_wp2_with fail
    refine (btw_any _ _ _ _).mono ?_
    rintro e w2 ⟨he,rfl⟩
    cases h1:Tr.between t.var (-1) (vars - 1)
    · rw [h1] at he
      subst he
      have HV:Hid (Sc.termsErr vars l=5):=by show _=_; rw [HD.out,Sc.termErr,h1]; rfl
      clear HD
      go_wp2_with fail
      go_ret
      exact ⟨by rw [HV.out]; rfl,rfl⟩
    · rw [h1] at he
      subst he
      have HT:Hid (Sc.termErr vars t=if !Sc.isNum t.n || (decide (0≤t.var) && t.n != 0) then 3 else 0):=by show _=_; rw [Sc.termErr,h1]; rfl
      clear h1
      go_wp2_with fail
      refine (refNum_any t.n _).mono ?_
      rintro e w3 ⟨he,rfl⟩
      cases hnum:Sc.isNum t.n
      · rw [hnum] at he
        subst he
        have HV:Hid (Sc.termsErr vars l=3):=by show _=_; rw [HD.out,HT.out,hnum]; rfl
        clear HD HT
        go_wp2_with fail
        go_ret
        exact ⟨by rw [HV.out]; rfl,rfl⟩
      · rw [hnum] at he
        subst he
        by_cases h5:0≤t.var
        · have g5:decide (0≤t.var)=true:=decide_eq_true h5
          cases g6:(t.n != 0)
          · have HV:Hid (Sc.termsErr vars l=Sc.first (Sc.termErr vars) (l.drop (k+1))):=by show _=_; rw [HD.out,HT.out,hnum,g5,g6]; rfl
            clear HD HT
            go_wp2_with fail
            go_roundw
            case rel=>exact ⟨k+1,by omega,by go_num,HV.out,by trivial⟩
            case measure=>simp [intOf]; omega
          · have HV:Hid (Sc.termsErr vars l=3):=by show _=_; rw [HD.out,HT.out,hnum,g5,g6]; rfl
            clear HD HT
            go_wp2_with fail
            go_ret
            exact ⟨by rw [HV.out]; rfl,rfl⟩
        · have g5:decide (0≤t.var)=false:=decide_eq_false h5
          have HV:Hid (Sc.termsErr vars l=Sc.first (Sc.termErr vars) (l.drop (k+1))):=by show _=_; rw [HD.out,HT.out,hnum,g5]; rfl
          clear HD HT
          go_wp2_with fail
          go_roundw
          case rel=>exact ⟨k+1,by omega,by go_num,HV.out,by trivial⟩
          case measure=>simp [intOf]; omega
  · have HV:Hid (Sc.termsErr vars l=0):=by show _=_; rw [HA.out,List.drop_of_length_le (by rw [HN.out]; omega)]; rfl
    clear hA
    go_wp2_with fail
    go_ret
    exact ⟨by rw [HV.out]; rfl,rfl⟩
theorem rpTerms_none (w:World) (vars:Int) (ao:Option Addr) (cap:Nat):Calls Tryz.prog 165 #[.slice ao 0 cap,.int .i64 vars] w fun e w'=>e=.returned (.int .i64 0)∧w'=w:=by
 go_enter Tryz.func165,Tryz.ntmps165
 go_wp2_with fail
 refine wp_loop_rounds 1 ?_
 rw [rounds_succ]
 go_wp2_with fail
 go_ret
 exact ⟨rfl,rfl⟩
theorem rpTerms_any (l:List Sc.Term) (vars:Int) (v:Value) (w:World) (hv:0≤vars∧vars≤8) (hmax:l.length≤9223372036854775807) (hA:PTermsV w v l) :
 Calls Tryz.prog 165 #[v,.int .i64 vars] w fun e w'=>e=.returned (.int .i64 (Sc.termsErr vars l))∧w'=w:=by
 obtain ⟨ao,cap,rfl,_,hA⟩:=hA
 rcases hA with rfl | ⟨b,off,rfl,hA⟩
 · exact rpTerms_none w vars ao cap
 · exact rpTerms_some l vars w l.length b off cap hv rfl hmax hA
structure QInv (w:World) (rb:Obj) (R:Nat) (bs:List Bool) (wr:World):Prop where
 bel:Below w.heap.size w wr
 box:wr.heap[w.heap.size]?=some rb
 row:wr.heap[R]?=some (.cells (bs.map Value.bool).toArray 4 (0,0))
 r0:w.heap.size<R
theorem QInv.below {w wr w2:World} {rb:Obj} {R:Nat} {bs:List Bool} (h:QInv w rb R bs wr) (hb:Below wr.heap.size wr w2):QInv w rb R bs w2 :=
 ⟨h.bel.trans (hb.mono h.bel.size),(hb.block _ (heap_lt h.box)).trans h.box,(hb.block _ (heap_lt h.row)).trans h.row,h.r0⟩
theorem QInv.set {w wr:World} {rb:Obj} {R:Nat} {bs:List Bool} (h:QInv w rb R bs wr) (k:Nat):QInv w rb R (bs.set k true) (wr.setCell ⟨R,k,none⟩ (.bool true)):=by
 have h0:=h.r0
 refine ⟨h.bel.setCell (p:=⟨R,k,none⟩) (Nat.le_of_lt h0) _,?_,?_,h0⟩
 · rw [Below.heap_setCell _ _ _ _ (show ¬ w.heap.size=R by omega)]; exact h.box
 · rw [Lib.heap_setCell_same h.row]
   simp [List.map_set]
theorem QInv.at_ {w wr:World} {rb:Obj} {R:Nat} {bs:List Bool} (h:QInv w rb R bs wr) (i:Nat) (hi:i<bs.length):wr.cell? ⟨R,i,none⟩=some (.bool (bs.getD i false)):=by
 rw [Lib.cell_of_heap h.row]
 simp [List.getD_eq_getElem?_getD,hi]
theorem bind_one {bs:List Bool} {x:Sc.Lit} (h:x.kind=1):Sc.bindAll bs (x.terms.drop 0)=Sc.bindLit bs x:=by
 unfold Sc.bindLit Sc.binds
 rw [if_pos h,List.drop_zero]
theorem bind_four {bs:List Bool} {x:Sc.Lit} (h:x.kind=4) (h0:Sc.known bs (Sc.termD x.terms 0)=true) (h1:Sc.known bs (Sc.termD x.terms 1)=true):Sc.bindAll bs (x.terms.drop 2)=Sc.bindLit bs x:=by
 unfold Sc.bindLit Sc.binds
 rw [if_neg (by rw [h]; decide),if_pos ⟨h,h0,h1⟩]
theorem bind_not {bs:List Bool} {x:Sc.Lit} (h:¬ x.kind=1) (h4:¬ (x.kind=4∧Sc.known bs (Sc.termD x.terms 0)=true∧Sc.known bs (Sc.termD x.terms 1)=true)):Sc.bindLit bs x=bs:=by
 unfold Sc.bindLit Sc.binds
 rw [if_neg h,if_neg h4]
 rfl
theorem take_all (bs:List Bool) (l:List Sc.Term) (m:Nat) (h:m<l.length):(l.take (m+1)).all (Sc.known bs)=((l.take m).all (Sc.known bs) && Sc.known bs (Sc.termD l m)):=by
 rw [List.take_succ_eq_append_getElem h,List.all_append]
 simp [Sc.termD,List.getD_eq_getElem?_getD,h]
theorem rpSafe_any (r:Sc.Rule) (vt vb:Value) (w:World) (hL:PLitsV w vb r.body) (hG:RuleGood r) :
 Calls Tryz.prog 166 #[pruleVal r vt vb] w fun e w'=>e=.returned (.bool (Sc.safe r))∧Below w.heap.size w w':=by
 obtain ⟨pred,ts,fold,body,vars⟩:=r
 obtain ⟨h0,h8,h4,hG⟩:=hG
 obtain ⟨nv,hnv⟩:∃ nv:Nat,vars=nv:=⟨vars.toNat,by simp only at h0; omega⟩
 subst hnv
 simp only [Int.toNat_natCast] at *
 obtain ⟨ab,cb,rfl,hL⟩:=hL
 have hmk:=run_make_row' (P:=Tryz.prog) 57 4 (.bool false) 1 Tryz.underlying57 (by kernel_rfl) rfl .i64 .i64 nv (by omega) (by omega)
 have hst:QInv w (.cells #[.int .i64 pred,vt,.int .i64 fold,.slice ab body.length cb,.int .i64 nv] 40) (w.heap.size+1) (List.replicate nv false) ((w.alloc (.cells #[.int .i64 pred,vt,.int .i64 fold,.slice ab body.length cb,.int .i64 nv] 40)).alloc (.cells (madeCells #[Value.bool false] nv) 4)):=by
  have h:=two_blocks (w:=w) (o1:=(.cells #[.int .i64 pred,vt,.int .i64 fold,.slice ab body.length cb,.int .i64 nv] 40)) (o2:=.cells (madeCells #[Value.bool false] nv) 4) (Below.refl _ _)
  exact ⟨below_two w _ _,h.1,by rw [← made_bools]; exact h.2,by omega⟩
 have HS:Hid (Sc.safe ⟨pred,ts,fold,body,nv⟩=(Sc.rounds body (body.length+1) (List.replicate nv false)).all id):=by
  show _=_
  rw [Sc.rounds_enough]
  rfl
 have hlen0:(List.replicate nv false).length=nv:=by simp
 go_enter Tryz.func166,Tryz.ntmps166
 go_wp2_with fail
 generalize (w.alloc (.cells #[.int .i64 pred,vt,.int .i64 fold,.slice ab body.length cb,.int .i64 nv] 40)).alloc (.cells (madeCells #[Value.bool false] nv) 4)=w0 at *
 generalize hR:w.heap.size+1=R at *
 clear hR
 generalize List.replicate nv false=bz at *
 generalize hrb:Obj.cells #[.int .i64 pred,vt,.int .i64 fold,.slice ab body.length cb,.int .i64 nv] 40=rb at *
 have HRB:Hid _:=hrb
 clear hrb
 go_loopw [4] (fun i wr=>∃ (k:Nat) (bs:List Bool),k≤body.length+1∧i=.int .i64 k∧QInv w rb R bs wr∧bs.length=nv∧Sc.rounds body (body.length+1 - k) bs=Sc.rounds body (body.length+1) bz) (fun i _=>body.length+1 - (intOf i).toNat)
 case atStart=>exact ⟨0,bz,Nat.zero_le _,rfl,hst,hlen0,rfl⟩
 case round =>
  obtain ⟨k,bs0,hk,rfl,hI,hn0,hrd⟩:=hrel
  have HR:Hid _:=hrd
  clear hrd hst hlen0
  have cb3:wr.cell? ⟨w.heap.size,3,none⟩=some (.slice ab body.length cb):=by rw [Lib.cell_of_heap (hI.box.trans (congrArg some HRB.out.symm))]; rfl
  by_cases hlt:k≤body.length
  · have gk:decide ((k:Int)≤(body.length:Int))=true:=decide_eq_true (by omega)
    have gk':decide (k≤body.length)=true:=decide_eq_true hlt
    go_wp2_with fail
    go_loopw [5] (fun i wq=>∃ (j:Nat) (bs:List Bool),j≤body.length∧i=.int .i64 j∧QInv w rb R bs wq∧bs.length=nv∧(body.drop j).foldl Sc.bindLit bs=Sc.round body bs0) (fun i _=>body.length - (intOf i).toNat)
    case atStart=>exact ⟨0,bs0,Nat.zero_le _,rfl,hI,hn0,rfl⟩
    case round =>
     clear hI cb3 hn0
     obtain ⟨j,bs1,hj,rfl,hI,hn1,hfd⟩:=hrel
     have HFD:Hid _:=hfd
     clear hfd
     have cb3:wr.cell? ⟨w.heap.size,3,none⟩=some (.slice ab body.length cb):=by rw [Lib.cell_of_heap (hI.box.trans (congrArg some HRB.out.symm))]; rfl
     by_cases hjl:j<body.length
     · obtain ⟨b,off,rfl,p0,p1,p2,v,p3,hT⟩:=plits_at hL j hjl
       have hT0:=hT
       obtain ⟨at_,ct,rfl,_,hTA⟩:=hT
       have HTA:Hid (PTermsAt w at_ (Sc.litD body j).terms):=hTA
       have q0:=cell_below hI.bel p0
       have q1:=cell_below hI.bel p1
       have q2:=cell_below hI.bel p2
       have q3:=cell_below hI.bel p3
       have hg:=hG j hjl
       have HF2:Hid ((body.drop (j+1)).foldl Sc.bindLit (Sc.bindLit bs1 (Sc.litD body j))=Sc.round body bs0):=(foldl_drop Sc.bindLit ⟨0,0,0,[]⟩ body j hjl bs1).symm.trans HFD.out
       have hb1:Below wr.heap.size wr (wr.alloc (.cells #[.int .i64 (Sc.litD body j).kind,.int .i64 (Sc.litD body j).op,.int .i64 (Sc.litD body j).pred,.slice at_ (Sc.litD body j).terms.length ct] 49)):=(Below.refl _ _).alloc (Nat.le_refl _) _
       have hlb:=heap_alloc_new wr (.cells #[.int .i64 (Sc.litD body j).kind,.int .i64 (Sc.litD body j).op,.int .i64 (Sc.litD body j).pred,.slice at_ (Sc.litD body j).terms.length ct] 49)
       have hI3:=hI.below hb1
       have HNE:Hid (¬ wr.heap.size=R):=by have:=heap_lt hI.row; show ¬ _; omega
       clear p0 p1 p2 p3 hb1 hI HFD hTA hT0
       generalize hx:Sc.litD body j=x at *
       clear hx
       go_upto_region 10 with fail
       generalize wr.alloc (.cells #[.int .i64 x.kind,.int .i64 x.op,.int .i64 x.pred,.slice at_ x.terms.length ct] 49)=wz at *
       generalize hLB:wr.heap.size=LB at *
       clear hLB q0 q1 q2 q3 cb3
       have l0:wz.cell? ⟨LB,0,none⟩=some (.int .i64 x.kind):=by rw [Lib.cell_of_heap hlb]; rfl
       have l3:wz.cell? ⟨LB,3,none⟩=some (.slice at_ x.terms.length ct):=by rw [Lib.cell_of_heap hlb]; rfl
       cases gk4:(x.kind==4)
       · have hk4:¬ x.kind=4:=by simpa using gk4
         cases gk1:(x.kind==1)
         · have hk1:¬ x.kind=1:=by simpa using gk1
           have HBN:Hid (Sc.bindLit bs1 x=bs1):=bind_not hk1 (fun h=>hk4 h.1)
           go_wp2_with fail
           by_cases hz:x.terms.length=0
           · have gz:decide ((0:Int)<(x.terms.length:Int))=false:=decide_eq_false (by omega)
             have gz':decide (0<x.terms.length)=false:=decide_eq_false (by omega)
             have HV:Hid ((body.drop (j+1)).foldl Sc.bindLit bs1=Sc.round body bs0):=by
              show _=_
              rw [← HF2.out,HBN.out]
             refine wp_loop_rounds 1 ?_
             rw [rounds_succ]
             go_wp2_with fail
             go_roundw
             case rel=>exact ⟨j+1,_,by omega,by go_num,hI3,hn1,HV.out⟩
             case measure=>simp [intOf]; omega
           · have gz:decide ((0:Int)<(x.terms.length:Int))=true:=decide_eq_true (by omega)
             have gz':decide (0<x.terms.length)=true:=decide_eq_true (by omega)
             have HV:Hid ((body.drop (j+1)).foldl Sc.bindLit bs1=Sc.round body bs0):=by
              show _=_
              rw [← HF2.out,HBN.out]
             refine wp_loop_rounds 1 ?_
             rw [rounds_succ]
             go_wp2_with fail
             go_roundw
             case rel=>exact ⟨j+1,_,by omega,by go_num,hI3,hn1,HV.out⟩
             case measure=>simp [intOf]; omega
         · have hk1:x.kind=1:=by simpa using gk1
           have HBB:Hid (Sc.bindAll bs1 (x.terms.drop 0)=Sc.bindLit bs1 x):=bind_one hk1
           have HLEN:Hid (0≤x.terms.length):=Nat.zero_le _
           have hfit:=hg.2.2
           clear hk1 hk4
           go_wp2_with fail
           go_loopw [9] (fun i wz=>∃ (m:Nat) (bs:List Bool),0≤m∧m≤x.terms.length∧i=.int .i64 m∧QInv w rb R bs wz∧wz.heap[LB]?=some (.cells #[.int .i64 x.kind,.int .i64 x.op,.int .i64 x.pred,.slice at_ x.terms.length ct] 49)∧bs.length=nv∧Sc.bindAll bs (x.terms.drop m)=Sc.bindLit bs1 x) (fun i _=>x.terms.length - (intOf i).toNat)
           case atStart=>exact ⟨0,bs1,Nat.le_refl _,HLEN.out,rfl,hI3,hlb,hn1,HBB.out⟩
           case round =>
            clear hI3 hlb l0 l3
            obtain ⟨m,bs2,hfm,hm,rfl,hI,hlb,hn2,hbd⟩:=hrel
            have HBD:Hid _:=hbd
            clear hbd
            have l0:wr.cell? ⟨LB,0,none⟩=some (.int .i64 x.kind):=by rw [Lib.cell_of_heap hlb]; rfl
            have l3:wr.cell? ⟨LB,3,none⟩=some (.slice at_ x.terms.length ct):=by rw [Lib.cell_of_heap hlb]; rfl
            by_cases hml:m<x.terms.length
            · obtain ⟨b3,off3,rfl,hc⟩:=pterms_at HTA.out m hml
              obtain ⟨r0,r1⟩:=hc m hml
              have s0:=cell_below hI.bel r0
              have s1:=cell_below hI.bel r1
              have hvm:=hg.2.1 _ (termD_mem hml)
              have HB2:Hid (Sc.bindAll (Sc.bind1 bs2 (Sc.termD x.terms m)) (x.terms.drop (m+1))=Sc.bindLit bs1 x):=(foldl_drop Sc.bind1 ⟨0,0⟩ x.terms m hml bs2).symm.trans HBD.out
              clear HBD r0 r1 hc
              have hRlt:=heap_lt hI.row
              generalize hT0:Sc.termD x.terms m=t0 at *
              clear hT0
              obtain ⟨var,nn⟩:=t0
              have hvm:var<nv:=hvm
              by_cases h5:0≤var
              · have g5:decide (0≤var)=true:=decide_eq_true h5
                obtain ⟨kv,rfl⟩:∃ kv:Nat,var=kv:=⟨var.toNat,by omega⟩
                have hkl:kv<nv:=by omega
                have hcR:=hI.at_ kv (by omega)
                have hfR:=Lib.frozen_of_heap hI.row kv
                have hI4:=hI.set kv
                have hlb4:=(Below.heap_setCell wr ⟨R,kv,none⟩ (.bool true) LB HNE.out).trans hlb
                have HV:Hid (Sc.bindAll (bs2.set kv true) (x.terms.drop (m+1))=Sc.bindLit bs1 x):=by
                 show _=_
                 rw [← HB2.out]
                 simp [Sc.bind1]
                have hn4:(bs2.set kv true).length=nv:=by rw [List.length_set]; exact hn2
                clear HB2
                go_wp2_with fail
                go_roundw
                case rel=>exact ⟨m+1,_,by omega,by omega,by go_num,hI4,hlb4,hn4,HV.out⟩
                case measure=>simp [intOf]; omega
              · have g5:decide (0≤var)=false:=decide_eq_false h5
                have HV:Hid (Sc.bindAll bs2 (x.terms.drop (m+1))=Sc.bindLit bs1 x):=by
                 show _=_
                 rw [← HB2.out]
                 simp [Sc.bind1,h5]
                clear HB2
                go_wp2_with fail
                go_roundw
                case rel=>exact ⟨m+1,_,by omega,by omega,by go_num,hI,hlb,hn2,HV.out⟩
                case measure=>simp [intOf]; omega
            · have hend:Sc.bindAll bs2 (x.terms.drop m)=bs2:=by rw [List.drop_of_length_le (by omega)]; rfl
              have HV:Hid ((body.drop (j+1)).foldl Sc.bindLit bs2=Sc.round body bs0):=by
               show _=_
               rw [← HF2.out,← HBD.out,hend]
              clear hend HBD
              go_wp2_with fail
              go_roundw
              case rel=>exact ⟨j+1,_,by omega,by go_num,hI,hn2,HV.out⟩
              case measure=>simp [intOf]; omega
       · have hk4:x.kind=4:=by simpa using gk4
         have hl3:x.terms.length=3:=hg.1 hk4
         go_wp2_with fail
         go_loopw [7,8] (fun f i wq=>∃ (m fv:Nat),m≤2∧i=.int .i64 m∧f=.int .i64 fv∧wq=wz∧fv=if (x.terms.take m).all (Sc.known bs1) then 2 else 3) (fun _ i _=>2 - (intOf i).toNat)
         case atStart=>exact ⟨0,2,Nat.zero_le _,rfl,rfl,rfl,rfl⟩
         case round =>
          obtain ⟨m,fv,hm,rfl,rfl,rfl,hfv⟩:=hrel
          have HFV:Hid _:=hfv
          clear hfv
          by_cases hm2:m<2
          · have gm:decide ((m:Int)<2)=true:=decide_eq_true (by omega)
            have hml:m<x.terms.length:=by omega
            obtain ⟨b3,off3,rfl,hc⟩:=pterms_at HTA.out m hml
            obtain ⟨r0,r1⟩:=hc m hml
            have s0:=cell_below hI3.bel r0
            have s1:=cell_below hI3.bel r1
            have hvm:=hg.2.1 _ (termD_mem hml)
            have HTK:Hid ((x.terms.take (m+1)).all (Sc.known bs1)=((x.terms.take m).all (Sc.known bs1) && Sc.known bs1 (Sc.termD x.terms m))):=take_all _ _ _ hml
            clear r0 r1 hc
            generalize hT0:Sc.termD x.terms m=t0 at *
            clear hT0
            obtain ⟨var,nn⟩:=t0
            have hvm:var<nv:=hvm
            by_cases h5:0≤var
            · have g5:decide (0≤var)=true:=decide_eq_true h5
              obtain ⟨kv,rfl⟩:∃ kv:Nat,var=kv:=⟨var.toNat,by omega⟩
              have hkl:kv<nv:=by omega
              have hcR:=hI3.at_ kv (by omega)
              have hKN:Sc.known bs1 ⟨kv,nn⟩=bs1.getD kv false:=by
               unfold Sc.known
               have:decide ((kv:Int)<0)=false:=decide_eq_false (by omega)
               simp [this]
              rw [hKN] at HTK
              clear hKN
              generalize bs1.getD kv false=bb at *
              cases bb
              · have HV:Hid (3=if (x.terms.take (m+1)).all (Sc.known bs1) then 2 else 3):=by show _=_; rw [HTK.out,Bool.and_false]; rfl
                clear HTK
                go_wp2_with fail
                go_roundw
                case rel=>exact ⟨m+1,3,by omega,by go_num,by trivial,by trivial,HV.out⟩
                case measure=>simp [intOf]; omega
              · have HV:Hid (fv=if (x.terms.take (m+1)).all (Sc.known bs1) then 2 else 3):=by show _=_; rw [HTK.out,Bool.and_true]; exact HFV.out
                clear HTK
                go_wp2_with fail
                go_roundw
                case rel=>exact ⟨m+1,fv,by omega,by go_num,by trivial,by trivial,HV.out⟩
                case measure=>simp [intOf]; omega
            · have g5:decide (0≤var)=false:=decide_eq_false h5
              have hKN:Sc.known bs1 ⟨var,nn⟩=true:=by
               unfold Sc.known
               have:decide (var<0)=true:=decide_eq_true (by omega)
               simp [this]
              have HV:Hid (fv=if (x.terms.take (m+1)).all (Sc.known bs1) then 2 else 3):=by show _=_; rw [HTK.out,hKN,Bool.and_true]; exact HFV.out
              clear HTK hKN
              go_wp2_with fail
              go_roundw
              case rel=>exact ⟨m+1,fv,by omega,by go_num,by trivial,by trivial,HV.out⟩
              case measure=>simp [intOf]; omega
          · have gm:decide ((m:Int)<2)=false:=decide_eq_false (by omega)
            obtain rfl:m=2:=by omega
            have HTK:Hid ((x.terms.take 2).all (Sc.known bs1)=(Sc.known bs1 (Sc.termD x.terms 0) && Sc.known bs1 (Sc.termD x.terms 1))):=by
             show _=_
             rw [take_all _ _ 1 (by omega),take_all _ _ 0 (by omega),List.take_zero]
             simp
            cases hkn:(Sc.known bs1 (Sc.termD x.terms 0) && Sc.known bs1 (Sc.termD x.terms 1))
            · have hf:fv=3:=by rw [HFV.out,HTK.out,hkn]; rfl
              subst hf
              have HBN:Hid (Sc.bindLit bs1 x=bs1):=bind_not (by rw [hk4]; decide) (fun h=>by rw [h.2.1,h.2.2] at hkn; cases hkn)
              have gz:decide ((3:Int)<(x.terms.length:Int))=false:=decide_eq_false (by omega)
              have gz':decide (3<x.terms.length)=false:=decide_eq_false (by omega)
              clear hk4 HFV HTK
              go_wp2_with fail
              have HV:Hid ((body.drop (j+1)).foldl Sc.bindLit bs1=Sc.round body bs0):=by
               show _=_
               rw [← HF2.out,HBN.out]
              refine wp_loop_rounds 1 ?_
              rw [rounds_succ]
              go_wp2_with fail
              go_roundw
              case rel=>exact ⟨j+1,_,by omega,by go_num,hI3,hn1,HV.out⟩
              case measure=>simp [intOf]; omega
            · have hf:fv=2:=by rw [HFV.out,HTK.out,hkn]; rfl
              subst hf
              rw [Bool.and_eq_true] at hkn
              have HBB:Hid (Sc.bindAll bs1 (x.terms.drop 2)=Sc.bindLit bs1 x):=bind_four hk4 hkn.1 hkn.2
              have HLEN:Hid (2≤x.terms.length):=by show _≤_; omega
              have hfit:=hg.2.2
              have gk1:(x.kind==1)=false:=by rw [hk4]; rfl
              clear hk4 hl3 hkn HFV HTK
              go_wp2_with fail
              go_loopw [9] (fun i wz=>∃ (m:Nat) (bs:List Bool),2≤m∧m≤x.terms.length∧i=.int .i64 m∧QInv w rb R bs wz∧wz.heap[LB]?=some (.cells #[.int .i64 x.kind,.int .i64 x.op,.int .i64 x.pred,.slice at_ x.terms.length ct] 49)∧bs.length=nv∧Sc.bindAll bs (x.terms.drop m)=Sc.bindLit bs1 x) (fun i _=>x.terms.length - (intOf i).toNat)
              case atStart=>exact ⟨2,bs1,Nat.le_refl _,HLEN.out,rfl,hI3,hlb,hn1,HBB.out⟩
              case round =>
               clear hI3 hlb l0 l3
               obtain ⟨m,bs2,hfm,hm,rfl,hI,hlb,hn2,hbd⟩:=hrel
               have HBD:Hid _:=hbd
               clear hbd
               have l0:wr.cell? ⟨LB,0,none⟩=some (.int .i64 x.kind):=by rw [Lib.cell_of_heap hlb]; rfl
               have l3:wr.cell? ⟨LB,3,none⟩=some (.slice at_ x.terms.length ct):=by rw [Lib.cell_of_heap hlb]; rfl
               by_cases hml:m<x.terms.length
               · obtain ⟨b3,off3,rfl,hc⟩:=pterms_at HTA.out m hml
                 obtain ⟨r0,r1⟩:=hc m hml
                 have s0:=cell_below hI.bel r0
                 have s1:=cell_below hI.bel r1
                 have hvm:=hg.2.1 _ (termD_mem hml)
                 have HB2:Hid (Sc.bindAll (Sc.bind1 bs2 (Sc.termD x.terms m)) (x.terms.drop (m+1))=Sc.bindLit bs1 x):=(foldl_drop Sc.bind1 ⟨0,0⟩ x.terms m hml bs2).symm.trans HBD.out
                 clear HBD r0 r1 hc
                 have hRlt:=heap_lt hI.row
                 generalize hT0:Sc.termD x.terms m=t0 at *
                 clear hT0
                 obtain ⟨var,nn⟩:=t0
                 have hvm:var<nv:=hvm
                 by_cases h5:0≤var
                 · have g5:decide (0≤var)=true:=decide_eq_true h5
                   obtain ⟨kv,rfl⟩:∃ kv:Nat,var=kv:=⟨var.toNat,by omega⟩
                   have hkl:kv<nv:=by omega
                   have hcR:=hI.at_ kv (by omega)
                   have hfR:=Lib.frozen_of_heap hI.row kv
                   have hI4:=hI.set kv
                   have hlb4:=(Below.heap_setCell wr ⟨R,kv,none⟩ (.bool true) LB HNE.out).trans hlb
                   have HV:Hid (Sc.bindAll (bs2.set kv true) (x.terms.drop (m+1))=Sc.bindLit bs1 x):=by
                    show _=_
                    rw [← HB2.out]
                    simp [Sc.bind1]
                   have hn4:(bs2.set kv true).length=nv:=by rw [List.length_set]; exact hn2
                   clear HB2
                   go_wp2_with fail
                   go_roundw
                   case rel=>exact ⟨m+1,_,by omega,by omega,by go_num,hI4,hlb4,hn4,HV.out⟩
                   case measure=>simp [intOf]; omega
                 · have g5:decide (0≤var)=false:=decide_eq_false h5
                   have HV:Hid (Sc.bindAll bs2 (x.terms.drop (m+1))=Sc.bindLit bs1 x):=by
                    show _=_
                    rw [← HB2.out]
                    simp [Sc.bind1,h5]
                   clear HB2
                   go_wp2_with fail
                   go_roundw
                   case rel=>exact ⟨m+1,_,by omega,by omega,by go_num,hI,hlb,hn2,HV.out⟩
                   case measure=>simp [intOf]; omega
               · have hend:Sc.bindAll bs2 (x.terms.drop m)=bs2:=by rw [List.drop_of_length_le (by omega)]; rfl
                 have HV:Hid ((body.drop (j+1)).foldl Sc.bindLit bs2=Sc.round body bs0):=by
                  show _=_
                  rw [← HF2.out,← HBD.out,hend]
                 clear hend HBD
                 go_wp2_with fail
                 go_roundw
                 case rel=>exact ⟨j+1,_,by omega,by go_num,hI,hn2,HV.out⟩
                 case measure=>simp [intOf]; omega
     · have hend:(body.drop j).foldl Sc.bindLit bs1=bs1:=by rw [List.drop_of_length_le (by omega)]; rfl
       have HV:Hid (Sc.rounds body (body.length+1 - (k+1)) bs1=Sc.rounds body (body.length+1) bz):=by
        show _=_
        rw [← HR.out,rounds_step body _ k (by omega),← HFD.out,hend]
       clear hend
       go_wp2_with fail
       go_roundw
       case rel=>exact ⟨k+1,_,by omega,by go_num,hI,hn1,HV.out⟩
       case measure=>simp [intOf]; omega
  · have gk:decide ((k:Int)≤(body.length:Int))=false:=decide_eq_false (by omega)
    have gk':decide (k≤body.length)=false:=decide_eq_false hlt
    have HV:Hid (bs0=Sc.rounds body (body.length+1) bz):=by
     show _=_
     have:=HR.out
     rw [show k=body.length+1 by omega,Nat.sub_self] at this
     exact this
    have cb4:wr.cell? ⟨w.heap.size,4,none⟩=some (.int .i64 nv):=by rw [Lib.cell_of_heap (hI.box.trans (congrArg some HRB.out.symm))]; rfl
    clear HR
    go_wp2_with fail
    go_loopw [10] (fun i wq=>∃ m:Nat,m≤nv∧i=.int .i64 m∧wq=wr∧bs0.all id=(bs0.drop m).all id) (fun i _=>nv - (intOf i).toNat)
    case atStart=>exact ⟨0,Nat.zero_le _,rfl,rfl,rfl⟩
    case round =>
     obtain ⟨m,hm,rfl,rfl,hall⟩:=hrel
     have HAL:Hid _:=hall
     clear hall
     by_cases hml:m<nv
     · have hcR:=hI.at_ m (by omega)
       have hRlt:=heap_lt hI.row
       have HD:Hid (bs0.all id=(bs0.getD m false && (bs0.drop (m+1)).all id)):=HAL.out.trans (all_drop _ _ _ m (by omega))
       clear HAL
       generalize bs0.getD m false=bb at *
       cases bb
       · have HV2:Hid (Sc.safe ⟨pred,ts,fold,body,nv⟩=false):=by show _=_; rw [HS.out,← HV.out,HD.out]; rfl
         have hbel:=hI.bel
         go_wp2_with fail
         go_ret
         exact ⟨by rw [HV2.out]; rfl,hbel⟩
       · have HV2:Hid (bs0.all id=(bs0.drop (m+1)).all id):=by show _=_; rw [HD.out]; rfl
         clear HD
         go_wp2_with fail
         go_roundw
         case rel=>exact ⟨m+1,by omega,by go_num,by trivial,HV2.out⟩
         case measure=>simp [intOf]; omega
     · have HV2:Hid (Sc.safe ⟨pred,ts,fold,body,nv⟩=true):=by show _=_; rw [HS.out,← HV.out,HAL.out,List.drop_of_length_le (by omega)]; rfl
       have hbel:=hI.bel
       go_wp2_with fail
       go_ret
       exact ⟨by rw [HV2.out]; rfl,hbel⟩
end Go.Proofs.YthenjegmigeieaaGreat
