/- Own texts, one behind the other (part 8). -/
import Derived.Test.YthenjegmigeieaaGreatBundleG
import Derived.Test.YthenjegmigeieaaGreatRows
set_option maxRecDepth 100000
set_option maxHeartbeats 8000000
namespace Go.Proofs.YthenjegmigeieaaGreat
open Go.RowKit
namespace Ru
def rule (p:Sc.Prog) (i:Int):Sc.Rule:=Sc.ruleD p.rules i.toNat
def waysErr (p:Sc.Prog) (i:Int) (l:List Rl.Fc):Int:=if check p i l≠0 then check p i l else if 2000<(ways (Rl.set l) (rule p i)).length then 2 else 0
def waysOut (p:Sc.Prog) (i:Int) (l:List Rl.Fc):List (List Int):=if waysErr p i l≠0 then [] else srt (ways (Rl.set l) (rule p i))
structure In (p:Sc.Prog) (i:Int) (l:List Rl.Fc):Prop where
 ok:ProgOk p
 lo:0≤i
 hi:i<(p.rules.length:Int)
 len:l.length≤60
 fs:∀ f,f∈l→Right p.arity f
theorem check_in {p:Sc.Prog} {i:Int} {l:List Rl.Fc} (h:check p i l=0):In p i l:=by
 unfold check at h
 by_cases h1:Sc.check p=0
 · rw [if_neg (by simpa using h1)] at h
   by_cases h2:i<0∨(p.rules.length:Int)≤i
   · rw [if_pos h2] at h; cases h
   · rw [if_neg h2] at h
     by_cases h3:60<l.length
     · rw [if_pos h3] at h; cases h
     · rw [if_neg h3] at h
       exact ⟨progOk_of h1,by omega,by omega,by omega,fun f hf=>right_iff.mp (thn0 (first0 h f hf)).2⟩
 · rw [if_pos h1] at h
   exact absurd h h1
theorem ruleD_mem {l:List Sc.Rule} {k:Nat} (h:k<l.length):Sc.ruleD l k∈l:=by unfold Sc.ruleD; rw [List.getD_eq_getElem?_getD,List.getElem?_eq_getElem h]; exact List.getElem_mem h
theorem In.rule {p:Sc.Prog} {i:Int} {l:List Rl.Fc} (h:In p i l):RuleOk p.arity (Ru.rule p i):=h.ok.rule _ (ruleD_mem (by have:=h.lo; have:=h.hi; omega))
theorem In.set {p:Sc.Prog} {i:Int} {l:List Rl.Fc} (h:In p i l):∀ f,f∈Rl.set l→Right p.arity f:=fun f hf=>h.fs f (Rl.mem_set.mp hf)
theorem right_short {p:Sc.Prog} (h:ProgOk p) {f:Rl.Fc} (hf:Right p.arity f):f.args.length≤3:=by
 have h1:=hf.al
 have h2:=h.ar f.pred.toNat (by have:=hf.p0; have:=hf.p1; omega)
 omega
theorem lit_short {p:Sc.Prog} (h:ProgOk p) {r:Sc.Rule} (hr:RuleOk p.arity r) {l:Sc.Lit} (hl:l∈r.body):l.terms.length≤3:=by
 have hi:=litIn_of hr (facts:=[]) (fun f hf=>absurd hf (by simp)) hl
 rcases hi.k with hk | hk | hk | hk
 · obtain ⟨h1,h2,h3⟩:=lit_preds hr hl (.inl hk)
   have:=h.ar l.pred.toNat (by omega)
   omega
 · obtain ⟨h1,h2,h3⟩:=lit_preds hr hl (.inr hk)
   have:=h.ar l.pred.toNat (by omega)
   omega
 · have:=hi.k3 hk; omega
 · have:=hi.k4 hk; omega
theorem lit_num {ar:List Int} {r:Sc.Rule} (hr:RuleOk ar r) {l:Sc.Lit} (hl:l∈r.body):LitNum l:=fun t ht _=>((hr.lit l hl).2 t ht).num
theorem set_nodup (l:List Rl.Fc):(Rl.set l).Nodup:=(Rl.set_isSet l).1.imp fun {a b} h e=>by subst e; exact Rl.Lt.irrefl _ h
theorem sorted_srt {L M:List (List Int)} (hp:L.Perm M) (hn:M.Nodup) (hs:L.Pairwise fun a b=>¬ Rl.cmpL b a<0):L=srt M:=by
 refine srt_eq ?_ (fun x=>hp.mem_iff)
 have hnd:L.Nodup:=hp.nodup_iff.mpr hn
 refine (hs.and hnd).imp ?_
 rintro a b ⟨h1,h2⟩
 rcases Rl.lt_or ⟨0,a⟩ ⟨0,b⟩ with h | h | h
 · unfold Rl.Lt at h; rw [ord0] at h; exact h
 · injection h with _ h; exact absurd h h2
 · unfold Rl.Lt at h; rw [ord0] at h; exact absurd h h1
end Ru
def RulesCap (w:World) (vr:Value):Prop:=∀ b off n cap,vr=.slice (some ⟨b,off,none⟩) n cap→∀ k,k<n→∀ v,w.cell? ⟨b,off+k * 5+3,none⟩=some v→CapOk v
theorem sortWays {w y:World} {ao:Option Addr} {co:Nat} {q:List (List Int × Value)} {WS:List (List Int)} (hN:NumsP w.heap.size y (.slice ao q.length co) q) (hl:q.length≤2000) (hq:q.map (·.1)=WS) (hn:WS.Nodup) (hb:Below w.heap.size w y) (hsh:∀ x,x∈WS→x.length≤8) :
 Calls Tryz.prog 55 #[.slice ao q.length co,.func (.func 56) #[] #[]] y fun e w'=>e=.returned (.tuple #[])∧∃ q':List (List Int × Value),NumsP w.heap.size w' (.slice ao q.length co) q'∧q'.map (·.1)=Ru.srt WS∧Below w.heap.size w w':=by
 obtain ⟨ho,hr⟩:=hN
 rcases id ho.2 with ⟨hv,h0⟩ | ⟨g,cap,cur,hv,hbg,hg,_⟩
 · injection hv with e1 e2 e3
   subst e1 e3
   have hq0:q=[]:=List.eq_nil_of_length_eq_zero h0
   subst hq0
   refine Calls.mono (sortI_none none 0 _ y) ?_
   rintro e w' ⟨rfl,rfl⟩
   have hW:WS=[]:=hq.symm
   subst hW
   exact ⟨rfl,[],⟨ho,hr⟩,rfl,hb⟩
 · injection hv with e1 e2 e3
   subst e1 e3
   have hne:∀ (k:Nat) (a:Array Value),y.heap[k]?=some (.cells a 3)→¬ k=g:=fun k a hk e=>by
    rw [e,hg] at hk
    injection hk with hk
    injection hk with _ hk
    cases hk
   refine Calls.mono (sortI_any y w.heap.size g co q ho (fun p hp=>⟨fun w' hk=>own_ints (own_type (hr p hp) (fun k a ha=>(hk k (heap_lt ha) (hne k a ha)).trans ha)),?_⟩) (by omega)) ?_
   · have:=hsh p.1 (by rw [← hq]; exact List.mem_map_of_mem hp)
     omega
   · rintro e w' ⟨rfl,q',hp,hs,ho',hgr⟩
     have hlen:=hp.length_eq
     refine ⟨rfl,q',⟨by rw [← hlen]; exact ho',fun p hpq=>own_type (hr p (hp.mem_iff.mp hpq)) (fun k a ha=>(hgr.block k (heap_lt ha) (fun e=>hne k a ha (Option.some.inj e))).trans ha)⟩,Ru.sorted_srt (by rw [← hq]; exact hp.map _) hn hs,hb.grown hgr hb.size (fun k hk=>(Option.some.inj hk) ▸ hbg)⟩
def ways4V (PV RV VF:Value) (X b off k:Nat) (tQ:Nat) (vQ:Value):Prop :=
 match tQ with
 | 17=>vQ=(.pointer (some ⟨X,2,none⟩):Value)
 | 18=>vQ=(PV:Value)
 | 19=>vQ=(.int .i64 (k:Nat):Value)
 | 20=>vQ=(.pointer (some ⟨b,off+k * 5,none⟩):Value)
 | 21=>vQ=(RV:Value)
 | 22=>vQ=(VF:Value)
 | _=>True
def ways4T (PV RV VF:Value) (X b off k:Nat) (L:List Rl.Fc) (WS:List (List Int)) (tQ:Nat) (vQ:Value) (WQ:World):Prop :=
 if tQ=23 then FactsV WQ vQ L
 else if tQ=24 then ∃ q,NumsP X WQ vQ q∧q.map (·.1)=WS else ways4V PV RV VF X b off k tQ vQ
theorem NumsP.below {B:Nat} {w w':World} {v:Value} {q:List (List Int × Value)} (h:NumsP B w v q) (hb:Below w.heap.size w w'):NumsP B w' v q:=⟨ownsRow_below h.1 hb,fun p hp=>ownsRow_below (h.2 p hp) hb⟩
theorem ways4T_mono (PV RV VF:Value) (X b off k:Nat) (L:List Rl.Fc) (WS:List (List Int)) (tQ:Nat) (vQ:Value) (W W':World) (hb:Below W.heap.size W W') (h:ways4T PV RV VF X b off k L WS tQ vQ W):ways4T PV RV VF X b off k L WS tQ vQ W':=by
 unfold ways4T at h ⊢
 by_cases ht:tQ=23
 · rw [if_pos ht] at h ⊢
   exact factsV_below h hb
 · rw [if_neg ht] at h ⊢
   by_cases ht2:tQ=24
   · rw [if_pos ht2] at h ⊢
     obtain ⟨q,h1,h2⟩:=h
     exact ⟨q,h1.below hb,h2⟩
   · rw [if_neg ht2] at h ⊢
     exact h
theorem Ways_any (p:Sc.Prog) (i:Int) (facts:List Rl.Fc) (va vn vr vf:Value) (w:World) (hP:ProgV w va vn vr p) (hF:ProgFit p) (hcap:RulesCap w vr) (hV:FactsV w vf facts) (hFl:facts.length≤9223372036854775807) (hFF:∀ f,f∈facts→FFit f) :
 Calls Tryz.prog 14 #[progVal va vn vr,.int .i64 i,vf] w fun e w'=>∃ v q,e=.returned (.tuple #[v,.int .i64 (Ru.waysErr p i facts)])∧NumsP w.heap.size w' v q∧q.map (·.1)=Ru.waysOut p i facts∧Below w.heap.size w w':=by
 obtain ⟨a0,n0,rfl,_⟩:=id hP.ar
 obtain ⟨a1,n1,rfl,_⟩:=id hP.nm
 obtain ⟨a2,n2,rfl,hRA⟩:=id hP.rl
 obtain ⟨af,cf,rfl,_,hFA⟩:=id hV
 have bT:=(Below.refl w.heap.size w).alloc (Nat.le_refl _) (.cells #[.slice a0 p.arity.length n0,.slice a1 p.names.length n1,.slice a2 p.rules.length n2] 26)
 have HBX:Hid _:=heap_alloc_new w (.cells #[.slice a0 p.arity.length n0,.slice a1 p.names.length n1,.slice a2 p.rules.length n2] 26)
 have HB:Hid _:=bT
 have HC:Hid _:=ruCheck_any p i facts _ _ _ _ _ (hP.below bT) hF (factsV_below hV bT) hFl hFF
 have HFV:Hid (FactsV w (.slice af facts.length cf) facts):=hV
 have HFF:Hid _:=hFF
 have HRA:Hid _:=hRA
 have HCAP:Hid (RulesCap w (.slice a2 p.rules.length n2)):=hcap
 clear hP hF hV hFA hFF bT hcap hRA
 go_enter Tryz.func14,Tryz.ntmps14
 go_upto_region 1 with fail
 generalize w.alloc (.cells #[.slice a0 p.arity.length n0,.slice a1 p.names.length n1,.slice a2 p.rules.length n2] 26)=w1 at *
 have c0:w1.cell? ⟨w.heap.size,0,none⟩=some (.slice a0 p.arity.length n0):=by rw [Lib.cell_of_heap HBX.out]; rfl
 have c1:w1.cell? ⟨w.heap.size,1,none⟩=some (.slice a1 p.names.length n1):=by rw [Lib.cell_of_heap HBX.out]; rfl
 have c2:w1.cell? ⟨w.heap.size,2,none⟩=some (.slice a2 p.rules.length n2):=by rw [Lib.cell_of_heap HBX.out]; rfl
 go_wp2_with fail
 refine Calls.mono HC.out ?_
 rintro _ w2 ⟨rfl,hb2⟩
 have HB2:Hid (Below w.heap.size w w2):=HB.out.trans (hb2.mono HB.out.size)
 have HBX2:Hid _:=(hb2.block _ (heap_lt HBX.out)).trans HBX.out
 have HSZ:Hid (w.heap.size≤w2.heap.size):=HB2.out.size
 clear c0 c1 c2 hb2 HB HBX HC
 by_cases hc:Ru.check p i facts=0
 · have g0:(Ru.check p i facts != 0)=false:=by simpa using hc
   have hin:=Ru.check_in hc
   obtain ⟨k,rfl⟩:∃ k:Nat,i=k:=⟨i.toNat,by have:=hin.lo; omega⟩
   have hk:k<p.rules.length:=by have:=hin.hi; omega
   have HCK:Hid _:=hc
   have HRU:Hid (Ru.rule p (k:Int)=Sc.ruleD p.rules k):=by show _=_; unfold Ru.rule; rw [Int.toNat_natCast]
   have hro:Ru.RuleOk p.arity (Sc.ruleD p.rules k):=by have:=hin.rule; rw [HRU.out] at this; exact this
   have hri:=Ru.ruleIn_of hro hin.set
   have hnums:=Ru.right_nums hin.set
   have HND:Hid ((Ru.ways (Rl.set facts) (Sc.ruleD p.rules k)).Nodup):=Ru.ways_nodup hri hnums (Ru.set_nodup facts)
   have HSZ0:Hid (∀ x,x∈Ru.ways (Rl.set facts) (Sc.ruleD p.rules k)→x.length≤8):=fun x hx=>by
    have:=((Ru.mem_ways hri hnums x).mp hx).1
    have:=hri.v8
    omega
   obtain ⟨b,off,rfl,q0,⟨vt,q1,hT⟩,q2,⟨vb,q3,hL⟩,q4⟩:=prules_at HRA.out k hk
   have hcb:=HCAP.out _ _ _ _ rfl k hk _ q3
   obtain ⟨at_,ct,rfl,_⟩:=id hT
   obtain ⟨ab,cb,rfl,_⟩:=id hL
   have HSET:Hid (∀ y_,Below w2.heap.size w2 y_→Calls Tryz.prog 54 #[.slice af facts.length cf] y_ fun e w'=>∃ v',e=.returned v'∧FactsP y_.heap.size w' v' (Rl.set facts)∧Below y_.heap.size y_ w'):=fun y_ hb=>Set_any facts _ y_ (factsV_below HFV.out (HB2.out.trans (hb.mono HB2.out.size))) (by have:=hin.len; omega) (fun f hf=>by have:=Ru.right_short hin.ok (hin.fs f hf); omega)
   have HFND:Hid (∀ y_ v,Below w2.heap.size w2 y_→FactsV y_ v (Rl.set facts)→Calls Tryz.prog 53 #[pruleVal (Sc.ruleD p.rules k) (.slice at_ (Sc.ruleD p.rules k).terms.length ct) (.slice ab (Sc.ruleD p.rules k).body.length cb),v] y_ fun e w'=>∃ v' q,e=.returned v'∧NumsP y_.heap.size w' v' q∧q.map (·.1)=(Ru.ways (Rl.set facts) (Sc.ruleD p.rules k)).take 2001∧Below y_.heap.size y_ w'):=fun y_ v hb hv=>by
    have hb':Below w.heap.size w y_:=HB2.out.trans (hb.mono HB2.out.size)
    exact found_any (Rl.set facts) (Sc.ruleD p.rules k) _ _ v y_ hv (by have:=set_length facts; have:=hin.len; omega) (fun f hf=>by unfold FFit; have:=Ru.right_short hin.ok (hin.set f hf); omega) hri hnums (fun l hl=>by have:=Ru.lit_short hin.ok hro hl; omega) (fun l hl=>Ru.lit_num hro hl) (ptermsV_below hT hb') (plitsV_below hL hb') hcb (by have:=hro.b4; omega) hro.v0
   have p0:=cell_below HB2.out q0
   have p1:=cell_below HB2.out q1
   have p2:=cell_below HB2.out q2
   have p3:=cell_below HB2.out q3
   have p4:=cell_below HB2.out q4
   have c2:w2.cell? ⟨w.heap.size,2,none⟩=some (.slice (some ⟨b,off,none⟩) p.rules.length n2):=by rw [Lib.cell_of_heap HBX2.out]; rfl
   clear q0 q1 q2 q3 q4 hT hL hcb hin hro hri hnums hc HBX2 HFV HFF HRA HCAP
   generalize Sc.ruleD p.rules k=r at *
   go_upto_region 4 with fail
   refine wp_region_tail (ways4T (.slice (some ⟨b,off,none⟩) p.rules.length n2) (pruleVal r (.slice at_ r.terms.length ct) (.slice ab r.body.length cb)) (.slice af facts.length cf) w.heap.size b off k (Rl.set facts) ((Ru.ways (Rl.set facts) r).take 2001)) 8 (by decide) (by kernel_rfl) (by kernel_rfl) (by kernel_rfl) (ways4T_mono (.slice (some ⟨b,off,none⟩) p.rules.length n2) (pruleVal r (.slice at_ r.terms.length ct) (.slice ab r.body.length cb)) (.slice af facts.length cf) w.heap.size b off k (Rl.set facts) ((Ru.ways (Rl.set facts) r).take 2001)) ?hopA ?htailA
   case hopA =>
    refine AllOps.cons (fun a y_ h=>?_) ?_
    · have e3:a.eval (.tmp 3)=(.pointer (some ⟨w.heap.size,0,none⟩):Value):=h.old 3 (by kernel_rfl)
      refine opOk_val (v:=.pointer (some ⟨w.heap.size,2,none⟩)) (w':=y_) (wanted_none rfl) ?_ (fun t ht=>by cases ht; exact rfl) (Below.refl _ _)
      have ec:=evc a
      generalize a.eval=ev at *
      clear h
      go_simp
    refine AllOps.cons (fun a y_ h=>?_) ?_
    · have e17:a.eval (.tmp 17)=(.pointer (some ⟨w.heap.size,2,none⟩):Value):=h.of 17 (by kernel_rfl)
      have c0:=cell_below h.below c2
      refine opOk_val (v:=.slice (some ⟨b,off,none⟩) p.rules.length n2) (w':=y_) (wanted_none rfl) ?_ (fun t ht=>by cases ht; exact rfl) (Below.refl _ _)
      have ec:=evc a
      generalize a.eval=ev at *
      clear h
      go_simp
    refine AllOps.cons (fun a y_ h=>?_) ?_
    · have e1:a.eval (.tmp 1)=(.int .i64 (k:Nat):Value):=h.old 1 (by kernel_rfl)
      refine opOk_val (v:=.int .i64 (k:Nat)) (w':=y_) (wanted_none rfl) ?_ (fun t ht=>by cases ht; exact rfl) (Below.refl _ _)
      have ec:=evc a
      generalize a.eval=ev at *
      clear h
      go_simp
    refine AllOps.cons (fun a y_ h=>?_) ?_
    · have e18:a.eval (.tmp 18)=(.slice (some ⟨b,off,none⟩) p.rules.length n2:Value):=h.of 18 (by kernel_rfl)
      have e19:a.eval (.tmp 19)=(.int .i64 (k:Nat):Value):=h.of 19 (by kernel_rfl)
      refine opOk_val (v:=.pointer (some ⟨b,off+k * 5,none⟩)) (w':=y_) (wanted_none rfl) ?_ (fun t ht=>by cases ht; exact rfl) (Below.refl _ _)
      have ec:=evc a
      generalize a.eval=ev at *
      clear h
      go_simp
    refine AllOps.cons (fun a y_ h=>?_) ?_
    · have e20:a.eval (.tmp 20)=(.pointer (some ⟨b,off+k * 5,none⟩):Value):=h.of 20 (by kernel_rfl)
      have c0:=cell_below h.below p0
      have c1:=cell_below h.below p1
      have c2:=cell_below h.below p2
      have c3:=cell_below h.below p3
      have c4:=cell_below h.below p4
      refine opOk_val (v:=pruleVal r (.slice at_ r.terms.length ct) (.slice ab r.body.length cb)) (w':=y_) (wanted_none rfl) ?_ (fun t ht=>by cases ht; exact rfl) (Below.refl _ _)
      have ec:=evc a
      generalize a.eval=ev at *
      clear h
      go_simp
    refine AllOps.cons (fun a y_ h=>?_) ?_
    · have e2:a.eval (.tmp 2)=(.slice af facts.length cf:Value):=h.old 2 (by kernel_rfl)
      refine opOk_val (v:=.slice af facts.length cf) (w':=y_) (wanted_none rfl) ?_ (fun t ht=>by cases ht; exact rfl) (Below.refl _ _)
      have ec:=evc a
      generalize a.eval=ev at *
      clear h
      go_simp
    refine AllOps.cons (fun a y_ h=>?_) ?_
    · have e22:a.eval (.tmp 22)=(.slice af facts.length cf:Value):=h.of 22 (by kernel_rfl)
      refine opOk_call (f:=54) (args:=#[.slice af facts.length cf]) (wanted_none rfl) ?_ ?_
      · have ec:=evc a
        have ef:=evf a
        generalize a.eval=ev at *
        clear h
        go_simp
      · refine Calls.mono (HSET.out y_ h.below) ?_
        rintro _ y2 ⟨v',rfl,hfp,hb2⟩
        refine ⟨_,rfl,fun t ht=>?_,hb2⟩
        cases ht
        exact hfp.toV
    refine AllOps.cons (fun a y_ h=>?_) ?_
    · have e21:a.eval (.tmp 21)=(pruleVal r (.slice at_ r.terms.length ct) (.slice ab r.body.length cb):Value):=h.of 21 (by kernel_rfl)
      have hfv:FactsV y_ (a.eval (.tmp 23)) (Rl.set facts):=h.of 23 (by kernel_rfl)
      refine opOk_call (f:=53) (args:=#[pruleVal r (.slice at_ r.terms.length ct) (.slice ab r.body.length cb),a.eval (.tmp 23)]) (wanted_none rfl) ?_ ?_
      · have ec:=evc a
        have ef:=evf a
        generalize a.eval=ev at *
        clear h
        go_simp
      · refine Calls.mono (HFND.out y_ _ h.below hfv) ?_
        rintro _ y2 ⟨v',q,rfl,hnp,hqe,hb2⟩
        refine ⟨_,rfl,fun t ht=>?_,hb2⟩
        cases ht
        exact ⟨q,⟨rl_own_le hnp.1 (Nat.le_trans HSZ.out h.below.size),fun p hp=>rl_own_le (hnp.2 p hp) (Nat.le_trans HSZ.out h.below.size)⟩,hqe⟩
    exact AllOps.nil
   case htailA =>
    rintro ⟨tm0,df⟩ y_ hI
    obtain ⟨q,hNP,hqe⟩:∃ q,NumsP w.heap.size y_ (Act.eval ⟨tm0,df⟩ (.tmp 24)) q∧q.map (·.1)=(Ru.ways (Rl.set facts) r).take 2001:=hI.all 7 _ 24 (by decide) rfl rfl
    obtain ⟨ao,co,eo⟩:=own_slice hNP.1
    have e24:Act.eval ⟨tm0,df⟩ (.tmp 24)=.slice ao q.length co:=eo
    rw [e24] at hNP
    have hsN:tm0.size=31:=hI.size
    have HBy:Hid (Below w.heap.size w y_):=HB2.out.trans (hI.below.mono HB2.out.size)
    show wpOps Tryz.prog _ _ [8] _ _
    rw [wpOps_cons]
    refine wpOp_val (v:=.slice ao q.length co) (w':=y_) rfl (wanted_none rfl) ?_ ?_
    · show Sem.run Tryz.prog (execOp (Act.eval ⟨tm0,df⟩) _) y_=_
      generalize Act.eval ⟨tm0,df⟩=ev at *
      clear hI
      go_simp
    have hst:∀ t,t∉[17,18,19,20,21,22,23,24,9]→(tm0.setIfInBounds 9 (.slice ao q.length co)).getD t undef=_:=fun t ht=>by
     have hA:t≠9:=fun e=>ht (by rw [e]; decide)
     exact (put_get_ne (a:=⟨tm0,df⟩) hA).trans (hI.still t ht)
    have h9:(tm0.setIfInBounds 9 (.slice ao q.length co)).getD 9 undef=.slice ao q.length co:=put_get_self (a:=⟨tm0,df⟩) (by show 9<tm0.size; omega)
    obtain rfl:df=[]:=hI.defers
    have hs2:(tm0.setIfInBounds 9 (.slice ao q.length co)).size=31:=by simp [hsN]
    have HNP:Hid (NumsP w.heap.size y_ (.slice ao q.length co) q):=hNP
    have HQE:Hid _:=hqe
    clear hI hNP hqe e24 eo hsN
    show Exit.then _ _ Exit.normal ⟨tm0.setIfInBounds 9 (.slice ao q.length co),[]⟩ y_
    generalize tm0.setIfInBounds 9 (.slice ao q.length co)=tm at *
    have hF8:=tmps_fold [17,18,19,20,21,22,23,24,9] tm _ (hs2.trans (by rfl)) hst
    clear hs2 hst
    simp only [List.foldl_cons,List.foldl_nil,h9] at hF8
    clear h9
    generalize tm.getD 17 undef=x17 at hF8
    generalize tm.getD 18 undef=x18 at hF8
    generalize tm.getD 19 undef=x19 at hF8
    generalize tm.getD 20 undef=x20 at hF8
    generalize tm.getD 21 undef=x21 at hF8
    generalize tm.getD 22 undef=x22 at hF8
    generalize tm.getD 23 undef=x23 at hF8
    generalize tm.getD 24 undef=x24 at hF8
    simp only [List.setIfInBounds_toArray,List.set_cons_zero,List.set_cons_succ] at hF8
    subst hF8
    clear p0 p1 p2 p3 p4 c2
    have hmin:q.length=min 2001 (Ru.ways (Rl.set facts) r).length:=by have h9:=congrArg List.length HQE.out; rw [List.length_map,List.length_take] at h9; exact h9
    by_cases hm:2000<q.length
    · have g1:decide (2000<q.length)=true:=decide_eq_true hm
      have g1i:decide ((2000:Int)<(q.length:Int))=true:=decide_eq_true (by omega)
      have HER:Hid (Ru.waysErr p k facts=2):=by show _=_; unfold Ru.waysErr; rw [if_neg (by rw [HCK.out]; simp),HRU.out,if_pos (by omega)]
      clear hm hmin
      go_wp2_with fail
      refine bodyPost_ret (results_tmp2 rfl _ _ _) rfl ?_
      exact ⟨_,[],by rw [HER.out]; rfl,⟨World.ownsRow_nil _ _ _ _,fun p hp=>absurd hp (by simp)⟩,by unfold Ru.waysOut; rw [if_pos (by rw [HER.out]; decide)]; rfl,HBy.out⟩
    · have g1:decide (2000<q.length)=false:=decide_eq_false hm
      have g1i:decide ((2000:Int)<(q.length:Int))=false:=decide_eq_false (by omega)
      have HER:Hid (Ru.waysErr p k facts=0):=by show _=_; unfold Ru.waysErr; rw [if_neg (by rw [HCK.out]; simp),HRU.out,if_neg (by omega)]
      have HQE2:Hid (q.map (·.1)=Ru.ways (Rl.set facts) r):=by show _=_; rw [HQE.out,List.take_of_length_le (by omega)]
      have HSO:Hid (Calls Tryz.prog 55 #[.slice ao q.length co,.func (.func 56) #[] #[]] y_ fun e w'=>e=.returned (.tuple #[])∧∃ q',NumsP w.heap.size w' (.slice ao q.length co) q'∧q'.map (·.1)=Ru.srt (Ru.ways (Rl.set facts) r)∧Below w.heap.size w w'):=sortWays HNP.out (by omega) HQE2.out HND.out HBy.out HSZ0.out
      clear hm hmin
      go_wp2_with fail
      refine Calls.mono HSO.out ?_
      rintro _ w5 ⟨rfl,q',hN5,hq5,hb5⟩
      have HN5:Hid _:=hN5
      clear hN5 HSO
      go_wp2_with fail
      refine bodyPost_ret (results_tmp2 rfl _ _ _) rfl ?_
      exact ⟨_,q',by rw [HER.out]; rfl,HN5.out,by unfold Ru.waysOut; rw [if_neg (by rw [HER.out]; simp),HRU.out]; exact hq5,hb5⟩
 · have g0:(Ru.check p i facts != 0)=true:=by simpa using hc
   have HER:Hid (Ru.waysErr p i facts=Ru.check p i facts):=by show _=_; unfold Ru.waysErr; rw [if_pos (by simpa using hc)]
   have HNE:Hid _:=hc
   clear hc
   go_wp2_with fail
   refine bodyPost_ret (results_tmp2 rfl _ _ _) rfl ?_
   exact ⟨_,[],by rw [HER.out]; rfl,⟨World.ownsRow_nil _ _ _ _,fun p hp=>absurd hp (by simp)⟩,by unfold Ru.waysOut; rw [if_pos (by rw [HER.out]; exact HNE.out)]; rfl,HB2.out⟩
namespace Ru
theorem take_succ_last {r:List Int} {j:Nat} (h:j<r.length):r.take (j+1)=r.take j++[Sc.intD r j]:=by
 rw [List.take_add_one,List.getElem?_eq_getElem h]
 unfold Sc.intD
 rw [List.getD_eq_getElem?_getD,List.getElem?_eq_getElem h]
 rfl
theorem minL_take {l:List Int} {k:Nat} (h0:0<k) (h:k<l.length):minL (l.take (k+1))=min (minL (l.take k)) (Sc.intD l k):=by
 rw [show min (minL (l.take k)) (Sc.intD l k)=if Sc.intD l k<minL (l.take k) then Sc.intD l k else minL (l.take k) from by split <;> omega,take_succ_last h]
 cases l with
 | nil=>simp at h
 | cons a r =>
  obtain ⟨j,rfl⟩:∃ j,k=j+1:=⟨k - 1,by omega⟩
  rw [List.take_succ_cons]
  show (r.take j++[_]).foldl _ a=_
  rw [List.foldl_append]
  rfl
theorem maxL_take {l:List Int} {k:Nat} (h0:0<k) (h:k<l.length):maxL (l.take (k+1))=max (maxL (l.take k)) (Sc.intD l k):=by
 rw [show max (maxL (l.take k)) (Sc.intD l k)=if maxL (l.take k)<Sc.intD l k then Sc.intD l k else maxL (l.take k) from by split <;> omega,take_succ_last h]
 cases l with
 | nil=>simp at h
 | cons a r =>
  obtain ⟨j,rfl⟩:∃ j,k=j+1:=⟨k - 1,by omega⟩
  rw [List.take_succ_cons]
  show (r.take j++[_]).foldl _ a=_
  rw [List.foldl_append]
  rfl
theorem minL_one {l:List Int} (h:0<l.length):minL (l.take 1)=Sc.intD l 0:=by
 cases l with
 | nil=>simp at h
 | cons a r=>rfl
theorem maxL_one {l:List Int} (h:0<l.length):maxL (l.take 1)=Sc.intD l 0:=by
 cases l with
 | nil=>simp at h
 | cons a r=>rfl
end Ru
theorem ints_cell {w:World} {ao:Option Addr} {l:List Int} (h:IntsAt w ao l) {k:Nat} (hk:k<l.length):∃ b off,ao=some ⟨b,off,none⟩∧w.cell? ⟨b,off+k,none⟩=some (.int .i64 (Sc.intD l k)):=by
 rcases h with h | ⟨b,off,ha,hc⟩
 · rw [h] at hk; exact absurd hk (by simp)
 · exact ⟨b,off,ha,hc k hk⟩
theorem Min_any (l:List Int) (v:Value) (w:World) (hV:IntsV w v l) (h0:0<l.length) (hl:l.length≤1000000):Calls Tryz.prog 161 #[v] w fun e w'=>e=.returned (.int .i64 (Ru.minL l))∧w'=w:=by
 obtain ⟨ao,cap,rfl,hA⟩:=hV
 obtain ⟨b,off,rfl,hc0⟩:=ints_cell hA h0
 have HA:Hid _:=hA
 have HM1:Hid _:=Ru.minL_one h0
 have g0:decide ((l.length:Int)<1)=false:=decide_eq_false (by omega)
 have g0n:decide (l.length<1)=false:=decide_eq_false (by omega)
 clear hA
 rw [Nat.add_zero] at hc0
 go_enter Tryz.func161,Tryz.ntmps161
 go_wp2_with fail
 go_loopw [3,4] (fun mv iv wr=>w=wr∧∃ k:Nat,0<k∧k≤l.length∧iv=.int .i64 k∧mv=.int .i64 (Ru.minL (l.take k))) (fun _ iv _=>l.length - (intOf iv).toNat)
 case atStart=>exact ⟨rfl,1,by omega,by omega,rfl,by rw [HM1.out]⟩
 case round =>
  obtain ⟨rfl,k,hk0,hk,rfl,rfl⟩:=hrel
  by_cases hlt:k<l.length
  · obtain ⟨b',off',hb',hck⟩:=ints_cell HA.out hlt
    injection hb' with hb'
    injection hb' with e1 e2
    subst e1 e2
    have HT:Hid _:=Ru.minL_take hk0 hlt
    generalize Ru.minL (l.take k)=m at *
    generalize Sc.intD l k=x at *
    go_wp2_with fail
    go_roundw
    case rel=>exact ⟨trivial,k+1,by omega,hlt,by go_num,by rw [HT.out]⟩
    case measure=>simp [intOf]; omega
  · have hdd:decide (k<l.length)=false:=decide_eq_false hlt
    have HE:Hid (Ru.minL (l.take k)=Ru.minL l):=by show _=_; rw [List.take_of_length_le (by omega)]
    go_wp2_with fail
    go_ret
    exact ⟨by rw [← HE.out]; rfl,rfl⟩
theorem Max_any (l:List Int) (v:Value) (w:World) (hV:IntsV w v l) (h0:0<l.length) (hl:l.length≤1000000):Calls Tryz.prog 162 #[v] w fun e w'=>e=.returned (.int .i64 (Ru.maxL l))∧w'=w:=by
 obtain ⟨ao,cap,rfl,hA⟩:=hV
 obtain ⟨b,off,rfl,hc0⟩:=ints_cell hA h0
 have HA:Hid _:=hA
 have HM1:Hid _:=Ru.maxL_one h0
 have g0:decide ((l.length:Int)<1)=false:=decide_eq_false (by omega)
 have g0n:decide (l.length<1)=false:=decide_eq_false (by omega)
 clear hA
 rw [Nat.add_zero] at hc0
 go_enter Tryz.func162,Tryz.ntmps162
 go_wp2_with fail
 go_loopw [3,4] (fun mv iv wr=>w=wr∧∃ k:Nat,0<k∧k≤l.length∧iv=.int .i64 k∧mv=.int .i64 (Ru.maxL (l.take k))) (fun _ iv _=>l.length - (intOf iv).toNat)
 case atStart=>exact ⟨rfl,1,by omega,by omega,rfl,by rw [HM1.out]⟩
 case round =>
  obtain ⟨rfl,k,hk0,hk,rfl,rfl⟩:=hrel
  by_cases hlt:k<l.length
  · obtain ⟨b',off',hb',hck⟩:=ints_cell HA.out hlt
    injection hb' with hb'
    injection hb' with e1 e2
    subst e1 e2
    have HT:Hid _:=Ru.maxL_take hk0 hlt
    generalize Ru.maxL (l.take k)=m at *
    generalize Sc.intD l k=x at *
    go_wp2_with fail
    go_roundw
    case rel=>exact ⟨trivial,k+1,by omega,hlt,by go_num,by rw [HT.out]⟩
    case measure=>simp [intOf]; omega
  · have hdd:decide (k<l.length)=false:=decide_eq_false hlt
    have HE:Hid (Ru.maxL (l.take k)=Ru.maxL l):=by show _=_; rw [List.take_of_length_le (by omega)]
    go_wp2_with fail
    go_ret
    exact ⟨by rw [← HE.out]; rfl,rfl⟩
theorem sum_take {l:List Int} {k:Nat} (h:k<l.length):(l.take (k+1)).sum=(l.take k).sum+Sc.intD l k:=by
 rw [Ru.take_succ_last h,List.sum_append]
 simp
theorem sum_le:∀ {l:List Int} ,(∀ n,n∈l→Sc.isNum n=true)→l.sum≤1000000 * (l.length:Int)∧-(1000000 * (l.length:Int))≤l.sum
 | [],_=>by simp
 | a::r,h=>by
  have h1:=sum_le (l:=r) (fun n hn=>h n (List.mem_cons_of_mem _ hn))
  have h2:=h a List.mem_cons_self
  unfold Sc.isNum at h2
  have h3:=Ru.between_iff.mp h2
  rw [List.sum_cons,List.length_cons]
  omega
theorem foldedNumber_any (f:Int) (l:List Int) (v:Value) (w:World) (hV:IntsV w v l) (h0:0<l.length) (hl:l.length≤1000000) (hN:∀ n,n∈l→Sc.isNum n=true):Calls Tryz.prog 108 #[.int .i64 f,v] w fun e w'=>e=.returned (.int .i64 (Ru.foldN f l))∧w'=w:=by
 have HV:Hid _:=hV
 obtain ⟨ao,cap,rfl,hA⟩:=id hV
 by_cases h1:f=1
 · subst h1
   go_enter Tryz.func108,Tryz.ntmps108
   go_wp2_with fail
   go_ret
   exact ⟨rfl,rfl⟩
 · by_cases h3:f=3
   · subst h3
     go_enter Tryz.func108,Tryz.ntmps108
     go_wp2_with fail
     refine Calls.mono (Min_any l _ w HV.out h0 hl) ?_
     rintro _ w2 ⟨rfl,rfl⟩
     go_wp2_with fail
     go_ret
     exact ⟨rfl,rfl⟩
   · by_cases h4:f=4
     · subst h4
       go_enter Tryz.func108,Tryz.ntmps108
       go_wp2_with fail
       refine Calls.mono (Max_any l _ w HV.out h0 hl) ?_
       rintro _ w2 ⟨rfl,rfl⟩
       go_wp2_with fail
       go_ret
       exact ⟨rfl,rfl⟩
     · have HE:Hid (Ru.foldN f l=l.sum):=by show _=_; unfold Ru.foldN; rw [if_neg h1,if_neg h3,if_neg h4]
       have g1:(f==1)=false:=by simpa using h1
       have g3:(f==3)=false:=by simpa using h3
       have g4:(f==4)=false:=by simpa using h4
       have HA:Hid _:=hA
       have HN:Hid _:=hN
       clear h1 h3 h4 hA hV hN
       go_enter Tryz.func108,Tryz.ntmps108
       go_wp2_with fail
       go_loopw [5,23] (fun sv iv wr=>w=wr∧∃ k:Nat,k≤l.length∧iv=.int .i64 k∧sv=.int .i64 (l.take k).sum) (fun _ iv _=>l.length - (intOf iv).toNat)
       case atStart=>exact ⟨rfl,0,by omega,rfl,rfl⟩
       case round =>
        obtain ⟨rfl,k,hk,rfl,rfl⟩:=hrel
        by_cases hlt:k<l.length
        · obtain ⟨b',off',rfl,hck⟩:=ints_cell HA.out hlt
          have HT:Hid _:=sum_take hlt
          have hs1:=sum_le (l:=l.take (k+1)) (fun n hn=>HN.out n (List.mem_of_mem_take hn))
          rw [HT.out,List.length_take,Nat.min_eq_left hlt] at hs1
          have hwr:IntKind.i64.wrap ((l.take k).sum+Sc.intD l k)=(l.take k).sum+Sc.intD l k:=by
           simp [IntKind.wrap,IntKind.bits,IntKind.signed]
           omega
          clear hs1
          generalize (l.take k).sum=m at *
          generalize Sc.intD l k=x at *
          go_wp2_with fail
          go_roundw
          case rel=>exact ⟨trivial,k+1,hlt,by go_num,by rw [HT.out]⟩
          case measure=>simp [intOf]; omega
        · have hdd:decide (k<l.length)=false:=decide_eq_false hlt
          have HE2:Hid ((l.take k).sum=l.sum):=by show _=_; rw [List.take_of_length_le (by omega)]
          go_wp2_with fail
          go_ret
          exact ⟨by rw [HE.out,← HE2.out]; rfl,rfl⟩
namespace Ru
theorem eq_step {x y:List Int} (hl:x.length=y.length) {k:Nat} (hk:k<x.length):(x.drop k=y.drop k)↔(Sc.intD x k=Sc.intD y k∧x.drop (k+1)=y.drop (k+1)):=by
 have e1:x.drop k=Sc.intD x k::x.drop (k+1):=by rw [List.drop_eq_getElem_cons hk]; unfold Sc.intD; rw [List.getD_eq_getElem?_getD,List.getElem?_eq_getElem hk]; rfl
 have e2:y.drop k=Sc.intD y k::y.drop (k+1):=by rw [List.drop_eq_getElem_cons (by omega)]; unfold Sc.intD; rw [List.getD_eq_getElem?_getD,List.getElem?_eq_getElem (by omega)]; rfl
 rw [e1,e2,List.cons.injEq]
end Ru
end Go.Proofs.YthenjegmigeieaaGreat
namespace Go.Proofs.YthenjegmigeieaaGreat
open Go.Shelf Go.RowKit Go.Lib Go.Sort
def FwOk (w:World) (g:Nat) (x:Fv):Prop:=(∀ w':World,(∀ k,k<w.heap.size→¬ k=g→w'.heap[k]?=w.heap[k]?)→IntsV w' x.2 x.1.args)∧FFit x.1
abbrev FwS (w:World) (g:Nat):={ x:Fv // FwOk w g x }
theorem fwOk_nil (w:World) (g:Nat):FwOk w g (⟨0,[]⟩,.slice none 0 0):=⟨fun _ _=>⟨none,0,rfl,.inl rfl⟩,by show ([]:List Int).length≤_; decide⟩
theorem fw_lift {w:World} {g:Nat}:∀ {q:List Fv},(∀ p,p∈q→FwOk w g p)→∃ Q:List (FwS w g),Q.map (·.1)=q:=by
 intro q
 induction q with
 | nil=>intro _; exact ⟨[],rfl⟩
 | cons a r ih =>
  intro h
  obtain ⟨Q,hQ⟩:=ih (fun p hp=>h p (by simp [hp]))
  exact ⟨⟨a,h a (by simp)⟩::Q,by simp [hQ]⟩
abbrev fwInh (w:World) (g:Nat):Inhabited (FwS w g):=⟨⟨_,fwOk_nil w g⟩⟩
def fwEnc {w:World} {g:Nat} (x:FwS w g):List Value:=fcCells x.1
def fwCmp {w:World} {g:Nat} (x y:FwS w g):Int:=Rl.ord x.1.1 y.1.1
theorem fw_swo (w:World) (g:Nat):SWO (ltOf (fwCmp (w:=w) (g:=g))) where
 irrefl x:=by unfold ltOf fwCmp; rw [Rl.ord_self]; decide
 trans x y z h1 h2:=by
  unfold ltOf fwCmp at *
  simp only [decide_eq_true_eq] at *
  exact Rl.ord_trans h1 h2
 ntrans x y z h1 h2:=by
  unfold ltOf fwCmp at *
  simp only [decide_eq_false_iff_not] at *
  intro h3
  rcases Rl.lt_or x.1.1 y.1.1 with h4 | h4 | h4
  · exact h1 h4
  · rw [h4] at h3; exact h2 h3
  · exact h2 (Rl.ord_trans h4 h3)
theorem fw_one {w:World} {g:Nat} (x:FwS w g):∀ v∈fwEnc x,v.oneCell'=true:=by
 intro v hv
 obtain ⟨⟨⟨p,a⟩,u⟩,h⟩:=x
 obtain ⟨ao,cap,hu,_⟩:=h.1 w (fun _ _ _=>rfl)
 have hu:u=.slice ao a.length cap:=hu
 subst hu
 simp [fwEnc,fcCells] at hv
 rcases hv with rfl | rfl <;> rfl
theorem fw_lays (w:World) (g size:Nat):@CmpLays (FwS w g) (fwInh w g) Tryz.prog 71 #[] fwEnc 2 fwCmp g 0 size w:=by
 letI:Inhabited (FwS w g):=fwInh w g
 intro m os dk _ x y
 have hl:∀ k,k<w.heap.size→¬ k=g→(sortWorldK (fwEnc (w:=w) (g:=g)) 2 w g 0 m dk os).heap[k]?=w.heap[k]?:=fun k hk hne=>sortWorldK_block _ _ _ _ _ _ _ k hk hne
 exact Order_any x.1.1 y.1.1 x.1.2 y.1.2 _ (x.2.1 _ hl) (y.2.1 _ hl) x.2.2 y.2.2
theorem holdsF_row {w1 w:World} {B g cap:Nat} {Q:List (FwS w1 g)} (h:FRow w B g cap (Q.map (·.1))):@HoldsK (FwS w1 g) (fwInh w1 g) fwEnc 2 w g 0 Q.toArray:=by
 letI:Inhabited (FwS w1 g):=fwInh w1 g
 intro t ht
 have ht2:t<Q.length * 2:=by simpa using ht
 refine ⟨?_,by rw [Nat.zero_add]; exact h.frozen t⟩
 rw [Nat.zero_add]
 have hc:=World.ownsRow.cellAt h t (by rw [List.length_map]; exact ht2)
 obtain ⟨x,hx,hx2⟩:=fc_at (Q.map (·.1)) t (by rw [List.length_map]; exact ht2)
 rw [hc,hx2]
 have h1:t / 2<Q.length:=by omega
 rw [List.getElem?_map,List.getElem?_eq_getElem h1] at hx
 have hx3:Q[t / 2].1=x:=by simpa using hx
 show (fcCells x)[t % 2]?=some ((flatK fwEnc 2 Q.toArray)[t]!)
 rw [get_flatK fwEnc 2 Q.toArray t (by simpa using ht2)]
 have h2:(Q.toArray)[t / 2]! = Q[t / 2]:=by simp [h1]
 rw [h2]
 show _=some ((fcCells Q[t / 2].1)[t % 2]!)
 rw [hx3]
 have h3:t % 2<(fcCells x).length:=by show t % 2<2; omega
 rw [List.getElem?_eq_getElem h3,getElem!_pos (fcCells x) (t % 2) h3]
theorem rowF_sorted {w1 w:World} {B g cap n:Nat} {Q:List (FwS w1 g)} {d:Array (FwS w1 g)} {os:Array Obj} (h:FRow w B g cap (Q.map (·.1))) (hd:d.size=Q.length) :
 FRow (@sortWorldK (FwS w1 g) (fwInh w1 g) fwEnc 2 w g 0 n d os) B g cap (d.toList.map (·.1)):=by
 letI:Inhabited (FwS w1 g):=fwInh w1 g
 have hg:=h.lt
 obtain ⟨h1,h2⟩:=h
 rcases h2 with ⟨h2,_⟩ | ⟨g',cap',cur,hv,hb,hh,hc1,hc2,hc3,hc4⟩
 · cases h2
 · injection hv with e1 _ e3
   injection e1 with e1
   injection e1 with e1
   subst e1 e3
   have hl:(d.toList.map (·.1)).length=Q.length:=by rw [List.length_map,Array.length_toList,hd]
   refine ⟨fc_length _,.inr ⟨g,cap,putCells id 0 (flatK fwEnc 2 d) cur,rfl,hb,?_,by rw [hl]; simpa using hc1,hc2,by simpa [putCells] using hc3,?_⟩⟩
   · unfold sortWorldK putRowK putRow mapBlock Sort.ahead grow
     show ((w.heap.modify g _)++os)[g]?=_
     rw [Array.getElem?_append_left (by simpa using hg.2),Array.getElem?_modify,if_pos rfl,hh]
     rfl
   · apply List.ext_getElem?
     intro t
     rw [List.getElem?_take,Array.getElem?_toList,hl]
     by_cases ht:t<Q.length * 2
     · rw [if_pos ht]
       have hq:(Q.map (·.1)).length=Q.length:=List.length_map _
       have hcs:t<cur.size:=by
        rw [hc3]
        have:Q.length≤cap:=by simpa using hc1
        omega
       obtain ⟨x,hx,hx2⟩:=fc_at (d.toList.map (·.1)) t (by rw [hl]; exact ht)
       rw [hx2]
       unfold putCells
       rw [Array.getElem?_mapIdx,Array.getElem?_eq_getElem hcs,Option.map_some,if_pos (by rw [size_flatK,hd]; omega)]
       have h4:t / 2<d.size:=by omega
       rw [List.getElem?_map,Array.getElem?_toList,Array.getElem?_eq_getElem h4] at hx
       have hx3:d[t / 2].1=x:=by simpa using hx
       rw [Nat.sub_zero,get_flatK fwEnc 2 d t (by rw [hd]; exact ht),getElem!_pos d _ h4]
       show some ((fcCells d[t / 2].1)[t % 2]!)=_
       rw [hx3]
       have h3:t % 2<(fcCells x).length:=by show t % 2<2; omega
       rw [List.getElem?_eq_getElem h3,getElem!_pos (fcCells x) (t % 2) h3]
     · rw [if_neg ht,List.getElem?_eq_none]
       rw [fc_length,hl]
       omega
theorem sortF_any (w:World) (B g cap:Nat) (q:List Fv) (hown:FRow w B g cap q) (hq:∀ p,p∈q→FwOk w g p) (hn:q.length<4611686018427387904) :
 Calls Tryz.prog 106 #[.slice (some ⟨g,0,none⟩) q.length cap,.func (.func 71) #[] #[]] w fun e w'=>e=.returned (.tuple #[])∧∃ q',q'.Perm q∧(q'.map (·.1)).Pairwise (fun a b=>¬ Rl.Lt b a)∧FRow w' B g cap q'∧w.grownBy w' (some g):=by
 obtain ⟨Q,rfl⟩:=fw_lift hq
 letI:Inhabited (FwS w g):=fwInh w g
 have eg:∀ args w,(callFunc 71 args).run Tryz.prog w=.ok (.enter 71 args) w:=enters_of Tryz.func71 (by kernel_rfl) rfl
 have hsz:Q.toArray.size=Q.length:=by simp
 have hcon:=AnyQ.slices_SortFunc Tryz.sortF 2 Tryz.isAgg55 Tryz.sizeOf55 fwEnc (fun _=>rfl) fw_one fwCmp (fw_swo w g) 71 #[] g 0 cap Q.toArray w eg (fw_lays w g _) (holdsF_row hown) hown.lt.2 (by rw [hsz]; simpa using hn)
 rw [hsz] at hcon
 change Calls Tryz.prog 106 _ _ _ at hcon
 rw [List.length_map]
 refine hcon.mono ?_
 rintro e w' ⟨rfl,d',n,os,hp,hs,rfl⟩
 obtain ⟨p1,p2,p3⟩:=hp
 have hds:d'.size=Q.length:=by rw [p1]; simp
 have e1:d'.extract 0 Q.length=d':=by rw [← hds]; simp
 have e2:Q.toArray.extract 0 Q.length=Q.toArray:=by simp
 rw [e1,e2] at p3
 refine ⟨rfl,d'.toList.map (·.1),?_,?_,rowF_sorted hown hds,rfl,rfl,rfl,sortWorldK_size _ _ _ _ _ _ _,fun k hk hne=>sortWorldK_block _ _ _ _ _ _ _ k hk (fun e=>hne (by rw [e]))⟩
 · exact p3.map _
 · rw [List.pairwise_iff_getElem]
   intro i j hi hj hij
   have hi2:i<d'.size:=by simpa using hi
   have hj2:j<d'.size:=by simpa using hj
   have:=hs i j (Nat.zero_le _) hij (by omega)
   rw [getElem!_pos d' j hj2,getElem!_pos d' i hi2] at this
   unfold ltOf fwCmp at this
   simp only [decide_eq_false_iff_not] at this
   simpa [Rl.Lt] using this
end Go.Proofs.YthenjegmigeieaaGreat
namespace Go.Proofs.YthenjegmigeieaaGreat
open Go.RowKit
namespace Ru
theorem drop_fact {S:List Rl.Fc} {k:Nat} (hk:k<S.length):S.drop k=Rl.factD S k::S.drop (k+1):=by
 rw [List.drop_eq_getElem_cons hk]
 unfold Rl.factD
 rw [List.getD_eq_getElem?_getD,List.getElem?_eq_getElem hk]
 rfl
theorem folded_go (f:Int) {S:List Rl.Fc} {k:Nat} (hk:k+1<S.length) (hp:pre (Rl.factD S k).args=pre (Rl.factD S (k+1)).args) (ns:List Int):folded f (S.drop k) ns=folded f (S.drop (k+1)) (ns++[lst (Rl.factD S k).args]):=by
 rw [drop_fact (show k<S.length by omega),drop_fact hk]
 show (if pre (Rl.factD S k).args=pre (Rl.factD S (k+1)).args then _ else _)=_
 rw [if_pos hp]
theorem folded_cut (f:Int) {S:List Rl.Fc} {k:Nat} (hk:k<S.length) (hp:¬ (k+1<S.length∧pre (Rl.factD S k).args=pre (Rl.factD S (k+1)).args)) (ns:List Int):folded f (S.drop k) ns=emit f (Rl.factD S k).pred (pre (Rl.factD S k).args) (ns++[lst (Rl.factD S k).args])++folded f (S.drop (k+1)) []:=by
 by_cases h1:k+1<S.length
 · rw [drop_fact hk,drop_fact h1]
   show (if pre (Rl.factD S k).args=pre (Rl.factD S (k+1)).args then _ else _)=_
   rw [if_neg (fun e=>hp ⟨h1,e⟩)]
   rfl
 · rw [drop_fact hk,List.drop_of_length_le (show S.length≤k+1 by omega)]
   show _=emit f _ _ _++[]
   rw [List.append_nil]
   rfl
theorem lst_eq (l:List Int):lst l=Sc.intD l (l.length - 1):=by
 unfold lst Sc.intD
 rw [List.getLastD_eq_getLast?,List.getLast?_eq_getElem?,List.getD_eq_getElem?_getD]
theorem pre_length (l:List Int):(pre l).length=l.length - 1:=List.length_dropLast
theorem pre_intD {l:List Int} {i:Nat} (h:i<l.length - 1):Sc.intD (pre l) i=Sc.intD l i:=by
 unfold pre Sc.intD
 rw [List.getD_eq_getElem?_getD,List.getD_eq_getElem?_getD,List.getElem?_dropLast,if_pos h]
theorem lst_num {l:List Int} (h:0<l.length) (hn:∀ n,n∈l→Sc.isNum n=true):Sc.isNum (lst l)=true:=by
 refine hn _ ?_
 rw [lst_eq]
 unfold Sc.intD
 rw [List.getD_eq_getElem?_getD,List.getElem?_eq_getElem (by omega)]
 exact List.getElem_mem _
theorem emit_length (f pd:Int) (p ns:List Int):(emit f pd p ns).length≤1:=by unfold emit; split <;> simp
theorem folded_length (f:Int):∀ (S:List Rl.Fc) (ns:List Int),(folded f S ns).length≤S.length
 | [],_=>Nat.le_refl _
 | h::t,ns=>by
  by_cases hp:0+1<(h::t).length∧pre (Rl.factD (h::t) 0).args=pre (Rl.factD (h::t) (0+1)).args
  · have:=folded_go f (S:=h::t) (k:=0) hp.1 hp.2 ns
    rw [List.drop_zero] at this
    rw [this]
    have:=folded_length f t (ns++[lst (Rl.factD (h::t) 0).args])
    show (folded f t _).length≤t.length+1
    omega
  · have:=folded_cut f (S:=h::t) (k:=0) (by simp) hp ns
    rw [List.drop_zero] at this
    rw [this,List.length_append]
    have h1:=emit_length f (Rl.factD (h::t) 0).pred (pre (Rl.factD (h::t) 0).args) (ns++[lst (Rl.factD (h::t) 0).args])
    have:=folded_length f t []
    show _+(folded f t []).length≤t.length+1
    omega
theorem folded_args (f:Int) (T:Nat):∀ (S:List Rl.Fc) (ns:List Int),(∀ g,g∈S→g.args.length=T)→∀ g,g∈folded f S ns→g.args.length≤T+1
 | [],_,_,g,hg=>by cases hg
 | h::t,ns,hS,g,hg=>by
  by_cases hp:0+1<(h::t).length∧pre (Rl.factD (h::t) 0).args=pre (Rl.factD (h::t) (0+1)).args
  · have:=folded_go f (S:=h::t) (k:=0) hp.1 hp.2 ns
    rw [List.drop_zero] at this
    rw [this] at hg
    exact folded_args f T t _ (fun x hx=>hS x (List.mem_cons_of_mem _ hx)) g hg
  · have:=folded_cut f (S:=h::t) (k:=0) (by simp) hp ns
    rw [List.drop_zero] at this
    rw [this] at hg
    rcases List.mem_append.mp hg with hg | hg
    · unfold emit at hg
      split at hg
      · rw [List.mem_singleton.mp hg]
        show (pre h.args++_).length≤_
        rw [List.length_append,pre_length,hS h List.mem_cons_self]
        simp
      · cases hg
    · exact folded_args f T t _ (fun x hx=>hS x (List.mem_cons_of_mem _ hx)) g hg
end Ru
theorem ints_pre {w:World} {ao:Option Addr} {l:List Int} (cap:Nat) (h:IntsAt w ao l):IntsV w (.slice ao (l.length - 1) cap) (Ru.pre l):=by
 refine ⟨ao,cap,by rw [Ru.pre_length],?_⟩
 rcases h with h | ⟨b,off,ha,hc⟩
 · exact .inl (by rw [h]; rfl)
 · refine .inr ⟨b,off,ha,fun i hi=>?_⟩
   rw [Ru.pre_length] at hi
   rw [Ru.pre_intD hi]
   exact hc i (by omega)

def earlyFine (ops:Array Oper) (S:Nat) (early:Nat→Bool):Bool:=(List.range ops.size).all fun i=>i==S || reach ops 12 i S || ((ops[i]?).map fun o=>(o.dst.map early).getD true).getD true
section
variable {P:Program} {ops:Array Oper} {Q:Exit→Act→World→Prop}
theorem wp_region_tailS (T T1:Nat→Value→World→Prop) (L S:Nat) (early:Nat→Bool) {id:Nat} {a0:Act} {w0:World} (hL:L<ops.size) (htf:tailFine ops L=true) (hm:P.follows .mixedOrders=true)
 (hf:tabFine ops a0.tmps.size=true) (hear:earlyFine ops S early=true)
 (hmono:∀ t v w w',Below w.heap.size w w'→T t v w→T t v w') (hmono1:∀ t v w w',Below w.heap.size w w'→T1 t v w→T1 t v w')
 (hmonoE:∀ t v w w',early t=true→Below w0.heap.size w w'→T t v w→T t v w')
 (hop:AllOpsI (fun i o=>∀ a w,OpIn ops T a0 w0 o a w→(∀ t,t∉(ops.toList.take L).filterMap (·.dst)→a.tmps.getD t undef=a0.tmps.getD t undef)→if i=S then (OpIn ops T1 a0 w0 o a w→Region.wanted o (yielded ops a.tmps)=true∧o.wp P a w (fun a' w'=>∃ v,a'=a.put o.dst v∧(∀ t,o.dst=some t→T t v w')∧w.heap.size≤w'.heap.size∧Below w0.heap.size w w') Q) else OpOk P ops Q (fun t v w=>T t v w∧T1 t v w) o a w) 0 (ops.toList.take L))
 (htail:∀ a w,OpInT ops T a0 w0 L a w→(∀ t,t∉(ops.toList.take L).filterMap (·.dst)→a.tmps.getD t undef=a0.tmps.getD t undef)→wpOps P ops Q (List.range' L (ops.size - L)) a w) :
 (Code.region id ops true).wp P Q a0 w0:=by
 have hear':∀ (i:Nat) (o:Oper) (t:Nat),ops[i]?=some o→o.dst=some t→¬ i=S→reach ops 12 i S=false→early t=true:=fun i o t ho hd hne hr=>by
  unfold earlyFine at hear
  have h:=List.all_eq_true.mp hear i (List.mem_range.mpr (Array.getElem?_eq_some_iff.mp ho).1)
  rw [ho,hr] at h
  simp only [Option.map_some,Option.getD_some,hd,Bool.or_false,Bool.or_eq_true,beq_iff_eq] at h
  rcases h with h | h
  · exact absurd h hne
  · exact h
 unfold tailFine at htf
 rw [Bool.and_eq_true] at htf
 have ht1:∀ j,j<L→reach ops 12 L j=true:=fun j hj=>List.all_eq_true.mp htf.1 j (List.mem_range.mpr hj)
 have ht2:∀ i,i<ops.size→L<i→reach ops 12 i (i - 1)=true:=fun i hi hLi=>by
  have h:=List.all_eq_true.mp htf.2 i (List.mem_range.mpr hi)
  rw [decide_eq_true hLi] at h
  simpa using h
 unfold tabFine at hf
 rw [Bool.and_eq_true,Bool.and_eq_true] at hf
 obtain ⟨⟨hnd,hlt⟩,hah⟩:=hf
 have hnd:=of_decide_eq_true hnd
 have hlt':∀ t,t∈ops.toList.filterMap (·.dst)→t<a0.tmps.size:=fun t ht=>of_decide_eq_true (List.all_eq_true.mp hlt t ht)
 have hah':∀ (i:Nat) (o:Oper),ops[i]?=some o→∀ e,e∈o.after→e.on<i:=fun i o ho e he=>by
  have hi:i<ops.size:=(Array.getElem?_eq_some_iff.mp ho).1
  have h:=List.all_eq_true.mp hah i (List.mem_range.mpr hi)
  rw [ho,Option.map_some,Option.getD_some] at h
  exact of_decide_eq_true (List.all_eq_true.mp h e (by simpa using he))
 refine wp_region_inv (fun s a w=>(s.size=ops.size∧Closed ops s)∧(((∀ i,L≤i→i<ops.size→s[i]?=some false)∧(∀ t,t∉(ops.toList.take L).filterMap (·.dst)→a.tmps.getD t undef=a0.tmps.getD t undef)∧(s[S]?=some false→Tabbed ops T1 a0 w0 s a w)∧Tabbed ops T a0 w0 s a w) ∨
  (∃ m,L≤m∧m≤ops.size∧(∀ i,i<m→s[i]?=some true)∧(∀ i,m≤i→i<ops.size→s[i]?=some false)∧wpOps P ops Q (List.range' m (ops.size - m)) a w))) hm ?_ ?_ ?_
 · rintro s a w hr ⟨⟨hs,hC⟩,hI⟩
   have hall:∀ n:Nat,n≤ops.size→∀ i:Nat,i<n→s[i]?=some true:=by
    intro n
    induction n with
    | zero=>intro _ i hi; exact absurd hi (Nat.not_lt_zero _)
    | succ n ih =>
     intro hn i hi
     have ih:=ih (by omega)
     by_cases hin:i<n
     · exact ih i hin
     · have hin:i=n:=by omega
       subst hin
       cases hsi:s[i]? with
       | none=>rw [Array.getElem?_eq_none_iff] at hsi; omega
       | some b =>
        cases b with
        | true=>rfl
        | false =>
         exfalso
         have hio:i<ops.size:=by omega
         have:i∈Region.ready .any ops s:=by
          unfold Region.ready
          refine List.mem_filter.mpr ⟨List.mem_range.mpr hio,?_⟩
          rw [Bool.and_eq_true]
          refine ⟨by simp [Array.getD_eq_getD_getElem?,hsi],?_⟩
          have ho:ops[i]?=some ops[i]:=Array.getElem?_eq_getElem hio
          rw [ho,Option.map_some,Option.getD_some,Array.all_eq_true_iff_forall_mem]
          intro e he
          have h1:=ih e.on (hah' i _ ho e he)
          simp [Array.getD_eq_getD_getElem?,h1]
         rw [hr] at this
         exact absurd this (by simp)
   have hd:=hall ops.size (Nat.le_refl _)
   rcases hI with ⟨hF,_,_,_⟩ | ⟨m,_,hm1,_,hF,hW⟩
   · have h1:=hF L (Nat.le_refl _) hL
     rw [hd L hL] at h1
     cases h1
   · by_cases hme:m=ops.size
     · subst hme
       rw [Nat.sub_self] at hW
       exact hW
     · have h1:=hF m (Nat.le_refl _) (by omega)
       rw [hd m (by omega)] at h1
       cases h1
 · rintro s a w i hi ⟨⟨hs,hC⟩,hI⟩
   obtain ⟨hsi,o,ho,haf⟩:=ready_mem hi
   have his:i<ops.size:=(Array.getElem?_eq_some_iff.mp ho).1
   have hup:∀ j,s[j]?=some true→(s.setIfInBounds i true)[j]?=some true:=fun j hj=>by
    rw [Array.getElem?_setIfInBounds]
    by_cases hij:i=j
    · rw [if_pos hij,if_pos (by omega)]
    · rw [if_neg hij]; exact hj
   have hss:(s.setIfInBounds i true).size=ops.size∧Closed ops (s.setIfInBounds i true):=by
    refine ⟨by simp [hs],fun i' o' hi' ho' e he hb=>?_⟩
    by_cases hii:i=i'
    · subst hii
      rw [ho] at ho'
      cases ho'
      exact hup _ (haf e he hb)
    · rw [Array.getElem?_setIfInBounds,if_neg hii] at hi'
      exact hup _ (hC i' o' hi' ho' e he hb)
   have go:∀ m,L≤m→m<ops.size→i=m→(∀ j,j<m→s[j]?=some true)→(∀ j,m≤j→j<ops.size→s[j]?=some false)→wpOps P ops Q (List.range' m (ops.size - m)) a w →
    wpOp P ops Q i (fun a' w'=>((s.setIfInBounds i true).size=ops.size∧Closed ops (s.setIfInBounds i true))∧(((∀ j,L≤j→j<ops.size→(s.setIfInBounds i true)[j]?=some false)∧(∀ t,t∉(ops.toList.take L).filterMap (·.dst)→a'.tmps.getD t undef=a0.tmps.getD t undef)∧((s.setIfInBounds i true)[S]?=some false→Tabbed ops T1 a0 w0 (s.setIfInBounds i true) a' w')∧Tabbed ops T a0 w0 (s.setIfInBounds i true) a' w') ∨
     (∃ m,L≤m∧m≤ops.size∧(∀ j,j<m→(s.setIfInBounds i true)[j]?=some true)∧(∀ j,m≤j→j<ops.size→(s.setIfInBounds i true)[j]?=some false)∧wpOps P ops Q (List.range' m (ops.size - m)) a' w'))) a w:=by
    intro m hLm hms him hT hF hW
    subst him
    obtain ⟨d,hd⟩:∃ d,ops.size - i=d+1:=⟨ops.size - i - 1,by omega⟩
    rw [hd,List.range'_succ,wpOps_cons] at hW
    refine wpOp_mono (fun a' w' h'=>⟨hss,.inr ⟨i+1,by omega,by omega,fun j hj=>?_,fun j hj hjs=>?_,?_⟩⟩) hW
    · by_cases hji:j=i
      · subst hji
        rw [Array.getElem?_setIfInBounds,if_pos rfl,if_pos (by omega)]
      · exact hup j (hT j (by omega))
    · rw [Array.getElem?_setIfInBounds,if_neg (by omega)]
      exact hF j (by omega) hjs
    · rw [show ops.size - (i+1)=d by omega]
      exact h'
   rcases hI with ⟨hF,hO,hI1,hI⟩ | ⟨m,hLm,hm1,hT,hF,hW⟩
   · by_cases hiL:L≤i
     · have hiL2:i=L:=by
        rcases Nat.lt_or_ge L i with h | h
        · have h1:=reach_done hC 12 i (i - 1) o ho haf (ht2 i his h)
          rw [hF (i - 1) (by omega) (by omega)] at h1
          cases h1
        · omega
       subst hiL2
       have hdn:∀ j,j<i→s[j]?=some true:=fun j hj=>reach_done hC 12 i j o ho haf (ht1 j hj)
       exact go i (Nat.le_refl _) his rfl hdn (fun j hj hjs=>hF j hj hjs) (htail a w ⟨hI.below,hI.defers,hI.size,hI.still,fun j oj t hj hoj hd=>hI.done j oj t (hdn j hj) hoj hd⟩ hO)
     · have hmo:o∈ops.toList.take L:=by
        rw [← Array.getElem?_toList] at ho
        refine List.mem_of_getElem? (i:=i) ?_
        rw [List.getElem?_take,if_pos (by omega)]
        exact ho
       have hopI:=AllOpsI.get _ 0 hop i o (by
        rw [List.getElem?_take,if_pos (by omega),Array.getElem?_toList]
        exact ho) a w ⟨hI.below,hI.still,fun e he hb o' t ho' hd=>hI.done e.on o' t (haf e he hb) ho' hd⟩ hO
       rw [Nat.zero_add] at hopI
       have hOset:∀ (v:Value) t,t∉(ops.toList.take L).filterMap (·.dst)→(a.put o.dst v).tmps.getD t undef=a0.tmps.getD t undef:=fun v t ht=>by
        cases hd:o.dst with
        | none=>exact hO t ht
        | some u =>
         have hne:t≠u:=fun h=>ht (h ▸ List.mem_filterMap.mpr ⟨o,hmo,hd⟩)
         rw [put_get_ne hne]
         exact hO t ht
       have hset:∀ {T:Nat→Value→World→Prop} {v:Value} {w':World},Tabbed ops T a0 w0 s a w→(∀ t,o.dst=some t→T t v w')→w.heap.size≤w'.heap.size→Below w0.heap.size w w'→(∀ (j:Nat) (oj:Oper) (t:Nat),s[j]?=some true→ops[j]?=some oj→oj.dst=some t→∀ u,T t u w→T t u w')→Tabbed ops T a0 w0 (s.setIfInBounds i true) (a.put o.dst v) w':=by
        intro T v w' hI hv hsz hb hmono
        refine ⟨hI.below.trans hb,by rw [put_defers]; exact hI.defers,by rw [put_size]; exact hI.size,fun t ht=>?_,fun j oj t hj hoj hd=>?_⟩
        · cases hd:o.dst with
          | none=>exact hI.still t ht
          | some u =>
           have hne:t≠u:=fun h=>ht (h ▸ dst_mem ho hd)
           rw [put_get_ne hne]
           exact hI.still t ht
        · by_cases hij:j=i
          · subst hij
            rw [ho] at hoj
            cases hoj
            rw [hd,put_get_self (by rw [hI.size]; exact hlt' t (dst_mem ho hd))]
            exact hv t hd
          · have hj':s[j]?=some true:=by
             rw [Array.getElem?_setIfInBounds,if_neg (fun h=>hij h.symm)] at hj
             exact hj
            have h1:=hmono j oj t hj' hoj hd _ (hI.done j oj t hj' hoj hd)
            cases hd2:o.dst with
            | none=>exact h1
            | some u =>
             have hne:t≠u:=fun h=>hij (dst_inj ops.toList hnd j i oj o t (by rw [Array.getElem?_toList]; exact hoj) (by rw [Array.getElem?_toList]; exact ho) hd (h ▸ hd2))
             rw [put_get_ne hne]
             exact h1
       have hF':∀ j,L≤j→j<ops.size→(s.setIfInBounds i true)[j]?=some false:=fun j hj hjs=>by
        rw [Array.getElem?_setIfInBounds,if_neg (by omega)]
        exact hF j hj hjs
       by_cases hiS:i=S
       · rw [if_pos hiS] at hopI
         have hT1:=hI1 (by rw [← hiS]; exact hsi)
         obtain ⟨hw,hwp⟩:=hopI ⟨hT1.below,hT1.still,fun e he hb o' t ho' hd=>hT1.done e.on o' t (haf e he hb) ho' hd⟩
         unfold wpOp
         rw [ho]
         dsimp only
         rw [if_pos hw]
         refine .inl (Oper.wp_mono ?_ hwp)
         rintro a' w' ⟨v,rfl,hv,hsz,hb⟩
         refine ⟨hss,.inl ⟨hF',hOset v,fun h=>?_,hset hI hv hsz hb (fun j oj t hj hoj hd u hu=>?_)⟩⟩
         · rw [hiS,Array.getElem?_setIfInBounds,if_pos rfl,if_pos (by omega)] at h
           cases h
         · have hjS:¬ j=S:=fun e=>by rw [e,← hiS,hsi] at hj; cases hj
           have hr:reach ops 12 j S=false:=by
            cases hr:reach ops 12 j S with
            | false=>rfl
            | true =>
             have h1:=reach_done hC 12 j S oj hoj (fun e he hb=>hC j oj hj hoj e he hb) hr
             rw [← hiS,hsi] at h1
             cases h1
           exact hmonoE t u w w' (hear' j oj t hoj hd hjS hr) hb hu
       · rw [if_neg hiS] at hopI
         have hSs:(s.setIfInBounds i true)[S]?=some false→s[S]?=some false:=fun h=>by
          rw [Array.getElem?_setIfInBounds,if_neg hiS] at h
          exact h
         have hlow:∀ {w':World},Below w.heap.size w w'→Below w0.heap.size w w':=fun hb=>hb.mono hI.below.size
         unfold OpOk at hopI
         unfold wpOp
         rw [ho]
         dsimp only
         by_cases hw:Region.wanted o (yielded ops a.tmps)=true
         · rw [if_pos hw] at hopI ⊢
           refine hopI.imp (Oper.wp_mono ?_) (fun h=>h)
           rintro a' w' ⟨v,rfl,hv,hb⟩
           exact ⟨hss,.inl ⟨hF',hOset v,fun h=>hset (hI1 (hSs h)) (fun t ht=>(hv t ht).2) hb.size (hlow hb) (fun _ _ t _ _ _ u hu=>hmono1 t u w w' hb hu),hset hI (fun t ht=>(hv t ht).1) hb.size (hlow hb) (fun _ _ t _ _ _ u hu=>hmono t u w w' hb hu)⟩⟩
         · rw [if_neg hw] at hopI ⊢
           exact ⟨hss,.inl ⟨hF',hOset _,fun h=>hset (hI1 (hSs h)) (fun t ht=>(hopI t ht).2) (Nat.le_refl _) (hlow (Below.refl _ _)) (fun _ _ t _ _ _ u hu=>hu),hset hI (fun t ht=>(hopI t ht).1) (Nat.le_refl _) (hlow (Below.refl _ _)) (fun _ _ t _ _ _ u hu=>hu)⟩⟩
   · have him:m≤i:=by
      rcases Nat.lt_or_ge i m with h | h
      · have h1:=hT i h
        rw [hsi] at h1
        cases h1
      · exact h
     have him2:i=m:=by
      rcases Nat.lt_or_ge m i with h | h
      · have h1:=reach_done hC 12 i (i - 1) o ho haf (ht2 i his (by omega))
        rw [hF (i - 1) (by omega) (by omega)] at h1
        cases h1
      · omega
     exact go m hLm (by omega) him2 hT hF hW
 · refine ⟨⟨by simp,fun i o h=>?_⟩,.inl ⟨fun i _ hi=>?_,fun _ _=>rfl,fun _=>⟨⟨rfl,rfl,rfl,Nat.le_refl _,fun _ _=>rfl⟩,rfl,rfl,fun _ _=>rfl,fun i o t h _ _=>?_⟩,⟨⟨rfl,rfl,rfl,Nat.le_refl _,fun _ _=>rfl⟩,rfl,rfl,fun _ _=>rfl,fun i o t h _ _=>?_⟩⟩⟩
   · rw [Array.getElem?_replicate] at h
     split at h <;> simp at h
   · rw [Array.getElem?_replicate,if_pos hi]
   · rw [Array.getElem?_replicate] at h
     split at h <;> simp at h
   · rw [Array.getElem?_replicate] at h
     split at h <;> simp at h
end
theorem EqualI_q (x y:List Int) (v u:Value) (w:World) (hV:IntsV w v x) (hU:IntsV w u y) (hl:x.length≤1000000):Calls Tryz.prog 107 #[v,u] w fun e w'=>e=.returned (.bool (decide (x=y)))∧∃ n,w'=w.drewN n:=by
 obtain ⟨ao,cap,rfl,hA⟩:=hV
 obtain ⟨bo,cbp,rfl,hB⟩:=hU
 have HA:Hid _:=hA
 have HB:Hid _:=hB
 clear hA hB
 by_cases hlen:x.length=y.length
 · have HLEN:Hid _:=hlen
   have g0:((x.length:Int) != (y.length:Int))=false:=by rw [hlen]; simp
   clear hlen
   go_enter Tryz.func107,Tryz.ntmps107
   go_wp2_with fail
   go_loopw [13] (fun iv wr=>∃ k nq:Nat,k≤x.length∧iv=.int .i64 k∧Hid (x=y↔x.drop k=y.drop k)∧wr=w.drewN nq) (fun iv _=>x.length - (intOf iv).toNat)
   case atStart=>exact ⟨0,0,by omega,rfl,Iff.rfl,rfl⟩
   case round =>
    obtain ⟨k,nq,hk,rfl,HR,rfl⟩:=hrel
    by_cases hlt:k<x.length
    · have hlt2:k<y.length:=by have:=HLEN.out; omega
      obtain ⟨b',off',rfl,hck⟩:=ints_cell HA.out hlt
      obtain ⟨b2,off2,rfl,hck2⟩:=ints_cell HB.out hlt2
      have HS:Hid _:=Ru.eq_step HLEN.out hlt
      generalize Sc.intD x k=a at *
      generalize Sc.intD y k=c at *
      by_cases hac:a=c
      · have gx:(a != c)=false:=by simpa using hac
        have HR2:Hid (x=y↔x.drop (k+1)=y.drop (k+1)):=HR.out.trans (HS.out.trans ⟨fun h=>h.2,fun h=>⟨hac,h⟩⟩)
        clear hac
        go_upto_region 6 with fail
        go_quiet (fail)
        go_wp2_with fail
        go_roundw
        case rel=>exact ⟨k+1,_,hlt,by go_num,HR2.out,rfl⟩
        case measure=>simp [intOf]; omega
      · have gx:(a != c)=true:=by simpa using hac
        have HE:Hid (decide (x=y)=false):=decide_eq_false (fun h=>hac (HS.out.mp (HR.out.mp h)).1)
        clear hac
        go_upto_region 6 with fail
        go_quiet (fail)
        go_wp2_with fail
        go_ret
        exact ⟨by rw [HE.out]; rfl,_,World.drewN_drewN _ _ _⟩
    · have hdd:decide (k<x.length)=false:=decide_eq_false hlt
      have HE:Hid (decide (x=y)=true):=decide_eq_true (HR.out.mpr (by have:=HLEN.out; rw [List.drop_of_length_le (by omega),List.drop_of_length_le (by omega)]))
      go_wp2_with fail
      go_ret
      exact ⟨by rw [HE.out]; rfl,_,rfl⟩
 · have HE:Hid (decide (x=y)=false):=decide_eq_false (fun h=>hlen (by rw [h]))
   have g0:((x.length:Int) != (y.length:Int))=true:=by simp; omega
   clear hlen
   go_enter Tryz.func107,Tryz.ntmps107
   go_wp2_with fail
   go_ret
   exact ⟨by rw [HE.out]; rfl,0,rfl⟩
def fold12V (RV:Value) (FB fb fc m:Nat) (pd nn:Int) (tQ:Nat) (vQ:Value):Prop :=
 match tQ with
 | 57=>vQ=(RV:Value)
 | 58=>vQ=(.pointer (some ⟨FB,0,none⟩):Value)
 | 59=>vQ=(.int .i64 pd:Value)
 | 60=>vQ=(.pointer (some ⟨FB,1,none⟩):Value)
 | 61=>vQ=(.slice (some ⟨fb,0,none⟩) (m+1) fc:Value)
 | 62=>vQ=(.int .i64 (m:Nat):Value)
 | 63=>vQ=(.slice (some ⟨fb,0,none⟩) m fc:Value)
 | 65=>vQ=(.int .i64 nn:Value)
 | _=>True
def fold12T (RV:Value) (FB fb fc m:Nat) (pd nn:Int) (B:Nat) (l:List Int) (tQ:Nat) (vQ:Value) (WQ:World):Prop :=
 if tQ=67 then WQ.ownsRow B 3 1 vQ (l++[nn]).length ((l++[nn]).map (Value.int .i64))
 else if tQ=68 then ∃ u,vQ=.agg #[.int .i64 pd,u]∧WQ.ownsRow B 3 1 u (l++[nn]).length ((l++[nn]).map (Value.int .i64))
 else if tQ=69 then ∃ b' u,vQ=.slice (some ⟨b',0,none⟩) 1 1∧WQ.heap[b']?=some (.cells #[.int .i64 pd,u] 55)∧WQ.ownsRow B 3 1 u (l++[nn]).length ((l++[nn]).map (Value.int .i64)) else fold12V RV FB fb fc m pd nn tQ vQ
theorem fold12T_mono (RV:Value) (FB fb fc m:Nat) (pd nn:Int) (B:Nat) (l:List Int) (tQ:Nat) (vQ:Value) (W W':World) (hb:Below W.heap.size W W') (h:fold12T RV FB fb fc m pd nn B l tQ vQ W):fold12T RV FB fb fc m pd nn B l tQ vQ W':=by
 unfold fold12T at h ⊢
 by_cases ht:tQ=67
 · rw [if_pos ht] at h ⊢
   exact ownsRow_below h hb
 · rw [if_neg ht] at h ⊢
   by_cases ht2:tQ=68
   · rw [if_pos ht2] at h ⊢
     obtain ⟨u,h1,h2⟩:=h
     exact ⟨u,h1,ownsRow_below h2 hb⟩
   · rw [if_neg ht2] at h ⊢
     by_cases ht3:tQ=69
     · rw [if_pos ht3] at h ⊢
       obtain ⟨b',u,h1,h2,h3⟩:=h
       exact ⟨b',u,h1,(hb.block b' (Array.getElem?_eq_some_iff.mp h2).1).trans h2,ownsRow_below h3 hb⟩
     · rw [if_neg ht3] at h ⊢
       exact h
def fold12E (t:Nat):Bool:=!(t==67 || t==68 || t==69)
theorem fold12T_early (RV:Value) (FB fb fc m:Nat) (pd nn:Int) (B:Nat) (l:List Int) (tQ:Nat) (vQ:Value) (W W':World) (he:fold12E tQ=true) (h:fold12T RV FB fb fc m pd nn B l tQ vQ W):fold12T RV FB fb fc m pd nn B l tQ vQ W':=by
 unfold fold12E at he
 simp only [Bool.not_eq_true',Bool.or_eq_false_iff,beq_eq_false_iff_ne] at he
 unfold fold12T at h ⊢
 rw [if_neg he.1.1,if_neg he.1.2,if_neg he.2] at h ⊢
 exact h
def fold12U (nn:Int) (B:Nat) (l:List Int) (tQ:Nat) (vQ:Value) (WQ:World):Prop :=
 if tQ=64 then WQ.ownsRow B 3 1 vQ l.length (l.map (Value.int .i64))
 else if tQ=66 then ∃ b',vQ=.slice (some ⟨b',0,none⟩) 1 1∧WQ.heap[b']?=some (.cells #[.int .i64 nn] 3) else True
theorem fold12U_mono (nn:Int) (B:Nat) (l:List Int) (tQ:Nat) (vQ:Value) (W W':World) (hb:Below W.heap.size W W') (h:fold12U nn B l tQ vQ W):fold12U nn B l tQ vQ W':=by
 unfold fold12U at h ⊢
 by_cases ht:tQ=64
 · rw [if_pos ht] at h ⊢
   exact ownsRow_below h hb
 · rw [if_neg ht] at h ⊢
   by_cases ht2:tQ=66
   · rw [if_pos ht2] at h ⊢
     obtain ⟨b',h1,h2⟩:=h
     exact ⟨b',h1,(hb.block b' (Array.getElem?_eq_some_iff.mp h2).1).trans h2⟩
   · rw [if_neg ht2] at h ⊢
     exact h
theorem sortF_none (p:Option Addr) (cap:Nat) (fv:Value) (w:World):Calls Tryz.prog 106 #[.slice p 0 cap,fv] w fun e w'=>e=.returned (.tuple #[])∧w'=w:=by
 have hs:=AnyF.slices_SortFunc_none Tryz.sortF p cap fv w
 exact hs
theorem own_form3 {w:World} {B n:Nat} {v:Value} {l:List Int} (h:w.ownsRow B 3 1 v l.length (l.map (Value.int .i64))) (hn:l.length=n+1):∃ g c,v=.slice (some ⟨g,0,none⟩) (n+1) c∧n+1≤c∧∀ i,i<n+1→w.cell? ⟨g,i,none⟩=some (.int .i64 (Sc.intD l i)):=by
 have h':=h
 obtain ⟨_,h2⟩:=h
 rcases h2 with ⟨_,h2⟩ | ⟨g,cap,cur,rfl,_,_,hc,_⟩
 · omega
 · rw [hn] at hc
   refine ⟨g,cap,by rw [hn],hc,fun i hi=>?_⟩
   rw [World.ownsRow.cellAt h' i (by omega),List.getElem?_map,List.getElem?_eq_getElem (by omega)]
   unfold Sc.intD
   rw [List.getD_eq_getElem?_getD,List.getElem?_eq_getElem (by omega)]
   rfl
theorem folded_any (f:Int) (m:Nat) (q:List Fv) (v:Value) (B:Nat) (w:World) (hq:w.ownsRow B 55 2 v q.length (q.map fcCells).flatten) (hro:∀ p,p∈q→w.ownsRow B 3 1 p.2 p.1.args.length (p.1.args.map (Value.int .i64))) (hl:q.length≤2000) (hm:m≤1000) (hA:∀ p,p∈q→p.1.args.length=m+1∧∀ n,n∈p.1.args→Sc.isNum n=true) :
 Calls Tryz.prog 58 #[.int .i64 f,v] w fun e w'=>∃ v' S,e=.returned v'∧S.Perm (q.map (·.1))∧S.Pairwise (fun a b=>Rl.ord a b≤0)∧FactsP w.heap.size w' v' (Ru.folded f S [])∧Below B w w':=by
 obtain ⟨i0,hi,hz0,hz1,hz2⟩:=info_parts rl_info49
 obtain ⟨j0,hj,hy0,hy1,hy2⟩:=info_parts rl_info3
 rcases ownsRow_forms9 hq with ⟨hv,hq0⟩ | ⟨g,cap,hv⟩
 · have hq1:q=[]:=List.eq_nil_of_length_eq_zero hq0
   subst hq1 hv
   clear hq hro hA hl hq0
   go_enter Tryz.func58,Tryz.ntmps58
   go_wp2_with fail
   refine Calls.mono (sortF_none _ _ _ _) ?_
   rintro e w5 ⟨rfl,rfl⟩
   go_wp2_with fail
   refine wp_loop_rounds 1 ?_
   rw [rounds_succ]
   go_wp2_with fail
   go_ret
   exact ⟨_,[],rfl,List.Perm.refl _,List.Pairwise.nil,⟨[],rfl,World.ownsRow_nil _ _ _ _,fun _ hp=>absurd hp (by simp)⟩,Below.refl _ _⟩
 · subst hv
   have HSO:Hid _:=sortF_any w B g cap q hq (fun p hp=>⟨fun w' hw'=>own_ints (own_type (hro p hp) (fun k c hk=>(hw' k (heap_lt hk) (fun e=>by have:=own_ty hq (k:=k) (by rw [e]; rfl) hk; cases this)).trans hk)),by have:=(hA p hp).1; show _≤_; omega⟩) (by omega)
   have HQ:Hid (FRow w B g cap q):=hq
   have HRq:Hid _:=hro
   have HAq:Hid _:=hA
   clear hq hro hA
   go_enter Tryz.func58,Tryz.ntmps58
   go_wp2_with fail
   refine Calls.mono HSO.out ?_
   rintro e w1 ⟨rfl,Q,hperm,hsorted,hrow,hgr⟩
   have hQl:Q.length=q.length:=hperm.length_eq
   have hQR:∀ p,p∈Q→w1.ownsRow B 3 1 p.2 p.1.args.length (p.1.args.map (Value.int .i64)):=fun p hp=>own_type (HRq.out p (hperm.mem_iff.mp hp)) (fun k c hk=>(hgr.block k (heap_lt hk) (fun e=>by have:=own_ty HQ.out (k:=k) e.symm hk; cases this)).trans hk)
   have HQR:Hid _:=hQR
   have HQA:Hid (∀ p,p∈Q→p.1.args.length=m+1∧∀ n,n∈p.1.args→Sc.isNum n=true):=fun p hp=>HAq.out p (hperm.mem_iff.mp hp)
   have HPM:Hid ((Q.map (·.1)).Perm (q.map (·.1))):=hperm.map _
   have HSRT:Hid ((Q.map (·.1)).Pairwise (fun a b=>Rl.ord a b≤0)):=hsorted.imp fun {a b} hab=>by
    have h1:¬ Rl.ord b a<0:=hab
    have:=Rl.ord_flip a b
    omega
   have HROW:Hid (FRow w1 B g cap Q):=hrow
   have HB0:Hid (Below B w w1):=⟨hgr.os,hgr.tape,hgr.output,hgr.size,fun k hk=>hgr.block k (by have:=HQ.out.lt; omega) (fun e=>by injection e with e; have:=HQ.out.lt.1; omega)⟩
   have HSZ:Hid (w.heap.size≤w1.heap.size):=hgr.size
   have HBW:Hid (B≤w.heap.size):=by have:=HQ.out.lt; show _≤_; omega
   rw [← hQl] at hl ⊢
   have HQL:Hid _:=hQl
   clear hperm hsorted hrow hgr hQR HRq HAq HSO HQ hQl
   go_wp2_with fail
   go_loopw [5,6,15] (fun vo vn iv wr=>∃ (k:Nat) (qo:List Fv) (ns:List Int) (Bn:Nat),k≤Q.length∧iv=.int .i64 k∧Hid (Ru.folded f (Q.map (·.1)) []=qo.map (·.1)++Ru.folded f ((Q.map (·.1)).drop k) ns)∧Hid (wr.ownsRow w1.heap.size 55 2 vo qo.length (qo.map fcCells).flatten)∧Hid (∀ p,p∈qo→wr.ownsRow w1.heap.size 3 1 p.2 p.1.args.length (p.1.args.map (Value.int .i64))∧∀ k,p.2.ownBlock=some k→k<Bn)∧Hid (wr.ownsRow Bn 3 1 vn ns.length (ns.map (Value.int .i64)))∧Hid (Bn≤wr.heap.size∧w1.heap.size≤Bn)∧qo.length≤k∧ns.length≤k∧Hid (∀ n,n∈ns→Sc.isNum n=true)∧Hid (Below w1.heap.size w1 wr)) (fun _ _ iv _=>Q.length - (intOf iv).toNat)
   case atStart=>exact ⟨0,[],[],w1.heap.size,Nat.zero_le _,rfl,by show _=_; rw [List.drop_zero]; rfl,World.ownsRow_nil _ _ _ _,fun _ hp=>absurd hp (by simp),World.ownsRow_nil _ _ _ _,⟨Nat.le_refl _,Nat.le_refl _⟩,Nat.le_refl _,Nat.le_refl _,fun _ h=>absurd h (by simp),Below.refl _ _⟩
   case round =>
    obtain ⟨wo,hwo⟩:∃ wo,wo=wr:=⟨_,rfl⟩
    subst hwo
    obtain ⟨k,qo,ns,Bn,hk,rfl,HE,HO,HRO,HN,HBn,hqk,hnk,HNN,HB⟩:=hrel
    obtain ⟨ao,co,rfl⟩:=own_slice HO.out
    obtain ⟨an,cn,rfl⟩:=own_slice HN.out
    by_cases hlt:k<Q.length
    · obtain ⟨x,hx,hxm⟩:=get_lt hlt
      obtain ⟨fb,fc,hxv,hfc,hxc⟩:=own_form3 (HQR.out x hxm) (HQA.out x hxm).1
      obtain ⟨c0,c1⟩:=HROW.out.cell hx
      rw [hxv] at c1
      have q0:=cell_below HB.out c0
      have q1:=cell_below HB.out c1
      have l1:=cell_below HB.out (hxc m (Nat.lt_succ_self m))
      have HXV:Hid (IntsV w1 (.slice (some ⟨fb,0,none⟩) m fc) (Ru.pre x.1.args)):=by
       have:=ints_pre (w:=w1) (ao:=some ⟨fb,0,none⟩) (l:=x.1.args) fc (.inr ⟨fb,0,rfl,fun i hi=>by rw [(HQA.out x hxm).1] at hi; rw [Nat.zero_add]; exact hxc i hi⟩)
       rw [(HQA.out x hxm).1] at this
       exact this
      have HFD:Hid (Rl.factD (Q.map (·.1)) k=x.1):=by show _=_; unfold Rl.factD; rw [List.getD_eq_getElem?_getD,List.getElem?_map,hx]; rfl
      have HLS:Hid (Ru.lst x.1.args=Sc.intD x.1.args m):=by show _=_; rw [Ru.lst_eq,(HQA.out x hxm).1]; rfl
      have HLN:Hid (Sc.isNum (Ru.lst x.1.args)=true):=Ru.lst_num (by have:=(HQA.out x hxm).1; omega) (HQA.out x hxm).2
      have HPL:Hid ((Ru.pre x.1.args).length=m):=by show _=_; rw [Ru.pre_length,(HQA.out x hxm).1]; rfl
      rw [← HLS.out] at l1
      have HNX:Hid (k+1<Q.length→∃ gb gc,w1.cell? ⟨g,(k+1) * 2+1,none⟩=some (.slice (some ⟨gb,0,none⟩) (m+1) gc)∧m+1≤gc∧IntsV w1 (.slice (some ⟨gb,0,none⟩) m gc) (Ru.pre (Rl.factD (Q.map (·.1)) (k+1)).args)):=fun h1=>by
       obtain ⟨y,hy,hym⟩:=get_lt h1
       obtain ⟨gb,gc,hyv,hgc,hyc⟩:=own_form3 (HQR.out y hym) (HQA.out y hym).1
       obtain ⟨_,d1⟩:=HROW.out.cell hy
       rw [hyv] at d1
       have:=ints_pre (w:=w1) (ao:=some ⟨gb,0,none⟩) (l:=y.1.args) gc (.inr ⟨gb,0,rfl,fun i hi=>by rw [(HQA.out y hym).1] at hi; rw [Nat.zero_add]; exact hyc i hi⟩)
       rw [(HQA.out y hym).1] at this
       refine ⟨gb,gc,d1,hgc,?_⟩
       rw [show Rl.factD (Q.map (·.1)) (k+1)=y.1 from by unfold Rl.factD; rw [List.getD_eq_getElem?_getD,List.getElem?_map,hy]; rfl]
       exact this
      have HGO:Hid _:=fun h1 hp=>Ru.folded_go f (S:=Q.map (·.1)) (k:=k) h1 hp ns
      have HCUT:Hid _:=fun hp=>Ru.folded_cut f (S:=Q.map (·.1)) (k:=k) (by rw [List.length_map]; exact hlt) hp ns
      rw [HFD.out,List.length_map] at HGO HCUT
      clear c0 c1 hxc hx hxm hxv HFD HLS
      obtain ⟨⟨pd,fa⟩,xv⟩:=x
      dsimp only at *
      generalize Ru.lst fa=la at *
      go_upto_region 7 with fail
      have hba:Below wo.heap.size wo (wo.alloc (.cells #[.int .i64 pd,.slice (some ⟨fb,0,none⟩) (m+1) fc] 55)):=(Below.refl _ _).alloc (Nat.le_refl _) _
      have hbx:=heap_alloc_new wo (.cells #[.int .i64 pd,.slice (some ⟨fb,0,none⟩) (m+1) fc] 55)
      have HO1:Hid ((wo.alloc (.cells #[.int .i64 pd,.slice (some ⟨fb,0,none⟩) (m+1) fc] 55)).ownsRow w1.heap.size 55 2 (.slice ao qo.length co) qo.length (qo.map fcCells).flatten):=ownsRow_below HO.out hba
      have HN1:Hid ((wo.alloc (.cells #[.int .i64 pd,.slice (some ⟨fb,0,none⟩) (m+1) fc] 55)).ownsRow Bn 3 1 (.slice an ns.length cn) ns.length (ns.map (Value.int .i64))):=ownsRow_below HN.out hba
      have HRO1:Hid (∀ p,p∈qo→(wo.alloc (.cells #[.int .i64 pd,.slice (some ⟨fb,0,none⟩) (m+1) fc] 55)).ownsRow w1.heap.size 3 1 p.2 p.1.args.length (p.1.args.map (Value.int .i64))∧∀ k,p.2.ownBlock=some k→k<Bn):=fun p hp=>⟨ownsRow_below (HRO.out p hp).1 hba,(HRO.out p hp).2⟩
      have HB1:Hid _:=HB.out.trans (hba.mono HB.out.size)
      have HBn1:Hid _:=Nat.le_trans HBn.out.1 hba.size
      have hBn2:=HBn.out.2
      have l2:=cell_below hba l1
      clear q0 q1 l1 HO HN HRO HB HBn hba
      generalize hfb:wo.heap.size=FB at *
      generalize wo.alloc (.cells #[.int .i64 pd,.slice (some ⟨fb,0,none⟩) (m+1) fc] 55)=wa at *
      clear hfb
      have f0:wa.cell? ⟨FB,0,none⟩=some (.int .i64 pd):=by rw [Lib.cell_of_heap hbx]; rfl
      have f1:wa.cell? ⟨FB,1,none⟩=some (.slice (some ⟨fb,0,none⟩) (m+1) fc):=by rw [Lib.cell_of_heap hbx]; rfl
      have HBX:Hid _:=hbx
      clear hbx
      have hBnn:=HBn1.out
      go_wp2_with (at_builtin; refine wpList_append_own _ rfl (.tmp 24) (.tmp 30) 22 rfl Bn 3 j0 _ 1 8 Tryz.underlying22 hj hy0 hy1 hy2 rfl (by decide) _ _ _ rfl (HN1.out.alloc _) ⟨wa.heap.size,0,none⟩ 1 1 [.int .i64 la] rfl rfl ?c1 ?c2 ?c3 ?c4 ?c5 ?_)
      case c2=>rfl
      case c3=>unfold maxLen; omega
      case c4=>omega
      case c5=>omega
      intro vn2 w4 hn4 hg4 _
      obtain ⟨an4,cn4,rfl⟩:=own_slice hn4
      have hba:Below wa.heap.size wa (wa.alloc (.cells #[.int .i64 la] 3)):=(Below.refl _ _).alloc (Nat.le_refl _) _
      have hn1:=ownsRow_below HN1.out hba
      have hot:∀ (k:Nat) (c:Array Value) (t:TypeId),wa.heap[k]?=some (.cells c t)→t≠3→w4.heap[k]?=some (.cells c t):=fun k c t hk ht=>(hg4.block k (Nat.lt_of_lt_of_le (heap_lt hk) hba.size) (fun e=>ht (own_ty HN1.out e.symm hk))).trans ((hba.block k (heap_lt hk)).trans hk)
      have HO4:Hid (w4.ownsRow w1.heap.size 55 2 (.slice ao qo.length co) qo.length (qo.map fcCells).flatten):=own_type HO1.out (fun k c hk=>hot k c 55 hk (by decide))
      have HN4:Hid (w4.ownsRow Bn 3 1 (.slice an4 (ns.length+1) cn4) (ns++[la]).length ((ns++[la]).map (Value.int .i64))):=by
       show World.ownsRow _ _ _ _ _ _ _
       rw [List.length_append,List.map_append]
       exact hn4
      have HRO4:Hid (∀ p,p∈qo→w4.ownsRow w1.heap.size 3 1 p.2 p.1.args.length (p.1.args.map (Value.int .i64))∧∀ k,p.2.ownBlock=some k→k<Bn):=fun p hp=>⟨rl_own_alone (HRO1.out p hp).1 (fun g hg=>(hg4.block g (Nat.lt_of_lt_of_le ((HRO1.out p hp).1.lt g hg).2 hba.size) (fun e=>by have:=(HRO1.out p hp).2 g hg; have:=(hn1.lt g e.symm).1; omega)).trans (hba.block g ((HRO1.out p hp).1.lt g hg).2)),(HRO1.out p hp).2⟩
      have HB4:Hid (Below w1.heap.size w1 w4):=(HB1.out.trans (hba.mono HB1.out.size)).grown hg4 (by have:=HB1.out.size; have:=hba.size; omega) (fun k hk=>by have:=(hn1.lt k hk).1; omega)
      have HBn4:Hid (Bn≤w4.heap.size):=Nat.le_trans HBn1.out (Nat.le_trans hba.size hg4.size)
      have HBX4:Hid _:=hot _ _ _ HBX.out (by decide)
      have HNN4:Hid (∀ n,n∈ns++[la]→Sc.isNum n=true):=fun n hn=>by
       rcases List.mem_append.mp hn with hn | hn
       · exact HNN.out n hn
       · rw [List.mem_singleton.mp hn]; exact HLN.out
      have HPV4:Hid (IntsV w4 (.slice (some ⟨fb,0,none⟩) m fc) (Ru.pre fa)):=intsV_below HXV.out HB4.out
      have f04:w4.cell? ⟨FB,0,none⟩=some (.int .i64 pd):=by rw [Lib.cell_of_heap HBX4.out]; rfl
      have f14:w4.cell? ⟨FB,1,none⟩=some (.slice (some ⟨fb,0,none⟩) (m+1) fc):=by rw [Lib.cell_of_heap HBX4.out]; rfl
      clear f0 f1 hn4 hg4 hba hn1 hot HO1 HN1 HRO1 HB1 HBn1 HBX l2 HNN HLN
      by_cases h1:k+1<Q.length
      · obtain ⟨gb,gc,d1,hgc,hpg⟩:=HNX.out h1
        have d4:=cell_below HB4.out d1
        have HQE:Hid (∀ j,Calls Tryz.prog 107 #[.slice (some ⟨fb,0,none⟩) m fc,.slice (some ⟨gb,0,none⟩) m gc] (w4.drewN j) fun e w'=>e=.returned (.bool (decide (Ru.pre fa=Ru.pre (Rl.factD (Q.map (·.1)) (k+1)).args)))∧∃ n,w'=(w4.drewN j).drewN n):=fun j=>EqualI_q _ _ _ _ _ (intsV_below HPV4.out (blw_drewN _ _)) (intsV_below (intsV_below hpg HB4.out) (blw_drewN _ _)) (by have:=HPL.out; omega)
        have g1:decide ((k:Int)+1<(Q.length:Int))=true:=decide_eq_true (by omega)
        clear hpg d1 HNX
        by_cases hp:Ru.pre fa=Ru.pre (Rl.factD (Q.map (·.1)) (k+1)).args
        · rw [decide_eq_true hp] at HQE
          have HE3:Hid (Ru.folded f (Q.map (·.1)) []=qo.map (·.1)++Ru.folded f ((Q.map (·.1)).drop (k+1)) (ns++[la])):=by show _=_; rw [HE.out,HGO.out h1 hp]
          clear hp HE HGO HCUT
          go_upto_region 9 with fail
          go_quiet (first | (go_at_call 107; exact Calls.quiet_of (HQE.out _)))
          go_wp2_with fail
          go_roundw
          case rel=>exact ⟨k+1,qo,ns++[la],Bn,hlt,by go_num,HE3.out,ownsRow_below HO4.out (blw_drewN _ _),fun p hp=>⟨ownsRow_below (HRO4.out p hp).1 (blw_drewN _ _),(HRO4.out p hp).2⟩,ownsRow_below HN4.out (blw_drewN _ _),⟨Nat.le_trans HBn4.out (blw_drewN _ _).size,hBn2⟩,Nat.le_succ_of_le hqk,by rw [List.length_append]; exact Nat.succ_le_succ hnk,HNN4.out,HB4.out.trans ((blw_drewN _ _).mono HB4.out.size)⟩
          case measure=>simp [intOf]; omega
        · rw [decide_eq_false hp] at HQE
          have HNP:Hid (¬ (k+1<Q.length∧Ru.pre fa=Ru.pre (Rl.factD (Q.map (·.1)) (k+1)).args)):=fun h=>hp h.2
          clear hp HGO
          go_upto_region 9 with fail
          go_quiet (first | (go_at_call 107; exact Calls.quiet_of (HQE.out _)))
          clear HQE d4
          have HO5:Hid ((w4.drewN nq).ownsRow w1.heap.size 55 2 (.slice ao qo.length co) qo.length (qo.map fcCells).flatten):=ownsRow_below HO4.out (blw_drewN w4 nq)
          have HN5:Hid ((w4.drewN nq).ownsRow Bn 3 1 (.slice an4 (ns.length+1) cn4) (ns++[la]).length ((ns++[la]).map (Value.int .i64))):=ownsRow_below HN4.out (blw_drewN w4 nq)
          have HRO5:Hid (∀ p,p∈qo→(w4.drewN nq).ownsRow w1.heap.size 3 1 p.2 p.1.args.length (p.1.args.map (Value.int .i64))∧∀ k,p.2.ownBlock=some k→k<Bn):=fun p hp=>⟨ownsRow_below (HRO4.out p hp).1 (blw_drewN w4 nq),(HRO4.out p hp).2⟩
          have HB5:Hid _:=HB4.out.trans ((blw_drewN w4 nq).mono HB4.out.size)
          have HPV5:Hid _:=intsV_below HPV4.out (blw_drewN w4 nq)
          have f0:=cell_below (blw_drewN w4 nq) f04
          have f1:=cell_below (blw_drewN w4 nq) f14
          clear f04 f14 HO4 HN4 HRO4 HB4 HPV4 HBX4 HBn4
          generalize w4.drewN nq=wd at *
          have HF:Hid _:=foldedNumber_any f (ns++[la]) _ wd (own_ints HN5.out) (by rw [List.length_append]; exact Nat.succ_pos _) (by rw [List.length_append,List.length_singleton]; omega) HNN4.out
          go_wp2_with fail
          refine Calls.mono HF.out ?_
          rintro _ z ⟨rfl,rfl⟩
          clear HF
          have HE4:Hid (Ru.folded f (Q.map (·.1)) []=qo.map (·.1)++((if Sc.isNum (Ru.foldN f (ns++[la]))=true then [(⟨pd,Ru.pre fa++[Ru.foldN f (ns++[la])]⟩:Rl.Fc)] else [])++Ru.folded f ((Q.map (·.1)).drop (k+1)) [])):=by show _=_; rw [HE.out,HCUT.out HNP.out]; rfl
          generalize Ru.foldN f (ns++[la])=nn at *
          have HI:Hid _:=isNum_any nn z
          go_wp2_with fail
          refine Calls.mono HI.out ?_
          rintro _ wd ⟨rfl,rfl⟩
          clear HI
          cases hn:Sc.isNum nn
          · have HE3:Hid (Ru.folded f (Q.map (·.1)) []=qo.map (·.1)++Ru.folded f ((Q.map (·.1)).drop (k+1)) []):=by show _=_; rw [HE4.out,hn]; rfl
            clear HE4 hn
            go_wp2_with fail
            go_roundw
            case rel=>exact ⟨k+1,qo,[],wd.heap.size,hlt,by go_num,HE3.out,HO5.out,fun p hp=>⟨(HRO5.out p hp).1,fun k hk=>((HRO5.out p hp).1.lt k hk).2⟩,World.ownsRow_nil _ _ _ _,⟨Nat.le_refl _,HB5.out.size⟩,Nat.le_succ_of_le hqk,Nat.zero_le _,fun _ h=>absurd h (by simp),HB5.out⟩
            case measure=>simp [intOf]; omega
          · have HE3:Hid (∀ u:Value,Ru.folded f (Q.map (·.1)) []=(qo++[((⟨pd,Ru.pre fa++[nn]⟩:Rl.Fc),u)]).map (·.1)++Ru.folded f ((Q.map (·.1)).drop (k+1)) []):=fun u=>by rw [HE4.out,hn,if_pos rfl,List.map_append,List.append_assoc]; rfl
            clear HE4 hn
            go_upto_region 12 with fail
            obtain ⟨WS,HWS⟩:∃ WS,Hid (WS=wd.heap.size):=⟨_,rfl⟩
            refine wp_region_tailS (fold12T (.slice ao qo.length co) FB fb fc m pd nn WS (Ru.pre fa)) (fold12U nn WS (Ru.pre fa)) 13 10 fold12E (by decide) (by kernel_rfl) (by kernel_rfl) (by kernel_rfl) (by kernel_rfl) (fold12T_mono (.slice ao qo.length co) FB fb fc m pd nn WS (Ru.pre fa)) (fold12U_mono nn WS (Ru.pre fa)) (fun t v w w' he _ h=>fold12T_early (.slice ao qo.length co) FB fb fc m pd nn WS (Ru.pre fa) t v w w' he h) ?hopA ?htailA
            case hopA =>
             refine AllOpsI.cons (fun a y_ h hO=>?_) ?_
             · rw [if_neg (by decide)]
               have e5:a.eval (.tmp 5)=(.slice ao qo.length co:Value):=hO 5 (by decide)
               refine opOk_val (v:=.slice ao qo.length co) (w':=y_) (wanted_none rfl) ?_ (fun t ht=>by cases ht; exact ⟨rfl,trivial⟩) (Below.refl _ _)
               have ec:=evc a
               generalize a.eval=ev at *
               clear h hO
               go_simp
             refine AllOpsI.cons (fun a y_ h hO=>?_) ?_
             · rw [if_neg (by decide)]
               have e8:a.eval (.tmp 8)=(.pointer (some ⟨FB,0,none⟩):Value):=h.old 8 (by kernel_rfl)
               refine opOk_val (v:=.pointer (some ⟨FB,0,none⟩)) (w':=y_) (wanted_none rfl) ?_ (fun t ht=>by cases ht; exact ⟨rfl,trivial⟩) (Below.refl _ _)
               have ec:=evc a
               generalize a.eval=ev at *
               clear h hO
               go_simp
             refine AllOpsI.cons (fun a y_ h hO=>?_) ?_
             · rw [if_neg (by decide)]
               have e58:a.eval (.tmp 58)=(.pointer (some ⟨FB,0,none⟩):Value):=h.of 58 (by kernel_rfl)
               have c0:=cell_below h.below f0
               refine opOk_val (v:=.int .i64 pd) (w':=y_) (wanted_none rfl) ?_ (fun t ht=>by cases ht; exact ⟨rfl,trivial⟩) (Below.refl _ _)
               have ec:=evc a
               generalize a.eval=ev at *
               clear h hO
               go_simp
             refine AllOpsI.cons (fun a y_ h hO=>?_) ?_
             · rw [if_neg (by decide)]
               have e8:a.eval (.tmp 8)=(.pointer (some ⟨FB,0,none⟩):Value):=h.old 8 (by kernel_rfl)
               refine opOk_val (v:=.pointer (some ⟨FB,1,none⟩)) (w':=y_) (wanted_none rfl) ?_ (fun t ht=>by cases ht; exact ⟨rfl,trivial⟩) (Below.refl _ _)
               have ec:=evc a
               generalize a.eval=ev at *
               clear h hO
               go_simp
             refine AllOpsI.cons (fun a y_ h hO=>?_) ?_
             · rw [if_neg (by decide)]
               have e60:a.eval (.tmp 60)=(.pointer (some ⟨FB,1,none⟩):Value):=h.of 60 (by kernel_rfl)
               have c0:=cell_below h.below f1
               refine opOk_val (v:=.slice (some ⟨fb,0,none⟩) (m+1) fc) (w':=y_) (wanted_none rfl) ?_ (fun t ht=>by cases ht; exact ⟨rfl,trivial⟩) (Below.refl _ _)
               have ec:=evc a
               generalize a.eval=ev at *
               clear h hO
               go_simp
             refine AllOpsI.cons (fun a y_ h hO=>?_) ?_
             · rw [if_neg (by decide)]
               have e9:a.eval (.tmp 9)=(.int .i64 (m:Nat):Value):=h.old 9 (by kernel_rfl)
               refine opOk_val (v:=.int .i64 (m:Nat)) (w':=y_) (wanted_none rfl) ?_ (fun t ht=>by cases ht; exact ⟨rfl,trivial⟩) (Below.refl _ _)
               have ec:=evc a
               generalize a.eval=ev at *
               clear h hO
               go_simp
             refine AllOpsI.cons (fun a y_ h hO=>?_) ?_
             · rw [if_neg (by decide)]
               have e61:a.eval (.tmp 61)=(.slice (some ⟨fb,0,none⟩) (m+1) fc:Value):=h.of 61 (by kernel_rfl)
               have e62:a.eval (.tmp 62)=(.int .i64 (m:Nat):Value):=h.of 62 (by kernel_rfl)
               have g0:(0:Int)≤(m:Int):=by omega
               have g8:(m:Int)≤(fc:Int):=by omega
               refine opOk_val (v:=.slice (some ⟨fb,0,none⟩) m fc) (w':=y_) (wanted_none rfl) ?_ (fun t ht=>by cases ht; exact ⟨rfl,trivial⟩) (Below.refl _ _)
               have ec:=evc a
               generalize a.eval=ev at *
               clear h hO
               go_simp
             refine AllOpsI.cons (fun a y_ h hO=>?_) ?_
             · rw [if_neg (by decide)]
               have e63:a.eval (.tmp 63)=(.slice (some ⟨fb,0,none⟩) m fc:Value):=h.of 63 (by kernel_rfl)
               refine opOk_call (f:=77) (args:=#[.slice (some ⟨fb,0,none⟩) m fc]) (wanted_none rfl) ?_ ?_
               · have ec:=evc a
                 have ef:=evf a
                 generalize a.eval=ev at *
                 clear h hO
                 go_simp
               · refine Calls.mono (cloneI_any (Ru.pre fa) _ y_ (intsV_below HPV5.out h.below) (by have:=HPL.out; omega)) ?_
                 rintro _ y2 ⟨v',rfl,hown,hb2⟩
                 refine ⟨_,rfl,fun t ht=>?_,hb2⟩
                 cases ht
                 exact ⟨trivial,rl_own_le hown (by rw [HWS.out]; exact h.below.size)⟩
             refine AllOpsI.cons (fun a y_ h hO=>?_) ?_
             · rw [if_neg (by decide)]
               have e10:a.eval (.tmp 10)=(.int .i64 nn:Value):=h.old 10 (by kernel_rfl)
               refine opOk_val (v:=.int .i64 nn) (w':=y_) (wanted_none rfl) ?_ (fun t ht=>by cases ht; exact ⟨rfl,trivial⟩) (Below.refl _ _)
               have ec:=evc a
               generalize a.eval=ev at *
               clear h hO
               go_simp
             refine AllOpsI.cons (fun a y_ h hO=>?_) ?_
             · rw [if_neg (by decide)]
               have e65:a.eval (.tmp 65)=(.int .i64 nn:Value):=h.of 65 (by kernel_rfl)
               refine opOk_val (v:=.slice (some ⟨y_.heap.size,0,none⟩) 1 1) (w':=y_.alloc (.cells #[.int .i64 nn] 3)) (wanted_none rfl) ?_ (fun t ht=>by cases ht; exact ⟨trivial,⟨_,rfl,heap_alloc_new y_ _⟩⟩) ((Below.refl _ _).alloc (Nat.le_refl _) _)
               have ec:=evc a
               generalize a.eval=ev at *
               clear h hO
               go_simp
             refine AllOpsI.cons (fun a y_ h hO=>?_) ?_
             · rw [if_pos (by decide)]
               intro h1
               refine ⟨wanted_none rfl,?_⟩
               have ho64:y_.ownsRow WS 3 1 (a.eval (.tmp 64)) (Ru.pre fa).length ((Ru.pre fa).map (Value.int .i64)):=h1.of 64 (by kernel_rfl)
               obtain ⟨b',e66,hb'⟩:∃ b',a.eval (.tmp 66)=.slice (some ⟨b',0,none⟩) 1 1∧y_.heap[b']?=some (.cells #[.int .i64 nn] 3):=h1.of 66 (by kernel_rfl)
               have hWy:WS≤y_.heap.size:=by rw [HWS.out]; exact h.below.size
               refine wp_append_own y_ (.tmp 64) (.tmp 66) 22 rfl WS 3 j0 _ 1 8 Tryz.underlying22 hj hy0 hy1 hy2 rfl (by decide) _ _ _ rfl ho64 ⟨b',0,none⟩ 1 1 (#[Value.int .i64 nn]:Array Value).toList e66 rfl (row_news hb') (fun u hu=>by simp only [List.mem_cons,List.not_mem_nil,or_false] at hu; subst hu; rfl) (by have:=HPL.out; unfold maxLen; omega) (by have:=HPL.out; omega) hWy ?_
               intro v9 w9 ho9 hg9 _
               refine ⟨v9,rfl,fun t ht=>?_,hg9.size,hg9.os,hg9.tape,hg9.output,hg9.size,fun k hk=>hg9.block k (by rw [HWS.out] at hWy; omega) (fun e=>by have:=(ho64.lt k e.symm).1; rw [HWS.out] at this; omega)⟩
               cases ht
               show w9.ownsRow WS 3 1 v9 ((Ru.pre fa)++[nn]).length (((Ru.pre fa)++[nn]).map (Value.int .i64))
               rw [List.length_append,List.map_append]
               exact ho9
             refine AllOpsI.cons (fun a y_ h hO=>?_) ?_
             · rw [if_neg (by decide)]
               have ho:y_.ownsRow WS 3 1 (a.eval (.tmp 67)) ((Ru.pre fa)++[nn]).length (((Ru.pre fa)++[nn]).map (Value.int .i64)):=h.of 67 (by kernel_rfl)
               have e59:a.eval (.tmp 59)=(.int .i64 pd:Value):=h.of 59 (by kernel_rfl)
               obtain ⟨a9,c9,e67⟩:=own_slice ho
               rw [e67] at ho
               refine opOk_val (v:=.agg #[.int .i64 pd,.slice a9 ((Ru.pre fa)++[nn]).length c9]) (w':=y_) (wanted_none rfl) ?_ (fun t ht=>by cases ht; exact ⟨⟨_,rfl,ho⟩,trivial⟩) (Below.refl _ _)
               have ec:=evc a
               generalize a.eval=ev at *
               clear h hO
               go_simp
             refine AllOpsI.cons (fun a y_ h hO=>?_) ?_
             · rw [if_neg (by decide)]
               obtain ⟨u,e68,ho⟩:∃ u,a.eval (.tmp 68)=.agg #[.int .i64 pd,u]∧y_.ownsRow WS 3 1 u ((Ru.pre fa)++[nn]).length (((Ru.pre fa)++[nn]).map (Value.int .i64)):=h.of 68 (by kernel_rfl)
               obtain ⟨a9,c9,rfl⟩:=own_slice ho
               refine opOk_val (v:=.slice (some ⟨y_.heap.size,0,none⟩) 1 1) (w':=y_.alloc (.cells #[.int .i64 pd,.slice a9 ((Ru.pre fa)++[nn]).length c9] 55)) (wanted_none rfl) ?_ (fun t ht=>by cases ht; exact ⟨⟨_,_,rfl,heap_alloc_new y_ _,ho.alloc _⟩,trivial⟩) ((Below.refl _ _).alloc (Nat.le_refl _) _)
               have ec:=evc a
               generalize a.eval=ev at *
               clear h hO
               go_simp
             exact AllOpsI.nil
            case htailA =>
             rintro ⟨tm0,df⟩ y_ hI _
             have e57:Act.eval ⟨tm0,df⟩ (.tmp 57)=(.slice ao qo.length co):=hI.all 0 _ 57 (by decide) rfl rfl
             obtain ⟨b',u9,e69,hb',hou⟩:∃ b' u,Act.eval ⟨tm0,df⟩ (.tmp 69)=.slice (some ⟨b',0,none⟩) 1 1∧y_.heap[b']?=some (.cells #[.int .i64 pd,u] 55)∧y_.ownsRow WS 3 1 u (Ru.pre fa++[nn]).length ((Ru.pre fa++[nn]).map (Value.int .i64)):=hI.all 12 _ 69 (by decide) rfl rfl
             have hoy:=ownsRow_below HO5.out hI.below
             have hby:Below w1.heap.size w1 y_:=HB5.out.trans (hI.below.mono HB5.out.size)
             have hWS:w1.heap.size≤WS:=by rw [HWS.out]; exact HB5.out.size
             have hsz10:w1.heap.size≤y_.heap.size:=hby.size
             have hsN:tm0.size=73:=hI.size
             obtain ⟨a9,c9,evi⟩:=own_slice hou
             show wpOps Tryz.prog _ _ [13,14] _ _
             rw [wpOps_cons]
             refine wpOp_wp rfl (wanted_none rfl) (wp_append_own y_ (.tmp 57) (.tmp 69) 27 rfl w1.heap.size 55 i0 _ 2 32 Tryz.underlying27 hi hz0 hz1 hz2 rfl (by decide) (.slice ao qo.length co) qo.length _ e57 hoy ⟨b',0,none⟩ 1 1 (#[Value.int .i64 pd,u9]:Array Value).toList e69 rfl (row_news hb') ?h1B ?h63B ?hbyB hsz10 ?_)
             case h1B =>
              intro u hu
              simp only [List.mem_cons,List.not_mem_nil,or_false] at hu
              rcases hu with rfl | rfl
              · rfl
              · rw [evi]
                rfl
             case h63B=>unfold maxLen; omega
             case hbyB=>omega
             intro v11 w11 ho11 hg11 _
             obtain ⟨av,cv,rfl⟩:=own_slice ho11
             have hown11:∀ kQ,((.slice ao qo.length co):Value).ownBlock=some kQ→w1.heap.size≤kQ:=fun kQ hk=>(hoy.lt kQ hk).1
             have h3:∀ (B':Nat) (l:List Int) (u:Value),y_.ownsRow B' 3 1 u l.length (l.map (Value.int .i64))→w11.ownsRow B' 3 1 u l.length (l.map (Value.int .i64)):=fun B' l u hu=>own_type hu (fun k c hk=>(hg11.block k (heap_lt hk) (fun e=>by have:=own_ty hoy e.symm hk; cases this)).trans hk)
             have HB11:Hid (Below w1.heap.size w1 w11):=hby.grown hg11 hby.size (fun kQ hk=>hown11 kQ hk)
             have HR11:Hid (w11.ownsRow w1.heap.size 3 1 u9 (Ru.pre fa++[nn]).length ((Ru.pre fa++[nn]).map (Value.int .i64))):=rl_own_le (h3 _ _ _ hou) hWS
             have HRO11:Hid (∀ p,p∈qo→w11.ownsRow w1.heap.size 3 1 p.2 p.1.args.length (p.1.args.map (Value.int .i64))):=fun p hp=>h3 _ _ _ (ownsRow_below (HRO5.out p hp).1 hI.below)
             have HO11:Hid (w11.ownsRow w1.heap.size 55 2 (.slice av (qo.length+1) cv) (qo++[((⟨pd,Ru.pre fa++[nn]⟩:Rl.Fc),u9)]).length ((qo++[((⟨pd,Ru.pre fa++[nn]⟩:Rl.Fc),u9)]).map fcCells).flatten):=by
              show World.ownsRow _ _ _ _ _ _ _
              rw [List.length_append,List.map_append,List.flatten_append]
              exact ho11
             have e70:Act.eval (Act.put ⟨tm0,df⟩ (some 70) (.slice av (qo.length+1) cv)) (.tmp 70)=(.slice av (qo.length+1) cv):=put_get_self (by show 70<tm0.size; omega)
             rw [wpOps_cons]
             refine wpOp_val (v:=(.slice av (qo.length+1) cv)) (w':=w11) rfl (wanted_none rfl) ?_ ?_
             · show Sem.run Tryz.prog (execOp (Act.eval (Act.put ⟨tm0,df⟩ (some 70) (.slice av (qo.length+1) cv))) _) w11=_
               generalize Act.eval (Act.put ⟨tm0,df⟩ (some 70) (.slice av (qo.length+1) cv))=ev at *
               clear hI
               go_simp
             have hst:∀ t,t∉[57,58,59,60,61,62,63,64,65,66,67,68,69,70,5]→((tm0.setIfInBounds 70 (.slice av (qo.length+1) cv)).setIfInBounds 5 (.slice av (qo.length+1) cv)).getD t undef=_:=fun t ht=>by
              have hB:t≠70:=fun e=>ht (by rw [e]; decide)
              have hC:t≠5:=fun e=>ht (by rw [e]; decide)
              exact ((put_get_ne (a:=Act.put ⟨tm0,df⟩ (some 70) (.slice av (qo.length+1) cv)) hC).trans (put_get_ne (a:=⟨tm0,df⟩) hB)).trans (hI.still t ht)
             have hs3:((tm0.setIfInBounds 70 (.slice av (qo.length+1) cv)).setIfInBounds 5 (.slice av (qo.length+1) cv)).size=73:=by simp [hsN]
             have h5:((tm0.setIfInBounds 70 (.slice av (qo.length+1) cv)).setIfInBounds 5 (.slice av (qo.length+1) cv)).getD 5 undef=(.slice av (qo.length+1) cv):=put_get_self (a:=Act.put ⟨tm0,df⟩ (some 70) (.slice av (qo.length+1) cv)) (by rw [put_size]; show 5<tm0.size; omega)
             obtain rfl:df=[]:=hI.defers
             clear hI e57 e69 hb' hou hoy hby hsz10 hsN evi ho11 hg11 hown11 h3 e70
             show Exit.then _ _ Exit.normal ⟨(tm0.setIfInBounds 70 (.slice av (qo.length+1) cv)).setIfInBounds 5 (.slice av (qo.length+1) cv),[]⟩ _
             generalize (tm0.setIfInBounds 70 (.slice av (qo.length+1) cv)).setIfInBounds 5 (.slice av (qo.length+1) cv)=tm at *
             have hF8:=tmps_fold [57,58,59,60,61,62,63,64,65,66,67,68,69,70,5] tm _ (hs3.trans (by rfl)) hst
             clear hs3 hst
             simp only [List.foldl_cons,List.foldl_nil,h5] at hF8
             clear h5
             generalize tm.getD 57 undef=x57 at hF8
             generalize tm.getD 58 undef=x58 at hF8
             generalize tm.getD 59 undef=x59 at hF8
             generalize tm.getD 60 undef=x60 at hF8
             generalize tm.getD 61 undef=x61 at hF8
             generalize tm.getD 62 undef=x62 at hF8
             generalize tm.getD 63 undef=x63 at hF8
             generalize tm.getD 64 undef=x64 at hF8
             generalize tm.getD 65 undef=x65 at hF8
             generalize tm.getD 66 undef=x66 at hF8
             generalize tm.getD 67 undef=x67 at hF8
             generalize tm.getD 68 undef=x68 at hF8
             generalize tm.getD 69 undef=x69 at hF8
             generalize tm.getD 70 undef=x70 at hF8
             simp only [List.setIfInBounds_toArray,List.set_cons_zero,List.set_cons_succ] at hF8
             subst hF8
             go_wp2_with fail
             go_roundw
             case rel=>exact ⟨k+1,qo++[((⟨pd,Ru.pre fa++[nn]⟩:Rl.Fc),u9)],[],w11.heap.size,hlt,by go_num,HE3.out _,HO11.out,fun p hp=>by
              rcases List.mem_append.mp hp with hp | hp
              · exact ⟨HRO11.out p hp,fun k hk=>((HRO11.out p hp).lt k hk).2⟩
              · rcases List.mem_singleton.mp hp with rfl
                exact ⟨HR11.out,fun k hk=>(HR11.out.lt k hk).2⟩,World.ownsRow_nil _ _ _ _,⟨Nat.le_refl _,HB11.out.size⟩,by rw [List.length_append]; exact Nat.succ_le_succ hqk,Nat.zero_le _,fun _ h=>absurd h (by simp),HB11.out⟩
             case measure=>simp [intOf]; omega
      · have HNP:Hid (¬ (k+1<Q.length∧Ru.pre fa=Ru.pre (Rl.factD (Q.map (·.1)) (k+1)).args)):=fun h=>h1 h.1
        have g1:decide ((k:Int)+1<(Q.length:Int))=false:=decide_eq_false (by omega)
        clear HGO HNX h1
        go_upto_region 9 with fail
        go_quiet (fail)
        have HO5:Hid ((w4.drewN nq).ownsRow w1.heap.size 55 2 (.slice ao qo.length co) qo.length (qo.map fcCells).flatten):=ownsRow_below HO4.out (blw_drewN w4 nq)
        have HN5:Hid ((w4.drewN nq).ownsRow Bn 3 1 (.slice an4 (ns.length+1) cn4) (ns++[la]).length ((ns++[la]).map (Value.int .i64))):=ownsRow_below HN4.out (blw_drewN w4 nq)
        have HRO5:Hid (∀ p,p∈qo→(w4.drewN nq).ownsRow w1.heap.size 3 1 p.2 p.1.args.length (p.1.args.map (Value.int .i64))∧∀ k,p.2.ownBlock=some k→k<Bn):=fun p hp=>⟨ownsRow_below (HRO4.out p hp).1 (blw_drewN w4 nq),(HRO4.out p hp).2⟩
        have HB5:Hid _:=HB4.out.trans ((blw_drewN w4 nq).mono HB4.out.size)
        have HPV5:Hid _:=intsV_below HPV4.out (blw_drewN w4 nq)
        have f0:=cell_below (blw_drewN w4 nq) f04
        have f1:=cell_below (blw_drewN w4 nq) f14
        clear f04 f14 HO4 HN4 HRO4 HB4 HPV4 HBX4 HBn4
        generalize w4.drewN nq=wd at *
        have HF:Hid _:=foldedNumber_any f (ns++[la]) _ wd (own_ints HN5.out) (by rw [List.length_append]; exact Nat.succ_pos _) (by rw [List.length_append,List.length_singleton]; omega) HNN4.out
        go_wp2_with fail
        refine Calls.mono HF.out ?_
        rintro _ z ⟨rfl,rfl⟩
        clear HF
        have HE4:Hid (Ru.folded f (Q.map (·.1)) []=qo.map (·.1)++((if Sc.isNum (Ru.foldN f (ns++[la]))=true then [(⟨pd,Ru.pre fa++[Ru.foldN f (ns++[la])]⟩:Rl.Fc)] else [])++Ru.folded f ((Q.map (·.1)).drop (k+1)) [])):=by show _=_; rw [HE.out,HCUT.out HNP.out]; rfl
        generalize Ru.foldN f (ns++[la])=nn at *
        have HI:Hid _:=isNum_any nn z
        go_wp2_with fail
        refine Calls.mono HI.out ?_
        rintro _ wd ⟨rfl,rfl⟩
        clear HI
        cases hn:Sc.isNum nn
        · have HE3:Hid (Ru.folded f (Q.map (·.1)) []=qo.map (·.1)++Ru.folded f ((Q.map (·.1)).drop (k+1)) []):=by show _=_; rw [HE4.out,hn]; rfl
          clear HE4 hn
          go_wp2_with fail
          go_roundw
          case rel=>exact ⟨k+1,qo,[],wd.heap.size,hlt,by go_num,HE3.out,HO5.out,fun p hp=>⟨(HRO5.out p hp).1,fun k hk=>((HRO5.out p hp).1.lt k hk).2⟩,World.ownsRow_nil _ _ _ _,⟨Nat.le_refl _,HB5.out.size⟩,Nat.le_succ_of_le hqk,Nat.zero_le _,fun _ h=>absurd h (by simp),HB5.out⟩
          case measure=>simp [intOf]; omega
        · have HE3:Hid (∀ u:Value,Ru.folded f (Q.map (·.1)) []=(qo++[((⟨pd,Ru.pre fa++[nn]⟩:Rl.Fc),u)]).map (·.1)++Ru.folded f ((Q.map (·.1)).drop (k+1)) []):=fun u=>by rw [HE4.out,hn,if_pos rfl,List.map_append,List.append_assoc]; rfl
          clear HE4 hn
          go_upto_region 12 with fail
          obtain ⟨WS,HWS⟩:∃ WS,Hid (WS=wd.heap.size):=⟨_,rfl⟩
          refine wp_region_tailS (fold12T (.slice ao qo.length co) FB fb fc m pd nn WS (Ru.pre fa)) (fold12U nn WS (Ru.pre fa)) 13 10 fold12E (by decide) (by kernel_rfl) (by kernel_rfl) (by kernel_rfl) (by kernel_rfl) (fold12T_mono (.slice ao qo.length co) FB fb fc m pd nn WS (Ru.pre fa)) (fold12U_mono nn WS (Ru.pre fa)) (fun t v w w' he _ h=>fold12T_early (.slice ao qo.length co) FB fb fc m pd nn WS (Ru.pre fa) t v w w' he h) ?hopA ?htailA
          case hopA =>
           refine AllOpsI.cons (fun a y_ h hO=>?_) ?_
           · rw [if_neg (by decide)]
             have e5:a.eval (.tmp 5)=(.slice ao qo.length co:Value):=hO 5 (by decide)
             refine opOk_val (v:=.slice ao qo.length co) (w':=y_) (wanted_none rfl) ?_ (fun t ht=>by cases ht; exact ⟨rfl,trivial⟩) (Below.refl _ _)
             have ec:=evc a
             generalize a.eval=ev at *
             clear h hO
             go_simp
           refine AllOpsI.cons (fun a y_ h hO=>?_) ?_
           · rw [if_neg (by decide)]
             have e8:a.eval (.tmp 8)=(.pointer (some ⟨FB,0,none⟩):Value):=h.old 8 (by kernel_rfl)
             refine opOk_val (v:=.pointer (some ⟨FB,0,none⟩)) (w':=y_) (wanted_none rfl) ?_ (fun t ht=>by cases ht; exact ⟨rfl,trivial⟩) (Below.refl _ _)
             have ec:=evc a
             generalize a.eval=ev at *
             clear h hO
             go_simp
           refine AllOpsI.cons (fun a y_ h hO=>?_) ?_
           · rw [if_neg (by decide)]
             have e58:a.eval (.tmp 58)=(.pointer (some ⟨FB,0,none⟩):Value):=h.of 58 (by kernel_rfl)
             have c0:=cell_below h.below f0
             refine opOk_val (v:=.int .i64 pd) (w':=y_) (wanted_none rfl) ?_ (fun t ht=>by cases ht; exact ⟨rfl,trivial⟩) (Below.refl _ _)
             have ec:=evc a
             generalize a.eval=ev at *
             clear h hO
             go_simp
           refine AllOpsI.cons (fun a y_ h hO=>?_) ?_
           · rw [if_neg (by decide)]
             have e8:a.eval (.tmp 8)=(.pointer (some ⟨FB,0,none⟩):Value):=h.old 8 (by kernel_rfl)
             refine opOk_val (v:=.pointer (some ⟨FB,1,none⟩)) (w':=y_) (wanted_none rfl) ?_ (fun t ht=>by cases ht; exact ⟨rfl,trivial⟩) (Below.refl _ _)
             have ec:=evc a
             generalize a.eval=ev at *
             clear h hO
             go_simp
           refine AllOpsI.cons (fun a y_ h hO=>?_) ?_
           · rw [if_neg (by decide)]
             have e60:a.eval (.tmp 60)=(.pointer (some ⟨FB,1,none⟩):Value):=h.of 60 (by kernel_rfl)
             have c0:=cell_below h.below f1
             refine opOk_val (v:=.slice (some ⟨fb,0,none⟩) (m+1) fc) (w':=y_) (wanted_none rfl) ?_ (fun t ht=>by cases ht; exact ⟨rfl,trivial⟩) (Below.refl _ _)
             have ec:=evc a
             generalize a.eval=ev at *
             clear h hO
             go_simp
           refine AllOpsI.cons (fun a y_ h hO=>?_) ?_
           · rw [if_neg (by decide)]
             have e9:a.eval (.tmp 9)=(.int .i64 (m:Nat):Value):=h.old 9 (by kernel_rfl)
             refine opOk_val (v:=.int .i64 (m:Nat)) (w':=y_) (wanted_none rfl) ?_ (fun t ht=>by cases ht; exact ⟨rfl,trivial⟩) (Below.refl _ _)
             have ec:=evc a
             generalize a.eval=ev at *
             clear h hO
             go_simp
           refine AllOpsI.cons (fun a y_ h hO=>?_) ?_
           · rw [if_neg (by decide)]
             have e61:a.eval (.tmp 61)=(.slice (some ⟨fb,0,none⟩) (m+1) fc:Value):=h.of 61 (by kernel_rfl)
             have e62:a.eval (.tmp 62)=(.int .i64 (m:Nat):Value):=h.of 62 (by kernel_rfl)
             have g0:(0:Int)≤(m:Int):=by omega
             have g8:(m:Int)≤(fc:Int):=by omega
             refine opOk_val (v:=.slice (some ⟨fb,0,none⟩) m fc) (w':=y_) (wanted_none rfl) ?_ (fun t ht=>by cases ht; exact ⟨rfl,trivial⟩) (Below.refl _ _)
             have ec:=evc a
             generalize a.eval=ev at *
             clear h hO
             go_simp
           refine AllOpsI.cons (fun a y_ h hO=>?_) ?_
           · rw [if_neg (by decide)]
             have e63:a.eval (.tmp 63)=(.slice (some ⟨fb,0,none⟩) m fc:Value):=h.of 63 (by kernel_rfl)
             refine opOk_call (f:=77) (args:=#[.slice (some ⟨fb,0,none⟩) m fc]) (wanted_none rfl) ?_ ?_
             · have ec:=evc a
               have ef:=evf a
               generalize a.eval=ev at *
               clear h hO
               go_simp
             · refine Calls.mono (cloneI_any (Ru.pre fa) _ y_ (intsV_below HPV5.out h.below) (by have:=HPL.out; omega)) ?_
               rintro _ y2 ⟨v',rfl,hown,hb2⟩
               refine ⟨_,rfl,fun t ht=>?_,hb2⟩
               cases ht
               exact ⟨trivial,rl_own_le hown (by rw [HWS.out]; exact h.below.size)⟩
           refine AllOpsI.cons (fun a y_ h hO=>?_) ?_
           · rw [if_neg (by decide)]
             have e10:a.eval (.tmp 10)=(.int .i64 nn:Value):=h.old 10 (by kernel_rfl)
             refine opOk_val (v:=.int .i64 nn) (w':=y_) (wanted_none rfl) ?_ (fun t ht=>by cases ht; exact ⟨rfl,trivial⟩) (Below.refl _ _)
             have ec:=evc a
             generalize a.eval=ev at *
             clear h hO
             go_simp
           refine AllOpsI.cons (fun a y_ h hO=>?_) ?_
           · rw [if_neg (by decide)]
             have e65:a.eval (.tmp 65)=(.int .i64 nn:Value):=h.of 65 (by kernel_rfl)
             refine opOk_val (v:=.slice (some ⟨y_.heap.size,0,none⟩) 1 1) (w':=y_.alloc (.cells #[.int .i64 nn] 3)) (wanted_none rfl) ?_ (fun t ht=>by cases ht; exact ⟨trivial,⟨_,rfl,heap_alloc_new y_ _⟩⟩) ((Below.refl _ _).alloc (Nat.le_refl _) _)
             have ec:=evc a
             generalize a.eval=ev at *
             clear h hO
             go_simp
           refine AllOpsI.cons (fun a y_ h hO=>?_) ?_
           · rw [if_pos (by decide)]
             intro h1
             refine ⟨wanted_none rfl,?_⟩
             have ho64:y_.ownsRow WS 3 1 (a.eval (.tmp 64)) (Ru.pre fa).length ((Ru.pre fa).map (Value.int .i64)):=h1.of 64 (by kernel_rfl)
             obtain ⟨b',e66,hb'⟩:∃ b',a.eval (.tmp 66)=.slice (some ⟨b',0,none⟩) 1 1∧y_.heap[b']?=some (.cells #[.int .i64 nn] 3):=h1.of 66 (by kernel_rfl)
             have hWy:WS≤y_.heap.size:=by rw [HWS.out]; exact h.below.size
             refine wp_append_own y_ (.tmp 64) (.tmp 66) 22 rfl WS 3 j0 _ 1 8 Tryz.underlying22 hj hy0 hy1 hy2 rfl (by decide) _ _ _ rfl ho64 ⟨b',0,none⟩ 1 1 (#[Value.int .i64 nn]:Array Value).toList e66 rfl (row_news hb') (fun u hu=>by simp only [List.mem_cons,List.not_mem_nil,or_false] at hu; subst hu; rfl) (by have:=HPL.out; unfold maxLen; omega) (by have:=HPL.out; omega) hWy ?_
             intro v9 w9 ho9 hg9 _
             refine ⟨v9,rfl,fun t ht=>?_,hg9.size,hg9.os,hg9.tape,hg9.output,hg9.size,fun k hk=>hg9.block k (by rw [HWS.out] at hWy; omega) (fun e=>by have:=(ho64.lt k e.symm).1; rw [HWS.out] at this; omega)⟩
             cases ht
             show w9.ownsRow WS 3 1 v9 ((Ru.pre fa)++[nn]).length (((Ru.pre fa)++[nn]).map (Value.int .i64))
             rw [List.length_append,List.map_append]
             exact ho9
           refine AllOpsI.cons (fun a y_ h hO=>?_) ?_
           · rw [if_neg (by decide)]
             have ho:y_.ownsRow WS 3 1 (a.eval (.tmp 67)) ((Ru.pre fa)++[nn]).length (((Ru.pre fa)++[nn]).map (Value.int .i64)):=h.of 67 (by kernel_rfl)
             have e59:a.eval (.tmp 59)=(.int .i64 pd:Value):=h.of 59 (by kernel_rfl)
             obtain ⟨a9,c9,e67⟩:=own_slice ho
             rw [e67] at ho
             refine opOk_val (v:=.agg #[.int .i64 pd,.slice a9 ((Ru.pre fa)++[nn]).length c9]) (w':=y_) (wanted_none rfl) ?_ (fun t ht=>by cases ht; exact ⟨⟨_,rfl,ho⟩,trivial⟩) (Below.refl _ _)
             have ec:=evc a
             generalize a.eval=ev at *
             clear h hO
             go_simp
           refine AllOpsI.cons (fun a y_ h hO=>?_) ?_
           · rw [if_neg (by decide)]
             obtain ⟨u,e68,ho⟩:∃ u,a.eval (.tmp 68)=.agg #[.int .i64 pd,u]∧y_.ownsRow WS 3 1 u ((Ru.pre fa)++[nn]).length (((Ru.pre fa)++[nn]).map (Value.int .i64)):=h.of 68 (by kernel_rfl)
             obtain ⟨a9,c9,rfl⟩:=own_slice ho
             refine opOk_val (v:=.slice (some ⟨y_.heap.size,0,none⟩) 1 1) (w':=y_.alloc (.cells #[.int .i64 pd,.slice a9 ((Ru.pre fa)++[nn]).length c9] 55)) (wanted_none rfl) ?_ (fun t ht=>by cases ht; exact ⟨⟨_,_,rfl,heap_alloc_new y_ _,ho.alloc _⟩,trivial⟩) ((Below.refl _ _).alloc (Nat.le_refl _) _)
             have ec:=evc a
             generalize a.eval=ev at *
             clear h hO
             go_simp
           exact AllOpsI.nil
          case htailA =>
           rintro ⟨tm0,df⟩ y_ hI _
           have e57:Act.eval ⟨tm0,df⟩ (.tmp 57)=(.slice ao qo.length co):=hI.all 0 _ 57 (by decide) rfl rfl
           obtain ⟨b',u9,e69,hb',hou⟩:∃ b' u,Act.eval ⟨tm0,df⟩ (.tmp 69)=.slice (some ⟨b',0,none⟩) 1 1∧y_.heap[b']?=some (.cells #[.int .i64 pd,u] 55)∧y_.ownsRow WS 3 1 u (Ru.pre fa++[nn]).length ((Ru.pre fa++[nn]).map (Value.int .i64)):=hI.all 12 _ 69 (by decide) rfl rfl
           have hoy:=ownsRow_below HO5.out hI.below
           have hby:Below w1.heap.size w1 y_:=HB5.out.trans (hI.below.mono HB5.out.size)
           have hWS:w1.heap.size≤WS:=by rw [HWS.out]; exact HB5.out.size
           have hsz10:w1.heap.size≤y_.heap.size:=hby.size
           have hsN:tm0.size=73:=hI.size
           obtain ⟨a9,c9,evi⟩:=own_slice hou
           show wpOps Tryz.prog _ _ [13,14] _ _
           rw [wpOps_cons]
           refine wpOp_wp rfl (wanted_none rfl) (wp_append_own y_ (.tmp 57) (.tmp 69) 27 rfl w1.heap.size 55 i0 _ 2 32 Tryz.underlying27 hi hz0 hz1 hz2 rfl (by decide) (.slice ao qo.length co) qo.length _ e57 hoy ⟨b',0,none⟩ 1 1 (#[Value.int .i64 pd,u9]:Array Value).toList e69 rfl (row_news hb') ?h1B ?h63B ?hbyB hsz10 ?_)
           case h1B =>
            intro u hu
            simp only [List.mem_cons,List.not_mem_nil,or_false] at hu
            rcases hu with rfl | rfl
            · rfl
            · rw [evi]
              rfl
           case h63B=>unfold maxLen; omega
           case hbyB=>omega
           intro v11 w11 ho11 hg11 _
           obtain ⟨av,cv,rfl⟩:=own_slice ho11
           have hown11:∀ kQ,((.slice ao qo.length co):Value).ownBlock=some kQ→w1.heap.size≤kQ:=fun kQ hk=>(hoy.lt kQ hk).1
           have h3:∀ (B':Nat) (l:List Int) (u:Value),y_.ownsRow B' 3 1 u l.length (l.map (Value.int .i64))→w11.ownsRow B' 3 1 u l.length (l.map (Value.int .i64)):=fun B' l u hu=>own_type hu (fun k c hk=>(hg11.block k (heap_lt hk) (fun e=>by have:=own_ty hoy e.symm hk; cases this)).trans hk)
           have HB11:Hid (Below w1.heap.size w1 w11):=hby.grown hg11 hby.size (fun kQ hk=>hown11 kQ hk)
           have HR11:Hid (w11.ownsRow w1.heap.size 3 1 u9 (Ru.pre fa++[nn]).length ((Ru.pre fa++[nn]).map (Value.int .i64))):=rl_own_le (h3 _ _ _ hou) hWS
           have HRO11:Hid (∀ p,p∈qo→w11.ownsRow w1.heap.size 3 1 p.2 p.1.args.length (p.1.args.map (Value.int .i64))):=fun p hp=>h3 _ _ _ (ownsRow_below (HRO5.out p hp).1 hI.below)
           have HO11:Hid (w11.ownsRow w1.heap.size 55 2 (.slice av (qo.length+1) cv) (qo++[((⟨pd,Ru.pre fa++[nn]⟩:Rl.Fc),u9)]).length ((qo++[((⟨pd,Ru.pre fa++[nn]⟩:Rl.Fc),u9)]).map fcCells).flatten):=by
            show World.ownsRow _ _ _ _ _ _ _
            rw [List.length_append,List.map_append,List.flatten_append]
            exact ho11
           have e70:Act.eval (Act.put ⟨tm0,df⟩ (some 70) (.slice av (qo.length+1) cv)) (.tmp 70)=(.slice av (qo.length+1) cv):=put_get_self (by show 70<tm0.size; omega)
           rw [wpOps_cons]
           refine wpOp_val (v:=(.slice av (qo.length+1) cv)) (w':=w11) rfl (wanted_none rfl) ?_ ?_
           · show Sem.run Tryz.prog (execOp (Act.eval (Act.put ⟨tm0,df⟩ (some 70) (.slice av (qo.length+1) cv))) _) w11=_
             generalize Act.eval (Act.put ⟨tm0,df⟩ (some 70) (.slice av (qo.length+1) cv))=ev at *
             clear hI
             go_simp
           have hst:∀ t,t∉[57,58,59,60,61,62,63,64,65,66,67,68,69,70,5]→((tm0.setIfInBounds 70 (.slice av (qo.length+1) cv)).setIfInBounds 5 (.slice av (qo.length+1) cv)).getD t undef=_:=fun t ht=>by
            have hB:t≠70:=fun e=>ht (by rw [e]; decide)
            have hC:t≠5:=fun e=>ht (by rw [e]; decide)
            exact ((put_get_ne (a:=Act.put ⟨tm0,df⟩ (some 70) (.slice av (qo.length+1) cv)) hC).trans (put_get_ne (a:=⟨tm0,df⟩) hB)).trans (hI.still t ht)
           have hs3:((tm0.setIfInBounds 70 (.slice av (qo.length+1) cv)).setIfInBounds 5 (.slice av (qo.length+1) cv)).size=73:=by simp [hsN]
           have h5:((tm0.setIfInBounds 70 (.slice av (qo.length+1) cv)).setIfInBounds 5 (.slice av (qo.length+1) cv)).getD 5 undef=(.slice av (qo.length+1) cv):=put_get_self (a:=Act.put ⟨tm0,df⟩ (some 70) (.slice av (qo.length+1) cv)) (by rw [put_size]; show 5<tm0.size; omega)
           obtain rfl:df=[]:=hI.defers
           clear hI e57 e69 hb' hou hoy hby hsz10 hsN evi ho11 hg11 hown11 h3 e70
           show Exit.then _ _ Exit.normal ⟨(tm0.setIfInBounds 70 (.slice av (qo.length+1) cv)).setIfInBounds 5 (.slice av (qo.length+1) cv),[]⟩ _
           generalize (tm0.setIfInBounds 70 (.slice av (qo.length+1) cv)).setIfInBounds 5 (.slice av (qo.length+1) cv)=tm at *
           have hF8:=tmps_fold [57,58,59,60,61,62,63,64,65,66,67,68,69,70,5] tm _ (hs3.trans (by rfl)) hst
           clear hs3 hst
           simp only [List.foldl_cons,List.foldl_nil,h5] at hF8
           clear h5
           generalize tm.getD 57 undef=x57 at hF8
           generalize tm.getD 58 undef=x58 at hF8
           generalize tm.getD 59 undef=x59 at hF8
           generalize tm.getD 60 undef=x60 at hF8
           generalize tm.getD 61 undef=x61 at hF8
           generalize tm.getD 62 undef=x62 at hF8
           generalize tm.getD 63 undef=x63 at hF8
           generalize tm.getD 64 undef=x64 at hF8
           generalize tm.getD 65 undef=x65 at hF8
           generalize tm.getD 66 undef=x66 at hF8
           generalize tm.getD 67 undef=x67 at hF8
           generalize tm.getD 68 undef=x68 at hF8
           generalize tm.getD 69 undef=x69 at hF8
           generalize tm.getD 70 undef=x70 at hF8
           simp only [List.setIfInBounds_toArray,List.set_cons_zero,List.set_cons_succ] at hF8
           subst hF8
           go_wp2_with fail
           go_roundw
           case rel=>exact ⟨k+1,qo++[((⟨pd,Ru.pre fa++[nn]⟩:Rl.Fc),u9)],[],w11.heap.size,hlt,by go_num,HE3.out _,HO11.out,fun p hp=>by
            rcases List.mem_append.mp hp with hp | hp
            · exact ⟨HRO11.out p hp,fun k hk=>((HRO11.out p hp).lt k hk).2⟩
            · rcases List.mem_singleton.mp hp with rfl
              exact ⟨HR11.out,fun k hk=>(HR11.out.lt k hk).2⟩,World.ownsRow_nil _ _ _ _,⟨Nat.le_refl _,HB11.out.size⟩,by rw [List.length_append]; exact Nat.succ_le_succ hqk,Nat.zero_le _,fun _ h=>absurd h (by simp),HB11.out⟩
           case measure=>simp [intOf]; omega
    · have HEND:Hid (Ru.folded f (Q.map (·.1)) []=qo.map (·.1)):=by show _=_; rw [HE.out,List.drop_of_length_le (by rw [List.length_map]; omega)]; exact List.append_nil _
      have hdd:decide (k<Q.length)=false:=decide_eq_false hlt
      clear HE
      go_wp2_with fail
      go_ret
      exact ⟨_,rfl,Q.map (·.1),HPM.out,HSRT.out,⟨qo,HEND.out.symm,rl_own_le HO.out HSZ.out,fun p hp=>rl_own_le (HRO.out p hp).1 HSZ.out⟩,HB0.out.trans (HB.out.mono (Nat.le_trans HBW.out HSZ.out))⟩
namespace Ru
def headsOut (p:Sc.Prog) (i:Int) (l:List Rl.Fc):List Rl.Fc:=heads (rule p i) (waysOut p i l)
theorem heads_nil (r:Sc.Rule):heads r []=[]:=by unfold heads headsL; split <;> rfl
theorem mem_waysOut {p:Sc.Prog} {i:Int} {l:List Rl.Fc} (hi:In p i l) {x:List Int} (hx:x∈waysOut p i l):Sol (Rl.set l) (rule p i) x:=by
 unfold waysOut at hx
 split at hx
 · cases hx
 · exact (mem_ways (ruleIn_of hi.rule hi.set) (right_nums hi.set) x).mp (mem_srt.mp hx)
theorem waysErr_in {p:Sc.Prog} {i:Int} {l:List Rl.Fc} (h:waysErr p i l=0):In p i l:=by
 refine check_in (Classical.byContradiction fun hc=>?_)
 unfold waysErr at h
 rw [if_pos hc] at h
 exact hc h
theorem waysOut_le {p:Sc.Prog} {i:Int} {l:List Rl.Fc} (h:waysErr p i l=0):(waysOut p i l).length≤2000:=by
 have hin:=waysErr_in h
 unfold waysOut
 rw [if_neg (fun hn=>hn h)]
 have hnd:=ways_nodup (ruleIn_of hin.rule hin.set) (right_nums hin.set) (set_nodup l)
 rw [(srt_perm hnd).length_eq]
 unfold waysErr at h
 split at h
 · exact absurd h (by assumption)
 · split at h
   · cases h
   · omega
theorem termsIn_of {ar:List Int} {r:Sc.Rule} (hr:RuleOk ar r):TermsIn r.vars.toNat r.terms:=fun t ht=>by
 have h:=hr.tm t ht
 by_cases h0:t.var<0
 · exact .inl h0
 · exact .inr (by have:=h.hi; omega)
theorem rule_short {p:Sc.Prog} (h:ProgOk p) {r:Sc.Rule} (hr:RuleOk p.arity r):r.terms.length≤3:=by
 have h2:=h.ar r.pred.toNat (by have:=hr.p0; have:=hr.p1; omega)
 have:=hr.tl
 omega
end Ru
theorem RulesCap.below {w w':World} {vr:Value} {l:List Sc.Rule} (h:RulesCap w vr) (hP:PRulesV w vr l) (hb:Below w.heap.size w w'):RulesCap w' vr:=by
 intro b off n cap hv k hk v hc
 obtain ⟨ao,c,hv2,hA⟩:=hP
 rw [hv] at hv2
 injection hv2 with e1 e2 e3
 subst e1 e2
 obtain ⟨b',off',hb',_,_,_,⟨vb,q3,_⟩,_⟩:=prules_at hA k hk
 injection hb' with hb'
 injection hb' with e1 e2
 subst e1 e2
 have h1:=cell_below hb q3
 rw [hc] at h1
 injection h1 with h1
 subst h1
 exact h b off l.length cap hv k hk _ q3
theorem nums_cell {B:Nat} {w:World} {v:Value} {q:List (List Int × Value)} (h:NumsP B w v q) {k:Nat} (hk:k<q.length):∃ g cap y,v=.slice (some ⟨g,0,none⟩) q.length cap∧q[k]?=some y∧y∈q∧w.cell? ⟨g,k,none⟩=some y.2∧w.ownsRow B 3 1 y.2 y.1.length (y.1.map (Value.int .i64)):=by
 rcases ownsRow_forms9 h.1 with ⟨_,h0⟩ | ⟨g,cap,hv⟩
 · omega
 · subst hv
   refine ⟨g,cap,q[k],rfl,List.getElem?_eq_getElem hk,List.getElem_mem hk,?_,h.2 _ (List.getElem_mem hk)⟩
   rw [World.ownsRow.cellAt h.1 k (by omega),List.getElem?_map,List.getElem?_eq_getElem hk]
   rfl
theorem Heads_any (p:Sc.Prog) (i:Int) (facts:List Rl.Fc) (va vn vr vf:Value) (w:World) (hP:ProgV w va vn vr p) (hF:ProgFit p) (hcap:RulesCap w vr) (hV:FactsV w vf facts) (hFl:facts.length≤9223372036854775807) (hFF:∀ f,f∈facts→FFit f) :
 Calls Tryz.prog 15 #[progVal va vn vr,.int .i64 i,vf] w fun e w'=>∃ v,e=.returned (.tuple #[v,.int .i64 (Ru.waysErr p i facts)])∧FactsP w.heap.size w' v (Ru.headsOut p i facts)∧Below w.heap.size w w':=by
 obtain ⟨i0,hi,hz0,hz1,hz2⟩:=info_parts rl_info49
 obtain ⟨a0,n0,rfl,_⟩:=id hP.ar
 obtain ⟨a1,n1,rfl,_⟩:=id hP.nm
 obtain ⟨a2,n2,rfl,hRA⟩:=id hP.rl
 obtain ⟨af,cf,rfl,_,hFA⟩:=id hV
 have bT:=(Below.refl w.heap.size w).alloc (Nat.le_refl _) (.cells #[.slice a0 p.arity.length n0,.slice a1 p.names.length n1,.slice a2 p.rules.length n2] 26)
 have HBX:Hid _:=heap_alloc_new w (.cells #[.slice a0 p.arity.length n0,.slice a1 p.names.length n1,.slice a2 p.rules.length n2] 26)
 have HB:Hid _:=bT
 have HC:Hid _:=Ways_any p i facts _ _ _ _ _ (hP.below bT) hF (hcap.below hP.rl bT) (factsV_below hV bT) hFl hFF
 have HRA:Hid _:=hRA
 have HHO:Hid (Ru.headsOut p i facts=Ru.heads (Ru.rule p i) (Ru.waysOut p i facts)):=rfl
 clear hP hF hV hFA hFF bT hcap hRA
 go_enter Tryz.func15,Tryz.ntmps15
 go_upto_region 1 with fail
 generalize w.alloc (.cells #[.slice a0 p.arity.length n0,.slice a1 p.names.length n1,.slice a2 p.rules.length n2] 26)=w1 at *
 have c0:w1.cell? ⟨w.heap.size,0,none⟩=some (.slice a0 p.arity.length n0):=by rw [Lib.cell_of_heap HBX.out]; rfl
 have c1:w1.cell? ⟨w.heap.size,1,none⟩=some (.slice a1 p.names.length n1):=by rw [Lib.cell_of_heap HBX.out]; rfl
 have c2:w1.cell? ⟨w.heap.size,2,none⟩=some (.slice a2 p.rules.length n2):=by rw [Lib.cell_of_heap HBX.out]; rfl
 go_wp2_with fail
 refine Calls.mono HC.out ?_
 rintro _ w2 ⟨v,q,rfl,hN,hq,hb2⟩
 have HB2:Hid (Below w.heap.size w w2):=HB.out.trans (hb2.mono HB.out.size)
 have HBX2:Hid _:=(hb2.block _ (heap_lt HBX.out)).trans HBX.out
 have HQ:Hid _:=hq
 have HSZ:Hid (w.heap.size≤w2.heap.size):=HB2.out.size
 obtain ⟨av,cv,rfl⟩:=own_slice hN.1
 have HN:Hid (NumsP w1.heap.size w2 (.slice av q.length cv) q):=hN
 clear c0 c1 c2 hb2 HB HBX HC hN hq
 by_cases he:Ru.waysErr p i facts=0
 · have hin:=Ru.waysErr_in he
   have hql:q.length≤2000:=by have:=Ru.waysOut_le he; rw [← HQ.out,List.length_map] at this; exact this
   have HSOL:Hid (∀ y,y∈q→Ru.Sol (Rl.set facts) (Ru.rule p i) y.1):=fun y hy=>Ru.mem_waysOut hin (by rw [← HQ.out]; exact List.mem_map_of_mem hy)
   have HRT:Hid (∀ y,y∈q→Ru.Right p.arity (Ru.head (Ru.rule p i) y.1)):=fun y hy=>Ru.head_right hin.rule hin.set (HSOL.out y hy)
   have HTI:Hid (∀ y,y∈q→Ru.TermsIn y.1.length (Ru.rule p i).terms):=fun y hy=>by rw [(HSOL.out y hy).1]; exact Ru.termsIn_of hin.rule
   have htl:=Ru.rule_short hin.ok hin.rule
   have HFO:Hid (¬ (Ru.rule p i).fold=0→¬ (Ru.rule p i).terms.length=0):=fun h=>(hin.rule.ff h).1
   obtain ⟨k,rfl⟩:∃ k:Nat,i=k:=⟨i.toNat,by have:=hin.lo; omega⟩
   have hk:k<p.rules.length:=by have:=hin.hi; omega
   have HRU:Hid (Ru.rule p (k:Int)=Sc.ruleD p.rules k):=by show _=_; unfold Ru.rule; rw [Int.toNat_natCast]
   rw [HRU.out] at HSOL HRT HTI HFO htl HHO
   obtain ⟨b,off,rfl,q0,⟨vt,q1,hT⟩,q2,⟨vb,q3,hL⟩,q4⟩:=prules_at HRA.out k hk
   obtain ⟨at_,ct,rfl,_⟩:=id hT
   obtain ⟨ab,cb,rfl,_⟩:=id hL
   have HT:Hid _:=hT
   have p0:=cell_below HB2.out q0
   have p1:=cell_below HB2.out q1
   have p2:=cell_below HB2.out q2
   have p3:=cell_below HB2.out q3
   have p4:=cell_below HB2.out q4
   have c2:w2.cell? ⟨w.heap.size,2,none⟩=some (.slice (some ⟨b,off,none⟩) p.rules.length n2):=by rw [Lib.cell_of_heap HBX2.out]; rfl
   clear q0 q1 q2 q3 q4 hT hL hin HRA HRU HBX2
   generalize Sc.ruleD p.rules k=r at *
   have HER:Hid _:=he
   rw [he]
   clear he
   go_upto_region 5 with fail
   have hba:Below w2.heap.size w2 (w2.alloc (.cells #[.int .i64 r.pred,.slice at_ r.terms.length ct,.int .i64 r.fold,.slice ab r.body.length cb,.int .i64 r.vars] 40)):=(Below.refl _ _).alloc (Nat.le_refl _) _
   have HRB:Hid _:=heap_alloc_new w2 (.cells #[.int .i64 r.pred,.slice at_ r.terms.length ct,.int .i64 r.fold,.slice ab r.body.length cb,.int .i64 r.vars] 40)
   have HN3:Hid (NumsP w1.heap.size (w2.alloc (.cells #[.int .i64 r.pred,.slice at_ r.terms.length ct,.int .i64 r.fold,.slice ab r.body.length cb,.int .i64 r.vars] 40)) (.slice av q.length cv) q):=NumsP.below HN.out hba
   have HB3:Hid _:=HB2.out.trans (hba.mono HB2.out.size)
   have HT3:Hid _:=ptermsV_below HT.out HB3.out
   clear p0 p1 p2 p3 p4 c2 HB2 HN HT hba
   generalize hRBn:w2.heap.size=RB at *
   generalize w2.alloc (.cells #[.int .i64 r.pred,.slice at_ r.terms.length ct,.int .i64 r.fold,.slice ab r.body.length cb,.int .i64 r.vars] 40)=w3 at *
   clear hRBn
   have r0:w3.cell? ⟨RB,0,none⟩=some (.int .i64 r.pred):=by rw [Lib.cell_of_heap HRB.out]; rfl
   have r1:w3.cell? ⟨RB,1,none⟩=some (.slice at_ r.terms.length ct):=by rw [Lib.cell_of_heap HRB.out]; rfl
   have r2:w3.cell? ⟨RB,2,none⟩=some (.int .i64 r.fold):=by rw [Lib.cell_of_heap HRB.out]; rfl
   clear HRB
   go_wp2_with fail
   go_loopw [11,31] (fun vh iv wr=>∃ (j:Nat) (qh:List Fv),j≤q.length∧iv=.int .i64 j∧Hid (wr.ownsRow w3.heap.size 55 2 vh qh.length (qh.map fcCells).flatten)∧Hid (qh.map (·.1)=(q.take j).map (fun y=>Ru.head r y.1))∧Hid (∀ p,p∈qh→wr.ownsRow w3.heap.size 3 1 p.2 p.1.args.length (p.1.args.map (Value.int .i64)))∧qh.length≤j∧Hid (Below w3.heap.size w3 wr)) (fun _ iv _=>q.length - (intOf iv).toNat)
   case atStart=>exact ⟨0,[],Nat.zero_le _,rfl,World.ownsRow_nil _ _ _ _,rfl,fun _ hp=>absurd hp (by simp),Nat.le_refl _,Below.refl _ _⟩
   case round =>
    obtain ⟨wo,hwo⟩:∃ wo,wo=wr:=⟨_,rfl⟩
    subst hwo
    obtain ⟨j,qh,hj,rfl,HO,HQH,HRO,hqk,HB4⟩:=hrel
    obtain ⟨ao,co,rfl⟩:=own_slice HO.out
    have t0:=cell_below HB4.out r0
    have t1:=cell_below HB4.out r1
    have t2:=cell_below HB4.out r2
    by_cases hlt:j<q.length
    · obtain ⟨g,cap,y,hv,hy,hym,hyc,hyo⟩:=nums_cell HN3.out hlt
      injection hv with e1 e2 e3
      subst e1 e3
      obtain ⟨ay,cy,hyv⟩:=own_slice hyo
      have HYI:Hid (IntsV wo y.2 y.1):=intsV_below (own_ints hyo) HB4.out
      rw [hyv] at hyc HYI
      have yc:=cell_below HB4.out hyc
      have HFI:Hid _:=FillFact_any r.pred r.terms y.1 _ _ wo (ptermsV_below HT3.out HB4.out) HYI.out (by omega) (HTI.out y hym)
      have HTK:Hid ((q.take (j+1)).map (fun y=>Ru.head r y.1)=(q.take j).map (fun y=>Ru.head r y.1)++[(⟨r.pred,Ru.fill r.terms y.1⟩:Rl.Fc)]):=by
       show _=_
       rw [List.take_add_one,hy,List.map_append]
       rfl
      clear hy hym hyc hyo hyv HYI
      generalize Ru.fill r.terms y.1=fa at *
      generalize y.1.length=yl at *
      go_wp2_with fail
      refine Calls.mono HFI.out ?_
      rintro _ w5 ⟨u,rfl,hrow,hb5⟩
      have HO5:Hid (w5.ownsRow w3.heap.size 55 2 (.slice ao qh.length co) qh.length (qh.map fcCells).flatten):=ownsRow_below HO.out hb5
      have HRO5:Hid (∀ p,p∈qh→w5.ownsRow w3.heap.size 3 1 p.2 p.1.args.length (p.1.args.map (Value.int .i64))):=fun p hp=>ownsRow_below (HRO.out p hp) hb5
      have HB5:Hid _:=HB4.out.trans (hb5.mono HB4.out.size)
      have HR5:Hid (w5.ownsRow w3.heap.size 3 1 u fa.length (fa.map (Value.int .i64))):=rl_own_le hrow HB4.out.size
      obtain ⟨au,cu,rfl⟩:=own_slice hrow
      have hsz5:=HB5.out.size
      clear hrow hb5 HFI HO HRO HB4 t0 t1 t2 yc
      go_wp2_with (at_builtin; refine wpList_append_own _ rfl (.tmp 35) (.tmp 42) 27 rfl w3.heap.size 55 i0 _ 2 32 Tryz.underlying27 hi hz0 hz1 hz2 rfl (by decide) _ _ _ rfl (HO5.out.alloc _) ⟨w5.heap.size,0,none⟩ 1 1 (fcCells (⟨r.pred,fa⟩,.slice au fa.length cu)) rfl rfl ?c1 ?c2 ?c3 ?c4 ?c5 ?_)
      case c1=>exact news2 w5 _ _ 55
      case c2=>intro u hu; simp [fcCells] at hu; rcases hu with rfl | rfl <;> rfl
      case c3=>unfold maxLen; omega
      case c4=>omega
      case c5=>simp; omega
      intro vs2 w6 hown6 hgrow6 _
      obtain ⟨ao9,cap9,rfl⟩:=own_slice hown6
      have hba:Below w5.heap.size w5 (w5.alloc (.cells #[.int .i64 r.pred,.slice au fa.length cu] 55)):=(Below.refl _ _).alloc (Nat.le_refl _) _
      have h3:∀ (l:List Int) (u:Value),w5.ownsRow w3.heap.size 3 1 u l.length (l.map (Value.int .i64))→w6.ownsRow w3.heap.size 3 1 u l.length (l.map (Value.int .i64)):=fun l u hu=>own_type hu (fun k c hk=>(hgrow6.block k (Nat.lt_of_lt_of_le (heap_lt hk) hba.size) (fun e=>by have:=own_ty HO5.out e.symm hk; cases this)).trans ((hba.block k (heap_lt hk)).trans hk))
      have HB6:Hid (Below w3.heap.size w3 w6):=(HB5.out.alloc HB5.out.size _).grown hgrow6 (by simp; omega) (fun k hk=>(HO5.out.lt k hk).1)
      have HO6:Hid (w6.ownsRow w3.heap.size 55 2 (.slice ao9 (qh.length+1) cap9) (qh++[((⟨r.pred,fa⟩:Rl.Fc),Value.slice au fa.length cu)]).length ((qh++[((⟨r.pred,fa⟩:Rl.Fc),Value.slice au fa.length cu)]).map fcCells).flatten):=by
       show World.ownsRow _ _ _ _ _ _ _
       rw [List.length_append,List.map_append,List.flatten_append]
       simpa using hown6
      have HRO6:Hid (∀ p,p∈qh++[((⟨r.pred,fa⟩:Rl.Fc),Value.slice au fa.length cu)]→w6.ownsRow w3.heap.size 3 1 p.2 p.1.args.length (p.1.args.map (Value.int .i64))):=fun p hp=>by
       rcases List.mem_append.mp hp with hp | hp
       · exact h3 _ _ (HRO5.out p hp)
       · rcases List.mem_singleton.mp hp with rfl
         exact h3 _ _ HR5.out
      have HT2:Hid ((qh++[((⟨r.pred,fa⟩:Rl.Fc),Value.slice au fa.length cu)]).map (·.1)=(q.take (j+1)).map (fun y=>Ru.head r y.1)):=by show _=_; rw [HTK.out,← HQH.out,List.map_append]; rfl
      clear hown6 hgrow6 HO5 HRO5 HB5 HR5 h3 hba HTK HQH
      go_wp2_with fail
      go_roundw
      case rel=>exact ⟨j+1,_,hlt,by go_num,HO6.out,HT2.out,HRO6.out,by rw [List.length_append]; exact Nat.succ_le_succ hqk,HB6.out⟩
      case measure=>simp [intOf]; omega
    · have hdd:decide (j<q.length)=false:=decide_eq_false hlt
      have HQE:Hid (qh.map (·.1)=(Ru.waysOut p k facts).map (Ru.head r)):=by show _=_; rw [HQH.out,List.take_of_length_le (by omega),← HQ.out,List.map_map]; rfl
      have HAR:Hid (∀ p,p∈qh→p.1.args.length=r.terms.length∧∀ n,n∈p.1.args→Sc.isNum n=true):=fun f hf=>by
       have h1:f.1∈qh.map (·.1):=List.mem_map_of_mem hf
       rw [HQH.out] at h1
       obtain ⟨y,hy,hy2⟩:=List.mem_map.mp h1
       have h2:=HRT.out y (List.mem_of_mem_take hy)
       rw [← hy2]
       exact ⟨by show (Ru.fill r.terms y.1).length=_; unfold Ru.fill; rw [List.length_map],h2.nm⟩
      have hql2:qh.length≤2000:=by omega
      have HB7:Hid (Below w.heap.size w wo):=HB3.out.trans (HB4.out.mono HB3.out.size)
      clear HQH HN3
      by_cases hf:r.fold=0
      · have g0:(r.fold != 0)=false:=by simpa using hf
        have HSE:Hid (Rl.set (qh.map (·.1))=Ru.headsOut p k facts):=by show _=_; rw [HHO.out,HQE.out]; unfold Ru.heads Ru.headsL; rw [if_pos hf]
        have hFP:FactsP w3.heap.size wo (.slice ao qh.length co) (qh.map (·.1)):=⟨qh,rfl,HO.out,HRO.out⟩
        have HS:Hid _:=Set_any (qh.map (·.1)) _ wo hFP.toV (by rw [List.length_map]; omega) (fun f hf2=>by
         obtain ⟨z,hz,rfl⟩:=List.mem_map.mp hf2
         have:=(HAR.out z hz).1
         omega)
        clear hf hFP
        go_wp2_with fail
        refine Calls.mono HS.out ?_
        rintro _ w8 ⟨v',rfl,hFP,hb8⟩
        obtain ⟨q8,h81,h82,h83⟩:=hFP
        obtain ⟨a8,c8,rfl⟩:=own_slice h82
        have HF8:Hid (FactsP w.heap.size w8 (.slice a8 q8.length c8) (Ru.headsOut p k facts)):=⟨q8,by rw [h81]; exact HSE.out,rl_own_le h82 HB7.out.size,fun p hp=>rl_own_le (h83 p hp) HB7.out.size⟩
        have HB8:Hid (Below w.heap.size w w8):=HB7.out.trans (hb8.mono HB7.out.size)
        clear h81 h82 h83 hb8 HS
        go_wp2_with fail
        refine bodyPost_ret (results_tmp2 rfl _ _ _) rfl ?_
        exact ⟨_,by rw [HER.out]; rfl,HF8.out,HB8.out⟩
      · have g0:(r.fold != 0)=true:=by simpa using hf
        have ht0:=HFO.out hf
        have HFD:Hid _:=folded_any r.fold (r.terms.length - 1) qh (.slice ao qh.length co) w3.heap.size wo HO.out HRO.out hql2 (by omega) (fun p hp=>⟨by have:=(HAR.out p hp).1; omega,(HAR.out p hp).2⟩)
        have HSE:Hid (∀ S:List Rl.Fc,S.Perm (qh.map (·.1))→S.Pairwise (fun a b=>Rl.ord a b≤0)→Rl.set (Ru.folded r.fold S [])=Ru.headsOut p k facts):=fun S h1 h2=>by rw [HHO.out]; exact Ru.heads_folded hf (by rw [← HQE.out]; exact h1) h2
        have HW3:Hid (w.heap.size≤w3.heap.size):=HB3.out.size
        clear hf ht0
        go_wp2_with fail
        refine Calls.mono HFD.out ?_
        rintro _ w7 ⟨v7,S,rfl,hS1,hS2,hFP7,hb7⟩
        have HSE2:Hid _:=HSE.out S hS1 hS2
        have hSl:S.length=qh.length:=by have:=hS1.length_eq; rw [List.length_map] at this; exact this
        have HB9:Hid (Below w.heap.size w w7):=HB7.out.trans (hb7.mono HW3.out)
        have HSA:Hid (∀ f,f∈S→f.args.length=r.terms.length):=fun f hf=>by
         obtain ⟨z,hz,rfl⟩:=List.mem_map.mp (hS1.mem_iff.mp hf)
         exact (HAR.out z hz).1
        have HS:Hid _:=Set_any (Ru.folded r.fold S []) _ w7 hFP7.toV (by have:=Ru.folded_length r.fold S []; omega) (fun f hf2=>by
         have:=Ru.folded_args r.fold r.terms.length S [] HSA.out f hf2
         omega)
        obtain ⟨q7,_,h72,_⟩:=hFP7
        obtain ⟨a7,c7,rfl⟩:=own_slice h72
        clear hS1 hS2 h72 hb7 HFD HSE hSl
        go_wp2_with fail
        refine Calls.mono HS.out ?_
        rintro _ w8 ⟨v',rfl,hFP,hb8⟩
        obtain ⟨q8,h81,h82,h83⟩:=hFP
        obtain ⟨a8,c8,rfl⟩:=own_slice h82
        have HF8:Hid (FactsP w.heap.size w8 (.slice a8 q8.length c8) (Ru.headsOut p k facts)):=⟨q8,by rw [h81]; exact HSE2.out,rl_own_le h82 HB9.out.size,fun p hp=>rl_own_le (h83 p hp) HB9.out.size⟩
        have HB8:Hid (Below w.heap.size w w8):=HB9.out.trans (hb8.mono HB9.out.size)
        clear h81 h82 h83 hb8 HS
        go_wp2_with fail
        refine bodyPost_ret (results_tmp2 rfl _ _ _) rfl ?_
        exact ⟨_,by rw [HER.out]; rfl,HF8.out,HB8.out⟩
 · have g0:(Ru.waysErr p i facts != 0)=true:=by simpa using he
   have HE:Hid (Ru.headsOut p i facts=[]):=by show _=_; unfold Ru.headsOut Ru.waysOut; rw [if_pos he]; exact Ru.heads_nil _
   clear he
   go_wp2_with fail
   refine bodyPost_ret (results_tmp2 rfl _ _ _) rfl ?_
   exact ⟨_,rfl,by rw [HE.out]; exact FactsP.nil _ _,HB2.out⟩
end Go.Proofs.YthenjegmigeieaaGreat
namespace Go.Proofs.YthenjegmigeieaaGreat
namespace Md
open Ru
theorem set_up {T:List Rl.Fc} (h:Rl.Up T):Rl.set T=T:=(Rl.isSet_eq ⟨h,fun _=>Iff.rfl⟩).symm
theorem fact_zero {p:Sc.Prog} (hc:Sc.check p=0) {f:Rl.Fc}:Sc.fact p f.pred f.args=0↔Right p.arity f:=by
 unfold Sc.fact Sc.thn
 rw [if_pos hc]
 exact right_iff
theorem first_zero' {α:Type} {f:α→Int}:∀ {l:List α},(∀ x,x∈l→f x=0)→Sc.first f l=0
 | [],_=>rfl
 | x::r,h=>by
  unfold Sc.first
  rw [if_pos (h x List.mem_cons_self)]
  exact first_zero' fun y hy=>h y (List.mem_cons_of_mem _ hy)
theorem factsErr_zero {p:Sc.Prog} (hc:Sc.check p=0) {l:List Rl.Fc}:factsErr p l=0↔∀ f,f∈l→Right p.arity f:=by
 unfold factsErr
 exact ⟨fun h f hf=>(fact_zero hc).mp (first0 h f hf),fun h=>first_zero' fun f hf=>(fact_zero hc).mpr (h f hf)⟩
section
variable {p:Sc.Prog} {T:List Rl.Fc} {i:Nat}
theorem err_cases (hc:Sc.check p=0) (hT:Facts p T) (hi:i<p.rules.length) :
 (waysErr p i T=0∧T.length≤60∧(Ru.ways T (Sc.ruleD p.rules i)).length≤2000) ∨
 (waysErr p i T=2∧(60<T.length∨2000<(Ru.ways T (Sc.ruleD p.rules i)).length)):=by
 have hck:check p i T=if 60<T.length then 2 else 0:=by
  unfold check
  rw [if_neg (fun h=>h hc),if_neg (by omega),(factsErr_zero hc).mpr hT.right]
 have hru:rule p (i:Int)=Sc.ruleD p.rules i:=by unfold rule; rw [Int.toNat_natCast]
 unfold waysErr
 rw [hck,set_up hT.up,hru]
 by_cases h1:60<T.length
 · right
   rw [if_pos h1]
   exact ⟨rfl,.inl h1⟩
 · rw [if_neg h1]
   by_cases h2:2000<(Ru.ways T (Sc.ruleD p.rules i)).length
   · right
     rw [if_neg (by simp),if_pos h2]
     exact ⟨rfl,.inr h2⟩
   · left
     rw [if_neg (by simp),if_neg h2]
     exact ⟨rfl,by omega,by omega⟩
theorem headsOut_hd (hp:ProgOk p) (hT:Facts p T) (hi:i<p.rules.length) (he:waysErr p i T=0):headsOut p i T=hd T (Sc.ruleD p.rules i):=by
 have hru:rule p (i:Int)=Sc.ruleD p.rules i:=by unfold rule; rw [Int.toNat_natCast]
 have hr:=hp.rule (Sc.ruleD p.rules i) (by unfold Sc.ruleD; rw [List.getD_eq_getElem?_getD,List.getElem?_eq_getElem hi]; exact List.getElem_mem hi)
 unfold headsOut waysOut
 rw [if_neg (fun h=>h he),hru,set_up hT.up]
 exact heads_perm _ (srt_perm (ways_nodup (ruleIn_of hr hT.right) (right_nums hT.right) (up_nodup hT.up)))
end
theorem ruleD_in {l:List Sc.Rule} {i:Nat} (h:i<l.length):Sc.ruleD l i∈l:=by unfold Sc.ruleD; rw [List.getD_eq_getElem?_getD,List.getElem?_eq_getElem h]; exact List.getElem_mem h
theorem mem_ruleD {l:List Sc.Rule} {r:Sc.Rule} (h:r∈l):∃ i,i<l.length∧Sc.ruleD l i=r:=by
 obtain ⟨i,hi,he⟩:=List.getElem_of_mem h
 exact ⟨i,hi,by unfold Sc.ruleD; rw [List.getD_eq_getElem?_getD,List.getElem?_eq_getElem hi,he]; rfl⟩
section
variable {p:Sc.Prog} {k:Int} {S T:List Rl.Fc}
theorem mem_union {l m:List Rl.Fc} {f:Rl.Fc}:f∈Rl.union l m↔f∈l∨f∈m:=by unfold Rl.union; rw [Rl.mem_set,List.mem_append]
theorem grows_union {r:Sc.Rule} (hr:r∈p.rules) (hk:lv p r.pred=k):Grows p k T (Rl.union T (hd T r)):=by
 refine ⟨fun f hf=>mem_union.mpr (.inl hf),fun f hf=>?_,(Rl.set_isSet _).1⟩
 rcases mem_union.mp hf with h | h
 · exact .inl h
 · exact .inr ⟨r,hr,hk,h⟩
theorem union_len {l m:List Rl.Fc}:(Rl.union l m).length≤l.length+m.length:=by
 have:=List.Nodup.length_le_of_subset (l₂:=l++m) (up_nodup (Rl.set_isSet (l++m)).1) fun f hf=>Rl.mem_set.mp hf
 rw [List.length_append] at this
 exact this
theorem same_len (hS:Rl.Up S) (hT:Rl.Up T) (h:∀ f,f∈S→f∈T) (hl:T.length≤S.length):T=S:=by
 refine Rl.up_ext hT hS fun f=>⟨fun hf=>?_,h f⟩
 refine Classical.byContradiction fun hn=>?_
 have hnd:(f::S).Nodup:=List.nodup_cons.mpr ⟨hn,up_nodup hS⟩
 have:=hnd.length_le_of_subset (l₂:=T) fun g hg=>by
  rcases List.mem_cons.mp hg with rfl | hg
  · exact hf
  · exact h g hg
 simp at this
 omega
theorem sub_len (hS:Rl.Up S) (h:∀ f,f∈S→f∈T):S.length≤T.length:=(up_nodup hS).length_le_of_subset h
theorem reach_none (h:∀ r,r∈p.rules→¬ lv p r.pred=k) {m:List Rl.Fc} (hm:Rl.Up m) (hS:Reach p k m S):S=m:=by
 induction hS with
 | refl=>rfl
 | step _ hg ih =>
  subst ih
  refine Rl.up_ext hg.up hm fun f=>⟨fun hf=>?_,hg.sub f⟩
  rcases hg.new f hf with h1 | ⟨r,hr,hk,_⟩
  · exact h1
  · exact absurd hk (h r hr)
theorem hd_len {r:Sc.Rule}:(hd T r).length≤(Ru.ways T r).length:=by
 unfold hd heads
 have h1:=List.Nodup.length_le_of_subset (l₂:=headsL r (Ru.ways T r)) (up_nodup (Rl.set_isSet (headsL r (Ru.ways T r))).1) fun f hf=>Rl.mem_set.mp hf
 refine Nat.le_trans h1 ?_
 unfold headsL
 split
 · rw [List.length_map]; exact Nat.le_refl _
 · refine Nat.le_trans (List.length_filterMap_le _ _) ?_
   rw [List.length_map]; exact Nat.le_refl _
theorem lev_none (hp:Fine p) {m:List Rl.Fc} (hm:Facts p m) (hT:Reach p k m T) (h:¬ Small p k T):LevRes p k m none:=fun _ hU cU sU=>h (small_back hp hm hT hU cU sU)
def Quiet (p:Sc.Prog) (k:Int) (S:List Rl.Fc) (i:Nat):Prop :=
 ∀ j,j<i→lv p (Sc.ruleD p.rules j).pred=k→S.length≤60∧(Ru.ways S (Sc.ruleD p.rules j)).length≤2000∧∀ f,f∈hd S (Sc.ruleD p.rules j)→f∈S
theorem quiet_all (hm:Facts p T) (h60:T.length≤60) (hS:Reach p k T S) (h:Quiet p k S p.rules.length):LevRes p k T (some S):=by
 refine ⟨hS,fun r hr hk f hf=>?_,⟨?_,fun r hr hk=>?_⟩⟩
 · obtain ⟨i,hi,rfl⟩:=mem_ruleD hr
   exact (h i hi hk).2.2 f hf
 · by_cases he:∃ r,r∈p.rules∧lv p r.pred=k
   · obtain ⟨r,hr,hk⟩:=he
     obtain ⟨i,hi,rfl⟩:=mem_ruleD hr
     exact (h i hi hk).1
   · rw [reach_none (fun r hr hk=>he ⟨r,hr,hk⟩) hm.up hS]
     exact h60
 · obtain ⟨i,hi,rfl⟩:=mem_ruleD hr
   exact (h i hi hk).2.1
end
end Md
end Go.Proofs.YthenjegmigeieaaGreat
