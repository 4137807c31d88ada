/- Own texts, one behind the other (part 11). -/
import Derived.Test.YthenjegmigeieaaGreatBundleJ
import Derived.Test.YthenjegmigeieaaGreatRows
import Derived.ProofKit
import Derived.Deep.Slices
import Derived.Deep.Strs
import Derived.JoinedOf
set_option maxRecDepth 100000
set_option maxHeartbeats 8000000
namespace Go.Proofs.YthenjegmigeieaaGreat
open Go.RowKit
theorem first_of_all {α:Type} {f:α→Int}:∀ {l:List α},(∀ x,x∈l→f x=0)→Sc.first f l=0:=by
 intro l
 induction l with
 | nil=>intro _; rfl
 | cons x r ih =>
  intro h
  unfold Sc.first
  rw [if_pos (h x (List.mem_cons_self))]
  exact ih fun y hy=>h y (List.mem_cons_of_mem _ hy)
namespace St
theorem check_focus {p:Sc.Prog} (k:Nat) (h:Sc.check p=0):Sc.check (focus p k)=0:=by
 unfold Sc.check at h
 split at h
 · omega
 · rename_i h1
   split at h
   · omega
   · rename_i h2
     obtain ⟨h3,h4⟩:=thn_zero_iff h
     have hl:(focus p k).rules.length≤p.rules.length:=List.length_filter_le _ _
     have ha:(focus p k).arity=p.arity:=rfl
     have hn:(focus p k).names=p.names:=rfl
     unfold Sc.check
     rw [ha,hn,if_neg (by omega),if_neg h2,h3]
     unfold Sc.thn
     rw [if_pos rfl]
     exact first_of_all fun r hr=>first_zero h4 r (List.mem_filter.mp hr).1
theorem focOut_in {p:Sc.Prog} {k:Int} (h:needErr p k=0):focOut p k=focus p k.toNat:=if_pos h
end St
theorem md_focFit {p:Sc.Prog} (k:Int) (h:ProgFit p):ProgFit (St.focOut p k):=by
 unfold St.focOut
 split
 · refine ⟨h.ar,h.nm,Nat.le_trans (List.length_filter_le _ _) h.rl,fun i hi=>?_⟩
   have hm:Sc.ruleD (St.focus p k.toNat).rules i∈p.rules:=by
    have h1:Sc.ruleD (St.focus p k.toNat).rules i=(St.focus p k.toNat).rules[i]:=by simp [Sc.ruleD,hi]
    rw [h1]
    exact (List.mem_filter.mp (List.getElem_mem hi)).1
   obtain ⟨j,hj,he⟩:=List.mem_iff_getElem.mp hm
   have h2:=h.rs j hj
   have h3:Sc.ruleD p.rules j=p.rules[j]:=by simp [Sc.ruleD,hj]
   rw [h3,he] at h2
   exact h2
 · exact ⟨Nat.zero_le _,Nat.zero_le _,Nat.zero_le _,fun i hi=>absurd hi (Nat.not_lt_zero _)⟩
namespace Md
theorem focus_res {p:Sc.Prog} {pd:Int} {l S:List Rl.Fc} (hn:St.needErr p pd=0) (h:MRes p l [] 0 S):∃ S',MRes (St.focOut p pd) l [] 0 S'∧∀ (y:List Int) (z:List Bool),Rl.matchL S pd y z=Rl.matchL S' pd y z:=by
 obtain ⟨h1,h2⟩:=mres_zero h rfl
 obtain ⟨hc,hf,hl,_⟩:=pre_zero h1
 have hp:=fine_of hc hf
 obtain ⟨h6,hr⟩:=chkF_zero hc hl
 obtain ⟨_,hi⟩:=St.needErr_cases p pd hn
 have hi2:0≤pd∧pd<(p.arity.length:Int):=by simpa [St.isIn] using hi
 obtain ⟨k,rfl⟩:∃ k:Nat,pd=k:=⟨pd.toNat,by omega⟩
 rw [St.focOut_in hn,Int.toNat_natCast]
 obtain ⟨S',h3,h4⟩:=model_focus (k:=k) hp (by omega) hr h2
 have hcq:=St.check_focus k hc
 refine ⟨S',.inr ⟨?_,some S',h3,rfl,rfl⟩,h4⟩
 have hlev:St.levErr (St.focus p k)=0:=(St.levErr_flat hcq (focus_flat hp k)).1
 have hch:chkF (St.focus p k) l=0:=by
  unfold chkF
  rw [if_neg (by omega)]
  exact (factsErr_zero hcq).mpr hr
 unfold pre
 rw [hlev,hch]
 rfl
end Md
theorem modelFocus_any (p:Sc.Prog) (l:List Rl.Fc) (pd:Int) (y:List Int) (z:List Bool) (va vn vr vl vy vz:Value) (w:World) (hP:ProgV w va vn vr p) (hF:ProgFit p) (hcap:RulesCap w vr) (hV:FactsV w vl l) (hVl:l.length≤9223372036854775807) (hVF:∀ f,f∈l→FFit f) (hY:IntsV w vy y) (hYl:y.length≤9223372036854775807) (hZ:BoolsV w vz z) (hZl:z.length≤9223372036854775807) :
 Calls Tryz.prog 8 #[progVal va vn vr,vl,.int .i64 pd,vy,vz] w fun e w'=>e=.returned (.bool true)∧Below w.heap.size w w':=by
 obtain ⟨a0,n0,rfl,_⟩:=id hP.ar
 obtain ⟨a1,n1,rfl,_⟩:=id hP.nm
 obtain ⟨a2,n2,rfl,_⟩:=id hP.rl
 obtain ⟨al,cl,rfl,_⟩:=id hV
 obtain ⟨ay,cy,rfl,_⟩:=id hY
 obtain ⟨az,cz,rfl,_⟩:=id hZ
 have bT:=(Below.refl w.heap.size w).alloc (Nat.le_refl _) (.cells #[.slice a0 p.arity.length n0,.slice a1 p.names.length n1,.slice a2 p.rules.length n2] 26)
 have HBX:Hid _:=heap_alloc_new w (.cells #[.slice a0 p.arity.length n0,.slice a1 p.names.length n1,.slice a2 p.rules.length n2] 26)
 have HB:Hid (Below w.heap.size w _):=bT
 have HP:Hid (ProgV w (.slice a0 p.arity.length n0) (.slice a1 p.names.length n1) (.slice a2 p.rules.length n2) p∧ProgFit p∧RulesCap w (.slice a2 p.rules.length n2)):=⟨hP,hF,hcap⟩
 have HV:Hid (FactsV w (.slice al l.length cl) l∧l.length≤9223372036854775807∧∀ f,f∈l→FFit f):=⟨hV,hVl,hVF⟩
 have HY:Hid (IntsV w (.slice ay y.length cy) y∧y.length≤9223372036854775807):=⟨hY,hYl⟩
 have HZ:Hid (BoolsV w (.slice az z.length cz) z∧z.length≤9223372036854775807):=⟨hZ,hZl⟩
 have HC:Hid _:=Focus_cap p pd _ _ _ _ (hP.below bT) hF
 clear hP hF hcap hV hVl hVF hY hYl hZ hZl bT
 go_enter Tryz.func8,Tryz.ntmps8
 go_upto_region 1 with fail
 generalize w.alloc (.cells #[.slice a0 p.arity.length n0,.slice a1 p.names.length n1,.slice a2 p.rules.length n2] 26)=w1 at *
 have HXX:Hid (∀ y,Below w1.heap.size w1 y→y.cell? ⟨w.heap.size,0,none⟩=some (.slice a0 p.arity.length n0)∧y.cell? ⟨w.heap.size,1,none⟩=some (.slice a1 p.names.length n1)∧y.cell? ⟨w.heap.size,2,none⟩=some (.slice a2 p.rules.length n2)):=fun y hy=>by
  have h:=(hy.block _ (heap_lt HBX.out)).trans HBX.out
  exact ⟨by rw [Lib.cell_of_heap h]; rfl,by rw [Lib.cell_of_heap h]; rfl,by rw [Lib.cell_of_heap h]; rfl⟩
 obtain ⟨c0,c1,c2⟩:=HXX.out w1 (Below.refl _ _)
 go_wp2_with fail
 refine Calls.mono HC.out ?_
 rintro _ w2 ⟨ua,un,ur,rfl,hQ,hRC,hb2⟩
 have HQ:Hid (ProgV w2 ua un ur (St.focOut p pd)∧RulesCap w2 ur):=⟨hQ,hRC⟩
 obtain ⟨b0,m0,rfl,_⟩:=id hQ.ar
 obtain ⟨b1,m1,rfl,_⟩:=id hQ.nm
 obtain ⟨b2,m2,rfl,_⟩:=id hQ.rl
 have HB2:Hid (Below w1.heap.size w1 w2):=hb2
 clear c0 c1 c2 hb2 HC hQ hRC
 go_upto_region 2 with fail
 have hx:=new_below w2 (.cells #[.slice b0 (St.focOut p pd).arity.length m0,.slice b1 (St.focOut p pd).names.length m1,.slice b2 (St.focOut p pd).rules.length m2] 26)
 have HQX:Hid _:=heap_alloc_new w2 (.cells #[.slice b0 (St.focOut p pd).arity.length m0,.slice b1 (St.focOut p pd).names.length m1,.slice b2 (St.focOut p pd).rules.length m2] 26)
 have HQ3:Hid _:=And.intro (HQ.out.1.below hx) (HQ.out.2.below HQ.out.1.rl hx)
 have HB3:Hid (Below w1.heap.size w1 _):=HB2.out.trans (hx.mono HB2.out.size)
 clear hx HQ HB2
 generalize w2.alloc (.cells #[.slice b0 (St.focOut p pd).arity.length m0,.slice b1 (St.focOut p pd).names.length m1,.slice b2 (St.focOut p pd).rules.length m2] 26)=w3 at *
 generalize w2.heap.size=QB at *
 go_wp2_with fail
 refine Calls.mono (modelBegun_any w3) ?_
 rintro _ w4 ⟨rfl,hb4⟩
 have HQ4:Hid _:=And.intro (HQ3.out.1.below hb4) (HQ3.out.2.below HQ3.out.1.rl hb4)
 have HQX4:Hid _:=(hb4.block _ (heap_lt HQX.out)).trans HQX.out
 have HB4:Hid (Below w1.heap.size w1 w4):=HB3.out.trans (hb4.mono HB3.out.size)
 clear hb4 HQ3 HQX HB3
 go_wp2_with fail
 refine Calls.mono (strataBegun_any w4) ?_
 rintro _ w5 ⟨rfl,hb5⟩
 have HQ5:Hid _:=And.intro (HQ4.out.1.below hb5) (HQ4.out.2.below HQ4.out.1.rl hb5)
 have HQX5:Hid _:=(hb5.block _ (heap_lt HQX4.out)).trans HQX4.out
 have HB5:Hid (Below w1.heap.size w1 w5):=HB4.out.trans (hb5.mono HB4.out.size)
 have HW5:Hid (Below w.heap.size w w5):=HB.out.trans (HB5.out.mono HB.out.size)
 clear hb5 HQ4 HQX4 HB4
 by_cases hn:St.needErr p pd=0
 · have HN:Hid _:=hn
   have HC5:Hid _:=Ask_any p l pd y z _ _ _ _ _ _ w5 (HP.out.1.below HW5.out) HP.out.2.1 (HP.out.2.2.below HP.out.1.rl HW5.out) (factsV_below HV.out.1 HW5.out) HV.out.2.1 HV.out.2.2 (intsV_below HY.out.1 HW5.out) HY.out.2 (boolsV_below HZ.out.1 HW5.out) HZ.out.2
   obtain ⟨c0,c1,c2⟩:=HXX.out w5 HB5.out
   rw [hn]
   clear hn
   go_wp2_with fail
   refine Calls.mono HC5.out ?_
   rintro _ w6 ⟨v6,c,S,rfl,hR,hF6,hb6⟩
   have HR:Hid _:=hR
   have HF6:Hid _:=hF6
   obtain ⟨a6,c6,rfl,_⟩:=id hF6
   have HQ6:Hid _:=And.intro (HQ5.out.1.below hb6) (HQ5.out.2.below HQ5.out.1.rl hb6)
   have HQX6:Hid _:=(hb6.block _ (heap_lt HQX5.out)).trans HQX5.out
   have HB6:Hid (Below w1.heap.size w1 w6):=HB5.out.trans (hb6.mono HB5.out.size)
   have HW6:Hid (Below w.heap.size w w6):=HB.out.trans (HB6.out.mono HB.out.size)
   clear c0 c1 c2 hb6 HC5 hR hF6 HQ5 HQX5 HB5 HW5
   by_cases hc:c=0
   · subst hc
     have HFR:Hid _:=Md.focus_res HN.out HR.out
     have HC6:Hid _:=Ask_any (St.focOut p pd) l pd y z _ _ _ _ _ _ w6 HQ6.out.1 (md_focFit pd HP.out.2.1) HQ6.out.2 (factsV_below HV.out.1 HW6.out) HV.out.2.1 HV.out.2.2 (intsV_below HY.out.1 HW6.out) HY.out.2 (boolsV_below HZ.out.1 HW6.out) HZ.out.2
     have d0:w6.cell? ⟨QB,0,none⟩=some (.slice b0 (St.focOut p pd).arity.length m0):=by rw [Lib.cell_of_heap HQX6.out]; rfl
     have d1:w6.cell? ⟨QB,1,none⟩=some (.slice b1 (St.focOut p pd).names.length m1):=by rw [Lib.cell_of_heap HQX6.out]; rfl
     have d2:w6.cell? ⟨QB,2,none⟩=some (.slice b2 (St.focOut p pd).rules.length m2):=by rw [Lib.cell_of_heap HQX6.out]; rfl
     go_wp2_with fail
     refine Calls.mono HC6.out ?_
     rintro _ w7 ⟨v7,c',S',rfl,hR',hF7,hb7⟩
     obtain ⟨S2,h2,h3⟩:=HFR.out
     obtain ⟨rfl,rfl⟩:=Md.mres_one hR' h2
     rw [← h3 y z] at hF7
     have HF7:Hid _:=hF7
     obtain ⟨a7,c7,rfl,_⟩:=id hF7
     have HW7:Hid (Below w.heap.size w w7):=HW6.out.trans (hb7.mono HW6.out.size)
     have HSM:Hid _:=SameFacts_refl (Rl.matchL S pd y z) _ _ w7 (factsV_below HF6.out hb7) HF7.out (Nat.le_trans (Nat.le_trans (Md.set_length _) (List.length_filter_le _ _)) (by have:=(Md.mres_facts HR.out).1; omega)) (fun f hf=>Md.mres_fit HR.out f (List.mem_filter.mp (Rl.mem_set.mp hf)).1)
     clear d0 d1 d2 hb7 HC6 hR' hF7 h2 h3
     go_wp2_with fail
     refine Calls.mono HSM.out ?_
     rintro _ w8 ⟨rfl,hb8⟩
     have HW8:Hid (Below w.heap.size w w8):=HW7.out.trans (hb8.mono HW7.out.size)
     clear hb8 HSM
     go_wp2_with fail
     go_ret
     exact ⟨rfl,HW8.out⟩
   · have g:(c != 0)=true:=by simpa using hc
     have HSN:Hid ((Rl.matchL S pd y z).length=0):=by show _=_; rw [Md.mres_bad HR.out hc]; rfl
     clear hc
     go_wp2_with fail
     go_ret
     exact ⟨by simp [HSN.out],HW6.out⟩
 · have g:(St.needErr p pd != 0)=true:=by simpa using hn
   have HSN:Hid ((St.focOut p pd).rules.length=0):=by show _=_; unfold St.focOut; rw [if_neg hn]; rfl
   have d2:w5.cell? ⟨QB,2,none⟩=some (.slice b2 (St.focOut p pd).rules.length m2):=by rw [Lib.cell_of_heap HQX5.out]; rfl
   clear hn
   go_wp2_with fail
   go_ret
   exact ⟨by simp [HSN.out],HW5.out⟩

namespace Md
open Ru
end Md


theorem A_cells3:Tryz.prog.cellsOf 3=1:=by kernel_rfl
theorem A_cells9:Tryz.prog.cellsOf 9=1:=by kernel_rfl
theorem list2 {l:List Value} (h:l.length=2):∃ a b,l=[a,b]:=by
 match l,h with
 | [a,b],_=>exact ⟨a,b,rfl⟩
theorem list5 {l:List Value} (h:l.length=5):∃ a b c d e,l=[a,b,c,d,e]:=by
 match l,h with
 | [a,b,c,d,e],_=>exact ⟨a,b,c,d,e,rfl⟩
section
variable {H:Type} {enc:TypeId × Value→H} {w:World} {base:Nat} {spare:Nat→Bool} {held:Bool}
theorem open_row {α:Type} {st e:TypeId} {k:Nat} (ht:Tryz.prog.underlying st=some (.slice e)) (hk:Tryz.prog.cellsOf e=k) (hk0:0<k) (d:α) (In:Nat→Nat→α→Prop)
 (el:∀ n cs' y b off,cs'.length=k→(∀ j,j<k→w.cell? ⟨b,off+j,none⟩=cs'[j]?)→DataW.trod enc Tryz.prog w base spare held n e cs'=some y→∃ a,In b off a)
 {fuel:Nat} {v:Value} {x:DataW H × List MemPlace} (h:DataW.trod enc Tryz.prog w base spare held fuel st [v]=some x) :
 ∃ (ao:Option Addr) (l:List α) (cap:Nat),v=.slice ao l.length cap∧l.length≤9223372036854775807∧(l=[]∨∃ b off,ao=some ⟨b,off,none⟩∧∀ i,i<l.length→In b (off+i * k) (l.getD i d)):=by
 haveI:Inhabited α:=⟨d⟩
 rcases Deep.open_slice ht h with ⟨hv,_⟩ | ⟨a,len,cap,m,n,D,Pl,hv,hb,hl,hm,hmm,hx,hel⟩
 · have hv':v=.slice none 0 0:=by simpa using hv
   exact ⟨none,[],0,hv',by simp,.inl rfl⟩
 · have hv':v=.slice (some a) len cap:=by simpa using hv
   have hlm:len≤m:=by rw [hmm]; split <;> omega
   by_cases h0:len=0
   · subst h0
     exact ⟨some a,[],cap,hv',by simp,.inl rfl⟩
   · obtain ⟨b,off,spot⟩:=a
     have hspot:spot=none:=by
      obtain ⟨cs',h1,_⟩:=hel 0 (by omega)
      rw [hk] at h1
      obtain ⟨_,hlen,hcell⟩:=World.cells?_some h1
      have hc:=hcell 0 hk0
      cases hcs:cs'[0]? with
      | none=>rw [List.getElem?_eq_none_iff] at hcs; omega
      | some u =>
       rw [hcs] at hc
       simpa [Addr.add] using World.cell?_spot hc
     subst hspot
     have each:∀ i,i<len→∃ q:α,In b (off+i * k) q:=by
      intro i hi
      obtain ⟨cs',h1,h2⟩:=hel i (by omega)
      rw [hk] at h1
      obtain ⟨_,hlen,hcell⟩:=World.cells?_some h1
      refine el n cs' _ b (off+i * k) hlen (fun j hj=>?_) h2
      have:=hcell j hj
      rw [Deep.add_add,WideShapes.add_plain] at this
      rw [← this,Nat.add_assoc]
     obtain ⟨q,hq⟩:=Deep.choose_lt each
     refine ⟨some ⟨b,off,none⟩,(List.range len).map q,cap,by rw [hv']; simp,by unfold maxLen at hm; simp; omega,.inr ⟨b,off,rfl,fun i hi=>?_⟩⟩
     have hi':i<len:=by simpa using hi
     have ht:((List.range len).map q).getD i d=q i:=by
      rw [List.getD_eq_getElem?_getD,List.getElem?_map,List.getElem?_range hi']
      rfl
     rw [ht]
     exact hq i hi'
theorem trod_struct2 {t:TypeId} {f0 f1:Field} {fuel:Nat} {cs:List Value} {x:DataW H × List MemPlace} (ht:Tryz.prog.underlying t=some (.struct #[f0,f1])) (h:DataW.trod enc Tryz.prog w base spare held fuel t cs=some x) :
 ∃ y0 y1 n,cs.length=Tryz.prog.cellsOf t∧DataW.trod enc Tryz.prog w base spare held n f0.type ((cs.drop f0.offset).take (Tryz.prog.cellsOf f0.type))=some y0 ∧
  DataW.trod enc Tryz.prog w base spare held n f1.type ((cs.drop f1.offset).take (Tryz.prog.cellsOf f1.type))=some y1:=by
 obtain ⟨xs,n,_,rfl,hl,hlen,hf⟩:=DataW.trod_struct ht h
 match xs,hlen with
 | [y0,y1],_=>exact ⟨y0,y1,n,hl,by simpa using hf 0 f0 rfl,by simpa using hf 1 f1 rfl⟩
theorem trod_struct5 {t:TypeId} {f0 f1 f2 f3 f4:Field} {fuel:Nat} {cs:List Value} {x:DataW H × List MemPlace} (ht:Tryz.prog.underlying t=some (.struct #[f0,f1,f2,f3,f4])) (h:DataW.trod enc Tryz.prog w base spare held fuel t cs=some x) :
 ∃ y0 y1 y2 y3 y4 n,cs.length=Tryz.prog.cellsOf t∧DataW.trod enc Tryz.prog w base spare held n f0.type ((cs.drop f0.offset).take (Tryz.prog.cellsOf f0.type))=some y0 ∧
  DataW.trod enc Tryz.prog w base spare held n f1.type ((cs.drop f1.offset).take (Tryz.prog.cellsOf f1.type))=some y1∧DataW.trod enc Tryz.prog w base spare held n f2.type ((cs.drop f2.offset).take (Tryz.prog.cellsOf f2.type))=some y2 ∧
  DataW.trod enc Tryz.prog w base spare held n f3.type ((cs.drop f3.offset).take (Tryz.prog.cellsOf f3.type))=some y3∧DataW.trod enc Tryz.prog w base spare held n f4.type ((cs.drop f4.offset).take (Tryz.prog.cellsOf f4.type))=some y4:=by
 obtain ⟨xs,n,_,rfl,hl,hlen,hf⟩:=DataW.trod_struct ht h
 match xs,hlen with
 | [y0,y1,y2,y3,y4],_=>exact ⟨y0,y1,y2,y3,y4,n,hl,by simpa using hf 0 f0 rfl,by simpa using hf 1 f1 rfl,by simpa using hf 2 f2 rfl,by simpa using hf 3 f3 rfl,by simpa using hf 4 f4 rfl⟩
end
theorem P_cells28:Tryz.prog.cellsOf 55=2:=by kernel_rfl
theorem P_cells22:Tryz.prog.cellsOf 22=1:=by kernel_rfl
theorem P_cells23:Tryz.prog.cellsOf 23=1:=by kernel_rfl
theorem P_cells24:Tryz.prog.cellsOf 24=1:=by kernel_rfl
theorem P_cells64:Tryz.prog.cellsOf 37=1:=by kernel_rfl
theorem P_cells65:Tryz.prog.cellsOf 38=1:=by kernel_rfl
theorem P_cells67:Tryz.prog.cellsOf 40=5:=by kernel_rfl
theorem P_cells84:Tryz.prog.cellsOf 49=4:=by kernel_rfl
theorem P_cells130:Tryz.prog.cellsOf 147=2:=by kernel_rfl
theorem list4 {l:List Value} (h:l.length=4):∃ a b c d,l=[a,b,c,d]:=by
 match l,h with
 | [a,b,c,d],_=>exact ⟨a,b,c,d,rfl⟩
section
variable {H:Type} {enc:TypeId × Value→H} {w:World} {base:Nat} {spare:Nat→Bool} {held:Bool}
theorem open_rowC {α:Type} {st e:TypeId} {k:Nat} (ht:Tryz.prog.underlying st=some (.slice e)) (hk:Tryz.prog.cellsOf e=k) (hk0:0<k) (d:α) (In:Nat→Nat→α→Prop)
 (el:∀ n cs' y b off,cs'.length=k→(∀ j,j<k→w.cell? ⟨b,off+j,none⟩=cs'[j]?)→DataW.trod enc Tryz.prog w base spare held n e cs'=some y→∃ a,In b off a)
 {fuel:Nat} {v:Value} {x:DataW H × List MemPlace} (h:DataW.trod enc Tryz.prog w base spare held fuel st [v]=some x) :
 ∃ (ao:Option Addr) (l:List α) (cap:Nat),v=.slice ao l.length cap∧l.length≤cap∧l.length≤9223372036854775807∧(l=[]∨∃ b off,ao=some ⟨b,off,none⟩∧∀ i,i<l.length→In b (off+i * k) (l.getD i d)):=by
 obtain ⟨ao,l,cap,hv,hm,hl⟩:=open_row ht hk hk0 d In el h
 refine ⟨ao,l,cap,hv,?_,hm,hl⟩
 rcases Deep.open_slice ht h with ⟨hv2,_⟩ | ⟨a,len,cap2,m,n,D,Pl,hv2,hb,hl2,_⟩
 · have hv':v=.slice none 0 0:=by simpa using hv2
   rw [hv] at hv'
   injection hv' with _ h1 h2
   omega
 · have hv':v=.slice (some a) len cap2:=by simpa using hv2
   rw [hv] at hv'
   injection hv' with _ h1 h2
   omega
theorem trod_struct3 {t:TypeId} {f0 f1 f2:Field} {fuel:Nat} {cs:List Value} {x:DataW H × List MemPlace} (ht:Tryz.prog.underlying t=some (.struct #[f0,f1,f2])) (h:DataW.trod enc Tryz.prog w base spare held fuel t cs=some x) :
 ∃ y0 y1 y2 n,cs.length=Tryz.prog.cellsOf t∧DataW.trod enc Tryz.prog w base spare held n f0.type ((cs.drop f0.offset).take (Tryz.prog.cellsOf f0.type))=some y0 ∧
  DataW.trod enc Tryz.prog w base spare held n f1.type ((cs.drop f1.offset).take (Tryz.prog.cellsOf f1.type))=some y1∧DataW.trod enc Tryz.prog w base spare held n f2.type ((cs.drop f2.offset).take (Tryz.prog.cellsOf f2.type))=some y2:=by
 obtain ⟨xs,n,_,rfl,hl,hlen,hf⟩:=DataW.trod_struct ht h
 match xs,hlen with
 | [y0,y1,y2],_=>exact ⟨y0,y1,y2,n,hl,by simpa using hf 0 f0 rfl,by simpa using hf 1 f1 rfl,by simpa using hf 2 f2 rfl⟩
theorem trod_struct4 {t:TypeId} {f0 f1 f2 f3:Field} {fuel:Nat} {cs:List Value} {x:DataW H × List MemPlace} (ht:Tryz.prog.underlying t=some (.struct #[f0,f1,f2,f3])) (h:DataW.trod enc Tryz.prog w base spare held fuel t cs=some x) :
 ∃ y0 y1 y2 y3 n,cs.length=Tryz.prog.cellsOf t∧DataW.trod enc Tryz.prog w base spare held n f0.type ((cs.drop f0.offset).take (Tryz.prog.cellsOf f0.type))=some y0 ∧
  DataW.trod enc Tryz.prog w base spare held n f1.type ((cs.drop f1.offset).take (Tryz.prog.cellsOf f1.type))=some y1∧DataW.trod enc Tryz.prog w base spare held n f2.type ((cs.drop f2.offset).take (Tryz.prog.cellsOf f2.type))=some y2 ∧
  DataW.trod enc Tryz.prog w base spare held n f3.type ((cs.drop f3.offset).take (Tryz.prog.cellsOf f3.type))=some y3:=by
 obtain ⟨xs,n,_,rfl,hl,hlen,hf⟩:=DataW.trod_struct ht h
 match xs,hlen with
 | [y0,y1,y2,y3],_=>exact ⟨y0,y1,y2,y3,n,hl,by simpa using hf 0 f0 rfl,by simpa using hf 1 f1 rfl,by simpa using hf 2 f2 rfl,by simpa using hf 3 f3 rfl⟩
theorem open_ints {fuel:Nat} {v:Value} {x:DataW H × List MemPlace} (h:DataW.trod enc Tryz.prog w base spare held fuel 22 [v]=some x):∃ l,IntsV w v l∧l.length≤9223372036854775807:=by
 obtain ⟨ao,l,cap,hv,_,hmx,hl⟩:=open_rowC Tryz.underlying22 A_cells3 (by decide) (0:Int) (fun b off a=>w.cell? ⟨b,off,none⟩=some (.int .i64 a)) (fun n cs' y b off hlen hc h2=>by
  match cs',hlen with
  | [v0],_ =>
   obtain ⟨k0,e0,_,_⟩:=DataW.trod_int Tryz.underlying3 h2
   simp at e0
   subst e0
   exact ⟨k0,hc 0 (by decide)⟩) h
 refine ⟨l,⟨ao,cap,hv,?_⟩,hmx⟩
 rcases hl with h | ⟨b,off,he,hc⟩
 · exact .inl h
 · exact .inr ⟨b,off,he,fun i hi=>by have:=hc i hi; rw [Nat.mul_one] at this; exact this⟩
theorem open_strs {fuel:Nat} {v:Value} {x:DataW H × List MemPlace} (h:DataW.trod enc Tryz.prog w base spare held fuel 23 [v]=some x):∃ l,StrsV w v l∧l.length≤9223372036854775807:=by
 obtain ⟨ao,l,cap,hv,_,hmx,hl⟩:=open_rowC Tryz.underlying23 A_cells9 (by decide) ([]:List UInt8) (fun b off a=>w.cell? ⟨b,off,none⟩=some (.string ⟨a.toArray⟩)) (fun n cs' y b off hlen hc h2=>by
  match cs',hlen with
  | [v0],_ =>
   obtain ⟨k0,e0,_,_⟩:=DataW.trod_string Tryz.underlying9 h2
   simp at e0
   subst e0
   exact ⟨k0.data.toList,hc 0 (by decide)⟩) h
 refine ⟨l,⟨ao,cap,hv,?_⟩,hmx⟩
 rcases hl with h | ⟨b,off,he,hc⟩
 · exact .inl h
 · exact .inr ⟨b,off,he,fun i hi=>by have:=hc i hi; rw [Nat.mul_one] at this; exact this⟩
theorem open_pterms {fuel:Nat} {v:Value} {x:DataW H × List MemPlace} (h:DataW.trod enc Tryz.prog w base spare held fuel 37 [v]=some x):∃ l,PTermsV w v l∧l.length≤9223372036854775807:=by
 obtain ⟨ao,l,cap,hv,hcap,hmx,hl⟩:=open_rowC Tryz.underlying37 P_cells130 (by decide) (⟨0,0⟩:Sc.Term) (PTermIn w) (fun n cs' y b off hlen hc h2=>by
  obtain ⟨y0,y1,k,_,g0,g1⟩:=trod_struct2 Tryz.underlying147 h2
  obtain ⟨v0,v1,rfl⟩:=list2 hlen
  simp [A_cells3] at g0 g1
  obtain ⟨k0,e0,_,_⟩:=DataW.trod_int Tryz.underlying3 g0
  obtain ⟨k1,e1,_,_⟩:=DataW.trod_int Tryz.underlying3 g1
  simp at e0 e1
  subst e0 e1
  exact ⟨⟨k0,k1⟩,hc 0 (by decide),hc 1 (by decide)⟩) h
 exact ⟨l,⟨ao,cap,hv,hcap,hl⟩,hmx⟩
theorem open_fact {fuel:Nat} {v0 v1:Value} {x:DataW H × List MemPlace} (h:DataW.trod enc Tryz.prog w base spare held fuel 55 [v0,v1]=some x):∃ pred args,v0=.int .i64 pred∧IntsV w v1 args∧args.length≤9223372036854775807:=by
 obtain ⟨y0,y1,n,_,g0,g1⟩:=trod_struct2 Tryz.underlying55 h
 simp [A_cells3,P_cells22] at g0 g1
 obtain ⟨k0,e0,_,_⟩:=DataW.trod_int Tryz.underlying3 g0
 obtain ⟨l1,hl1,hm1⟩:=open_ints g1
 simp at e0
 exact ⟨k0,l1,e0,hl1,hm1⟩
end
theorem O_cells4:Tryz.prog.cellsOf 4=1:=by kernel_rfl
section
variable {H:Type} {enc:TypeId × Value→H} {w:World} {base:Nat} {spare:Nat→Bool} {held:Bool}
theorem open_plitsC {fuel:Nat} {v:Value} {x:DataW H × List MemPlace} (h:DataW.trod enc Tryz.prog w base spare held fuel 38 [v]=some x):∃ l,PLitsV w v l∧l.length≤9223372036854775807∧(∀ i,i<l.length→LitFit (Sc.litD l i))∧CapOk v:=by
 obtain ⟨ao,l,cap,hv,hcp,hmx,hl⟩:=open_rowC Tryz.underlying38 P_cells84 (by decide) (⟨0,0,0,[]⟩:Sc.Lit) (fun b off x=>PLitIn w b off x∧LitFit x) (fun n cs' y b off hlen hc h2=>by
  obtain ⟨y0,y1,y2,y3,k,_,g0,g1,g2,g3⟩:=trod_struct4 Tryz.underlying49 h2
  obtain ⟨v0,v1,v2,v3,rfl⟩:=list4 hlen
  simp [A_cells3,P_cells64] at g0 g1 g2 g3
  obtain ⟨k0,e0,_,_⟩:=DataW.trod_int Tryz.underlying3 g0
  obtain ⟨k1,e1,_,_⟩:=DataW.trod_int Tryz.underlying3 g1
  obtain ⟨k2,e2,_,_⟩:=DataW.trod_int Tryz.underlying3 g2
  obtain ⟨l3,hl3,hm3⟩:=open_pterms g3
  simp at e0 e1 e2
  subst e0 e1 e2
  exact ⟨⟨k0,k1,k2,l3⟩,⟨hc 0 (by decide),hc 1 (by decide),hc 2 (by decide),v3,hc 3 (by decide),hl3⟩,hm3⟩) h
 refine ⟨l,⟨ao,cap,hv,?_⟩,hmx,?_,fun ao2 n2 c2 h2=>by rw [hv] at h2; injection h2 with _ e1 e2; subst e1 e2; exact hcp⟩
 · rcases hl with h | ⟨b,off,he,hc⟩
   · exact .inl h
   · exact .inr ⟨b,off,he,fun i hi=>(hc i hi).1⟩
 · intro i hi
   rcases hl with h | ⟨b,off,he,hc⟩
   · rw [h] at hi; simp at hi
   · exact (hc i hi).2
theorem open_prulesC {fuel:Nat} {v:Value} {x:DataW H × List MemPlace} (h:DataW.trod enc Tryz.prog w base spare held fuel 24 [v]=some x):∃ l,PRulesV w v l∧l.length≤9223372036854775807∧(∀ i,i<l.length→RuleFit (Sc.ruleD l i))∧RulesCap w v:=by
 obtain ⟨ao,l,cap,hv,_,hmx,hl⟩:=open_rowC Tryz.underlying24 P_cells67 (by decide) (⟨0,[],0,[],0⟩:Sc.Rule) (fun b off x=>PRuleIn w b off x∧RuleFit x∧∃ u,w.cell? ⟨b,off+3,none⟩=some u∧CapOk u) (fun n cs' y b off hlen hc h2=>by
  obtain ⟨y0,y1,y2,y3,y4,k,_,g0,g1,g2,g3,g4⟩:=trod_struct5 Tryz.underlying40 h2
  obtain ⟨v0,v1,v2,v3,v4,rfl⟩:=list5 hlen
  simp [A_cells3,P_cells64,P_cells65] at g0 g1 g2 g3 g4
  obtain ⟨k0,e0,_,_⟩:=DataW.trod_int Tryz.underlying3 g0
  obtain ⟨l1,hl1,hm1⟩:=open_pterms g1
  obtain ⟨k2,e2,_,_⟩:=DataW.trod_int Tryz.underlying3 g2
  obtain ⟨l3,hl3,hm3,hf3,hcp3⟩:=open_plitsC g3
  obtain ⟨k4,e4,_,_⟩:=DataW.trod_int Tryz.underlying3 g4
  simp at e0 e2 e4
  subst e0 e2 e4
  exact ⟨⟨k0,l1,k2,l3,k4⟩,⟨hc 0 (by decide),⟨v1,hc 1 (by decide),hl1⟩,hc 2 (by decide),⟨v3,hc 3 (by decide),hl3⟩,hc 4 (by decide)⟩,⟨hm1,hm3,hf3⟩,v3,hc 3 (by decide),hcp3⟩) h
 refine ⟨l,⟨ao,cap,hv,?_⟩,hmx,?_,?_⟩
 · rcases hl with h | ⟨b,off,he,hc⟩
   · exact .inl h
   · exact .inr ⟨b,off,he,fun i hi=>(hc i hi).1⟩
 · intro i hi
   rcases hl with h | ⟨b,off,he,hc⟩
   · rw [h] at hi; simp at hi
   · exact (hc i hi).2.1
 · intro b off n cap2 hv2 k hk u hu
   rw [hv] at hv2
   injection hv2 with e1 e2 e3
   subst e1 e2 e3
   rcases hl with h | ⟨b2,off2,he,hc⟩
   · rw [h] at hk; simp at hk
   · injection he with he
     injection he with e1 e2
     subst e1 e2
     obtain ⟨u2,hu2,hok⟩:=(hc k hk).2.2
     rw [hu2] at hu
     injection hu with hu
     subst hu
     exact hok
theorem open_progC {fuel:Nat} {va vn vr:Value} {x:DataW H × List MemPlace} (h:DataW.trod enc Tryz.prog w base spare held fuel 26 [va,vn,vr]=some x):∃ p,ProgV w va vn vr p∧ProgFit p∧RulesCap w vr:=by
 obtain ⟨y0,y1,y2,n,_,g0,g1,g2⟩:=trod_struct3 Tryz.underlying26 h
 simp [P_cells22,P_cells23,P_cells24] at g0 g1 g2
 obtain ⟨l0,hl0,hm0⟩:=open_ints g0
 obtain ⟨l1,hl1,hm1⟩:=open_strs g1
 obtain ⟨l2,hl2,hm2,hf2,hcp2⟩:=open_prulesC g2
 exact ⟨⟨l0,l1,l2⟩,⟨hl0,hl1,hl2⟩,⟨hm0,hm1,hm2,hf2⟩,hcp2⟩
theorem open_factsC {fuel:Nat} {v:Value} {x:DataW H × List MemPlace} (h:DataW.trod enc Tryz.prog w base spare held fuel 27 [v]=some x):∃ l,FactsV w v l∧l.length≤9223372036854775807∧∀ f,f∈l→FFit f:=by
 obtain ⟨ao,l,cap,hv,hcp,hmx,hl⟩:=open_rowC Tryz.underlying27 P_cells28 (by decide) (⟨0,[]⟩:Rl.Fc) (fun b off f=>FactIn w b off f∧FFit f) (fun n cs' y b off hlen hc h2=>by
  match cs',hlen with
  | [v0,v1],_ =>
   obtain ⟨pr,ar,e0,hI,hm⟩:=open_fact h2
   exact ⟨⟨pr,ar⟩,⟨by rw [← e0]; exact hc 0 (by decide),v1,hc 1 (by decide),hI⟩,hm⟩) h
 refine ⟨l,⟨ao,cap,hv,⟨hcp,fun e=>?_⟩,?_⟩,hmx,fun f hf=>?_⟩
 · subst e
   rcases Deep.open_slice Tryz.underlying27 h with ⟨hv2,_⟩ | ⟨a,len,cap2,m,n,D,Pl,hv2,_⟩
   · have hv':v=.slice none 0 0:=by simpa using hv2
     rw [hv] at hv'
     injection hv' with _ _ h2
   · have hv':v=.slice (some a) len cap2:=by simpa using hv2
     rw [hv] at hv'
     injection hv' with h1
     cases h1
 · rcases hl with h | ⟨b,off,he,hc⟩
   · exact .inl h
   · exact .inr ⟨b,off,he,fun i hi=>(hc i hi).1⟩
 · obtain ⟨i,hi,rfl⟩:=List.getElem_of_mem hf
   rcases hl with h | ⟨b,off,he,hc⟩
   · rw [h] at hi; simp at hi
   · have:=(hc i hi).2
     rwa [List.getD_eq_getElem?_getD,List.getElem?_eq_getElem hi] at this
end
section
variable {H:Type} {enc:TypeId × Value→H} {w:World} {base:Nat} {spare:Nat→Bool} {held:Bool}
theorem open_bools {fuel:Nat} {v:Value} {x:DataW H × List MemPlace} (h:DataW.trod enc Tryz.prog w base spare held fuel 57 [v]=some x):∃ l,BoolsV w v l∧l.length≤9223372036854775807:=by
 obtain ⟨ao,l,cap,hv,hcp,hmx,hl⟩:=open_rowC Tryz.underlying57 O_cells4 (by decide) false (fun b off a=>w.cell? ⟨b,off,none⟩=some (.bool a)) (fun n cs' y b off hlen hc h2=>by
  match cs',hlen with
  | [v0],_ =>
   obtain ⟨k0,e0,_⟩:=DataW.trod_bool Tryz.underlying4 h2
   simp at e0
   subst e0
   exact ⟨k0,hc 0 (by decide)⟩) h
 refine ⟨l,⟨ao,cap,hv,⟨hcp,fun e=>?_⟩,?_⟩,hmx⟩
 · subst e
   rcases Deep.open_slice Tryz.underlying57 h with ⟨hv2,_⟩ | ⟨a,len,cap2,m,n,D,Pl,hv2,_⟩
   · have hv':v=.slice none 0 0:=by simpa using hv2
     rw [hv] at hv'
     injection hv' with _ _ h2
   · have hv':v=.slice (some a) len cap2:=by simpa using hv2
     rw [hv] at hv'
     injection hv' with h1
     cases h1
 · rcases hl with h | ⟨b,off,he,hc⟩
   · exact .inl h
   · exact .inr ⟨b,off,he,fun i hi=>by have:=hc i hi; rw [Nat.mul_one] at this; exact this⟩
end
end Go.Proofs.YthenjegmigeieaaGreat

namespace Go.Proofs.YthenjegmigeieaaGreat
open Go.ChangeShapes Go.WideShapes Go.ChangeAt Go.RowKit
theorem mdlFocus_and {a b:Bool} (ha:a=true) (hb:b=true):(a && b)=true:=by rw [ha,hb]; rfl
theorem mdlFocus_j1:Rows.modelFocusRow.wf (OpenSpec.ofChange Rows.modelFocusSpec)=true:=by kernel_rfl
theorem mdlFocus_j2:laidOutB Tryz.prog=true:=by kernel_rfl
theorem mdlFocus_j3:mapsRowed Tryz.prog=true:=by kernel_rfl
theorem mdlFocus_j4:Tryz.f8.params.all (Tryz.prog.readableRec ·)=true:=by kernel_rfl
theorem mdlFocus_j5:namedTie Tryz.prog Rows.modelFocusRow.named Rows.modelFocusSpec.vars=true:=by kernel_rfl
theorem mdlFocus_j6:(Rows.modelFocusRow.stops==[])=true:=by kernel_rfl
theorem mdlFocus_j7:(Tryz.prog.stops==[])=true:=by kernel_rfl
theorem mdlFocus_j8:(Rows.modelFocusRow.knobs==[])=true:=by kernel_rfl
theorem mdlFocus_j9:(Tryz.prog.stopKnobs==[])=true:=by kernel_rfl
theorem mdlFocus_j10:(Rows.modelFocusRow.inPlace==Tryz.prog.inPlace 8)=true:=by kernel_rfl
theorem mdlFocus_j11:(Rows.modelFocusRow.unfollowed==Tryz.prog.unfollowed 8)=true:=by kernel_rfl
theorem mdlFocus_j12:(Rows.modelFocusRow.recurses==Tryz.prog.recurses 8)=true:=by kernel_rfl
theorem mdlFocus_j13:(Rows.modelFocusRow.named==Tryz.prog.varsNamed 8)=true:=by kernel_rfl
theorem mdlFocus_j14:(Rows.modelFocusRow.maps==(Tryz.f8.params.toList++Rows.modelFocusSpec.plain.varTypes Tryz.prog).any (Tryz.prog.mapsRec ·))=true:=by kernel_rfl
theorem mdlFocus_j15:(Rows.modelFocusRow.ifaces==(Tryz.f8.params.toList++Rows.modelFocusSpec.plain.varTypes Tryz.prog).any (Tryz.prog.ifacesRec ·))=true:=by kernel_rfl
theorem mdlFocus_j16:(Rows.modelFocusRow.mapsOut==Tryz.prog.mapsAmong Tryz.f8.resultTypes.toList)=true:=by kernel_rfl
theorem mdlFocus_j17:(Rows.modelFocusRow.loops==(Tryz.f8.params.toList++Rows.modelFocusSpec.plain.varTypes Tryz.prog).any (Tryz.prog.loopsFrom ·))=true:=by kernel_rfl
theorem mdlFocus_j18:(Rows.modelFocusRow.wideKeys==(Tryz.f8.params.toList++Rows.modelFocusSpec.plain.varTypes Tryz.prog++Tryz.f8.resultTypes.toList).any (Tryz.prog.wideKeysFrom ·))=true:=by kernel_rfl
theorem mdlFocus_j19:Rows.modelFocusSpec.vars.all (Tryz.prog.varReadable ·)=true:=by kernel_rfl
theorem mdlFocus_j20:Tryz.f8.resultTypes.all (fun t=>Tryz.prog.readableRec t && decide (t<Tryz.prog.types.size))=true:=by kernel_rfl
theorem mdlFocus_j21:(Rows.modelFocusRow.ifacesOut==Tryz.f8.resultTypes.toList.any (Tryz.prog.ifacesRec ·))=true:=by kernel_rfl
theorem mdlFocus_j22:(Rows.modelFocusRow.loopsOut==Tryz.f8.resultTypes.toList.any (Tryz.prog.loopsFrom ·))=true:=by kernel_rfl
theorem mdlFocus_j23:(Rows.modelFocusRow.plainKeys==Tryz.prog.plainKeys)=true:=by kernel_rfl
theorem mdlFocus_j24:Rows.modelFocusRow.shortTexts.isNone=true:=by kernel_rfl
theorem mdlFocus_j25:Tryz.prog.stopsHeard=true:=by kernel_rfl
theorem mdlFocus_j26:Tryz.prog.mayEnter=true:=by kernel_rfl
theorem mdlFocus_j27:(Rows.modelFocusRow.lifted==Tryz.prog.liftsFinal)=true:=by kernel_rfl
theorem mdlFocus_j28:(Tryz.prog.make==some Rows.modelFocusRow.make)=true:=by kernel_rfl
theorem mdlFocus_j29:(Rows.modelFocusRow.kinds==(if Rows.modelFocusRow.domain.isEmpty then [] else Tryz.f8.params.toList.map fun t=>match Tryz.prog.underlying t with | some (.int k)=>some k | _=>none))=true:=by kernel_rfl
theorem mdlFocus_j30:(Rows.modelFocusRow.pinned==Rows.modelFocusRow.pinnedBy)=true:=by kernel_rfl
theorem mdlFocus_j31:(Rows.modelFocusRow.veiled==(Tryz.f8.params.toList++Rows.modelFocusSpec.plain.varTypes Tryz.prog++Tryz.f8.resultTypes.toList).any (Tryz.prog.veiledRec ·))=true:=by kernel_rfl
theorem mdlFocus_j32:Rows.modelFocusRow.veiledFits Tryz.prog Tryz.f8.params.toList (Tryz.f8.params.toList++Rows.modelFocusSpec.plain.varTypes Tryz.prog++Tryz.f8.resultTypes.toList)=true:=by kernel_rfl
theorem mdlFocus_facts:joinedFacts Tryz.prog 8 Tryz.f8 (Rows.modelFocusSpec) Rows.modelFocusRow=true:=by
 unfold joinedFacts
 exact mdlFocus_and (mdlFocus_and (mdlFocus_and (mdlFocus_and (mdlFocus_and (mdlFocus_and (mdlFocus_and (mdlFocus_and (mdlFocus_and (mdlFocus_and (mdlFocus_and (mdlFocus_and (mdlFocus_and (mdlFocus_and (mdlFocus_and (mdlFocus_and (mdlFocus_and (mdlFocus_and (mdlFocus_and (mdlFocus_and (mdlFocus_and (mdlFocus_and (mdlFocus_and (mdlFocus_and (mdlFocus_and (mdlFocus_and (mdlFocus_and (mdlFocus_and (mdlFocus_and (mdlFocus_and (mdlFocus_and mdlFocus_j1 mdlFocus_j2) mdlFocus_j3) mdlFocus_j4) mdlFocus_j5) mdlFocus_j6) mdlFocus_j7) mdlFocus_j8) mdlFocus_j9) mdlFocus_j10) mdlFocus_j11) mdlFocus_j12) mdlFocus_j13) mdlFocus_j14) mdlFocus_j15) mdlFocus_j16) mdlFocus_j17) mdlFocus_j18) mdlFocus_j19) mdlFocus_j20) mdlFocus_j21) mdlFocus_j22) mdlFocus_j23) mdlFocus_j24) mdlFocus_j25) mdlFocus_j26) mdlFocus_j27) mdlFocus_j28) mdlFocus_j29) mdlFocus_j30) mdlFocus_j31) mdlFocus_j32
end Go.Proofs.YthenjegmigeieaaGreat
