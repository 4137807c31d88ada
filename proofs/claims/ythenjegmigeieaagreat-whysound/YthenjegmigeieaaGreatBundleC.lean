/- Own texts, one behind the other (part 3). -/
import Derived.Test.YthenjegmigeieaaGreatBundleB
import Derived.Test.YthenjegmigeieaaGreatRows
import Derived.RegionTactic
import Derived.BigRegion
import Derived.Lib.AtoiBound
import Derived.Shelf.SlSortCmp.Whole1
import Derived.Ground.SlsfProg
import Derived.Test.YthenjegmigeieaaGreatProg
import Derived.Lib.SliceRun
import Derived.Lib.LazyBuf
import Derived.Shelf.SlSortCmp.NoneTotal
import Derived.Deep.OwnRows
set_option maxRecDepth 100000
set_option maxHeartbeats 8000000
namespace Go.Proofs.YthenjegmigeieaaGreat
open Go.RowKit
abbrev litObj(x:Tr.Lit)(v:Value):Obj:=.cells #[.int .i64 x.kind, .int .i64 x.at_, .int .i64 x.op, .string ⟨x.name.toArray⟩,v] 260
abbrev ruleObj(r:Tr.Rule)(v u:Value):Obj:=.cells #[.int .i64 r.at_, .string ⟨r.name.toArray⟩,v, .int .i64 r.fold,u] 240
theorem litBox{w w1:World}{x:Tr.Lit}{v:Value}(hb:Below (w.alloc (litObj x v)).heap.size (w.alloc (litObj x v)) w1):
 w1.cell? ⟨w.heap.size,0,none⟩=some (.int .i64 x.kind)∧w1.cell? ⟨w.heap.size,1,none⟩=some (.int .i64 x.at_)∧w1.cell? ⟨w.heap.size,2,none⟩=some (.int .i64 x.op)∧
 w1.cell? ⟨w.heap.size,3,none⟩=some (.string ⟨x.name.toArray⟩)∧w1.cell? ⟨w.heap.size,4,none⟩=some v:=by
 obtain⟨hc,hf⟩:=bcell hb;(have h:w.heap.size<(w.alloc (litObj x v)).heap.size:=by simp);refine⟨?_,?_,?_,?_,?_⟩
 ·rw[hc _ _ h];simp[go_sem]
 ·rw[hc _ _ h];simp[go_sem]
 ·rw[hc _ _ h];simp[go_sem]
 ·rw[hc _ _ h];simp[go_sem]
 rw[hc _ _ h];simp[go_sem]
theorem ruleBox{w w1:World}{r:Tr.Rule}{v u:Value}(hb:Below (w.alloc (ruleObj r v u)).heap.size (w.alloc (ruleObj r v u)) w1):
 w1.cell? ⟨w.heap.size,0,none⟩=some (.int .i64 r.at_)∧w1.cell? ⟨w.heap.size,1,none⟩=some (.string ⟨r.name.toArray⟩)∧w1.cell? ⟨w.heap.size,2,none⟩=some v∧
 w1.cell? ⟨w.heap.size,3,none⟩=some (.int .i64 r.fold)∧w1.cell? ⟨w.heap.size,4,none⟩=some u:=by
 obtain⟨hc,hf⟩:=bcell hb;(have h:w.heap.size<(w.alloc (ruleObj r v u)).heap.size:=by simp);refine⟨?_,?_,?_,?_,?_⟩
 ·rw[hc _ _ h];simp[go_sem]
 ·rw[hc _ _ h];simp[go_sem]
 ·rw[hc _ _ h];simp[go_sem]
 ·rw[hc _ _ h];simp[go_sem]
 rw[hc _ _ h];simp[go_sem]
theorem below_alloc(w:World)(o:Obj):Below w.heap.size w (w.alloc o):=(Below.refl _ _).alloc (Nat.le_refl _) _
theorem litIsRight_any(x:Tr.Lit)(v:Value)(w:World)(hmax:x.terms.length≤140737488355328)(hA:TermsV w v x.terms):
 Calls Tryz.prog 231 #[litVal x v] w fun e w'=>e=.returned (.bool (Tr.litOk x))∧Below w.heap.size w w':=by
 have HC:Hid (_):=termsAreRight_any x.terms v (w.alloc (litObj x v)) hmax (termsV_below hA (below_alloc _ _));obtain⟨ao,cap,rfl,_⟩:=hA
 have HV:Hid (Tr.litOk x=(Tr.termsOk x.terms&&(if x.kind=1∨x.kind=2 then(x.op==0)&&Tr.isName x.name
  else if x.kind=3 then Tr.between x.op 1 4&&x.name.isEmpty&&((x.terms.length:Int)==2)
  else if x.kind=4 then Tr.between x.op 5 7&&x.name.isEmpty&&((x.terms.length:Int)==3)else false))):=rfl
 generalize Tr.litOk x=V at *;cases hT:Tr.termsOk x.terms
 ·(have HF:Hid (V=false):=by show _=_;rw[HV.out,hT];rfl);clear HV
  go_enter Tryz.func231,Tryz.ntmps231
  go_wp2_with fail;refine Calls.mono HC.out ?_;rintro e w1 ⟨he,hb⟩;rw[hT]at he;subst he;go_wp2_with fail;go_ret;exact⟨ret_bool HF.out.symm,below_box hb⟩
 rw[hT,Bool.true_and]at HV;by_cases k12:x.kind=1∨x.kind=2
 ·rw[if_pos k12]at HV;cases g0:(x.op==0)
  ·(have HF:Hid (V=false):=by show _=_;rw[HV.out,g0];rfl);clear HV;rcases k12 with k1|k2
   ·have t1:(x.kind==1)=true:=beq_iff_eq.2 k1;clear k1
    go_enter Tryz.func231,Tryz.ntmps231
    go_wp2_with fail;refine Calls.mono HC.out ?_;rintro e w1 ⟨he,hb⟩;rw[hT]at he;subst he;obtain⟨c0,c1,c2,c3,c4⟩:=litBox hb;go_wp2_with fail;go_ret;exact⟨ret_bool HF.out.symm,below_box hb⟩
   have t1:(x.kind==1)=false:=beq_eq_false_iff_ne.2 oM;have t2:(x.kind==2)=true:=beq_iff_eq.2 k2;clear k2
   go_enter Tryz.func231,Tryz.ntmps231
   go_wp2_with fail;refine Calls.mono HC.out ?_;rintro e w1 ⟨he,hb⟩;rw[hT]at he;subst he;obtain⟨c0,c1,c2,c3,c4⟩:=litBox hb;go_wp2_with fail;go_ret;exact⟨ret_bool HF.out.symm,below_box hb⟩
  (have HF:Hid (V=Tr.isName x.name):=by show _=_;rw[HV.out,g0];rfl);clear HV;rcases k12 with k1|k2
  ·have t1:(x.kind==1)=true:=beq_iff_eq.2 k1;clear k1
   go_enter Tryz.func231,Tryz.ntmps231
   go_wp2_with fail;refine Calls.mono HC.out ?_;rintro e w1 ⟨he,hb⟩;rw[hT]at he;subst he;obtain⟨c0,c1,c2,c3,c4⟩:=litBox hb;go_wp2_with fail;refine(isName_any x.name _).mono ?_;rintro e w2 ⟨rfl,hb2⟩;go_wp2_with fail;go_ret;exact⟨ret_bool HF.out.symm,(below_box hb).trans (hb2.mono (below_box hb).size)⟩
  have t1:(x.kind==1)=false:=beq_eq_false_iff_ne.2 oM;have t2:(x.kind==2)=true:=beq_iff_eq.2 k2;clear k2
  go_enter Tryz.func231,Tryz.ntmps231
  go_wp2_with fail;refine Calls.mono HC.out ?_;rintro e w1 ⟨he,hb⟩;rw[hT]at he;subst he;obtain⟨c0,c1,c2,c3,c4⟩:=litBox hb;go_wp2_with fail;refine(isName_any x.name _).mono ?_;rintro e w2 ⟨rfl,hb2⟩;go_wp2_with fail;go_ret;exact⟨ret_bool HF.out.symm,(below_box hb).trans (hb2.mono (below_box hb).size)⟩
 rw[if_neg k12]at HV;have t1:(x.kind==1)=false:=beq_eq_false_iff_ne.2 (fun h=>k12 (.inl h));have t2:(x.kind==2)=false:=beq_eq_false_iff_ne.2 (fun h=>k12 (.inr h));clear k12;by_cases k3:x.kind=3
 ·rw[if_pos k3]at HV;have t3:(x.kind==3)=true:=beq_iff_eq.2 k3;clear k3;cases g0:Tr.between x.op 1 4
  ·(have HF:Hid (V=false):=by show _=_;rw[HV.out,g0];rfl);clear HV
   go_enter Tryz.func231,Tryz.ntmps231
   go_wp2_with fail;refine Calls.mono HC.out ?_;rintro e w1 ⟨he,hb⟩;rw[hT]at he;subst he;obtain⟨c0,c1,c2,c3,c4⟩:=litBox hb;go_wp2_with(go_at_call 236;refine(isTest_any _ _).mono ?_;rintro e w' ⟨rfl,rfl⟩);go_ret;exact⟨ret_bool HF.out.symm,below_box hb⟩
  cases g1:x.name.isEmpty
  ·(have HF:Hid (V=false):=by show _=_;rw[HV.out,g1];simp);clear HV
   go_enter Tryz.func231,Tryz.ntmps231
   go_wp2_with fail;refine Calls.mono HC.out ?_;rintro e w1 ⟨he,hb⟩;rw[hT]at he;subst he;obtain⟨c0,c1,c2,c3,c4⟩:=litBox hb;go_wp2_with(go_at_call 236;refine(isTest_any _ _).mono ?_;rintro e w' ⟨rfl,rfl⟩);go_ret;exact⟨ret_bool HF.out.symm,below_box hb⟩
  (have HF:Hid (V=((x.terms.length:Int)==2)):=by show _=_;rw[HV.out,g0,g1];rfl);clear HV
  go_enter Tryz.func231,Tryz.ntmps231
  go_wp2_with fail;refine Calls.mono HC.out ?_;rintro e w1 ⟨he,hb⟩;rw[hT]at he;subst he;obtain⟨c0,c1,c2,c3,c4⟩:=litBox hb;go_wp2_with(go_at_call 236;refine(isTest_any _ _).mono ?_;rintro e w' ⟨rfl,rfl⟩);go_ret;exact⟨ret_bool HF.out.symm,below_box hb⟩
 rw[if_neg k3]at HV;have t3:(x.kind==3)=false:=beq_eq_false_iff_ne.2 k3;clear k3;by_cases k4:x.kind=4
 ·rw[if_pos k4]at HV;have t4:(x.kind==4)=true:=beq_iff_eq.2 k4;clear k4;cases g0:Tr.between x.op 5 7
  ·(have HF:Hid (V=false):=by show _=_;rw[HV.out,g0];rfl);clear HV
   go_enter Tryz.func231,Tryz.ntmps231
   go_wp2_with fail;refine Calls.mono HC.out ?_;rintro e w1 ⟨he,hb⟩;rw[hT]at he;subst he;obtain⟨c0,c1,c2,c3,c4⟩:=litBox hb;go_wp2_with(go_at_call 237;refine(isCalc_any _ _).mono ?_;rintro e w' ⟨rfl,rfl⟩);go_ret;exact⟨ret_bool HF.out.symm,below_box hb⟩
  cases g1:x.name.isEmpty
  ·(have HF:Hid (V=false):=by show _=_;rw[HV.out,g1];simp);clear HV
   go_enter Tryz.func231,Tryz.ntmps231
   go_wp2_with fail;refine Calls.mono HC.out ?_;rintro e w1 ⟨he,hb⟩;rw[hT]at he;subst he;obtain⟨c0,c1,c2,c3,c4⟩:=litBox hb;go_wp2_with(go_at_call 237;refine(isCalc_any _ _).mono ?_;rintro e w' ⟨rfl,rfl⟩);go_ret;exact⟨ret_bool HF.out.symm,below_box hb⟩
  (have HF:Hid (V=((x.terms.length:Int)==3)):=by show _=_;rw[HV.out,g0,g1];rfl);clear HV
  go_enter Tryz.func231,Tryz.ntmps231
  go_wp2_with fail;refine Calls.mono HC.out ?_;rintro e w1 ⟨he,hb⟩;rw[hT]at he;subst he;obtain⟨c0,c1,c2,c3,c4⟩:=litBox hb;go_wp2_with(go_at_call 237;refine(isCalc_any _ _).mono ?_;rintro e w' ⟨rfl,rfl⟩);go_ret;exact⟨ret_bool HF.out.symm,below_box hb⟩
 rw[if_neg k4]at HV;have t4:(x.kind==4)=false:=beq_eq_false_iff_ne.2 k4;have HF:Hid (V=false):=HV.out;clear k4 HV
 go_enter Tryz.func231,Tryz.ntmps231
 go_wp2_with fail;refine Calls.mono HC.out ?_;rintro e w1 ⟨he,hb⟩;rw[hT]at he;subst he;obtain⟨c0,c1,c2,c3,c4⟩:=litBox hb;go_wp2_with fail;go_ret;exact⟨ret_bool HF.out.symm,below_box hb⟩
theorem foldIsRight_any(r:Tr.Rule)(ao bo:Option Addr)(ca cb:Nat)(w:World):
 Calls Tryz.prog 230 #[ruleVal r (.slice ao r.terms.length ca) (.slice bo r.body.length cb)] w fun e w'=>e=.returned (.bool (Tr.foldOk r.fold r.terms.length r.body.length))∧Below w.heap.size w w':=by
 have HV:Hid (Tr.foldOk r.fold r.terms.length r.body.length=((r.fold==0)||(decide (1≤r.fold)&&decide (r.fold≤4)&&decide (0<r.terms.length)&&decide (0<r.body.length)))):=rfl;generalize Tr.foldOk r.fold r.terms.length r.body.length=V at *;cases g0:(r.fold==0)
 ·cases g1:decide (1≤r.fold)
  ·(have HF:Hid (V=false):=by show _=_;rw[HV.out,g0,g1];rfl);clear HV
   go_enter Tryz.func230,Tryz.ntmps230
   go_wp2;go_ret;exact⟨ret_bool HF.out.symm,below_alloc _ _⟩
  cases g2:decide (r.fold≤4)
  ·(have HF:Hid (V=false):=by show _=_;rw[HV.out,g0,g1,g2];rfl);clear HV
   go_enter Tryz.func230,Tryz.ntmps230
   go_wp2;go_ret;exact⟨ret_bool HF.out.symm,below_alloc _ _⟩
  cases g3:decide (0<r.terms.length)
  ·(have HF:Hid (V=false):=by show _=_;rw[HV.out,g0,g1,g2,g3];rfl);clear HV
   go_enter Tryz.func230,Tryz.ntmps230
   go_wp2;go_ret;exact⟨ret_bool HF.out.symm,below_alloc _ _⟩
  (have HF:Hid (V=decide (0<r.body.length)):=by show _=_;rw[HV.out,g0,g1,g2,g3];rfl);clear HV
  go_enter Tryz.func230,Tryz.ntmps230
  go_wp2;go_ret;exact⟨ret_bool (by rw[HF.out]),below_alloc _ _⟩
 (have HF:Hid (V=true):=by show _=_;rw[HV.out,g0];rfl);clear HV
 go_enter Tryz.func230,Tryz.ntmps230
 go_wp2;go_ret;exact⟨ret_bool HF.out.symm,below_alloc _ _⟩
def Fits(l:List Tr.Lit):Prop:=∀i,i<l.length→(Tr.litD l i).terms.length≤140737488355328
theorem ruleIsRight_any(r:Tr.Rule)(v u:Value)(w:World)(hm1:r.terms.length≤140737488355328)(hm2:r.body.length≤140737488355328)(hm3:Fits r.body)(hA:TermsV w v r.terms)(hB:LitsV w u r.body):
 Calls Tryz.prog 222 #[ruleVal r v u] w fun e w'=>e=.returned (.bool (Tr.ruleOk r))∧Below w.heap.size w w':=by
 have hA0:=termsV_below hA (below_alloc w (ruleObj r v u));have hB0:=litsV_below hB (below_alloc w (ruleObj r v u));obtain⟨ao,ca,rfl,_⟩:=hA;obtain⟨bo,cb,rfl,_⟩:=hB;have HV:Hid (Tr.ruleOk r=(Tr.isName r.name&&Tr.termsOk r.terms&&Tr.foldOk r.fold r.terms.length r.body.length&&Tr.litsOk r.body)):=rfl;generalize Tr.ruleOk r=V at *
 go_enter Tryz.func222,Tryz.ntmps222
 go_wp2_with fail;refine(isName_any r.name _).mono ?_;rintro e w1 ⟨he,hb1⟩;have hbel1:Below w.heap.size w w1:=below_box hb1;obtain⟨c0,c1,c2,c3,c4⟩:=ruleBox hb1;have hA1:=termsV_below hA0 hb1;have hB1:=litsV_below hB0 hb1;cases g1:Tr.isName r.name
 ·(have HF:Hid (V=false):=by show _=_;rw[HV.out,g1];rfl);rw[g1]at he;subst he;clear HV hA0 hB0 hA1 hB1;go_wp2_with fail;go_ret;exact⟨ret_bool HF.out.symm,hbel1⟩
 rw[g1]at he;subst he;go_wp2_with fail;refine(termsAreRight_any r.terms _ _ hm1 hA1).mono ?_;rintro e w2 ⟨he,hb2⟩;have hbel2:=hbel1.trans (hb2.mono hbel1.size);have hB2:=litsV_below hB1 hb2;have c0:=cell_below hb2 c0;have c1:=cell_below hb2 c1;have c2:=cell_below hb2 c2;have c3:=cell_below hb2 c3;have c4:=cell_below hb2 c4;clear hA0 hB0 hA1 hB1;cases g2:Tr.termsOk r.terms
 ·(have HF:Hid (V=false):=by show _=_;rw[HV.out,g2];simp);rw[g2]at he;subst he;go_wp2_with fail;go_ret;exact⟨ret_bool HF.out.symm,hbel2⟩
 rw[g2]at he;subst he;go_wp2_with fail;refine(foldIsRight_any r ao bo ca cb _).mono ?_;rintro e w3 ⟨he,hb3⟩;have hbel3:=hbel2.trans (hb3.mono hbel2.size);have hB3:=litsV_below hB2 hb3;have c4:=cell_below hb3 c4;cases g3:Tr.foldOk r.fold r.terms.length r.body.length
 ·(have HF:Hid (V=false):=by show _=_;rw[HV.out,g3];simp);rw[g3]at he;subst he;go_wp2_with fail;go_ret;exact⟨ret_bool HF.out.symm,hbel3⟩
 rw[g3]at he;subst he;(have HW:Hid (V=Tr.litsOk r.body):=by show _=_;rw[HV.out,g1,g2,g3];rfl);clear HV g1 g2 g3 hb1 hb2 hb3 hB2 hbel1 hbel2;go_wp2_with fail;go_loopw [23] (fun i wr=>∃k:Nat,k≤r.body.length∧i=.int .i64 k∧Tr.litsOk r.body=(r.body.drop k).all Tr.litOk∧Below w3.heap.size w3 wr) (fun i _=>r.body.length-(intOf i).toNat);case atStart=>exact⟨0,Nat.zero_le _,rfl,rfl,Below.refl _ _⟩
 case round=>
  obtain⟨k,hk,rfl,hall,hbelr⟩:=hrel;have HA:Hid (Tr.litsOk r.body=(r.body.drop k).all Tr.litOk):=hall;clear hall;by_cases hlt:k<r.body.length
  ·obtain⟨bo',cb',hv,hL⟩:=litsV_below hB3 hbelr;rcases hL with h|⟨b,off,rfl,hc⟩
   ·rw[h]at hlt;exact absurd hlt sI
   injection hv with e1 _ e3;subst e1 e3;obtain⟨a0,a1,a2,a3,v4,a4,hT⟩:=hc k hlt;have HD:Hid (Tr.litsOk r.body=(Tr.litOk (Tr.litD r.body k)&&(r.body.drop (k+1)).all Tr.litOk)):=HA.out.trans (all_drop _ _ _ k hlt);have hfit:=hm3 k hlt;clear hc HA hB3;generalize Tr.litD r.body k=x at *;have HC:Hid (_):=litIsRight_any x v4 (wr.alloc (litObj x v4)) hfit (termsV_below hT (below_alloc _ _));obtain⟨ao4,ca4,rfl,_⟩:=hT;cases g:Tr.litOk x
   ·(have HF:Hid (V=false):=by show _=_;rw[HW.out,HD.out,g];rfl);clear HD HW;go_wp2_with fail;refine Calls.mono HC.out ?_;rintro e w4 ⟨he,hb4⟩;rw[g]at he;subst he;have hbel4:=hbel3.trans ((hbelr.trans ((below_box hb4).mono hbelr.size)).mono hbel3.size);go_wp2_with fail;go_ret;exact⟨ret_bool HF.out.symm,hbel4⟩
   (have HN:Hid (Tr.litsOk r.body=(r.body.drop (k+1)).all Tr.litOk):=by show _=_;rw[HD.out,g];rfl);clear HD;go_wp2_with fail;refine Calls.mono HC.out ?_;rintro e w4 ⟨he,hb4⟩;rw[g]at he;subst he;have hbel4:=hbelr.trans ((below_box hb4).mono hbelr.size);clear hb4 HC g a0 a1 a2 a3 a4;go_wp2_with fail;go_roundw;(case rel=>exact⟨k+1,oM,gN,HN.out,hbel4⟩);case measure=>exact mI
  (have HF:Hid (V=true):=by show _=_;rw[HW.out,HA.out,List.drop_of_length_le oM];rfl);have hbel4:=hbel3.trans (hbelr.mono hbel3.size);clear hB3 HA;go_wp2_with fail;go_ret;exact⟨ret_bool HF.out.symm,hbel4⟩
abbrev treeVal(v:Value):Value:=.agg #[v]
theorem tooMany_any(l:List Tr.Rule)(v:Value)(w:World)(hA:RulesV w v l):
 Calls Tryz.prog 221 #[treeVal v] w fun e w'=>e=.returned (.bool (Tr.many l))∧Below w.heap.size w w':=by
 have hA0:=rulesV_below hA (below_alloc w (.cells #[v] 243));have hbel0:=below_alloc w (.cells #[v] 243);obtain⟨ao,ca,rfl,_⟩:=hA;by_cases h12:12<l.length
 ·have HF:Hid (Tr.many l=true):=by show _=_;unfold Tr.many;rw[decide_eq_true h12];rfl
  go_enter Tryz.func221,Tryz.ntmps221
  go_wp2_with fail;go_ret;exact⟨ret_bool HF.out.symm,hbel0⟩
 have HV:Hid (Tr.many l=l.any Tr.ruleMany):=by show _=_;unfold Tr.many;rw[decide_eq_false h12];rfl
 go_enter Tryz.func221,Tryz.ntmps221
 go_wp2_with fail;generalize (w.alloc (.cells #[.slice ao l.length ca] 243))=w0 at *;go_loopw [14] (fun i wr=>∃k:Nat,k≤l.length∧i=.int .i64 k∧Tr.many l=(l.drop k).any Tr.ruleMany∧Below w0.heap.size w0 wr) (fun i _=>l.length-(intOf i).toNat);case atStart=>exact⟨0,Nat.zero_le _,rfl,HV.out,Below.refl _ _⟩
 case round=>
  obtain⟨k,hk,rfl,hany,hbelr⟩:=hrel;have HA:Hid (Tr.many l=(l.drop k).any Tr.ruleMany):=hany;clear hany HV;by_cases hlt:k<l.length
  ·obtain⟨ao',ca',hv,hR⟩:=rulesV_below hA0 hbelr;rcases hR with h|⟨b,off,rfl,hc⟩
   ·rw[h]at hlt;exact absurd hlt sI
   injection hv with e1 _ e3;subst e1 e3;obtain⟨a0,a1,⟨v2,a2,hT⟩,a3,v4,a4,hL⟩:=hc k hlt;have HD:Hid (Tr.many l=(Tr.ruleMany (Tr.ruleD l k)||(l.drop (k+1)).any Tr.ruleMany)):=HA.out.trans (any_drop _ _ _ k hlt);clear hc HA;generalize Tr.ruleD l k=r at *;have hL0:=litsV_below hL (below_alloc wr (ruleObj r v2 v4));have hbel1:Below w.heap.size w (wr.alloc (ruleObj r v2 v4)):=(hbel0.trans (hbelr.mono hbel0.size)).trans ((below_alloc wr _).mono (hbel0.trans (hbelr.mono hbel0.size)).size);have hbelr1:Below w0.heap.size w0 (wr.alloc (ruleObj r v2 v4)):=hbelr.trans ((below_alloc wr _).mono hbelr.size);obtain⟨ao2,ca2,rfl,_⟩:=hT;obtain⟨ao4,ca4,rfl,_⟩:=hL;by_cases h4:4<r.body.length;rotate_left
   ·have g1:decide ((4:Int)<(r.body.length:Int))=false:=decide_eq_false oM;by_cases h3:3<r.terms.length;rotate_left
    ·have g2:decide ((3:Int)<(r.terms.length:Int))=false:=decide_eq_false oM;(have HM:Hid (Tr.ruleMany r=Tr.litsMany r.body):=by show _=_;unfold Tr.ruleMany;rw[decide_eq_false h4,decide_eq_false h3];rfl);go_wp2_with fail;generalize (wr.alloc (ruleObj r (.slice ao2 r.terms.length ca2) (.slice ao4 r.body.length ca4)))=w1 at *;go_loopw [31] (fun i wq=>∃j:Nat,j≤r.body.length∧i=.int .i64 j∧Tr.litsMany r.body=(r.body.drop j).any (fun x=>decide (3<x.terms.length))∧Below w1.heap.size w1 wq) (fun i _=>r.body.length-(intOf i).toNat);case atStart=>exact⟨0,Nat.zero_le _,rfl,rfl,Below.refl _ _⟩
     case round=>
      obtain⟨j,hj,rfl,hany,hbelq⟩:=hrel;have HB:Hid (Tr.litsMany r.body=(r.body.drop j).any (fun x=>decide (3<x.terms.length))):=hany;clear hany;by_cases hltj:j<r.body.length
      ·obtain⟨bo',cb',hv,hL⟩:=litsV_below hL0 hbelq;rcases hL with h|⟨b2,off2,rfl,hc⟩
       ·rw[h]at hltj;exact absurd hltj sI
       injection hv with e1 _ e3;subst e1 e3;obtain⟨q0,q1,q2,q3,u4,q4,hT⟩:=hc j hltj;have HE:Hid (Tr.litsMany r.body=(decide (3<(Tr.litD r.body j).terms.length)||(r.body.drop (j+1)).any (fun x=>decide (3<x.terms.length)))):=HB.out.trans (any_drop _ _ _ j hltj);clear hc HB hL0 hA0;generalize Tr.litD r.body j=x at *;obtain⟨ao5,ca5,rfl,_⟩:=hT;by_cases hx:3<x.terms.length;rotate_left
       ·have g:decide ((3:Int)<(x.terms.length:Int))=false:=decide_eq_false oM;(have HN:Hid (Tr.litsMany r.body=(r.body.drop (j+1)).any (fun x=>decide (3<x.terms.length))):=by show _=_;rw[HE.out,decide_eq_false hx];rfl);have hbq:=hbelq.trans ((below_alloc _ (litObj x (.slice ao5 x.terms.length ca5))).mono hbelq.size);clear HE;go_wp2_with fail;go_roundw;(case rel=>exact⟨j+1,oM,gN,HN.out,hbq⟩);case measure=>exact mI
       have g:decide ((3:Int)<(x.terms.length:Int))=true:=decide_eq_true oM;(have HF:Hid (Tr.many l=true):=by show _=_;rw[HD.out,HM.out,HE.out,decide_eq_true hx];rfl);have hbq:=hbel1.trans ((hbelq.trans ((below_alloc _ (litObj x (.slice ao5 x.terms.length ca5))).mono hbelq.size)).mono hbel1.size);clear HE HD HM;go_wp2_with fail;go_ret;exact⟨ret_bool HF.out.symm,hbq⟩
      (have HN:Hid (Tr.many l=(l.drop (k+1)).any Tr.ruleMany):=by show _=_;rw[HD.out,HM.out,HB.out,List.drop_of_length_le oM];rfl);have hbq:=hbelr1.trans (hbelq.mono hbelr1.size);clear HB HD HM hL0 hA0;go_wp2_with fail;go_roundw;(case rel=>exact⟨k+1,oM,gN,HN.out,hbq⟩);case measure=>exact mI
    have g2:decide ((3:Int)<(r.terms.length:Int))=true:=decide_eq_true oM;(have HF:Hid (Tr.many l=true):=by show _=_;rw[HD.out];unfold Tr.ruleMany;rw[decide_eq_true h3];simp);clear HD hA0 hL0;go_wp2_with fail;go_ret;exact⟨ret_bool HF.out.symm,hbel1⟩
   have g1:decide ((4:Int)<(r.body.length:Int))=true:=decide_eq_true oM;(have HF:Hid (Tr.many l=true):=by show _=_;rw[HD.out];unfold Tr.ruleMany;rw[decide_eq_true h4];simp);clear HD hA0 hL0;go_wp2_with fail;go_ret;exact⟨ret_bool HF.out.symm,hbel1⟩
  (have HF:Hid (Tr.many l=false):=by show _=_;rw[HA.out,List.drop_of_length_le oM];rfl);have hbq:=hbel0.trans (hbelr.mono hbel0.size);clear hA0 HA;go_wp2_with fail;go_ret;exact⟨ret_bool HF.out.symm,hbq⟩
theorem ruleMany_no{r:Tr.Rule}(h:Tr.ruleMany r=false):r.terms.length≤3∧r.body.length≤4∧Fits r.body:=by unfold Tr.ruleMany at h;simp only[Bool.or_eq_false_iff,decide_eq_false_iff_not]at h;refine⟨oM,oM,fun i hi=>?_⟩;have hx:=h.2;unfold Tr.litsMany at hx;rw[List.any_eq_false]at hx;(have e:Tr.litD r.body i=r.body[i]:=by rw[Tr.litD,List.getD_eq_getElem?_getD,List.getElem?_eq_getElem hi];rfl);have :=hx _ (List.getElem_mem hi);rw[e];simp at this;omega
theorem Check_any(l:List Tr.Rule)(v:Value)(w:World)(hA:RulesV w v l):
 Calls Tryz.prog 206 #[treeVal v] w fun e w'=>e=.returned (.int .i64 (Tr.check l))∧Below w.heap.size w w':=by
 have hA0:=rulesV_below hA (below_alloc w (.cells #[v] 243));have hbel0:=below_alloc w (.cells #[v] 243);have HT:Hid (_):=tooMany_any l v (w.alloc (.cells #[v] 243)) hA0;obtain⟨ao,ca,rfl,_⟩:=hA
 go_enter Tryz.func206,Tryz.ntmps206
 go_wp2_with fail;refine Calls.mono HT.out ?_;rintro e w1 ⟨he,hb1⟩;have hbel1:=hbel0.trans (hb1.mono hbel0.size);have hA1:=rulesV_below hA0 hb1;have c0:w1.cell? ⟨w.heap.size,0,none⟩=some (.slice ao l.length ca):=cell_below hb1 (by simp[go_sem]);clear HT hA0 hb1 hbel0;cases gm:Tr.many l
 ·rw[gm]at he;subst he;(have hl12:l.length≤12:=by unfold Tr.many at gm;simp only[Bool.or_eq_false_iff,decide_eq_false_iff_not]at gm;omega);(have hMany:∀k,k<l.length→Tr.ruleMany (Tr.ruleD l k)=false:=fun k hk=>by unfold Tr.many at gm;simp only[Bool.or_eq_false_iff]at gm;(have e:Tr.ruleD l k=l[k]:=by rw[Tr.ruleD,List.getD_eq_getElem?_getD,List.getElem?_eq_getElem hk];rfl);rw[e];have :=List.any_eq_false.1 gm.2 _ (List.getElem_mem hk);simpa using this);have HM:Hid (∀k,k<l.length→Tr.ruleMany (Tr.ruleD l k)=false):=hMany;(have HV:Hid (Tr.check l=if l.all Tr.ruleOk then 0 else 1):=by show _=_;unfold Tr.check;rw[gm];rfl);clear hMany gm;go_wp2_with fail;go_loopw [10] (fun i wr=>∃k:Nat,k≤l.length∧i=.int .i64 k∧l.all Tr.ruleOk=(l.drop k).all Tr.ruleOk∧Below w1.heap.size w1 wr) (fun i _=>l.length-(intOf i).toNat);case atStart=>exact⟨0,Nat.zero_le _,rfl,rfl,Below.refl _ _⟩
  case round=>
   obtain⟨k,hk,rfl,hall,hbelr⟩:=hrel;have HA:Hid (l.all Tr.ruleOk=(l.drop k).all Tr.ruleOk):=hall;clear hall;by_cases hlt:k<l.length
   ·obtain⟨ao',ca',hv,hR⟩:=rulesV_below hA1 hbelr;rcases hR with h|⟨b,off,rfl,hc⟩
    ·rw[h]at hlt;exact absurd hlt sI
    injection hv with e1 _ e3;subst e1 e3;obtain⟨a0,a1,⟨v2,a2,hT⟩,a3,v4,a4,hL⟩:=hc k hlt;have HD:Hid (l.all Tr.ruleOk=(Tr.ruleOk (Tr.ruleD l k)&&(l.drop (k+1)).all Tr.ruleOk)):=HA.out.trans (all_drop _ _ _ k hlt);obtain⟨f1,f2,f3⟩:=ruleMany_no (HM.out k hlt);clear hc HA hA1;generalize Tr.ruleD l k=r at *;have HC:Hid (_):=ruleIsRight_any r v2 v4 (wr.alloc (ruleObj r v2 v4)) oM oM f3 (termsV_below hT (below_alloc _ _)) (litsV_below hL (below_alloc _ _));obtain⟨ao2,ca2,rfl,_⟩:=hT;obtain⟨ao4,ca4,rfl,_⟩:=hL;clear f3;cases g:Tr.ruleOk r
    ·(have HF:Hid (Tr.check l=1):=by show _=_;rw[HV.out,HD.out,g];rfl);clear HD HV;go_wp2_with fail;refine Calls.mono HC.out ?_;rintro e w4 ⟨he,hb4⟩;rw[g]at he;subst he;have hbel4:=hbel1.trans ((hbelr.trans ((below_box hb4).mono hbelr.size)).mono hbel1.size);go_wp2_with fail;go_ret;exact⟨ret_int HF.out.symm,hbel4⟩
    (have HN:Hid (l.all Tr.ruleOk=(l.drop (k+1)).all Tr.ruleOk):=by show _=_;rw[HD.out,g];rfl);clear HD;go_wp2_with fail;refine Calls.mono HC.out ?_;rintro e w4 ⟨he,hb4⟩;rw[g]at he;subst he;have hbel4:=hbelr.trans ((below_box hb4).mono hbelr.size);clear hb4 HC g a0 a1 a2 a3 a4;go_wp2_with fail;go_roundw;(case rel=>exact⟨k+1,oM,gN,HN.out,hbel4⟩);case measure=>exact mI
   (have HF:Hid (Tr.check l=0):=by show _=_;rw[HV.out,HA.out,List.drop_of_length_le oM];rfl);have hbel4:=hbel1.trans (hbelr.mono hbel1.size);clear hA1 HA HV;go_wp2_with fail;go_ret;exact⟨ret_int HF.out.symm,hbel4⟩
 rw[gm]at he;subst he;(have HF:Hid (Tr.check l=2):=by show _=_;unfold Tr.check;rw[gm];rfl);go_wp2_with fail;go_ret;exact⟨ret_int HF.out.symm,hbel1⟩
theorem grownBy_of_below{w w':World}(h:Below w.heap.size w w')(row:Option Nat):w.grownBy w' row:=
 ⟨h.os,h.tape,h.output,h.size,fun k hk _=>h.block k hk⟩
theorem grownBy_trans{a b c:World}{row:Option Nat}(h:a.grownBy b row)(k:b.grownBy c row):a.grownBy c row:=
 ⟨k.os.trans h.os,k.tape.trans h.tape,k.output.trans h.output,Nat.le_trans h.size k.size,fun i hi hne=>(k.block i (Nat.lt_of_lt_of_le hi h.size) hne).trans (h.block i hi hne)⟩
theorem grownBy_set{w:World}{P:Nat}(o:Nat)(v:Value):w.grownBy (w.setCell ⟨P,o,none⟩ v) (some P):=
 ⟨rfl,rfl,rfl,by simp[World.setCell],fun k _ hk=>Below.heap_setCell _ _ _ _ (fun e=>hk (by rw[e]))⟩
theorem below_drewN{B:Nat}{a w:World}(h:Below B a w)(n:Nat):Below B a (w.drewN n):=⟨h.os,h.tape,h.output,h.size,h.block⟩
end Go.Proofs.YthenjegmigeieaaGreat

namespace Go.Proofs.YthenjegmigeieaaGreat
open Go.RowKit
abbrev putTok(w:World)(x:Tk.Tok):World:=w.alloc (.cells #[.int .i64 x.kind, .int .i64 x.at_, .string ⟨x.text.toArray⟩] 271)
abbrev termObj:Obj:=.cells #[.string {data:=#[]}, .int .i64 0] 266
theorem flat_length(k:Nat):∀cs:List (List Value),(∀c,c∈cs→c.length=k)→cs.flatten.length=cs.length*k:=by
 intro cs
 induction cs with
 |nil=>intro _;simp
 |cons c r ih=>
  intro h;rw[List.flatten_cons,List.length_append,ih (fun c hc=>h c (List.mem_cons_of_mem _ hc)),h c List.mem_cons_self,List.length_cons,Nat.add_mul];omega
theorem flat_get(k:Nat):∀(cs:List (List Value)),(∀c,c∈cs→c.length=k)→∀i c j u,cs[i]?=some c→c[j]?=some u→cs.flatten[i*k+j]?=some u:=by
 intro cs
 induction cs with
 |nil=>intro _ i c j u h;simp at h
 |cons a r ih=>
  intro h i c j u hi hj;have ha:=h a List.mem_cons_self;have hjk:j<c.length:=by
   rcases Nat.lt_or_ge j c.length with h|h
   ·exact h
   rw[List.getElem?_eq_none h]at hj;cases hj
  rw[List.flatten_cons]
  cases i with
  |zero=>
   (have hac:a=c:=by simpa using hi);subst hac;rw[Nat.zero_mul,Nat.zero_add,List.getElem?_append_left hjk];exact hj
  |succ i=>
   rw[List.getElem?_append_right (by rw[ha,Nat.add_mul];omega),ha,show(i+1)*k+j-k=i*k+j from by rw[Nat.add_mul];omega];exact ih (fun c hc=>h c (List.mem_cons_of_mem _ hc)) i c j u (by simpa using hi) hj
theorem heap_lt{w:World}{b:Nat}{o:Obj}(h:w.heap[b]?=some o):b<w.heap.size:=by
 rcases Nat.lt_or_ge b w.heap.size with h1|h1
 ·exact h1
 rw[Array.getElem?_eq_none h1]at h;cases h
theorem rl_lt{w:World}{b:Nat}{o:Obj}(h:w.heap[b]?=some o):b<w.heap.size:=by
 rcases Nat.lt_or_ge b w.heap.size with h2|h2
 ·exact h2
 rw[Array.getElem?_eq_none h2]at h;cases h
theorem rl_new(w:World)(o:Obj):(w.alloc o).heap[w.heap.size]?=some o:=by show(w.heap.push o)[w.heap.size]?=some o;simp
theorem rl_cell_low{w0 y:World}{b o:Nat}{v:Value}(h:w0.cell? ⟨b,o,none⟩=some v)(hl:∀k,k<w0.heap.size→y.heap[k]?=w0.heap[k]?):y.cell? ⟨b,o,none⟩=some v:=(World.cell?_of_block (a:=⟨b,o,none⟩) (hl b (World.block_lt_of_cell? w0 _ h))).trans h
theorem rl_low_size{w0 y:World}(hl:∀k,k<w0.heap.size→y.heap[k]?=w0.heap[k]?):w0.heap.size≤y.heap.size:=by
 rcases Nat.eq_zero_or_pos w0.heap.size with h|h
 ·omega
 have h1:=hl (w0.heap.size-1) oM;have h2:w0.heap[w0.heap.size-1]?=some w0.heap[w0.heap.size-1]:=Array.getElem?_eq_getElem oM;have :=rl_lt (h1.trans h2);omega
theorem rl_own_alone{w w':World}{B k n:Nat}{e:TypeId}{v:Value}{xs:List Value}(h:w.ownsRow B e k v n xs)(hk:∀g,v.ownBlock=some g→w'.heap[g]?=w.heap[g]?):w'.ownsRow B e k v n xs:=by
 obtain⟨h1,h2⟩:=h;refine⟨h1,?_⟩;rcases h2 with h2|⟨g,cap,cur,rfl,hb,hh,r⟩
 ·exact .inl h2
 exact .inr ⟨g,cap,cur,rfl,hb,(hk g rfl).trans hh,r⟩
theorem rl_ints_low{w0 w:World}{v:Value}{l:List Int}(h:IntsV w0 v l)(hl:∀k,k<w0.heap.size→w.heap[k]?=w0.heap[k]?):IntsV w v l:=by
 obtain⟨ao,cap,rfl,h⟩:=h;refine⟨ao,cap,rfl,?_⟩;rcases h with h|⟨b,off,rfl,hc⟩
 ·exact .inl h
 exact .inr ⟨b,off,rfl,fun i hi=>rl_cell_low (hc i hi) hl⟩
abbrev Fv:=Rl.Fc×Value
def fcCells(x:Fv):List Value:=[.int .i64 x.1.pred,x.2]
theorem fc_len(q:List Fv):∀c,c∈q.map fcCells→c.length=2:=by intro c hc;obtain⟨t,_,rfl⟩:=List.mem_map.mp hc;rfl
theorem fc_at(q:List Fv)(t:Nat)(ht:t<q.length*2):∃x,q[t/2]?=some x∧((q.map fcCells).flatten)[t]?=(fcCells x)[t% 2]?:=by
 have h1:t/2<q.length:=oM;refine⟨q[t/2],List.getElem?_eq_getElem h1,?_⟩;have h2:(fcCells q[t/2])[t% 2]?=some ((fcCells q[t/2])[t% 2]'(by show _<2;omega)):=List.getElem?_eq_getElem _;have :=flat_get 2 (q.map fcCells) (fc_len q) (t/2) (fcCells q[t/2]) (t% 2) _ (by rw[List.getElem?_map,List.getElem?_eq_getElem h1];rfl) h2;rw[h2,←this]
 congr 1
 omega
theorem fc_length(q:List Fv):((q.map fcCells).flatten).length=q.length*2:=by rw[flat_length 2 _ (fc_len q),List.length_map]
abbrev FRow(w:World)(B g cap:Nat)(q:List Fv):Prop:=w.ownsRow B 55 2 (.slice (some ⟨g,0,none⟩) q.length cap) q.length (q.map fcCells).flatten
section
variable {w w':World} {B g cap:Nat} {q:List Fv}
theorem FRow.cell(h:FRow w B g cap q){i:Nat}{x:Fv}(hi:q[i]?=some x):w.cell? ⟨g,i*2,none⟩=some (.int .i64 x.1.pred)∧w.cell? ⟨g,i*2+1,none⟩=some x.2:=by
 have hl:i<q.length:=by
  rcases Nat.lt_or_ge i q.length with h2|h2
  ·exact h2
  rw[List.getElem?_eq_none h2]at hi;cases hi
 (have hm:(q.map fcCells)[i]?=some (fcCells x):=by rw[List.getElem?_map,hi];rfl);have c0:=flat_get 2 (q.map fcCells) (fc_len q) i (fcCells x) 0 (.int .i64 x.1.pred) hm rfl;have c1:=flat_get 2 (q.map fcCells) (fc_len q) i (fcCells x) 1 x.2 hm rfl;exact⟨(World.ownsRow.cellAt h (i*2) oM).trans c0,(World.ownsRow.cellAt h (i*2+1) oM).trans c1⟩
theorem FRow.frozen(h:FRow w B g cap q)(j:Nat):w.frozen? ⟨g,j,none⟩=false:=World.ownsRow.frozenAt h j
theorem FRow.lt(h:FRow w B g cap q):B≤g∧g<w.heap.size:=World.ownsRow.lt h g rfl
theorem FRow.keep(h:FRow w B g cap q)(hk:w'.heap[g]?=w.heap[g]?):FRow w' B g cap q:=rl_own_alone h fun g' hg=>by
 (have :g=g':=by simpa[Value.ownBlock]using hg);subst this
 exact hk
theorem fc_set(q:List Fv)(i:Nat)(hi:i<q.length)(y:Fv):((((q.map fcCells).flatten).set (i*2) (.int .i64 y.1.pred)).set (i*2+1) y.2)=(((q.set i y).map fcCells).flatten):=by
 apply List.ext_getElem?;intro t;by_cases ht:t<q.length*2
 ·obtain⟨x,hx,hx2⟩:=fc_at q t ht;obtain⟨z,hz,hz2⟩:=fc_at (q.set i y) t (by rw[List.length_set];exact ht);rw[hz2];rw[List.getElem?_set]at hz;rw[List.getElem?_set,List.getElem?_set,List.length_set,fc_length];by_cases hti:i=t/2
  ·rw[if_pos hti,if_pos oM]at hz;(obtain rfl:y=z:=by simpa using hz);by_cases h0:t% 2=0
   ·have e1:¬i*2+1=t:=oM;have e2:i*2=t:=oM;rw[if_neg e1,if_pos e2,if_pos oM,h0];rfl
   have h1:t% 2=1:=oM;have e1:i*2+1=t:=oM;rw[if_pos e1,if_pos oM,h1];rfl
  rw[if_neg hti,hx]at hz;(obtain rfl:x=z:=by simpa using hz);rw[if_neg oM,if_neg oM,hx2]
 rw[List.getElem?_eq_none,List.getElem?_eq_none]
 ·rw[fc_length,List.length_set];omega
 rw[List.length_set,List.length_set,fc_length];omega
theorem FRow.put(h:FRow w B g cap q)(i:Nat)(hi:i<q.length)(y:Fv):FRow ((w.setCell ⟨g,i*2,none⟩ (.int .i64 y.1.pred)).setCell ⟨g,i*2+1,none⟩ y.2) B g cap (q.set i y):=by have h1:=(World.ownsRow.stored h (i*2) (.int .i64 y.1.pred)).1;have h2:=(World.ownsRow.stored h1 (i*2+1) y.2).1;unfold FRow;rw[List.length_set,←fc_set q i hi y];exact h2
end
end Go.Proofs.YthenjegmigeieaaGreat
namespace Go.Proofs.YthenjegmigeieaaGreat
open Go.Shelf Go.RowKit Go.Lib Go.Sort
def FvOk(w:World)(x:Fv):Prop:=IntsV w x.2 x.1.args∧FFit x.1
abbrev FvS(w:World):={x:Fv//FvOk w x}
theorem fvOk_nil(w:World):FvOk w (⟨0,[]⟩, .slice none 0 0):=⟨⟨none,0,rfl, .inl rfl⟩,by show([]:List Int).length≤_;decide⟩
theorem fv_lift{w:World}:∀{q:List Fv},(∀p,p∈q→FvOk w p)→∃Q:List (FvS w),Q.map (·.1)=q:=by
 intro q
 induction q with
 |nil=>intro _;exact⟨[],rfl⟩
 |cons a r ih=>
  intro h;obtain⟨Q,hQ⟩:=ih (fun p hp=>h p (by simp[hp]));exact⟨⟨a,h a sI⟩::Q,by simp[hQ]⟩
abbrev fvInh(w:World):Inhabited (FvS w):=⟨⟨_,fvOk_nil w⟩⟩
def fvEnc{w:World}(x:FvS w):List Value:=fcCells x.1
def fvCmp{w:World}(x y:FvS w):Int:=Rl.ord x.1.1 y.1.1
theorem fv_swo(w:World):SWO (ltOf (fvCmp (w:=w)))where
 irrefl x:=by unfold ltOf fvCmp;rw[Rl.ord_self];decide
 trans x y z h1 h2:=by unfold ltOf fvCmp at *;simp only[decide_eq_true_eq]at *;exact Rl.ord_trans h1 h2
 ntrans x y z h1 h2:=by
  unfold ltOf fvCmp at *;simp only[decide_eq_false_iff_not]at *;intro h3;rcases Rl.lt_or x.1.1 y.1.1 with h4|h4|h4
  ·exact h1 h4
  ·rw[h4]at h3;exact h2 h3
  exact h2 (Rl.ord_trans h4 h3)
theorem fv_one{w:World}(x:FvS w):∀v∈fvEnc x,v.oneCell'=true:=by intro v hv;obtain⟨⟨⟨p,a⟩,u⟩,h⟩:=x;obtain⟨⟨ao,cap,hu,_⟩,_⟩:=h;have hu:u=.slice ao a.length cap:=hu;subst hu;simp[fvEnc,fcCells]at hv;rcases hv with rfl|rfl<;>rfl
theorem sortWorldK_block{α:Type}[Inhabited α](enc:α→List Value)(k:Nat)(w:World)(g m:Nat)(d:Array α)(os:Array Obj)(i:Nat)(hi:i<w.heap.size)(hne:¬i=g):(sortWorldK enc k w g 0 m d os).heap[i]?=w.heap[i]?:=by unfold sortWorldK putRowK putRow mapBlock Sort.ahead grow;show((w.heap.modify g _)++os)[i]?=_;rw[Array.getElem?_append_left (by simpa using hi),Array.getElem?_modify,if_neg (fun e=>hne e.symm)]
theorem sortWorldK_size{α:Type}[Inhabited α](enc:α→List Value)(k:Nat)(w:World)(g m:Nat)(d:Array α)(os:Array Obj):w.heap.size≤(sortWorldK enc k w g 0 m d os).heap.size:=by unfold sortWorldK putRowK putRow mapBlock Sort.ahead grow;show _≤((w.heap.modify g _)++os).size;simp
theorem cmp_lays{w0 w:World}{g:Nat}(hg:w0.heap.size≤g)(hlow:∀k,k<w0.heap.size→w.heap[k]?=w0.heap[k]?)(size:Nat):@CmpLays (FvS w0) (fvInh w0) Tryz.prog 71 #[] fvEnc 2 fvCmp g 0 size w:=by
 letI:Inhabited (FvS w0):=fvInh w0
 intro m os dk _ x y;have hl:∀k,k<w0.heap.size→(sortWorldK (fvEnc (w:=w0)) 2 w g 0 m dk os).heap[k]?=w0.heap[k]?:=fun k hk=>(sortWorldK_block _ _ _ _ _ _ _ k (Nat.lt_of_lt_of_le hk (rl_low_size hlow)) oM).trans (hlow k hk);exact Order_any x.1.1 y.1.1 x.1.2 y.1.2 _ (rl_ints_low x.2.1 hl) (rl_ints_low y.2.1 hl) x.2.2 y.2.2
theorem holds_row{w0 w:World}{B g cap:Nat}{Q:List (FvS w0)}(h:FRow w B g cap (Q.map (·.1))):@HoldsK (FvS w0) (fvInh w0) fvEnc 2 w g 0 Q.toArray:=by
 letI:Inhabited (FvS w0):=fvInh w0
 intro t ht;(have ht2:t<Q.length*2:=by simpa using ht);refine⟨?_,by rw[Nat.zero_add];exact h.frozen t⟩;rw[Nat.zero_add];have hc:=World.ownsRow.cellAt h t (by rw[List.length_map];exact ht2);obtain⟨x,hx,hx2⟩:=fc_at (Q.map (·.1)) t (by rw[List.length_map];exact ht2);rw[hc,hx2];have h1:t/2<Q.length:=oM;rw[List.getElem?_map,List.getElem?_eq_getElem h1]at hx;(have hx3:Q[t/2].1=x:=by simpa using hx);show(fcCells x)[t% 2]?=some ((flatK fvEnc 2 Q.toArray)[t]!);rw[get_flatK fvEnc 2 Q.toArray t (by simpa using ht2)];(have h2:(Q.toArray)[t/2]! =Q[t/2]:=by simp[h1]);rw[h2];show _=some ((fcCells Q[t/2].1)[t% 2]!);rw[hx3];(have h3:t% 2<(fcCells x).length:=by show t% 2<2;omega);rw[List.getElem?_eq_getElem h3,getElem!_pos (fcCells x) (t% 2) h3]
theorem row_sorted{w0 w:World}{B g cap n:Nat}{Q:List (FvS w0)}{d:Array (FvS w0)}{os:Array Obj}(h:FRow w B g cap (Q.map (·.1)))(hd:d.size=Q.length):
 FRow (@sortWorldK (FvS w0) (fvInh w0) fvEnc 2 w g 0 n d os) B g cap (d.toList.map (·.1)):=by
 letI:Inhabited (FvS w0):=fvInh w0
 have hg:=h.lt;obtain⟨h1,h2⟩:=h;rcases h2 with⟨h2,_⟩|⟨g',cap',cur,hv,hb,hh,hc1,hc2,hc3,hc4⟩
 ·cases h2
 injection hv with e1 _ e3;injection e1 with e1;injection e1 with e1;subst e1 e3;(have hl:(d.toList.map (·.1)).length=Q.length:=by rw[List.length_map,Array.length_toList,hd]);refine⟨fc_length _, .inr ⟨g,cap,putCells id 0 (flatK fvEnc 2 d) cur,rfl,hb,?_,by rw[hl];simpa using hc1,hc2,by simpa[putCells]using hc3,?_⟩⟩
 ·unfold sortWorldK putRowK putRow mapBlock Sort.ahead grow;show((w.heap.modify g _)++os)[g]?=_;rw[Array.getElem?_append_left (by simpa using hg.2),Array.getElem?_modify,if_pos rfl,hh];rfl
 apply List.ext_getElem?;intro t;rw[List.getElem?_take,Array.getElem?_toList,hl];by_cases ht:t<Q.length*2
 ·rw[if_pos ht];have hq:(Q.map (·.1)).length=Q.length:=List.length_map _;(have hcs:t<cur.size:=by rw[hc3];(have :Q.length≤cap:=by simpa using hc1);omega);obtain⟨x,hx,hx2⟩:=fc_at (d.toList.map (·.1)) t (by rw[hl];exact ht);rw[hx2];unfold putCells;rw[Array.getElem?_mapIdx,Array.getElem?_eq_getElem hcs,Option.map_some,if_pos (by rw[size_flatK,hd];omega)];have h4:t/2<d.size:=oM;rw[List.getElem?_map,Array.getElem?_toList,Array.getElem?_eq_getElem h4]at hx;(have hx3:d[t/2].1=x:=by simpa using hx);rw[Nat.sub_zero,get_flatK fvEnc 2 d t (by rw[hd];exact ht),getElem!_pos d _ h4];show some ((fcCells d[t/2].1)[t% 2]!)=_;rw[hx3];(have h3:t% 2<(fcCells x).length:=by show t% 2<2;omega);rw[List.getElem?_eq_getElem h3,getElem!_pos (fcCells x) (t% 2) h3]
 rw[if_neg ht,List.getElem?_eq_none];rw[fc_length,hl];omega
theorem sort_any(w0 w:World)(B g cap:Nat)(q:List Fv)(h0:w0.heap.size≤g)(hlow:∀k,k<w0.heap.size→w.heap[k]?=w0.heap[k]?)(hown:FRow w B g cap q)(hq:∀p,p∈q→FvOk w0 p)(hn:q.length<4611686018427387904):
 Calls Tryz.prog 106 #[.slice (some ⟨g,0,none⟩) q.length cap, .func (.func 71) #[] #[]] w fun e w'=>e=.returned (.tuple #[])∧∃q',q'.Perm q∧(q'.map (·.1)).Pairwise (fun a b=>¬Rl.Lt b a)∧FRow w' B g cap q'∧w.grownBy w' (some g):=by
 obtain⟨Q,rfl⟩:=fv_lift hq
 letI:Inhabited (FvS w0):=fvInh w0
 have eg:∀args w,(callFunc 71 args).run Tryz.prog w=.ok (.enter 71 args) w:=enters_of Tryz.func71 kR rfl;(have hsz:Q.toArray.size=Q.length:=by simp);have hcon:=AnyQ.slices_SortFunc Tryz.sortF 2 Tryz.isAgg55 Tryz.sizeOf55 fvEnc (fun _=>rfl) fv_one fvCmp (fv_swo w0) 71 #[] g 0 cap Q.toArray w eg (cmp_lays h0 hlow _) (holds_row hown) hown.lt.2 (by rw[hsz];simpa using hn);rw[hsz]at hcon;change Calls Tryz.prog 106 _ _ _ at hcon;rw[List.length_map];refine hcon.mono ?_;rintro e w' ⟨rfl,d',n,os,hp,hs,rfl⟩;obtain⟨p1,p2,p3⟩:=hp;(have hds:d'.size=Q.length:=by rw[p1];simp);(have e1:d'.extract 0 Q.length=d':=by rw[←hds];simp);(have e2:Q.toArray.extract 0 Q.length=Q.toArray:=by simp);rw[e1,e2]at p3;refine⟨rfl,d'.toList.map (·.1),?_,?_,row_sorted hown hds,rfl,rfl,rfl,sortWorldK_size _ _ _ _ _ _ _,fun k hk hne=>sortWorldK_block _ _ _ _ _ _ _ k hk (fun e=>hne (by rw[e]))⟩
 ·exact p3.map _
 rw[List.pairwise_iff_getElem];intro i j hi hj hij;(have hi2:i<d'.size:=by simpa using hi);(have hj2:j<d'.size:=by simpa using hj);have :=hs i j (Nat.zero_le _) hij oM;rw[getElem!_pos d' j hj2,getElem!_pos d' i hi2]at this;unfold ltOf fvCmp at this;simp only[decide_eq_false_iff_not]at this;simpa[Rl.Lt]using this
end Go.Proofs.YthenjegmigeieaaGreat
namespace Go.Proofs
open Go.Shelf
def Tryz.sortI_ren:Go.Shelf.Ren:=⟨fun |6=>55|15=>103|14=>102|28=>157|29=>158|20=>149|21=>150|22=>151|23=>152|24=>153|25=>154|26=>155|27=>156|46=>190|47=>191|48=>192|49=>193|50=>194|57=>214|n=>n,fun |22=>28|24=>22|25=>95|3=>3|39=>144|0=>0|53=>194|55=>196|4=>4|46=>188|45=>187|50=>180|5=>5|9=>9|66=>222|70=>226|76=>248|77=>233|n=>n,fun |n=>n⟩
theorem Tryz.sortI:Go.Proofs.SlLaysF.n6 Tryz.prog Tryz.sortI_ren:={
 mixed:=by kernel_rfl
 f6:=⟨Tryz.f55.name,by decide,Tryz.func55.trans (congrArg some (by kernel_rfl))⟩
 f14:=⟨Tryz.f102.name,by decide,Tryz.func102.trans (congrArg some (by kernel_rfl))⟩
 f15:=Tryz.func103.trans (congrArg some (by kernel_rfl))
 f20:=⟨Tryz.f149.name,by decide,Tryz.func149.trans (congrArg some (by kernel_rfl))⟩
 f21:=⟨Tryz.f150.name,by decide,Tryz.func150.trans (congrArg some (by kernel_rfl))⟩
 f22:=⟨Tryz.f151.name,by decide,Tryz.func151.trans (congrArg some (by kernel_rfl))⟩
 f23:=⟨Tryz.f152.name,by decide,Tryz.func152.trans (congrArg some (by kernel_rfl))⟩
 f24:=⟨Tryz.f153.name,by decide,Tryz.func153.trans (congrArg some (by kernel_rfl))⟩
 f25:=⟨Tryz.f154.name,by decide,Tryz.func154.trans (congrArg some (by kernel_rfl))⟩
 f26:=⟨Tryz.f155.name,by decide,Tryz.func155.trans (congrArg some (by kernel_rfl))⟩
 f27:=⟨Tryz.f156.name,by decide,Tryz.func156.trans (congrArg some (by kernel_rfl))⟩
 f28:=Tryz.func157.trans (congrArg some (by kernel_rfl))
 f29:=Tryz.func158.trans (congrArg some (by kernel_rfl))
 f46:=⟨Tryz.f190.name,by decide,Tryz.func190.trans (congrArg some (by kernel_rfl))⟩
 f47:=Tryz.func191.trans (congrArg some (by kernel_rfl))
 f48:=Tryz.func192.trans (congrArg some (by kernel_rfl))
 f49:=⟨Tryz.f193.name,by decide,Tryz.func193.trans (congrArg some (by kernel_rfl))⟩
 f50:=⟨Tryz.f194.name,by decide,Tryz.func194.trans (congrArg some (by kernel_rfl))⟩
 f57:=⟨Tryz.f214.name,by decide,Tryz.func214.trans (congrArg some (by kernel_rfl))⟩
 t0:=Tryz.underlying0
 a0:=Tryz.isAgg0
 z0:=Tryz.sizeOf0
 v0:=Tryz.zeroValue0
 t3:=Tryz.underlying3
 a3:=Tryz.isAgg3
 z3:=Tryz.sizeOf3
 v3:=Tryz.zeroValue3
 t4:=Tryz.underlying4
 a4:=Tryz.isAgg4
 z4:=Tryz.sizeOf4
 v4:=Tryz.zeroValue4
 t5:=Tryz.underlying5
 a5:=Tryz.isAgg5
 z5:=Tryz.sizeOf5
 v5:=Tryz.zeroValue5
 t9:=Tryz.underlying9
 a9:=Tryz.isAgg9
 z9:=Tryz.sizeOf9
 v9:=Tryz.zeroValue9
 t22:=Tryz.underlying28
 a22:=Tryz.isAgg28
 z22:=Tryz.sizeOf28
 v22:=Tryz.zeroValue28
 a24:=Tryz.isAgg22
 z24:=Tryz.sizeOf22
 t25:=Tryz.underlying95
 a25:=Tryz.isAgg95
 z25:=Tryz.sizeOf95
 v25:=Tryz.zeroValue95
 t39:=Tryz.underlying144
 a39:=Tryz.isAgg144
 z39:=Tryz.sizeOf144
 v39:=Tryz.zeroValue144
 t45:=Tryz.underlying187
 a45:=Tryz.isAgg187
 z45:=Tryz.sizeOf187
 v45:=Tryz.zeroValue187
 t46:=Tryz.underlying188
 a46:=Tryz.isAgg188
 z46:=Tryz.sizeOf188
 v46:=Tryz.zeroValue188
 t50:=Tryz.underlying180
 a50:=Tryz.isAgg180
 z50:=Tryz.sizeOf180
 v50:=Tryz.zeroValue180
 t53:=Tryz.underlying194
 a53:=Tryz.isAgg194
 z53:=Tryz.sizeOf194
 v53:=Tryz.zeroValue194
 t55:=Tryz.underlying196
 a55:=Tryz.isAgg196
 z55:=Tryz.sizeOf196
 v55:=Tryz.zeroValue196
 t66:=Tryz.underlying222
 a66:=Tryz.isAgg222
 z66:=Tryz.sizeOf222
 v66:=Tryz.zeroValue222
 t70:=Tryz.underlying226
 a70:=Tryz.isAgg226
 z70:=Tryz.sizeOf226
 v70:=Tryz.zeroValue226
 t76:=Tryz.underlying248
 a76:=Tryz.isAgg248
 z76:=Tryz.sizeOf248
 v76:=Tryz.zeroValue248
 t77:=Tryz.underlying233
 a77:=Tryz.isAgg233
 z77:=Tryz.sizeOf233
 v77:=Tryz.zeroValue233}
end Go.Proofs
namespace Go.Proofs.YthenjegmigeieaaGreat
namespace Rl
def ddGo(p:Fc):List Fv→List Fv
 |[]=>[]
 |x::r=>if ord x.1 p=0 then ddGo x.1 r else x::ddGo x.1 r
def dd:List Fv→List Fv
 |[]=>[]
 |x::r=>x::ddGo x.1 r
def lastF(p:Fc):List Fv→Fc
 |[]=>p
 |x::r=>lastF x.1 r
theorem ddGo_snoc:∀(l:List Fv)(p:Fc)(x:Fv),ddGo p (l++[x])=if ord x.1 (lastF p l)=0 then ddGo p l else ddGo p l++[x]:=by
 intro l
 induction l with
 |nil=>intro p x;by_cases h:ord x.1 p=0<;>simp[ddGo,lastF,h]
 |cons y r ih=>
  intro p x;have hi:=ih y.1 x;by_cases h:ord y.1 p=0
  ·by_cases h2:ord x.1 (lastF y.1 r)=0
   ·rw[if_pos h2]at hi;simp[ddGo,lastF,h,h2,hi]
   rw[if_neg h2]at hi;simp[ddGo,lastF,h,h2,hi]
  by_cases h2:ord x.1 (lastF y.1 r)=0
  ·rw[if_pos h2]at hi;simp[ddGo,lastF,h,h2,hi]
  rw[if_neg h2]at hi;simp[ddGo,lastF,h,h2,hi]
theorem lastF_get:∀(l:List Fv)(p:Fc)(y:Fv),l.getLast?=some y→lastF p l=y.1:=by
 intro l
 induction l with
 |nil=>intro p y h;cases h
 |cons x r ih=>
  intro p y h
  cases r with
  |nil=>
   simp at h;rw[←h];rfl
  |cons z r=>
   rw[List.getLast?_cons_cons]at h;exact ih x.1 y h
theorem dd_snoc(l:List Fv)(x y:Fv)(h:l.getLast?=some y):dd (l++[x])=if ord x.1 y.1=0 then dd l else dd l++[x]:=by
 cases l with
 |nil=>cases h
 |cons a r=>
  simp only[List.cons_append,dd,ddGo_snoc];have hl:lastF a.1 r=y.1:=by
   cases r with
   |nil=>simp at h;rw[←h];rfl
   |cons b r=>
    rw[List.getLast?_cons_cons]at h;exact lastF_get (b::r) a.1 y h
  rw[hl];by_cases h2:ord x.1 y.1=0
  ·rw[if_pos h2,if_pos h2]
  rw[if_neg h2,if_neg h2]
theorem dd_take(q:List Fv)(m:Nat)(x y:Fv)(h1:1≤m)(hx:q[m]?=some x)(hy:q[m-1]?=some y):dd (q.take (m+1))=if ord x.1 y.1=0 then dd (q.take m)else dd (q.take m)++[x]:=by
 rw[List.take_add_one,hx];refine dd_snoc (q.take m) x y ?_;have hm:m≤q.length:=by
  rcases Nat.lt_or_ge m q.length with h|h
  ·omega
  rw[List.getElem?_eq_none h]at hx;cases hx
 rw[List.getLast?_eq_getElem?,List.length_take,Nat.min_eq_left hm,List.getElem?_take,if_pos oM];exact hy
theorem ddGo_sub:∀(l:List Fv)(p:Fc)(x:Fv),x∈ddGo p l→x∈l:=by
 intro l
 induction l with
 |nil=>intro p x h;exact h
 |cons y r ih=>
  intro p x h;simp only[ddGo]at h;split at h
  ·exact List.mem_cons_of_mem _ (ih _ _ h)
  rcases List.mem_cons.mp h with rfl|h
  ·simp
  exact List.mem_cons_of_mem _ (ih _ _ h)
theorem dd_sub(l:List Fv)(x:Fv)(h:x∈dd l):x∈l:=by
 cases l with
 |nil=>exact h
 |cons a r=>
  rcases List.mem_cons.mp h with rfl|h
  ·simp
  exact List.mem_cons_of_mem _ (ddGo_sub _ _ _ h)
theorem dd_length(l:List Fv):(dd l).length≤l.length:=by
 have h:∀(l:List Fv)(p:Fc),(ddGo p l).length≤l.length:=by
  intro l
  induction l with
  |nil=>intro p;exact Nat.le_refl _
  |cons y r ih=>
   intro p;simp only[ddGo];split
   ·have :=ih y.1;simp;omega
   have :=ih y.1;simp;omega
 cases l with
 |nil=>exact Nat.le_refl _
 |cons a r=>simp only[dd,List.length_cons];have :=h r a.1;omega
theorem ddGo_set:∀(l:List Fv)(p:Fc),(∀x,x∈l→¬Lt x.1 p)→(l.map (·.1)).Pairwise (fun a b=>¬Lt b a)→
 Up ((ddGo p l).map (·.1))∧(∀x,x∈(ddGo p l).map (·.1)→Lt p x)∧∀x,x∈l.map (·.1)→x=p∨x∈(ddGo p l).map (·.1):=by
 intro l
 induction l with
 |nil=>intro p _ _;exact⟨List.Pairwise.nil,fun x h=>by simp[ddGo]at h,fun x h=>by simp at h⟩
 |cons y r ih=>
  intro p hp hs;rw[List.map_cons,List.pairwise_cons]at hs;obtain⟨i1,i2,i3⟩:=ih y.1 (fun x hx=>hs.1 x.1 (List.mem_map.mpr ⟨x,hx,rfl⟩)) hs.2;simp only[ddGo];by_cases h:ord y.1 p=0
  ·rw[if_pos h];rw[ord_zero]at h;refine⟨i1,fun x hx=>by rw[←h];exact i2 x hx,fun x hx=>?_⟩;rw[List.map_cons]at hx;rcases List.mem_cons.mp hx with hx|hx
   ·exact .inl (hx.trans h)
   rcases i3 x hx with h2|h2
   ·exact .inl (h2.trans h)
   exact .inr h2
  rw[if_neg h];have hlt:Lt p y.1:=by
   rcases lt_or p y.1 with h2|h2|h2
   ·exact h2
   ·exact absurd (ord_zero.mpr h2.symm) h
   exact absurd h2 (hp y sI)
  rw[List.map_cons];refine⟨List.pairwise_cons.mpr ⟨i2,i1⟩,fun x hx=>?_,fun x hx=>?_⟩
  ·rcases List.mem_cons.mp hx with rfl|hx
   ·exact hlt
   exact hlt.trans (i2 x hx)
  rw[List.map_cons]at hx;rcases List.mem_cons.mp hx with hx|hx
  ·exact .inr (by simp[hx])
  rcases i3 x hx with h2|h2
  ·exact .inr (by simp[h2])
  exact .inr (List.mem_cons_of_mem _ h2)
theorem dd_set(l:List Fv)(h:(l.map (·.1)).Pairwise (fun a b=>¬Lt b a)):IsSet ((dd l).map (·.1)) (l.map (·.1)):=by
 cases l with
 |nil=>exact⟨List.Pairwise.nil,fun x=>Iff.rfl⟩
 |cons a r=>
  rw[List.map_cons,List.pairwise_cons]at h;obtain⟨i1,i2,i3⟩:=ddGo_set r a.1 (fun x hx=>h.1 x.1 (List.mem_map.mpr ⟨x,hx,rfl⟩)) h.2;refine⟨?_,fun x=>⟨fun hx=>?_,fun hx=>?_⟩⟩
  ·show Up (a.1::(ddGo a.1 r).map (·.1));exact List.pairwise_cons.mpr ⟨i2,i1⟩
  ·obtain⟨y,hy,rfl⟩:=List.mem_map.mp hx;exact List.mem_map.mpr ⟨y,dd_sub _ _ hy,rfl⟩
  rw[List.map_cons]at hx;show x∈a.1::(ddGo a.1 r).map (·.1);rcases List.mem_cons.mp hx with hx|hx
  ·simp[hx]
  rcases i3 x hx with h2|h2
  ·simp[h2]
  exact List.mem_cons_of_mem _ h2
end Rl
end Go.Proofs.YthenjegmigeieaaGreat
namespace Go.Proofs.YthenjegmigeieaaGreat
open Go.RowKit Go.Lib
theorem own_sets{B e k n g cap:Nat}:∀(vs:List Value)(o:Nat)(w:World)(xs:List Value),w.ownsRow B e k (.slice (some ⟨g,0,none⟩) n cap) n xs→
 ∃ys,ys.length=xs.length∧(∀j,j<o→ys[j]?=xs[j]?)∧(w.setCells g o vs).ownsRow B e k (.slice (some ⟨g,0,none⟩) n cap) n ys∧w.grownBy (w.setCells g o vs) (some g):=by
 intro vs
 induction vs with
 |nil=>intro o w xs h;exact⟨xs,rfl,fun _ _=>rfl,h,rfl,rfl,rfl,Nat.le_refl _,fun _ _ _=>rfl⟩
 |cons v r ih=>
  intro o w xs h;obtain⟨h1,h2⟩:=World.ownsRow.stored h o v;obtain⟨ys,a1,a2,a3,a4⟩:=ih (o+1) _ _ h1;refine⟨ys,by rw[a1,List.length_set],fun j hj=>?_,a3,⟨a4.os.trans h2.os,a4.tape.trans h2.tape,a4.output.trans h2.output,Nat.le_trans h2.size a4.size,fun i hi hne=>(a4.block i (Nat.lt_of_lt_of_le hi h2.size) hne).trans (h2.block i hi hne)⟩⟩;rw[a2 j oM,List.getElem?_set,if_neg oM]
theorem row_cut{w:World}{B g cap n:Nat}{xs:List Value}{q:List Fv}(h:w.ownsRow B 55 2 (.slice (some ⟨g,0,none⟩) n cap) n xs)(hn:q.length≤n)(hq:∀j,j<q.length*2→xs[j]?=((q.map fcCells).flatten)[j]?):FRow w B g cap q:=by
 obtain⟨h1,h2⟩:=h;rcases h2 with⟨h2,_⟩|⟨g',cap',cur,hv,hb,hh,hc1,hc2,hc3,hc4⟩
 ·cases h2
 injection hv with e1 _ e3;injection e1 with e1;injection e1 with e1;subst e1 e3;refine⟨fc_length _, .inr ⟨g,cap,cur,rfl,hb,hh,oM,hc2,hc3,?_⟩⟩;apply List.ext_getElem?;intro t;rw[List.getElem?_take];by_cases ht:t<q.length*2
 ·rw[if_pos ht,←hq t ht,←hc4,List.getElem?_take,if_pos oM]
 rw[if_neg ht,List.getElem?_eq_none];rw[fc_length];omega
theorem clear_row(w:World)(B g cap:Nat)(q:List Fv)(k:Nat)(h:FRow w B g cap q)(hk:k<q.length):
 ∃w',(∀ty,(Builtin.clear_ #[27] ty #[.slice (some ⟨g,k*2,none⟩) (q.length-k) (cap-k)]).run Tryz.prog w=.ok (.tuple #[]) w')∧FRow w' B g cap (q.take k)∧w.grownBy w' (some g):=by
 obtain⟨m,hm⟩:∃m,q.length-k=m+1:=⟨q.length-k-1,oM⟩;obtain⟨vs,hvs⟩:∃vs,vs=(Builtin.zeroCells (Value.agg #[.int .i64 0, .slice none 0 0]).cells (m+1)).toList:=⟨_,rfl⟩;(have hlen:vs.length=(m+1)*2:=by rw[hvs];simp[Builtin.zeroCells,Value.cells]);have hone:∀v∈vs,v.oneCell'=true:=by
  intro v hv;rw[hvs]at hv;simp[Builtin.zeroCells,Value.cells]at hv;obtain⟨a,ha,rfl⟩:=hv;rcases Nat.mod_two_eq_zero_or_one a with h2|h2
  ·simp[h2];rfl
  simp[h2];rfl
 have hst:=run_storeCells_cells (P:=Tryz.prog) g (k*2) vs 0 w (by
  intro j hj;rw[hlen]at hj;have hc:=World.ownsRow.cellAt h (k*2+j) oM;obtain⟨x,hx,hx2⟩:=fc_at q (k*2+j) oM;rw[Nat.add_zero,hc,hx2,List.getElem?_eq_getElem (show(k*2+j)% 2<(fcCells x).length by show _<2;omega)]
  rfl) (by intro j _;exact h.frozen _) hone
 simp only[Nat.add_zero]at hst;obtain⟨ys,a1,a2,a3,a4⟩:=own_sets vs (k*2) w _ h;refine⟨w.setCells g (k*2) vs,?_,row_cut (q:=q.take k) a3 (by rw[List.length_take];omega) (fun j hj=>?_),a4⟩
 ·intro ty;have hz:∀w,(zeroValue 55).run Tryz.prog w=.ok (.agg #[.int .i64 0, .slice none 0 0]) w:=fun w=>kR;rw[hm];simp[Builtin.clear_,run_underlying Tryz.underlying27,hz,←hvs,hst]
 rw[List.length_take]at hj;rw[a2 j oM];obtain⟨x,hx,hx2⟩:=fc_at q j oM;obtain⟨z,hz,hz2⟩:=fc_at (q.take k) j (by rw[List.length_take];omega);rw[List.getElem?_take,if_pos oM,hx]at hz;(obtain rfl:x=z:=by simpa using hz);rw[hx2,hz2]
structure CI (w0 w:World) (B g cap:Nat) (R:List Fv) (wr:World):Prop where
 row:FRow wr B g cap R
 gr:w.grownBy wr (some g)
 low:∀k,k<w0.heap.size→wr.heap[k]?=w0.heap[k]?
theorem CI.below{w0 w wr wx:World}{B g cap:Nat}{R:List Fv}(h:CI w0 w B g cap R wr)(hb:Below wr.heap.size wr wx):CI w0 w B g cap R wx:=
 ⟨h.row.keep (hb.block g h.row.lt.2),grownBy_trans h.gr (grownBy_of_below hb _),fun k hk=>(hb.block k (Nat.lt_of_lt_of_le hk (rl_low_size h.low))).trans (h.low k hk)⟩
theorem CI.put{w0 w wr:World}{B g cap:Nat}{R:List Fv}(h:CI w0 w B g cap R wr)(hg:w0.heap.size≤g)(i:Nat)(hi:i<R.length)(y:Fv):CI w0 w B g cap (R.set i y) ((wr.setCell ⟨g,i*2,none⟩ (.int .i64 y.1.pred)).setCell ⟨g,i*2+1,none⟩ y.2):=by have hgr:wr.grownBy ((wr.setCell ⟨g,i*2,none⟩ (.int .i64 y.1.pred)).setCell ⟨g,i*2+1,none⟩ y.2) (some g):=grownBy_trans (grownBy_set _ _) (grownBy_set _ _);exact⟨h.row.put i hi y,grownBy_trans h.gr hgr,fun k hk=>(hgr.block k (Nat.lt_of_lt_of_le hk (rl_low_size h.low)) (by intro e;injection e;omega)).trans (h.low k hk)⟩
theorem get_lt{q:List Fv}{i:Nat}(h:i<q.length):∃x,q[i]?=some x∧x∈q:=⟨q[i],List.getElem?_eq_getElem h,List.getElem_mem h⟩
theorem compact_any(w0 w:World)(B g cap:Nat)(q:List Fv)(h0:w0.heap.size≤g)(hlow:∀k,k<w0.heap.size→w.heap[k]?=w0.heap[k]?)(hown:FRow w B g cap q)(hq:∀p,p∈q→FvOk w0 p)(hn:q.length<4611686018427387904):
 Calls Tryz.prog 147 #[.slice (some ⟨g,0,none⟩) q.length cap, .func (.func 148) #[] #[]] w fun e w'=>e=.returned (.slice (some ⟨g,0,none⟩) (Rl.dd q).length cap)∧FRow w' B g cap (Rl.dd q)∧w.grownBy w' (some g):=by
 have he:∀args w,(callFunc 148 args).run Tryz.prog w=.ok (.enter 148 args) w:=enters_of Tryz.func148 kR rfl;have hC:CI w0 w B g cap q w:=⟨hown,⟨rfl,rfl,rfl,Nat.le_refl _,fun _ _ _=>rfl⟩,hlow⟩;have HQ:Hid (∀p,p∈q→FvOk w0 p):=hq;have hcap:q.length≤cap:=by
  obtain⟨_,h2⟩:=hown;rcases h2 with⟨h2,_⟩|⟨g',cap',cur,hv,_,_,hc1,_⟩
  ·cases h2
  injection hv with _ _ e3;omega
 clear hown hlow hq;by_cases h2:q.length<2
 ·have HD:Hid (Rl.dd q=q):=by
   show _=_
   match q,h2 with
   |[],_=>rfl
   |[x],_=>rfl
  go_enter Tryz.func147,Tryz.ntmps147
  go_wp2_with fail;go_ret;exact⟨by rw[HD.out];rfl,by rw[HD.out];exact hC.row,hC.gr⟩
 go_enter Tryz.func147,Tryz.ntmps147
 go_wp2_with fail;go_loopw [5] (fun i wr=>∃k:Nat,1≤k∧k≤q.length∧i=.int .i64 k∧CI w0 w B g cap q wr∧Rl.dd (q.take k)=q.take k) (fun i _=>q.length-(intOf i).toNat);case atStart=>exact⟨1,Nat.le_refl _,oM,rfl,hC,by
  match q,h2 with
  |x::r,_=>rfl
  |[],h=>exact absurd (show([]:List Fv).length<2 by decide) h⟩
 case round=>
  clear hC;obtain⟨wo,hwo⟩:∃wo,wo=wr:=⟨_,rfl⟩;subst hwo;obtain⟨k,hk1,hk,rfl,hI,hdd⟩:=hrel;have HDD:Hid _:=hdd;clear hdd;obtain⟨k1,hk1e⟩:∃k1,k1+1=k:=⟨k-1,oM⟩;(have hwr:IntKind.i64.wrap ((k:Int)-1)=(k1:Int):=by have h9:(k:Int)-1=(k1:Int):=oM;rw[h9];simp[IntKind.wrap,IntKind.bits,IntKind.signed];omega);by_cases hlt:k<q.length
  ·obtain⟨x,hx,hxm⟩:=get_lt hlt;obtain⟨y,hy,hym⟩:=get_lt (q:=q) (i:=k1) oM;obtain⟨c0,c1⟩:=hI.row.cell hx;obtain⟨d0,d1⟩:=hI.row.cell hy;have HX:Hid (q[k]?=some x∧q[k1]?=some y):=⟨hx,hy⟩;(have HN:Hid (∀z,Gr wo z→Calls Tryz.prog 148 #[fcVal x.1.pred x.2,fcVal y.1.pred y.2] z fun e w'=>e=.returned (.bool (Rl.ord x.1 y.1==0))∧Gr wo w'∧w'.cell? ⟨g,k*2,none⟩=some (.int .i64 x.1.pred)∧w'.cell? ⟨g,k*2+1,none⟩=some x.2∧w'.cell? ⟨g,k1*2,none⟩=some (.int .i64 y.1.pred)∧w'.cell? ⟨g,k1*2+1,none⟩=some y.2):=by intro z hz;have hl:∀j,j<w0.heap.size→z.heap[j]?=w0.heap[j]?:=(hI.below hz.below).low;refine(same_any x.1 y.1 x.2 y.2 z (rl_ints_low (HQ.out x hxm).1 hl) (rl_ints_low (HQ.out y hym).1 hl) (HQ.out x hxm).2 (HQ.out y hym).2).mono ?_;rintro e w' ⟨h1,h2⟩;have h3:=hz.trans h2;exact⟨h1,h3,cell_below h3.below c0,cell_below h3.below c1,cell_below h3.below d0,cell_below h3.below d1⟩);(obtain⟨xa,xn,xc,hxv⟩:∃a n c,x.2=.slice a n c:=by obtain⟨⟨a,c,h,_⟩,_⟩:=HQ.out x hxm;exact⟨a,_,c,h⟩);(obtain⟨ya,yn,yc,hyv⟩:∃a n c,y.2=.slice a n c:=by obtain⟨⟨a,c,h,_⟩,_⟩:=HQ.out y hym;exact⟨a,_,c,h⟩);have HY:Hid (y=(y.1,y.2)):=rfl;have HXV:Hid (x.2=.slice xa xn xc∧y.2=.slice ya yn yc):=⟨hxv,hyv⟩;rw[hxv]at c1;rw[hyv]at d1;rw[hxv,hyv]at HN;clear hx hy hxm hym hxv hyv;have HO:Hid (∃o,o=Rl.ord x.1 y.1):=⟨_,rfl⟩;obtain⟨o,ho⟩:=HO.out;rw[←ho]at HN;have HOO:Hid (o=Rl.ord x.1 y.1):=ho;clear ho HO;generalize hxp:x.1.pred=xp at *;generalize hyp:y.1.pred=yp at *;have HP:Hid (x.1.pred=xp∧y.1.pred=yp):=⟨hxp,hyp⟩;clear hxp hyp;have hk1':k1<q.length:=oM;have hk1a:(0:Int)≤(k1:Int):=oM;have hk1b:(k1:Int)<(q.length:Int):=oM;have HK1:Hid (k1+1=k):=hk1e;clear hk1e;go_upto_region 6 with fail;have HGA:∀a b o,Gr a b→Gr a (b.alloc o):=fun _ _ o h=>h.alloc o;have HGD:∀a b,Gr a b→Gr a b.drew:=fun _ _ h=>h.drew;have HGR:Gr wo wo:=Gr.refl wo
   go_region_held3 (fun yy=>yy.cell? ⟨g,k*2,none⟩=some (.int .i64 xp)∧yy.cell? ⟨g,k*2+1,none⟩=some (.slice xa xn xc)∧yy.cell? ⟨g,k1*2,none⟩=some (.int .i64 yp)∧yy.cell? ⟨g,k1*2+1,none⟩=some (.slice ya yn yc)∧Gr wo yy) (go_keep) (
    (go_at_call 148;refine Calls.mono (HN.out _ ?_) ?_;(simp[*]);rintro e z1 ⟨rfl,hz1,hz2,hz3,hz4,hz5⟩))
   have hI1:=hI.below hz1.below;clear HGA HGD HGR hz1 hz2 hz3 hz4 hz5 c0 c1 d0 d1 HN;cases ho:(o==0)
   ·(have HD2:Hid (Rl.dd (q.take (k+1))=q.take (k+1)):=by show _=_;rw[Rl.dd_take q k x y hk1 HX.out.1 (by rw[show k-1=k1 by have :=HK1.out;omega];exact HX.out.2),if_neg (by rw[←HOO.out];simpa using ho),HDD.out,List.take_add_one,HX.out.1];rfl);clear hI;go_wp2_with fail;go_roundw;(case rel=>exact⟨k+1,oM,oM,gN,hI1,HD2.out⟩);case measure=>exact mI
   (have HD2:Hid (q.take k=Rl.dd (q.take (k+1))):=by show _=_;rw[Rl.dd_take q k x y hk1 HX.out.1 (by rw[show k-1=k1 by have :=HK1.out;omega];exact HX.out.2),if_pos (by rw[←HOO.out];simpa using ho),HDD.out]);clear hI HDD HX HP HOO HXV HY hwr;go_wp2_with fail;go_loopw [5,7] (fun i5 i7 wr=>∃(kk k2:Nat)(R:List Fv),i5=.int .i64 kk∧i7=.int .i64 k2∧1≤k2∧k+k2≤q.length∧kk<k+k2∧CI w0 w B g cap R wr∧R.length=q.length∧R.take kk=Rl.dd (q.take (k+k2))∧∀j,k+k2≤j+1→R[j]?=q[j]?) (fun _ i7 _=>q.length-(k+(intOf i7).toNat));case atStart=>exact⟨k,1,q,rfl,rfl,Nat.le_refl _,oM,oM,hI1,rfl,HD2.out,fun _ _=>rfl⟩
   case round=>
    clear hI1;obtain⟨wp,hwp⟩:∃wp,wp=wr:=⟨_,rfl⟩;subst hwp;obtain⟨kk,k2,R,rfl,rfl,hk2,hm,hkk,hI,hRl,hRt,hRd⟩:=hrel;have HRT:Hid _:=hRt;have HRD:Hid _:=hRd;have HRL:Hid (R.length=q.length):=hRl;clear hRt hRd hRl;by_cases hlt2:k+k2<q.length
    ·obtain⟨k3,hk3e⟩:∃k3,k3+1=k2:=⟨k2-1,oM⟩;(have hwr2:IntKind.i64.wrap ((k2:Int)-1)=(k3:Int):=by have h9:(k2:Int)-1=(k3:Int):=oM;rw[h9];simp[IntKind.wrap,IntKind.bits,IntKind.signed];omega);(obtain⟨x,hx,hxm⟩:=get_lt hlt2;obtain⟨y,hy,hym⟩:=get_lt (q:=q) (i:=k+k3) oM;obtain⟨c0,c1⟩:=hI.row.cell ((HRD.out (k+k2) oM).trans hx);obtain⟨d0,d1⟩:=hI.row.cell ((HRD.out (k+k3) oM).trans hy);rw[show(k+k2)*2=k*2+k2*2 by omega]at c0 c1;rw[show(k+k3)*2=k*2+k3*2 by omega]at d0 d1;have HX:Hid (q[k+k2]?=some x∧q[k+k3]?=some y):=⟨hx,hy⟩;have HN:Hid (∀z,Gr wp z→Calls Tryz.prog 148 #[fcVal x.1.pred x.2,fcVal y.1.pred y.2] z fun e w'=>e=.returned (.bool (Rl.ord x.1 y.1==0))∧Gr wp w'∧w'.cell? ⟨g,k*2+k2*2,none⟩=some (.int .i64 x.1.pred)∧w'.cell? ⟨g,k*2+k2*2+1,none⟩=some x.2∧w'.cell? ⟨g,k*2+k3*2,none⟩=some (.int .i64 y.1.pred)∧w'.cell? ⟨g,k*2+k3*2+1,none⟩=some y.2):=by intro z hz;have hl:∀j,j<w0.heap.size→z.heap[j]?=w0.heap[j]?:=(hI.below hz.below).low;refine(same_any x.1 y.1 x.2 y.2 z (rl_ints_low (HQ.out x hxm).1 hl) (rl_ints_low (HQ.out y hym).1 hl) (HQ.out x hxm).2 (HQ.out y hym).2).mono ?_;rintro e w' ⟨h1,h2⟩;have h3:=hz.trans h2;exact⟨h1,h3,cell_below h3.below c0,cell_below h3.below c1,cell_below h3.below d0,cell_below h3.below d1⟩);((obtain⟨xa,xn,xc,hxv⟩:∃a n c,x.2=.slice a n c:=by obtain⟨⟨a,c,h,_⟩,_⟩:=HQ.out x hxm;exact⟨a,_,c,h⟩);obtain⟨ya,yn,yc,hyv⟩:∃a n c,y.2=.slice a n c:=by obtain⟨⟨a,c,h,_⟩,_⟩:=HQ.out y hym;exact⟨a,_,c,h⟩);have HXV:Hid (x.2=.slice xa xn xc):=hxv;rw[hxv]at c1;rw[hyv]at d1;rw[hxv,hyv]at HN;clear hx hy hxm hym hxv hyv;have HO:Hid (∃o,o=Rl.ord x.1 y.1):=⟨_,rfl⟩;obtain⟨o2,ho2⟩:=HO.out;rw[←ho2]at HN;have HOO:Hid (o2=Rl.ord x.1 y.1):=ho2;clear ho2 HO;generalize hxp:x.1.pred=xp at *;generalize hyp:y.1.pred=yp at *;have HP:Hid (x.1.pred=xp):=hxp;clear hxp hyp;have hk3':k3<q.length-k:=oM;have hk3a:(0:Int)≤(k3:Int):=oM;have hk3b:(k3:Int)<((q.length-k:Nat):Int):=oM;have hk2b:(k2:Int)<((q.length-k:Nat):Int):=oM;have HK3:Hid (k3+1=k2):=hk3e;clear hk3e;go_upto_region 11 with fail;have HGA:∀a b o,Gr a b→Gr a (b.alloc o):=fun _ _ o h=>h.alloc o;have HGD:∀a b,Gr a b→Gr a b.drew:=fun _ _ h=>h.drew;have HGR:Gr wp wp:=Gr.refl wp
     go_region_held3 (fun yy=>yy.cell? ⟨g,k*2+k2*2,none⟩=some (.int .i64 xp)∧yy.cell? ⟨g,k*2+k2*2+1,none⟩=some (.slice xa xn xc)∧yy.cell? ⟨g,k*2+k3*2,none⟩=some (.int .i64 yp)∧yy.cell? ⟨g,k*2+k3*2+1,none⟩=some (.slice ya yn yc)∧Gr wp yy) (go_keep) (
      (go_at_call 148;refine Calls.mono (HN.out _ ?_) ?_;(simp[*]);rintro e z1 ⟨rfl,hz1,hz2,hz3,hz4,hz5⟩))
     have hI1:=hI.below hz1.below;clear HGA HGD HGR hz1 hz4 hz5 c0 c1 d0 d1 HN hI;have HDT:Hid (Rl.dd (q.take (k+k2+1))=if Rl.ord x.1 y.1=0 then Rl.dd (q.take (k+k2))else Rl.dd (q.take (k+k2))++[x]):=Rl.dd_take q (k+k2) x y oM HX.out.1 (by rw[show k+k2-1=k+k3 by have :=HK3.out;omega];exact HX.out.2);cases ho2:(o2==0)
     ·(have HT2:Hid ((R.set kk x).take (kk+1)=Rl.dd (q.take (k+(k2+1)))):=by show _=_;rw[←Nat.add_assoc,HDT.out,if_neg (by rw[←HOO.out];simpa using ho2),←HRT.out,List.take_add_one,List.take_set_of_le (Nat.le_refl _),List.getElem?_set,if_pos rfl,if_pos (by rw[HRL.out];omega)];rfl);(have HD2:Hid (∀j,k+(k2+1)≤j+1→(R.set kk x)[j]?=q[j]?):=fun j hj=>by rw[List.getElem?_set,if_neg oM];exact HRD.out j oM);have hput:=hI1.put h0 kk (by rw[HRL.out];omega) x;rw[HP.out,HXV.out]at hput;obtain⟨r,hr,_⟩:=get_lt (q:=R) (i:=kk) (by rw[HRL.out];omega);obtain⟨r0,r1⟩:=hI1.row.cell hr;have rf0:=hI1.row.frozen (kk*2);have rf1:=hI1.row.frozen (kk*2+1);have hkq:kk<q.length:=oM;clear HDT hI1 HRT HRD hr;go_wp2_with fail;go_roundw;(case rel=>exact⟨kk+1,k2+1,R.set kk x,gN,gN,oM,oM,oM,hput,by rw[List.length_set];exact HRL.out,HT2.out,HD2.out⟩);case measure=>exact mI
     (have HT2:Hid (R.take kk=Rl.dd (q.take (k+(k2+1)))):=by show _=_;rw[←Nat.add_assoc,HDT.out,if_pos (by rw[←HOO.out];simpa using ho2),HRT.out]);have HD2:Hid (∀j,k+(k2+1)≤j+1→R[j]?=q[j]?):=fun j hj=>HRD.out j oM;clear HDT HRT HRD;go_wp2_with fail;go_roundw;(case rel=>exact⟨kk,k2+1,R,gN,gN,oM,oM,oM,hI1,HRL.out,HT2.out,HD2.out⟩);case measure=>exact mI
    have hme:k+k2=q.length:=oM;obtain⟨w9,hcl,hrow,hgr⟩:=clear_row wp B g cap R kk hI.row (by rw[HRL.out];omega);rw[HRL.out]at hcl;(have HDQ:Hid (R.take kk=Rl.dd q):=by show _=_;rw[HRT.out,hme,List.take_length]);(have HLN:Hid ((Rl.dd q).length=kk):=by show _=_;rw[←HDQ.out,List.length_take,HRL.out];omega);have HFN:Hid (FRow w9 B g cap (Rl.dd q)∧w.grownBy w9 (some g)):=⟨by rw[←HDQ.out];exact hrow,grownBy_trans hI.gr hgr⟩;clear hI hrow hgr HRT HRD HDQ;have hkq:kk≤q.length:=oM;have hkc:kk≤cap:=oM;go_wp2_with fail;go_ret;exact⟨by rw[HLN.out];rfl,HFN.out.1,HFN.out.2⟩
  have hke:k=q.length:=oM;(have HDQ:Hid (Rl.dd q=q):=by show _=_;have :=HDD.out;rw[hke,List.take_length]at this;exact this);go_wp2_with fail;go_ret;exact⟨by rw[HDQ.out];rfl,by rw[HDQ.out];exact hI.row,hI.gr⟩
end Go.Proofs.YthenjegmigeieaaGreat
namespace Go.Proofs.YthenjegmigeieaaGreat
open Go.RowKit
theorem rl_info3:(Tryz.prog.info? 3).map (fun i=>(i.zero,i.size,i.bytes))=some (some (.int .i64 0),1,8):=kR
theorem cloneIW_any(l:List Int)(v:Value)(w:World)(hV:IntsV w v l)(hl:l.length≤17592186044416):
 Calls Tryz.prog 77 #[v] w fun e w'=>∃v',e=.returned v'∧w'.ownsRow w.heap.size 3 1 v' l.length (l.map (Value.int .i64))∧Below w.heap.size w w':=by
 obtain⟨i0,hi,hz0,hz1,hz2⟩:=info_parts rl_info3;obtain⟨ao,cap,rfl,hA⟩:=hV;have q22:∀(w:World)(a:Option Addr)(n c:Nat),(binOp .eql 22 (.slice a n c) (.slice none 0 0)).run Tryz.prog w=.ok (.bool a.isNone) w:=fun w a n c=>Lib.run_eql_slice_nil w 22 3 a n c 0 0 Tryz.underlying22;have u22:∀w,Sem.run Tryz.prog (underlying 22) w=.ok (TypeDesc.slice 3) w:=run_underlying Tryz.underlying22;have HA:Hid (IntsAt w ao l):=hA;clear hA
 cases ao with
 |none=>
  have hl0:l=[]:=by
   rcases HA.out with h|⟨b,off,h,_⟩
   ·exact h
   cases h
  subst hl0
  go_enter Tryz.func77,Tryz.ntmps77
  go_wp2_with fail;go_ret;exact⟨_,rfl,World.ownsRow_nil _ _ _ _,Below.refl _ _⟩
 |some a=>
  obtain⟨b,off,hao⟩:∃b off,l=[]∨a=⟨b,off,none⟩:=by
   rcases HA.out with h|⟨b,off,h,_⟩
   ·exact⟨0,0, .inl h⟩
   exact⟨b,off, .inr (Option.some.inj h)⟩
  have HC:Hid (∀j u,(l.map (Value.int .i64))[j]?=some u→w.cell? (a.add j)=some u):=by
   intro j u hj;rcases HA.out with h|⟨b,off,h,hc⟩
   ·rw[h]at hj;simp at hj
   have ha:=Option.some.inj h;have hjl:j<l.length:=by
    rcases Nat.lt_or_ge j l.length with h2|h2
    ·exact h2
    rw[List.getElem?_eq_none (by simpa using h2)]at hj;cases hj
   rw[List.getElem?_map,List.getElem?_eq_getElem hjl]at hj;(have hu:Value.int .i64 l[j]=u:=by simpa using hj);rw[←hu,ha];have h3:=hc j hjl;(have h4:Sc.intD l j=l[j]:=by simp[Sc.intD,hjl]);rw[h4]at h3;rw[Addr.add_lit];exact h3
  clear HA
  go_enter Tryz.func77,Tryz.ntmps77
  go_wp2_with(at_builtin;refine wpList_append_own _ rfl _ _ 22 rfl w.heap.size 3 i0 _ 1 8 Tryz.underlying22 hi hz0 hz1 hz2 rfl dE _ _ _ rfl (World.ownsRow_made w #[] 0 (Nat.le_refl _) (Nat.zero_le _) sI) a l.length cap (l.map (Value.int .i64)) rfl ?qc1 ?qc2 ?qc3 ?qc4 ?qc5 ?qc6 ?_);(case qc1=>rw[List.length_map,Nat.mul_one]);(case qc2=>intro j u hj;exact Lib.cell?_alloc_some _ (HC.out j u hj));(case qc3=>intro u hu;obtain⟨x,_,rfl⟩:=List.mem_map.mp hu;rfl);(case qc4=>unfold maxLen;omega);(case qc5=>omega);(case qc6=>simp);intro v' w1 hown hgrow hnil;obtain⟨ao9,cap9,rfl⟩:=own_slice hown;have HB:Hid (Below w.heap.size w w1):=((Below.refl _ w).alloc (Nat.le_refl _) _).grown hgrow sI (by intro k hk;simp[Value.ownBlock]at hk;omega);have HO:Hid _:=hown;clear hown hgrow hnil HC;go_wp2_with fail;go_ret;exact⟨_,rfl,HO.out,HB.out⟩
theorem cloneI_any(l:List Int)(v:Value)(w:World)(hV:IntsV w v l)(hl:l.length≤1048576):
 Calls Tryz.prog 77 #[v] w fun e w'=>∃v',e=.returned v'∧w'.ownsRow w.heap.size 3 1 v' l.length (l.map (Value.int .i64))∧Below w.heap.size w w':=
 cloneIW_any l v w hV oM
theorem rl_info49:(Tryz.prog.info? 55).map (fun i=>(i.zero,i.size,i.bytes))=some (some (.agg #[.int .i64 0, .slice none 0 0]),2,32):=kR
def FactsP(B:Nat)(w:World)(v:Value)(s:List Rl.Fc):Prop:=
 ∃q:List Fv,q.map (·.1)=s∧w.ownsRow B 55 2 v q.length (q.map fcCells).flatten∧∀p,p∈q→w.ownsRow B 3 1 p.2 p.1.args.length (p.1.args.map (Value.int .i64))
def Keeps1(h:Nat)(cb:Array Value)(w:World)(P:Rl.Fc→Bool):Prop:=
 ∀(z:World)(f:Rl.Fc)(ao:Option Addr)(cap:Nat),Below w.heap.size w z→IntsV z (.slice ao f.args.length cap) f.args→FFit f→Calls Tryz.prog h (#[fcVal f.pred (.slice ao f.args.length cap)]++cb) z fun e w'=>e=.returned (.bool (P f))∧Below z.heap.size z w'
theorem FRow.put1{w:World}{B g cap:Nat}{q:List Fv}(h:FRow w B g cap q){i:Nat}{x:Fv}(hx:q[i]?=some x)(u:Value):FRow (w.setCell ⟨g,i*2+1,none⟩ u) B g cap (q.set i (x.1,u)):=by
 have hi:i<q.length:=by
  rcases Nat.lt_or_ge i q.length with h2|h2
  ·exact h2
  rw[List.getElem?_eq_none h2]at hx;cases hx
 have h2:=(World.ownsRow.stored h (i*2+1) u).1;unfold FRow;rw[List.length_set,←fc_set q i hi (x.1,u)];have h3:((q.map fcCells).flatten).set (i*2) (.int .i64 x.1.pred)=(q.map fcCells).flatten:=by
  apply List.ext_getElem?;intro t;rw[List.getElem?_set];split
  ·rename_i ht;obtain⟨y,hy,hy2⟩:=fc_at q t oM;rw[←ht,Nat.mul_div_cancel _ dE,hx]at hy;(obtain rfl:x=y:=by simpa using hy);rw[hy2,if_pos (by rw[fc_length];omega),←ht,Nat.mul_mod_left];rfl
  rfl
 show World.ownsRow _ B 55 2 _ q.length ((((q.map fcCells).flatten).set (i*2) (.int .i64 x.1.pred)).set (i*2+1) u);rw[h3];exact h2
theorem own3_set{w:World}{B g cap n:Nat}{q:List Fv}{v:Value}{xs:List Value}(h:w.ownsRow B 3 1 v n xs)(hr:FRow w B g cap q)(o:Nat)(u:Value):(w.setCell ⟨g,o,none⟩ u).ownsRow B 3 1 v n xs:=by
 refine rl_own_alone h fun g' hg=>Below.heap_setCell _ _ _ _ (fun e=>?_);subst e;obtain⟨_,h2⟩:=h;rcases h2 with⟨h2,_⟩|⟨g2,c2,cur2,hv,_,hh,_⟩
 ·rw[h2]at hg;cases hg
 rw[hv]at hg;(have e1:g2=g':=by simpa[Value.ownBlock]using hg);subst e1;obtain⟨_,h3⟩:=hr;rcases h3 with⟨h3,_⟩|⟨g3,c3,cur3,hv3,_,hh3,_⟩
 ·cases h3
 injection hv3 with e1 _ _;injection e1 with e1;injection e1 with e1;subst e1;rw[hh]at hh3;injection hh3 with hh3;injection hh3 with _ q _;cases q
theorem rl_own_le{w:World}{base base' size n:Nat}{e:TypeId}{v:Value}{xs:List Value}(h:w.ownsRow base e size v n xs)(hb:base'≤base):w.ownsRow base' e size v n xs:=by
 obtain⟨h1,h2⟩:=h;refine⟨h1,?_⟩;rcases h2 with h2|⟨g,cap,cur,hv,hg,r⟩
 ·exact .inl h2
 exact .inr ⟨g,cap,cur,hv,Nat.le_trans hb hg,r⟩
theorem ownsRow_forms9{w:World}{base size n:Nat}{e:TypeId}{v:Value}{xs:List Value}(h:w.ownsRow base e size v n xs):(v=.slice none 0 0∧n=0)∨∃g cap,v=.slice (some ⟨g,0,none⟩) n cap:=by
 rcases h.2 with h2|⟨g,cap,cur,hv,_⟩
 ·exact .inl h2
 exact .inr ⟨g,cap,hv⟩
theorem news2(w:World)(a b:Value)(e:TypeId):∀j z,[a,b][j]?=some z→(w.alloc (.cells #[a,b] e)).cell? ((⟨w.heap.size,0,none⟩:Addr).add j)=some z:=by
 intro j z hj;have hbx:=rl_new w (.cells #[a,b] e)
 match j,hj with
 |0,hj=>
  (have hz:a=z:=by simpa using hj);subst hz;rw[Addr.add_lit,Lib.cell_of_heap hbx];rfl
 |1,hj=>
  (have hz:b=z:=by simpa using hj);subst hz;rw[Addr.add_lit,Lib.cell_of_heap hbx];rfl
theorem compact_nil(w:World)(ao:Option Addr)(cap:Nat)(fv:Value):Calls Tryz.prog 147 #[.slice ao 0 cap,fv] w fun e w'=>e=.returned (.slice ao 0 cap)∧w'=w:=by
 go_enter Tryz.func147,Tryz.ntmps147
 go_wp2_with fail;go_ret;exact⟨rfl,rfl⟩
theorem fv_slice{w:World}{x:Fv}(h:FvOk w x):∃a c,x.2=.slice a x.1.args.length c:=by obtain⟨⟨a,c,h,_⟩,_⟩:=h;exact⟨a,c,h⟩
theorem keepW_any(l:List Rl.Fc)(v:Value)(w:World)(h:Nat)(cb:Array Value)(P:Rl.Fc→Bool)(hV:FactsV w v l)(hl:l.length≤4398046511103)(hf:∀f,f∈l→f.args.length≤17592186044416)(he:∀args w,(callFunc h args).run Tryz.prog w=.ok (.enter h args) w)(hK:Keeps1 h cb w P):
 Calls Tryz.prog 100 #[v, .func (.func h) #[] cb] w fun e w'=>∃v',e=.returned v'∧FactsP w.heap.size w' v' (Rl.set (l.filter P))∧Below w.heap.size w w':=by
 obtain⟨i0,hi,hz0,hz1,hz2⟩:=info_parts rl_info49;obtain⟨ao,cap,rfl,hcap,hA⟩:=hV;have HA:Hid (FactsAt w ao l):=hA;have HF:Hid (∀f,f∈l→f.args.length≤17592186044416):=hf;have HK:Hid (Keeps1 h cb w P):=hK;clear hA hf hK
 go_enter Tryz.func100,Tryz.ntmps100
 go_wp2_with fail;go_loopw [5,11] (fun vs i wr=>∃(k:Nat)(q:List Fv),k≤l.length∧i=.int .i64 k∧wr.ownsRow w.heap.size 55 2 vs q.length (q.map fcCells).flatten∧q.map (·.1)=(l.take k).filter P∧(∀p,p∈q→FvOk w p∧p.1∈l)∧Below w.heap.size w wr∧q.length≤k) (fun _ i _=>l.length-(intOf i).toNat);case atStart=>exact⟨0,[],Nat.zero_le _,rfl,World.ownsRow_nil _ _ _ _,rfl,fun _ hp=>absurd hp sI,Below.refl _ _,Nat.le_refl _⟩
 case round=>
  obtain⟨wo,hwo⟩:∃wo,wo=wr:=⟨_,rfl⟩;subst hwo;obtain⟨k,q,hk,rfl,hown,hqf,hqo,hb,hqk⟩:=hrel;have HQF:Hid _:=hqf;have HQO:Hid _:=hqo;clear hqf hqo;obtain⟨aos,caps,rfl⟩:=own_slice hown;by_cases hlt:k<l.length
  ·obtain⟨b,off,rfl,p0,fv,p1,hIv⟩:=facts_at HA.out k hlt;have hmem:=factD_mem l k hlt;(have HTK:Hid ((l.take (k+1)).filter P=(l.take k).filter P++if P (Rl.factD l k)then [Rl.factD l k] else []):=by show _=_;rw[List.take_add_one,factD_get l k hlt,List.filter_append];simp only[Option.toList_some,List.filter_cons,List.filter_nil]);have HIV:Hid (IntsV w fv (Rl.factD l k).args):=hIv;(have HFF:Hid (FFit (Rl.factD l k)):=by have :=HF.out _ hmem;show _≤_;omega);have HM:Hid (Rl.factD l k∈l):=hmem;obtain⟨af,cf,rfl,_⟩:=hIv;have q0:=cell_below hb p0;have q1:=cell_below hb p1;clear p0 p1 hmem;generalize Rl.factD l k=f at *;go_upto_region 5 with fail;have hba:Below wo.heap.size wo (wo.alloc (.cells #[.int .i64 f.pred, .slice af f.args.length cf] 55)):=(Below.refl _ _).alloc (Nat.le_refl _) _;have hbx:=rl_new wo (.cells #[.int .i64 f.pred, .slice af f.args.length cf] 55);have hown1:=ownsRow_below hown hba;have hb1:=hb.trans (hba.mono hb.size);clear hown hba hb q0 q1;generalize hfb:wo.heap.size=FB at *;generalize wo.alloc (.cells #[.int .i64 f.pred, .slice af f.args.length cf] 55)=wa at *;clear hfb;(have c0:wa.cell? ⟨FB,0,none⟩=some (.int .i64 f.pred):=by rw[Lib.cell_of_heap hbx];rfl);(have c1:wa.cell? ⟨FB,1,none⟩=some (.slice af f.args.length cf):=by rw[Lib.cell_of_heap hbx];rfl);go_wp2_with fail;refine Calls.mono (HK.out wa f af cf hb1 (intsV_below HIV.out hb1) HFF.out) ?_;rintro e w1 ⟨he1,hb2⟩;subst he1;have hbx2:=(hb2.block _ (rl_lt hbx)).trans hbx;have hown2:=ownsRow_below hown1 hb2;have hb3:=hb1.trans (hb2.mono hb1.size);clear hown1 hb2 hb1 hbx c0 c1;(have c0:w1.cell? ⟨FB,0,none⟩=some (.int .i64 f.pred):=by rw[Lib.cell_of_heap hbx2];rfl);(have c1:w1.cell? ⟨FB,1,none⟩=some (.slice af f.args.length cf):=by rw[Lib.cell_of_heap hbx2];rfl);cases hp:P f
   ·rw[hp]at HTK;(have HT2:Hid (q.map (·.1)=(l.take (k+1)).filter P):=by show _=_;rw[HTK.out,HQF.out];simp);clear HTK HQF;go_wp2_with fail;go_roundw;(case rel=>exact⟨k+1,q,oM,gN,hown2,HT2.out,HQO.out,hb3,oM⟩);case measure=>exact mI
   rw[hp]at HTK;(have HT2:Hid ((q++[(f,Value.slice af f.args.length cf)]).map (·.1)=(l.take (k+1)).filter P):=by show _=_;rw[HTK.out,←HQF.out];simp);have HO2:Hid (∀p,p∈q++[(f,Value.slice af f.args.length cf)]→FvOk w p∧p.1∈l):=by
    intro p hp;rcases List.mem_append.mp hp with hp|hp
    ·exact HQO.out p hp
    (obtain rfl:p=(f,Value.slice af f.args.length cf):=by simpa using hp);exact⟨⟨HIV.out,HFF.out⟩,HM.out⟩
   clear HTK HQF HQO;have hbsz:=hb3.size;go_wp2_with(at_builtin;refine wpList_append_own _ rfl (.tmp 18) (.tmp 20) 27 rfl w.heap.size 55 i0 _ 2 32 Tryz.underlying27 hi hz0 hz1 hz2 rfl dE _ _ _ rfl (hown2.alloc _) ⟨w1.heap.size,0,none⟩ 1 1 (fcCells (f, .slice af f.args.length cf)) rfl rfl ?c1 ?c2 ?c3 ?c4 ?c5 ?_);(case c1=>exact news2 w1 _ _ 55);(case c2=>intro u hu;simp[fcCells]at hu;rcases hu with rfl|rfl<;>rfl);(case c3=>unfold maxLen;omega);(case c4=>omega);(case c5=>simp;omega);intro vs2 w4 hown4 hgrow4 _;obtain⟨ao9,cap9,rfl⟩:=own_slice hown4;have hb5:Below w.heap.size w w4:=(hb3.alloc hb3.size _).grown hgrow4 sO (fun k hk=>(hown2.lt k hk).1);(have hown5:w4.ownsRow w.heap.size 55 2 (.slice ao9 (q.length+1) cap9) (q++[(f,Value.slice af f.args.length cf)]).length ((q++[(f,Value.slice af f.args.length cf)]).map fcCells).flatten:=by rw[List.length_append,List.map_append,List.flatten_append];simpa using hown4);clear hown4 hgrow4 hown2 hb3 c0 c1 hbx2;go_wp2_with fail;go_roundw;(case rel=>exact⟨k+1,_,oM,gN,hown5,HT2.out,HO2.out,hb5,by rw[List.length_append];simp;omega⟩);case measure=>exact mI
  (have HQF2:Hid (q.map (·.1)=l.filter P):=by show _=_;rw[HQF.out,List.take_of_length_le oM]);clear HQF;rcases ownsRow_forms9 hown with⟨hv,hq0⟩|⟨g,caps2,hv⟩
  ·injection hv with e1 e2 e3;subst e1 e3;have hq1:q=[]:=List.eq_nil_of_length_eq_zero hq0;subst hq1;(have HS:Hid (Rl.set (l.filter P)=[]):=by show _=_;rw[←HQF2.out];rfl);have hs:=AnyF.slices_SortFunc_none Tryz.sortF none 0 (.func (.func 71) #[] #[]) wo;change Calls Tryz.prog 106 _ _ _ at hs;have HSS:Hid _:=hs;clear hs hown;simp only[List.length_nil];go_wp2_with fail;refine Calls.mono HSS.out ?_;rintro e w5 ⟨rfl,rfl⟩;go_wp2_with fail;refine Calls.mono (compact_nil _ _ _ _) ?_;rintro e w5 ⟨rfl,rfl⟩;go_wp2_with fail;refine wp_loop_rounds 1 ?_;rw[rounds_succ];go_wp2_with fail;go_ret;exact⟨_,rfl,by rw[HS.out];exact⟨[],rfl,World.ownsRow_nil _ _ _ _,fun _ hp=>absurd hp sI⟩,hb⟩
  injection hv with e1 e2 e3;subst e1 e3;have hgl:=hown.lt g rfl;have hql:q.length<4611686018427387904:=oM;have HSO:Hid _:=sort_any w wo w.heap.size g caps q hgl.1 hb.block hown (fun p hp=>(HQO.out p hp).1) hql;go_wp2_with fail;refine Calls.mono HSO.out ?_;rintro e w5 ⟨rfl,q2,hperm,hsorted,hrow5,hgr5⟩;have hl5:q2.length=q.length:=hperm.length_eq;have hlow5:∀k,k<w.heap.size→w5.heap[k]?=w.heap[k]?:=fun k hk=>(hgr5.block k (Nat.lt_of_lt_of_le hk hb.size) (by intro e;injection e;omega)).trans (hb.block k hk);have HCO:Hid _:=compact_any w w5 w.heap.size g caps q2 hgl.1 hlow5 hrow5 (fun p hp=>(HQO.out p (hperm.mem_iff.mp hp)).1) oM;rw[hl5]at HCO;(have HSET:Hid ((Rl.dd q2).map (·.1)=Rl.set (l.filter P)):=by show _=_;rw[Rl.isSet_eq (Rl.dd_set q2 hsorted),←HQF2.out];exact Rl.set_same fun x=>(hperm.map (·.1)).mem_iff);have HDO:Hid (∀p,p∈Rl.dd q2→FvOk w p∧p.1∈l):=fun p hp=>HQO.out p (hperm.mem_iff.mp (Rl.dd_sub _ _ hp));(have hdl:(Rl.dd q2).length≤4398046511103:=by have :=Rl.dd_length q2;omega);have hbw5:Below w.heap.size w w5:=⟨hgr5.os.trans hb.os,hgr5.tape.trans hb.tape,hgr5.output.trans hb.output,Nat.le_trans hb.size hgr5.size,hlow5⟩;clear hperm hsorted hrow5 hgr5 hlow5 HSO hown hb HQO HQF2 hl5;go_wp2_with fail;refine Calls.mono HCO.out ?_;rintro e w6 ⟨rfl,hrow6,hgr6⟩;have hbw6:Below w.heap.size w w6:=⟨hgr6.os.trans hbw5.os,hgr6.tape.trans hbw5.tape,hgr6.output.trans hbw5.output,Nat.le_trans hbw5.size hgr6.size,fun k hk=>(hgr6.block k (Nat.lt_of_lt_of_le hk hbw5.size) (by intro e;injection e;omega)).trans (hbw5.block k hk)⟩;clear hbw5 hgr6 HCO;generalize Rl.dd q2=D at *;go_wp2_with fail;go_loopw [29] (fun i wr=>∃(m:Nat)(R:List Fv),m≤D.length∧i=.int .i64 m∧FRow wr w.heap.size g caps R∧R.map (·.1)=D.map (·.1)∧(∀j,m≤j→R[j]?=D[j]?)∧(∀j p,j<m→R[j]?=some p→wr.ownsRow w.heap.size 3 1 p.2 p.1.args.length (p.1.args.map (Value.int .i64)))∧Below w.heap.size w wr) (fun i _=>D.length-(intOf i).toNat);case atStart=>exact⟨0,D,Nat.zero_le _,rfl,hrow6,rfl,fun _ _=>rfl,fun j p hj=>absurd hj oM,hbw6⟩
  case round=>
   clear hrow6 hbw6;obtain⟨wp,hwp⟩:∃wp,wp=wr:=⟨_,rfl⟩;subst hwp;obtain⟨m,R,hm,rfl,hrow,hmap,hrest,hargs,hb⟩:=hrel;(have hRl:R.length=D.length:=by have :=congrArg List.length hmap;simpa using this);have HRL:Hid (R.length=D.length):=hRl;have HMAP:Hid _:=hmap;have HREST:Hid _:=hrest;have HARGS:Hid _:=hargs;clear hmap hrest hargs hRl;by_cases hlt:m<D.length
   ·obtain⟨x,hx,hxm⟩:=get_lt hlt;have hRx:R[m]?=some x:=(HREST.out m (Nat.le_refl _)).trans hx;obtain⟨c0,c1⟩:=hrow.cell hRx;obtain⟨xa,xc,hxv⟩:=fv_slice (HDO.out x hxm).1;have HIX:Hid (IntsV w x.2 x.1.args∧x.1.args.length≤17592186044416):=⟨(HDO.out x hxm).1.1,HF.out _ (HDO.out x hxm).2⟩;have HXV:Hid (x.2=.slice xa x.1.args.length xc):=hxv;rw[hxv]at c1;have HRX:Hid (R[m]?=some x∧D[m]?=some x):=⟨hRx,hx⟩;clear hRx hx hxm hxv;have f1:=hrow.frozen (m*2+1);(have hmr:m<R.length:=by rw[HRL.out];exact hlt);go_wp2_with fail;refine Calls.mono (cloneIW_any x.1.args _ wp (by have h3:=intsV_below HIX.out.1 hb;rw[HXV.out]at h3;exact h3) HIX.out.2) ?_;rintro e w7 ⟨v7,rfl,hown7,hb7⟩;obtain⟨a7,c7,rfl⟩:=own_slice hown7;have hrow7:=hrow.keep (hb7.block g hrow.lt.2);have hput:=hrow7.put1 HRX.out.1 (.slice a7 x.1.args.length c7);obtain⟨d0,d1⟩:=hrow7.cell HRX.out.1;rw[HXV.out]at d1;have df1:=hrow7.frozen (m*2+1);(have hb8:Below w.heap.size w (w7.setCell ⟨g,m*2+1,none⟩ (.slice a7 x.1.args.length c7)):=by have h1:=hb.trans (hb7.mono hb.size);exact⟨h1.os,h1.tape,h1.output,by simpa[World.setCell]using h1.size,fun k hk=>(Below.heap_setCell _ _ _ _ (show¬k=g by omega)).trans (h1.block k hk)⟩);have HA2:Hid (∀j p,j<m+1→(R.set m (x.1,Value.slice a7 x.1.args.length c7))[j]?=some p→(w7.setCell ⟨g,m*2+1,none⟩ (.slice a7 x.1.args.length c7)).ownsRow w.heap.size 3 1 p.2 p.1.args.length (p.1.args.map (Value.int .i64))):=by
     intro j p hj hjp;rw[List.getElem?_set]at hjp;by_cases hjm:m=j
     ·rw[if_pos hjm,if_pos oM]at hjp;(obtain rfl:(x.1,Value.slice a7 x.1.args.length c7)=p:=by simpa using hjp);exact own3_set (rl_own_le hown7 hb.size) hrow7 _ _
     rw[if_neg hjm]at hjp;exact own3_set (ownsRow_below (HARGS.out j p oM hjp) hb7) hrow7 _ _
    have HM2:Hid ((R.set m (x.1,Value.slice a7 x.1.args.length c7)).map (·.1)=D.map (·.1)):=by
     show _=_;rw[List.map_set,HMAP.out];apply List.ext_getElem?;intro t;rw[List.getElem?_set];split
     ·rename_i ht;subst ht;rw[if_pos (by simpa using hlt),List.getElem?_map,HRX.out.2];rfl
     rfl
    (have HR2:Hid (∀j,m+1≤j→(R.set m (x.1,Value.slice a7 x.1.args.length c7))[j]?=D[j]?):=fun j hj=>by rw[List.getElem?_set,if_neg oM];exact HREST.out j oM);clear hrow hown7 hb7 hrow7 hb HARGS HMAP HREST c0 c1 f1;go_wp2_with fail;go_roundw;(case rel=>exact⟨m+1,_,oM,gN,hput,HM2.out,HR2.out,HA2.out,hb8⟩);case measure=>exact mI
   have hme:m=D.length:=oM;(have HFP:Hid (FactsP w.heap.size wp (.slice (some ⟨g,0,none⟩) D.length caps) (Rl.set (l.filter P))):=by refine⟨R,HMAP.out.trans HSET.out,by rw[←HRL.out];exact hrow,fun p hp=>?_⟩;obtain⟨j,hj,hjp⟩:=List.getElem_of_mem hp;exact HARGS.out j p (by have :=HRL.out;omega) (by rw[List.getElem?_eq_getElem hj,hjp]));clear hrow HARGS HMAP HREST;go_wp2_with fail;go_ret;exact⟨_,rfl,HFP.out,hb⟩
theorem keep_any(l:List Rl.Fc)(v:Value)(w:World)(h:Nat)(cb:Array Value)(P:Rl.Fc→Bool)(hV:FactsV w v l)(hl:l.length≤2097152)(hf:∀f,f∈l→f.args.length≤1048576)(he:∀args w,(callFunc h args).run Tryz.prog w=.ok (.enter h args) w)(hK:Keeps1 h cb w P):
 Calls Tryz.prog 100 #[v, .func (.func h) #[] cb] w fun e w'=>∃v',e=.returned v'∧FactsP w.heap.size w' v' (Rl.set (l.filter P))∧Below w.heap.size w w':=
 keepW_any l v w h cb P hV oM (fun f h=>Nat.le_trans (hf f h) dE) he hK
theorem rl_ints_own{w:World}{B:Nat}{v:Value}{l:List Int}(h:w.ownsRow B 3 1 v l.length (l.map (Value.int .i64))):IntsV w v l:=by
 rcases h.2 with⟨hv,h0⟩|⟨g,cap,cur,hv,hg,hh,hc1,hc2,hc3,hc4⟩
 ·exact⟨none,0,by rw[hv,h0], .inl (List.eq_nil_of_length_eq_zero h0)⟩
 subst hv;refine⟨_,_,rfl, .inr ⟨g,0,rfl,fun i hi=>?_⟩⟩;rw[Nat.zero_add,World.ownsRow.cellAt h i oM,List.getElem?_map,List.getElem?_eq_getElem hi];simp[Sc.intD,hi]
theorem FactsP.toV{B:Nat}{w:World}{v:Value}{s:List Rl.Fc}(h:FactsP B w v s):FactsV w v s:=by
 obtain⟨q,rfl,h2,h3⟩:=h;rcases ownsRow_forms9 h2 with⟨hv,h0⟩|⟨g,cap,hv⟩
 ·have hq:q=[]:=List.eq_nil_of_length_eq_zero h0;subst hq;exact⟨none,0,hv,⟨Nat.le_refl _,fun _=>rfl⟩, .inl rfl⟩
 subst hv;have hc:q.length≤cap:=by
  rcases h2.2 with⟨hv,_⟩|⟨_,_,_,hv,_,_,hc1,_⟩
  ·cases hv
  injection hv with _ _ e3;omega
 refine⟨_,cap,by rw[List.length_map],⟨by rw[List.length_map];exact hc,fun h=>by cases h⟩, .inr ⟨g,0,rfl,fun i hi=>?_⟩⟩;rw[List.length_map]at hi;have hq:q[i]?=some q[i]:=List.getElem?_eq_getElem hi;(have hd:Rl.factD (q.map (·.1)) i=q[i].1:=by simp[Rl.factD,hi]);obtain⟨c0,c1⟩:=FRow.cell h2 hq;rw[Nat.zero_add,hd];exact⟨c0,q[i].2,c1,rl_ints_own (h3 _ (List.getElem_mem hi))⟩
theorem FactsP.nil(B:Nat)(w:World):FactsP B w (.slice none 0 0) []:=⟨[],rfl,World.ownsRow_nil _ _ _ _,fun _ hp=>absurd hp sI⟩
theorem set1_any(w:World):Keeps1 101 #[] w (fun _=>true):=by
 intro z f ao cap _ _ _;show Calls Tryz.prog 101 #[fcVal f.pred (.slice ao f.args.length cap)] z _;have hb0:∀o,Below z.heap.size z (z.alloc o):=fun o=>(Below.refl _ _).alloc (Nat.le_refl _) o
 go_enter Tryz.func101,Tryz.ntmps101
 go_wp2_with fail;go_ret;exact⟨rfl,by first|exact hb0 _|exact Below.refl _ _⟩
theorem rl_enters49:∀args w,(callFunc 101 args).run Tryz.prog w=.ok (.enter 101 args) w:=enters_of Tryz.func101 kR rfl
theorem SetW_any(l:List Rl.Fc)(v:Value)(w:World)(hV:FactsV w v l)(hl:l.length≤4398046511103)(hf:∀f,f∈l→f.args.length≤17592186044416):
 Calls Tryz.prog 54 #[v] w fun e w'=>∃v',e=.returned v'∧FactsP w.heap.size w' v' (Rl.set l)∧Below w.heap.size w w':=by
 (have HK:Hid (Calls Tryz.prog 100 #[v, .func (.func 101) #[] #[]] w fun e w'=>∃v',e=.returned v'∧FactsP w.heap.size w' v' (Rl.set l)∧Below w.heap.size w w'):=by have h:=keepW_any l v w 101 #[] (fun _=>true) hV hl hf rl_enters49 (set1_any w);rw[List.filter_eq_self.mpr (fun _ _=>rfl)]at h;exact h);obtain⟨ao,cap,rfl,_⟩:=hV;have hmf:∀(fn:Fn)(first cap:Array Value)(w:World),(Instr.makeFunc fn first cap).run Tryz.prog w=.ok (.func fn first cap) w:=fun _ _ _ _=>rfl
 go_enter Tryz.func54,Tryz.ntmps54
 go_wp2_with fail;refine Calls.mono HK.out ?_;rintro e w1 ⟨v',rfl,hP,hb⟩;obtain⟨q,hq,hown,_⟩:=id hP;obtain⟨a9,c9,rfl⟩:=own_slice hown;have HP:Hid _:=hP;clear hP hown HK;go_wp2_with fail;go_ret;exact⟨_,rfl,HP.out,hb⟩
theorem Set_any(l:List Rl.Fc)(v:Value)(w:World)(hV:FactsV w v l)(hl:l.length≤2097152)(hf:∀f,f∈l→f.args.length≤1048576):
 Calls Tryz.prog 54 #[v] w fun e w'=>∃v',e=.returned v'∧FactsP w.heap.size w' v' (Rl.set l)∧Below w.heap.size w w':=
 SetW_any l v w hV oM (fun f h=>Nat.le_trans (hf f h) dE)
theorem indexF_any(l:List Rl.Fc)(ao:Option Addr)(cap:Nat)(w:World)(h:Nat)(cb:Array Value)(P:Rl.Fc→Bool)(hA:FactsAt w ao l)(hl:l.length≤9223372036854775807)(hf:∀f,f∈l→FFit f)(he:∀args w,(callFunc h args).run Tryz.prog w=.ok (.enter h args) w)(hK:Keeps1 h cb w P):
 Calls Tryz.prog 179 #[.slice ao l.length cap, .func (.func h) #[] cb] w fun e w'=>∃r:Int,e=.returned (.int .i64 r)∧decide (0≤r)=l.any P∧Below w.heap.size w w':=by
 have HA:Hid (FactsAt w ao l):=hA;have HF:Hid (∀f,f∈l→FFit f):=hf;have HK:Hid (Keeps1 h cb w P):=hK;clear hA hf hK
 go_enter Tryz.func179,Tryz.ntmps179
 go_wp2_with fail;go_loopw [8] (fun i wr=>∃k:Nat,k≤l.length∧i=.int .i64 k∧l.any P=(l.drop k).any P∧Below w.heap.size w wr) (fun i _=>l.length-(intOf i).toNat);case atStart=>exact⟨0,Nat.zero_le _,rfl,rfl,Below.refl _ _⟩
 case round=>
  obtain⟨k,hk,rfl,hall,hbel⟩:=hrel;have HAL:Hid _:=hall;clear hall;by_cases hlt:k<l.length
  ·obtain⟨b,off,rfl,p0,fv,p1,hIv⟩:=facts_at HA.out k hlt;have hmem:=factD_mem l k hlt;(have HD:Hid (l.any P=(P (Rl.factD l k)||(l.drop (k+1)).any P)):=by show _=_;rw[HAL.out,factD_drop l k hlt,List.any_cons]);have HIV:Hid (IntsV w fv (Rl.factD l k).args∧FFit (Rl.factD l k)):=⟨hIv,HF.out _ hmem⟩;obtain⟨af,cf,rfl,_⟩:=hIv;have a0:=cell_below hbel p0;have a1:=cell_below hbel p1;clear p0 p1 HAL hmem;generalize Rl.factD l k=f at *;go_wp2_with fail;refine Calls.mono (HK.out wr f af cf hbel (intsV_below HIV.out.1 hbel) HIV.out.2) ?_;rintro e w1 ⟨he1,hb1⟩;subst he1;have hb2:=hbel.trans (hb1.mono hbel.size);cases hx:P f
   ·(have HV:Hid (l.any P=(l.drop (k+1)).any P):=by show _=_;rw[HD.out,hx];rfl);clear HD;go_wp2_with fail;go_roundw;(case rel=>exact⟨k+1,oM,gN,HV.out,hb2⟩);case measure=>exact mI
   (have HV:Hid (l.any P=true):=by show _=_;rw[HD.out,hx];rfl);clear HD;go_wp2_with fail;go_ret;exact⟨k,rfl,by rw[HV.out];simp,hb2⟩
  (have HV:Hid (l.any P=false):=by show _=_;rw[HAL.out,List.drop_of_length_le oM];rfl);go_wp2_with fail;go_ret;exact⟨-1,rfl,rV,hbel⟩
theorem containsF_any(l:List Rl.Fc)(v:Value)(w:World)(h:Nat)(cb:Array Value)(P:Rl.Fc→Bool)(hV:FactsV w v l)(hl:l.length≤9223372036854775807)(hf:∀f,f∈l→FFit f)(he:∀args w,(callFunc h args).run Tryz.prog w=.ok (.enter h args) w)(hK:Keeps1 h cb w P):
 Calls Tryz.prog 135 #[v, .func (.func h) #[] cb] w fun e w'=>e=.returned (.bool (l.any P))∧Below w.heap.size w w':=by
 obtain⟨ao,cap,rfl,_,hA⟩:=hV;have HI:Hid _:=indexF_any l ao cap w h cb P hA hl hf he hK;clear hA hf hK
 go_enter Tryz.func135,Tryz.ntmps135
 go_wp2_with fail;refine Calls.mono HI.out ?_;rintro e w1 ⟨r,rfl,hr,hb⟩;go_wp2_with fail;go_ret;exact⟨by rw[←hr];rfl,hb⟩
theorem OrderOf_any(f g:Rl.Fc)(v u:Value)(w:World)(hV:IntsV w v f.args)(hU:IntsV w u g.args)(hx:FFit f)(hy:FFit g):
 Calls Tryz.prog 44 #[fcVal f.pred v,fcVal g.pred u] w fun e w'=>e=.returned (.int .i64 (Rl.ord f g))∧Below w.heap.size w w':=by
 obtain⟨p,x⟩:=f;obtain⟨q,y⟩:=g;have hV:IntsV w v x:=hV;have hU:IntsV w u y:=hU;have hx:x.length≤9223372036854775807:=hx;have hy:y.length≤9223372036854775807:=hy;obtain⟨ao,cap,rfl,hA⟩:=hV;obtain⟨bo,cbp,rfl,hB⟩:=hU;have HA:Hid (IntsAt w ao x):=hA;have HB:Hid (IntsAt w bo y):=hB;have t2:=two_blocks (w:=w) (o1:=.cells #[.int .i64 p, .slice ao x.length cap] 55) (o2:=.cells #[.int .i64 q, .slice bo y.length cbp] 55) (Below.refl _ _);have hbw:=below_two w (.cells #[.int .i64 p, .slice ao x.length cap] 55) (.cells #[.int .i64 q, .slice bo y.length cbp] 55);have HO:Hid (Rl.ord ⟨p,x⟩ ⟨q,y⟩=if Rl.cmpI p q=0 then Rl.cmpL x y else Rl.cmpI p q):=rfl;clear hA hB;(have c0:((w.alloc (.cells #[.int .i64 p, .slice ao x.length cap] 55)).alloc (.cells #[.int .i64 q, .slice bo y.length cbp] 55)).cell? ⟨w.heap.size,0,none⟩=some (.int .i64 p):=by rw[Lib.cell_of_heap t2.1];rfl);(have c1:((w.alloc (.cells #[.int .i64 p, .slice ao x.length cap] 55)).alloc (.cells #[.int .i64 q, .slice bo y.length cbp] 55)).cell? ⟨w.heap.size,1,none⟩=some (.slice ao x.length cap):=by rw[Lib.cell_of_heap t2.1];rfl);(have d0:((w.alloc (.cells #[.int .i64 p, .slice ao x.length cap] 55)).alloc (.cells #[.int .i64 q, .slice bo y.length cbp] 55)).cell? ⟨w.heap.size+1,0,none⟩=some (.int .i64 q):=by rw[Lib.cell_of_heap t2.2];rfl);(have d1:((w.alloc (.cells #[.int .i64 p, .slice ao x.length cap] 55)).alloc (.cells #[.int .i64 q, .slice bo y.length cbp] 55)).cell? ⟨w.heap.size+1,1,none⟩=some (.slice bo y.length cbp):=by rw[Lib.cell_of_heap t2.2];rfl);clear t2;by_cases hpq:p=q
 ·subst hpq;(have HO2:Hid (Rl.ord ⟨p,x⟩ ⟨p,y⟩=Rl.cmpL x y):=by show _=_;rw[HO.out,if_pos (Rl.cmpI_self p)]);(have g0:(p != p)=false:=by simp);clear HO
  go_enter Tryz.func44,Tryz.ntmps44
  go_wp2_with fail;generalize (w.alloc (.cells #[.int .i64 p, .slice ao x.length cap] 55)).alloc (.cells #[.int .i64 p, .slice bo y.length cbp] 55)=w2 at *;(have HCA:Hid (∀k,k<x.length→∃b off,ao=some ⟨b,off,none⟩∧w2.cell? ⟨b,off+k,none⟩=some (.int .i64 (Sc.intD x k))):=fun k hk=>by obtain⟨b,off,h1,h2⟩:=ints_at HA.out k hk;exact⟨b,off,h1,cell_below hbw h2⟩);(have HCB:Hid (∀k,k<y.length→∃b off,bo=some ⟨b,off,none⟩∧w2.cell? ⟨b,off+k,none⟩=some (.int .i64 (Sc.intD y k))):=fun k hk=>by obtain⟨b,off,h1,h2⟩:=ints_at HB.out k hk;exact⟨b,off,h1,cell_below hbw h2⟩);clear HA HB;have HBW:Hid (∀n,Below w.heap.size w (w2.drewN n)):=fun n=>⟨hbw.os,hbw.tape,hbw.output,hbw.size,hbw.block⟩;clear hbw;go_loopw [5] (fun i wr=>∃k nq:Nat,k≤x.length∧k≤y.length∧i=.int .i64 k∧wr=w2.drewN nq∧Rl.cmpL (x.drop k) (y.drop k)=Rl.cmpL x y) (fun i _=>x.length-(intOf i).toNat);case atStart=>exact⟨0,0,Nat.zero_le _,Nat.zero_le _,rfl,rfl,rfl⟩
  case round=>
   obtain⟨k,nq,hk,hk2,rfl,rfl,hq⟩:=hrel;have HQ:Hid _:=hq;clear hq;by_cases hl:k<x.length
   ·by_cases hl2:k<y.length
    ·obtain⟨b,off,rfl,p0⟩:=HCA.out k hl;obtain⟨b2,off2,rfl,p1⟩:=HCB.out k hl2;(have HD:Hid (Rl.cmpL x y=if Rl.cmpI (Sc.intD x k) (Sc.intD y k)=0 then Rl.cmpL (x.drop (k+1)) (y.drop (k+1))else Rl.cmpI (Sc.intD x k) (Sc.intD y k)):=by show _=_;rw[←HQ.out];exact cmpL_drop x y k hl hl2);clear HQ;generalize Sc.intD x k=a at *;generalize Sc.intD y k=b' at *;have c1n:∀n,(w2.drewN n).cell? ⟨w.heap.size,1,none⟩=some (.slice (some ⟨b,off,none⟩) x.length cap):=fun _=>c1;have d1n:∀n,(w2.drewN n).cell? ⟨w.heap.size+1,1,none⟩=some (.slice (some ⟨b2,off2,none⟩) y.length cbp):=fun _=>d1;have p0n:∀n,(w2.drewN n).cell? ⟨b,off+k,none⟩=some (.int .i64 a):=fun _=>p0;have p1n:∀n,(w2.drewN n).cell? ⟨b2,off2+k,none⟩=some (.int .i64 b'):=fun _=>p1;go_upto_region 8 with fail;have e1:=c1n nq;have e2:=d1n nq;have e3:=p0n nq;have e4:=p1n nq;generalize hz:w2.drewN nq=z at *;go_region_held3 (fun yy=>yy.cell? ⟨w.heap.size,1,none⟩=some (.slice (some ⟨b,off,none⟩) x.length cap)∧yy.cell? ⟨w.heap.size+1,1,none⟩=some (.slice (some ⟨b2,off2,none⟩) y.length cbp)∧yy.cell? ⟨b,off+k,none⟩=some (.int .i64 a)∧yy.cell? ⟨b2,off2+k,none⟩=some (.int .i64 b')) (go_keep) (fail);clear e1 e2 e3 e4;(have hzd:z.drew=w2.drewN (nq+1):=by rw[←hz];rfl);rw[hzd];clear hz hzd;have HI:Hid (Rl.cmpI a b'=if a<b' then -1 else if b'<a then 1 else 0):=rfl;by_cases h1:a<b'
     ·(have HV:Hid (Rl.cmpL x y= -1):=by show _=_;(have h3:Rl.cmpI a b'= -1:=by rw[HI.out,if_pos h1]);rw[HD.out,if_neg (by rw[h3];decide),h3]);go_wp2_with fail;go_ret;exact⟨by rw[HO2.out,HV.out];rfl,HBW.out _⟩
     go_upto_region 10 with fail;have e1:=c1n (nq+1);have e2:=d1n (nq+1);have e3:=p0n (nq+1);have e4:=p1n (nq+1);generalize hz:w2.drewN (nq+1)=z at *;go_region_held3 (fun yy=>yy.cell? ⟨w.heap.size,1,none⟩=some (.slice (some ⟨b,off,none⟩) x.length cap)∧yy.cell? ⟨w.heap.size+1,1,none⟩=some (.slice (some ⟨b2,off2,none⟩) y.length cbp)∧yy.cell? ⟨b,off+k,none⟩=some (.int .i64 a)∧yy.cell? ⟨b2,off2+k,none⟩=some (.int .i64 b')) (go_keep) (fail);clear e1 e2 e3 e4;(have hzd:z.drew=w2.drewN (nq+1+1):=by rw[←hz];rfl);rw[hzd];clear hz hzd;by_cases h2:b'<a
     ·(have HV:Hid (Rl.cmpL x y=1):=by show _=_;(have h3:Rl.cmpI a b'=1:=by rw[HI.out,if_neg h1,if_pos h2]);rw[HD.out,if_neg (by rw[h3];decide),h3]);go_wp2_with fail;go_ret;exact⟨by rw[HO2.out,HV.out];rfl,HBW.out _⟩
     (have HV:Hid (Rl.cmpL (x.drop (k+1)) (y.drop (k+1))=Rl.cmpL x y):=by show _=_;(have h3:Rl.cmpI a b'=0:=by rw[HI.out,if_neg h1,if_neg h2]);rw[HD.out,if_pos h3]);go_wp2_with fail;go_roundw;(case rel=>exact⟨k+1,nq+1+1,oM,oM,gN,rfl,HV.out⟩);case measure=>exact mI
    (have HV:Hid (Rl.cmpL x y=1):=by show _=_;rw[←HQ.out];exact cmpL_left x y k hl oM);have hyx:y.length<x.length:=oM;have hyx2:¬x.length<y.length:=oM;go_wp2_with fail;go_ret;exact⟨by rw[HO2.out,HV.out];rfl,HBW.out _⟩
   by_cases hl2:x.length<y.length
   ·(have HV:Hid (Rl.cmpL x y= -1):=by show _=_;rw[←HQ.out];exact cmpL_right x y k oM oM);go_wp2_with fail;go_ret;exact⟨by rw[HO2.out,HV.out];rfl,HBW.out _⟩
   (have HV:Hid (Rl.cmpL x y=0):=by show _=_;rw[←HQ.out,List.drop_of_length_le oM,List.drop_of_length_le oM];rfl);have hyx:¬y.length<x.length:=oM;go_wp2_with fail;go_ret;exact⟨by rw[HO2.out,HV.out];rfl,HBW.out _⟩
 (have g0:(p != q)=true:=by simpa using hpq);(have HO2:Hid (Rl.ord ⟨p,x⟩ ⟨q,y⟩=Rl.cmpI p q):=by show _=_;rw[HO.out,if_neg (fun h=>hpq (Rl.cmpI_zero.mp h))]);have HC:Hid (Rl.cmpI p q=if p<q then -1 else if q<p then 1 else 0):=rfl;clear HO;by_cases h1:p<q
 ·have HV:Hid (Rl.cmpI p q= -1):=by show _=_;rw[HC.out,if_pos h1]
  go_enter Tryz.func44,Tryz.ntmps44
  go_wp2_with fail;go_ret;exact⟨by rw[HO2.out,HV.out];rfl,hbw⟩
 have HV:Hid (Rl.cmpI p q=1):=by show _=_;rw[HC.out,if_neg h1,if_pos oM]
 go_enter Tryz.func44,Tryz.ntmps44
 go_wp2_with fail;go_ret;exact⟨by rw[HO2.out,HV.out];rfl,hbw⟩
theorem any_has(l:List Rl.Fc)(f:Rl.Fc):l.any (fun g=>Rl.ord f g==0)=Rl.has l f:=by
 unfold Rl.has
 congr 1
 funext g;rw[Rl.ord_flip g f];by_cases h:Rl.ord g f=0
 ·rw[h];rfl
 have h2:¬(-Rl.ord g f)=0:=oM;rw[beq_false_of_ne h2,beq_false_of_ne h]
theorem has1_any(w:World)(FB:Nat)(f:Rl.Fc)(a:Option Addr)(c:Nat)(hB:w.heap[FB]?=some (.cells #[.int .i64 f.pred, .slice a f.args.length c] 55))(hI:IntsV w (.slice a f.args.length c) f.args)(hF:FFit f):Keeps1 213 #[.pointer (some ⟨FB,0,none⟩)] w (fun g=>Rl.ord f g==0):=by
 intro z g ao cap hz hIg hFg;show Calls Tryz.prog 213 #[fcVal g.pred (.slice ao g.args.length cap), .pointer (some ⟨FB,0,none⟩)] z _;have hBz:=(hz.block FB (rl_lt hB)).trans hB;have hba:Below z.heap.size z (z.alloc (.cells #[.int .i64 g.pred, .slice ao g.args.length cap] 55)):=(Below.refl _ _).alloc (Nat.le_refl _) _;have hBa:=(hba.block FB (rl_lt hBz)).trans hBz;have hGa:=rl_new z (.cells #[.int .i64 g.pred, .slice ao g.args.length cap] 55);have HC:Hid (Calls Tryz.prog 148 #[fcVal f.pred (.slice a f.args.length c),fcVal g.pred (.slice ao g.args.length cap)] (z.alloc (.cells #[.int .i64 g.pred, .slice ao g.args.length cap] 55)) fun e w'=>e=.returned (.bool (Rl.ord f g==0))∧Gr (z.alloc (.cells #[.int .i64 g.pred, .slice ao g.args.length cap] 55)) w'):=same_any f g _ _ _ (intsV_below (intsV_below hI hz) hba) (intsV_below hIg hba) hF hFg;(have c0:(z.alloc (.cells #[.int .i64 g.pred, .slice ao g.args.length cap] 55)).cell? ⟨FB,0,none⟩=some (.int .i64 f.pred):=by rw[Lib.cell_of_heap hBa];rfl);(have c1:(z.alloc (.cells #[.int .i64 g.pred, .slice ao g.args.length cap] 55)).cell? ⟨FB,1,none⟩=some (.slice a f.args.length c):=by rw[Lib.cell_of_heap hBa];rfl);(have d0:(z.alloc (.cells #[.int .i64 g.pred, .slice ao g.args.length cap] 55)).cell? ⟨z.heap.size,0,none⟩=some (.int .i64 g.pred):=by rw[Lib.cell_of_heap hGa];rfl);(have d1:(z.alloc (.cells #[.int .i64 g.pred, .slice ao g.args.length cap] 55)).cell? ⟨z.heap.size,1,none⟩=some (.slice ao g.args.length cap):=by rw[Lib.cell_of_heap hGa];rfl);clear hBz hBa hGa hIg hz
 go_enter Tryz.func213,Tryz.ntmps213
 go_wp2_with fail;refine Calls.mono HC.out ?_;rintro e w1 ⟨rfl,hg⟩;have hb:=hba.trans (hg.below.mono hba.size);clear HC c0 c1 d0 d1;go_wp2_with fail;go_ret;exact⟨rfl,hb⟩
theorem rl_enters51:∀args w,(callFunc 213 args).run Tryz.prog w=.ok (.enter 213 args) w:=enters_of Tryz.func213 kR rfl
theorem Has_any(l:List Rl.Fc)(f:Rl.Fc)(v u:Value)(w:World)(hV:FactsV w v l)(hU:IntsV w u f.args)(hl:l.length≤9223372036854775807)(hf:∀f,f∈l→FFit f)(hF:FFit f):
 Calls Tryz.prog 185 #[v,fcVal f.pred u] w fun e w'=>e=.returned (.bool (Rl.has l f))∧Below w.heap.size w w':=by
 obtain⟨a,c,rfl,_⟩:=id hU;have hmf:∀(fn:Fn)(first cap:Array Value)(w:World),(Instr.makeFunc fn first cap).run Tryz.prog w=.ok (.func fn first cap) w:=fun _ _ _ _=>rfl;have hba:Below w.heap.size w (w.alloc (.cells #[.int .i64 f.pred, .slice a f.args.length c] 55)):=(Below.refl _ _).alloc (Nat.le_refl _) _;(have HC:Hid (Calls Tryz.prog 135 #[v, .func (.func 213) #[] #[.pointer (some ⟨w.heap.size,0,none⟩)]] (w.alloc (.cells #[.int .i64 f.pred, .slice a f.args.length c] 55)) fun e w'=>e=.returned (.bool (Rl.has l f))∧Below (w.alloc (.cells #[.int .i64 f.pred, .slice a f.args.length c] 55)).heap.size (w.alloc (.cells #[.int .i64 f.pred, .slice a f.args.length c] 55)) w'):=by rw[←any_has];exact containsF_any l v _ 213 _ _ (factsV_below hV hba) hl hf rl_enters51 (has1_any _ w.heap.size f a c (rl_new w _) (intsV_below hU hba) hF));obtain⟨ao,cap,rfl,_⟩:=hV;clear hU hf
 go_enter Tryz.func185,Tryz.ntmps185
 go_wp2_with fail;refine Calls.mono HC.out ?_;rintro e w1 ⟨rfl,hb1⟩;have hb:=hba.trans (hb1.mono hba.size);clear HC hb1 hba;go_wp2_with fail;go_ret;exact⟨rfl,hb⟩
theorem HasFact_any(l:List Rl.Fc)(f:Rl.Fc)(v u:Value)(w:World)(hV:FactsV w v l)(hU:IntsV w u f.args)(hl:l.length≤9223372036854775807)(hf:∀f,f∈l→FFit f)(hF:FFit f):
 Calls Tryz.prog 26 #[v,fcVal f.pred u] w fun e w'=>e=.returned (.bool (Rl.has l f))∧Below w.heap.size w w':=by
 obtain⟨ao,cap,rfl,_,hA⟩:=hV;obtain⟨a,c,rfl,_⟩:=id hU;have HA:Hid (FactsAt w ao l):=hA;have HF:Hid (∀f,f∈l→FFit f):=hf;have HU:Hid (IntsV w (.slice a f.args.length c) f.args∧FFit f):=⟨hU,hF⟩;have hba:Below w.heap.size w (w.alloc (.cells #[.int .i64 f.pred, .slice a f.args.length c] 55)):=(Below.refl _ _).alloc (Nat.le_refl _) _;have hFB:=rl_new w (.cells #[.int .i64 f.pred, .slice a f.args.length c] 55);clear hA hf hU
 go_enter Tryz.func26,Tryz.ntmps26
 go_wp2_with fail;generalize w.alloc (.cells #[.int .i64 f.pred, .slice a f.args.length c] 55)=w1 at *;go_loopw [5] (fun i wr=>∃k:Nat,k≤l.length∧i=.int .i64 k∧Rl.has l f=Rl.has (l.drop k) f∧Below w1.heap.size w1 wr) (fun i _=>l.length-(intOf i).toNat);case atStart=>exact⟨0,Nat.zero_le _,rfl,rfl,Below.refl _ _⟩
 case round=>
  obtain⟨k,hk,rfl,hall,hbel⟩:=hrel;have HAL:Hid _:=hall;clear hall;have hbw:=hba.trans (hbel.mono hba.size);by_cases hlt:k<l.length
  ·obtain⟨b,off,rfl,p0,fv,p1,hIv⟩:=facts_at HA.out k hlt;have hmem:=factD_mem l k hlt;(have HD:Hid (Rl.has l f=((Rl.ord (Rl.factD l k) f==0)||Rl.has (l.drop (k+1)) f)):=by show _=_;rw[HAL.out,factD_drop l k hlt];rfl);have HIV:Hid (IntsV w fv (Rl.factD l k).args∧FFit (Rl.factD l k)):=⟨hIv,HF.out _ hmem⟩;obtain⟨af,cf,rfl,_⟩:=hIv;have a0:=cell_below hbw p0;have a1:=cell_below hbw p1;have hFB2:=(hbel.block _ (rl_lt hFB)).trans hFB;(have c0:wr.cell? ⟨w.heap.size,0,none⟩=some (.int .i64 f.pred):=by rw[Lib.cell_of_heap hFB2];rfl);(have c1:wr.cell? ⟨w.heap.size,1,none⟩=some (.slice a f.args.length c):=by rw[Lib.cell_of_heap hFB2];rfl);clear p0 p1 HAL hmem hFB2;generalize Rl.factD l k=g at *;(have HN:Hid (∀z,Below wr.heap.size wr z→Calls Tryz.prog 44 #[fcVal g.pred (.slice af g.args.length cf),fcVal f.pred (.slice a f.args.length c)] z fun e w'=>e=.returned (.int .i64 (Rl.ord g f))∧Below wr.heap.size wr w'∧w'.cell? ⟨b,off+k*2,none⟩=some (.int .i64 g.pred)∧w'.cell? ⟨b,off+k*2+1,none⟩=some (.slice af g.args.length cf)∧w'.cell? ⟨w.heap.size,0,none⟩=some (.int .i64 f.pred)∧w'.cell? ⟨w.heap.size,1,none⟩=some (.slice a f.args.length c)):=by intro z hz;have hzw:=hbw.trans (hz.mono hbw.size);refine(OrderOf_any g f _ _ z (intsV_below HIV.out.1 hzw) (intsV_below HU.out.1 hzw) HIV.out.2 HU.out.2).mono ?_;rintro e w' ⟨h1,h2⟩;have h3:=hz.trans (h2.mono hz.size);exact⟨h1,h3,cell_below h3 a0,cell_below h3 a1,cell_below h3 c0,cell_below h3 c1⟩);have HGA:∀b o,Below wr.heap.size wr b→Below wr.heap.size wr (b.alloc o):=fun _ o h=>h.alloc h.size o;have HGD:∀b,Below wr.heap.size wr b→Below wr.heap.size wr b.drew:=fun _ h=>⟨h.os,h.tape,h.output,h.size,h.block⟩;have HGR:Below wr.heap.size wr wr:=Below.refl _ _;go_upto_region 4 with fail
   go_region_held3 (fun yy=>yy.cell? ⟨b,off+k*2,none⟩=some (.int .i64 g.pred)∧yy.cell? ⟨b,off+k*2+1,none⟩=some (.slice af g.args.length cf)∧yy.cell? ⟨w.heap.size,0,none⟩=some (.int .i64 f.pred)∧yy.cell? ⟨w.heap.size,1,none⟩=some (.slice a f.args.length c)∧Below wr.heap.size wr yy) (go_keep) (
    (go_at_call 44;refine Calls.mono (HN.out _ ?_) ?_;(simp[*]);rintro e w2 ⟨rfl,hb2,hz2,hz3,hz4,hz5⟩))
   clear HGA HGD HGR HN hz2 hz3 hz4 hz5;have hb3:=hbel.trans (hb2.mono hbel.size);have hb4:=hbw.trans (hb2.mono hbw.size);clear a0 a1 c0 c1 hb2 hbel hbw;cases hx:(Rl.ord g f==0)
   ·(have HV:Hid (Rl.has l f=Rl.has (l.drop (k+1)) f):=by show _=_;rw[HD.out,hx];rfl);clear HD;go_wp2_with fail;go_roundw;(case rel=>exact⟨k+1,oM,gN,HV.out,hb3⟩);case measure=>exact mI
   (have HV:Hid (Rl.has l f=true):=by show _=_;rw[HD.out,hx];rfl);clear HD;go_wp2_with fail;go_ret;exact⟨rV,hb4⟩
  (have HV:Hid (Rl.has l f=false):=by show _=_;rw[HAL.out,List.drop_of_length_le oM];rfl);go_wp2_with fail;go_ret;exact⟨rV,hbw⟩
theorem SameFacts_refl(l:List Rl.Fc)(v u:Value)(w:World)(hV:FactsV w v l)(hU:FactsV w u l)(hl:l.length≤9223372036854775807)(hf:∀f,f∈l→FFit f):
 Calls Tryz.prog 21 #[v,u] w fun e w'=>e=.returned (.bool true)∧Below w.heap.size w w':=by
 obtain⟨ao,cap,rfl,_,hA⟩:=hV;obtain⟨bo,cbp,rfl,_,hB⟩:=hU;have HA:Hid (FactsAt w ao l):=hA;have HB:Hid (FactsAt w bo l):=hB;have HF:Hid (∀f,f∈l→FFit f):=hf;(have hne:((l.length:Int) != (l.length:Int))=false:=by simp);clear hA hB hf
 go_enter Tryz.func21,Tryz.ntmps21
 go_wp2_with fail;go_loopw [5] (fun i wr=>∃k:Nat,k≤l.length∧i=.int .i64 k∧Below w.heap.size w wr) (fun i _=>l.length-(intOf i).toNat);case atStart=>exact⟨0,Nat.zero_le _,rfl,Below.refl _ _⟩
 case round=>
  obtain⟨k,hk,rfl,hbw⟩:=hrel;by_cases hlt:k<l.length
  ·obtain⟨b,off,rfl,p0,fv,p1,hIv⟩:=facts_at HA.out k hlt;obtain⟨b2,off2,rfl,r0,gv,r1,hJv⟩:=facts_at HB.out k hlt;have hmem:=factD_mem l k hlt;have HIV:Hid (IntsV w fv (Rl.factD l k).args∧IntsV w gv (Rl.factD l k).args∧FFit (Rl.factD l k)):=⟨hIv,hJv,HF.out _ hmem⟩;obtain⟨af,cf,rfl,_⟩:=hIv;obtain⟨ag,cg,rfl,_⟩:=hJv;have a0:=cell_below hbw p0;have a1:=cell_below hbw p1;have c0:=cell_below hbw r0;have c1:=cell_below hbw r1;clear p0 p1 r0 r1 hmem;generalize Rl.factD l k=g at *;(have HN:Hid (∀z,Below wr.heap.size wr z→Calls Tryz.prog 44 #[fcVal g.pred (.slice af g.args.length cf),fcVal g.pred (.slice ag g.args.length cg)] z fun e w'=>e=.returned (.int .i64 0)∧Below wr.heap.size wr w'∧w'.cell? ⟨b,off+k*2,none⟩=some (.int .i64 g.pred)∧w'.cell? ⟨b,off+k*2+1,none⟩=some (.slice af g.args.length cf)∧w'.cell? ⟨b2,off2+k*2,none⟩=some (.int .i64 g.pred)∧w'.cell? ⟨b2,off2+k*2+1,none⟩=some (.slice ag g.args.length cg)):=by intro z hz;have hzw:=hbw.trans (hz.mono hbw.size);refine(OrderOf_any g g _ _ z (intsV_below HIV.out.1 hzw) (intsV_below HIV.out.2.1 hzw) HIV.out.2.2 HIV.out.2.2).mono ?_;rintro e w' ⟨h1,h2⟩;have h3:=hz.trans (h2.mono hz.size);rw[Rl.ord_self]at h1;exact⟨h1,h3,cell_below h3 a0,cell_below h3 a1,cell_below h3 c0,cell_below h3 c1⟩);have HGA:∀b o,Below wr.heap.size wr b→Below wr.heap.size wr (b.alloc o):=fun _ o h=>h.alloc h.size o;have HGD:∀b,Below wr.heap.size wr b→Below wr.heap.size wr b.drew:=fun _ h=>⟨h.os,h.tape,h.output,h.size,h.block⟩;have HGR:Below wr.heap.size wr wr:=Below.refl _ _;go_upto_region 6 with fail
   go_region_held3 (fun yy=>yy.cell? ⟨b,off+k*2,none⟩=some (.int .i64 g.pred)∧yy.cell? ⟨b,off+k*2+1,none⟩=some (.slice af g.args.length cf)∧yy.cell? ⟨b2,off2+k*2,none⟩=some (.int .i64 g.pred)∧yy.cell? ⟨b2,off2+k*2+1,none⟩=some (.slice ag g.args.length cg)∧Below wr.heap.size wr yy) (go_keep) (
    (go_at_call 44;refine Calls.mono (HN.out _ ?_) ?_;(simp[*]);rintro e w2 ⟨rfl,hb2,hz2,hz3,hz4,hz5⟩))
   clear HGA HGD HGR HN hz2 hz3 hz4 hz5;have hb3:=hbw.trans (hb2.mono hbw.size);clear a0 a1 c0 c1 hb2 hbw;go_wp2_with fail;go_roundw;(case rel=>exact⟨k+1,oM,gN,hb3⟩);case measure=>exact mI
  go_wp2_with fail;go_ret;exact⟨rfl,hbw⟩
theorem checkLit_3(ar:List Int)(va vn vr:Value)(op pred:Int)(ts:List Sc.Term)(at_:Option Addr)(ct:Nat)(w:World):
 Calls Tryz.prog 208 #[progVal va vn vr,plitVal ⟨3,op,pred,ts⟩ (.slice at_ ts.length ct)] w fun e w'=>e=finE (Sc.litErr ar ⟨3,op,pred,ts⟩)∧Below w.heap.size w w':=by
 have hb0:Below w.heap.size w ((w.alloc (.cells #[va,vn,vr] 26)).alloc (.cells #[.int .i64 3, .int .i64 op, .int .i64 pred, .slice at_ ts.length ct] 49)):=below_two w _ _;(have HL:Hid (Sc.litErr ar ⟨3,op,pred,ts⟩=if Tr.between op 1 4 then(if pred≠0∨¬ts.length=2 then 1 else 0)else 3):=by show _=_;simp[Sc.litErr]);by_cases h1:op<1
 ·(have HV:Hid (Sc.litErr ar ⟨3,op,pred,ts⟩=3):=by show _=_;have :¬1≤op:=oM;rw[HL.out];simp[Tr.between,this]);have g1:decide (op<1)=true:=decide_eq_true h1;clear HL
  go_enter Tryz.func208,Tryz.ntmps208
  go_wp2_with fail;refine(refuse_yes 3 _).mono ?_;rintro e w1 ⟨rfl,hb1⟩;go_wp2_with fail;exact⟨rfl,rV,hb0.trans (hb1.mono hb0.size)⟩
 have g1:decide (op<1)=false:=decide_eq_false h1;by_cases h2:4<op
 ·(have HV:Hid (Sc.litErr ar ⟨3,op,pred,ts⟩=3):=by show _=_;have :¬op≤4:=oM;rw[HL.out];simp[Tr.between,this]);have g2:decide (4<op)=true:=decide_eq_true h2;clear HL
  go_enter Tryz.func208,Tryz.ntmps208
  go_wp2_with fail;refine(refuse_yes 3 _).mono ?_;rintro e w1 ⟨rfl,hb1⟩;go_wp2_with fail;exact⟨rfl,rV,hb0.trans (hb1.mono hb0.size)⟩
 have g2:decide (4<op)=false:=decide_eq_false h2;(have HL2:Hid (Sc.litErr ar ⟨3,op,pred,ts⟩=if pred≠0∨¬ts.length=2 then 1 else 0):=by show _=_;have p1:1≤op:=oM;have p2:op≤4:=oM;rw[HL.out];simp[Tr.between,p1,p2]);clear HL;cases g3:(pred != 0)
 ·(have p0:pred=0:=by simpa using g3);by_cases h4:ts.length=2
  ·(have HV:Hid (Sc.litErr ar ⟨3,op,pred,ts⟩=0):=by show _=_;rw[HL2.out];simp[p0,h4]);(have g4:((ts.length:Int) != 2)=false:=by rw[h4];rfl);clear HL2 p0 h4
   go_enter Tryz.func208,Tryz.ntmps208
   go_wp2_with fail;refine(refuse_no 3 _).mono ?_;rintro e w1 ⟨rfl,rfl⟩;go_wp2_with fail;refine(refuse_no 1 _).mono ?_;rintro e w1 ⟨rfl,rfl⟩;go_wp2_with fail;exact⟨rfl, .tuple #[],by simp[results,Tryz.results208],rV,hb0⟩
  (have HV:Hid (Sc.litErr ar ⟨3,op,pred,ts⟩=1):=by show _=_;rw[HL2.out];simp[h4]);(have g4:((ts.length:Int) != 2)=true:=by simp;omega);clear HL2 p0 h4
  go_enter Tryz.func208,Tryz.ntmps208
  go_wp2_with fail;refine(refuse_no 3 _).mono ?_;rintro e w1 ⟨rfl,rfl⟩;go_wp2_with fail;refine(refuse_yes 1 _).mono ?_;rintro e w1 ⟨rfl,hb1⟩;go_wp2_with fail;exact⟨rfl,rV,hb0.trans (hb1.mono hb0.size)⟩
 (have p0:¬pred=0:=by simpa using g3);(have HV:Hid (Sc.litErr ar ⟨3,op,pred,ts⟩=1):=by show _=_;rw[HL2.out];simp[p0]);clear HL2 p0
 go_enter Tryz.func208,Tryz.ntmps208
 go_wp2_with fail;refine(refuse_no 3 _).mono ?_;rintro e w1 ⟨rfl,rfl⟩;go_wp2_with fail;refine(refuse_yes 1 _).mono ?_;rintro e w1 ⟨rfl,hb1⟩;go_wp2_with fail;exact⟨rfl,rV,hb0.trans (hb1.mono hb0.size)⟩
theorem checkLit_4(ar:List Int)(va vn vr:Value)(op pred:Int)(ts:List Sc.Term)(at_:Option Addr)(ct:Nat)(w:World):
 Calls Tryz.prog 208 #[progVal va vn vr,plitVal ⟨4,op,pred,ts⟩ (.slice at_ ts.length ct)] w fun e w'=>e=finE (Sc.litErr ar ⟨4,op,pred,ts⟩)∧Below w.heap.size w w':=by
 have hb0:Below w.heap.size w ((w.alloc (.cells #[va,vn,vr] 26)).alloc (.cells #[.int .i64 4, .int .i64 op, .int .i64 pred, .slice at_ ts.length ct] 49)):=below_two w _ _;(have HL:Hid (Sc.litErr ar ⟨4,op,pred,ts⟩=if Tr.between op 5 7 then(if pred≠0∨¬ts.length=3 then 1 else 0)else 3):=by show _=_;simp[Sc.litErr]);by_cases h1:op<5
 ·(have HV:Hid (Sc.litErr ar ⟨4,op,pred,ts⟩=3):=by show _=_;have :¬5≤op:=oM;rw[HL.out];simp[Tr.between,this]);have g1:decide (op<5)=true:=decide_eq_true h1;clear HL
  go_enter Tryz.func208,Tryz.ntmps208
  go_wp2_with fail;refine(refuse_yes 3 _).mono ?_;rintro e w1 ⟨rfl,hb1⟩;go_wp2_with fail;exact⟨rfl,rV,hb0.trans (hb1.mono hb0.size)⟩
 have g1:decide (op<5)=false:=decide_eq_false h1;by_cases h2:7<op
 ·(have HV:Hid (Sc.litErr ar ⟨4,op,pred,ts⟩=3):=by show _=_;have :¬op≤7:=oM;rw[HL.out];simp[Tr.between,this]);have g2:decide (7<op)=true:=decide_eq_true h2;clear HL
  go_enter Tryz.func208,Tryz.ntmps208
  go_wp2_with fail;refine(refuse_yes 3 _).mono ?_;rintro e w1 ⟨rfl,hb1⟩;go_wp2_with fail;exact⟨rfl,rV,hb0.trans (hb1.mono hb0.size)⟩
 have g2:decide (7<op)=false:=decide_eq_false h2;(have HL2:Hid (Sc.litErr ar ⟨4,op,pred,ts⟩=if pred≠0∨¬ts.length=3 then 1 else 0):=by show _=_;have p1:5≤op:=oM;have p2:op≤7:=oM;rw[HL.out];simp[Tr.between,p1,p2]);clear HL;cases g3:(pred != 0)
 ·(have p0:pred=0:=by simpa using g3);by_cases h4:ts.length=3
  ·(have HV:Hid (Sc.litErr ar ⟨4,op,pred,ts⟩=0):=by show _=_;rw[HL2.out];simp[p0,h4]);(have g4:((ts.length:Int) != 3)=false:=by rw[h4];rfl);clear HL2 p0 h4
   go_enter Tryz.func208,Tryz.ntmps208
   go_wp2_with fail;refine(refuse_no 3 _).mono ?_;rintro e w1 ⟨rfl,rfl⟩;go_wp2_with fail;refine(refuse_no 1 _).mono ?_;rintro e w1 ⟨rfl,rfl⟩;go_wp2_with fail;exact⟨rfl, .tuple #[],by simp[results,Tryz.results208],rV,hb0⟩
  (have HV:Hid (Sc.litErr ar ⟨4,op,pred,ts⟩=1):=by show _=_;rw[HL2.out];simp[h4]);(have g4:((ts.length:Int) != 3)=true:=by simp;omega);clear HL2 p0 h4
  go_enter Tryz.func208,Tryz.ntmps208
  go_wp2_with fail;refine(refuse_no 3 _).mono ?_;rintro e w1 ⟨rfl,rfl⟩;go_wp2_with fail;refine(refuse_yes 1 _).mono ?_;rintro e w1 ⟨rfl,hb1⟩;go_wp2_with fail;exact⟨rfl,rV,hb0.trans (hb1.mono hb0.size)⟩
 (have p0:¬pred=0:=by simpa using g3);(have HV:Hid (Sc.litErr ar ⟨4,op,pred,ts⟩=1):=by show _=_;rw[HL2.out];simp[p0]);clear HL2 p0
 go_enter Tryz.func208,Tryz.ntmps208
 go_wp2_with fail;refine(refuse_no 3 _).mono ?_;rintro e w1 ⟨rfl,rfl⟩;go_wp2_with fail;refine(refuse_yes 1 _).mono ?_;rintro e w1 ⟨rfl,hb1⟩;go_wp2_with fail;exact⟨rfl,rV,hb0.trans (hb1.mono hb0.size)⟩
theorem checkLit_else(ar:List Int)(va vn vr:Value)(kind op pred:Int)(ts:List Sc.Term)(at_:Option Addr)(ct:Nat)(w:World)(h1:¬kind=1)(h2:¬kind=2)(h3:¬kind=3)(h4:¬kind=4):
 Calls Tryz.prog 208 #[progVal va vn vr,plitVal ⟨kind,op,pred,ts⟩ (.slice at_ ts.length ct)] w fun e w'=>e=finE (Sc.litErr ar ⟨kind,op,pred,ts⟩)∧Below w.heap.size w w':=by
 have hb0:Below w.heap.size w ((w.alloc (.cells #[va,vn,vr] 26)).alloc (.cells #[.int .i64 kind, .int .i64 op, .int .i64 pred, .slice at_ ts.length ct] 49)):=below_two w _ _;(have HV:Hid (Sc.litErr ar ⟨kind,op,pred,ts⟩=7):=by show _=_;simp[Sc.litErr,h1,h2,h3,h4]);(have g1:(kind==1)=false:=by simpa using h1);(have g2:(kind==2)=false:=by simpa using h2);(have g3:(kind==3)=false:=by simpa using h3);(have g4:(kind==4)=false:=by simpa using h4);clear h1 h2 h3 h4
 go_enter Tryz.func208,Tryz.ntmps208
 go_wp2_with fail;refine(refuse_yes 7 _).mono ?_;rintro e w1 ⟨rfl,hb1⟩;go_wp2_with fail;exact⟨rfl,rV,hb0.trans (hb1.mono hb0.size)⟩
theorem checkLit_any(ar:List Int)(va vn vr:Value)(x:Sc.Lit)(v:Value)(w:World)(hA:IntsV w va ar)(hT:∃ao cap,v=.slice ao x.terms.length cap):
 Calls Tryz.prog 208 #[progVal va vn vr,plitVal x v] w fun e w'=>e=finE (Sc.litErr ar x)∧Below w.heap.size w w':=by
 obtain⟨kind,op,pred,ts⟩:=x;obtain⟨at_,ct,rfl⟩:=hT;obtain⟨ao,cap,rfl,hA⟩:=hA;by_cases h:kind=1∨kind=2
 ·exact checkLit_pred ar ao cap vn vr kind op pred ts at_ ct w hA h
 by_cases h3:kind=3
 ·subst h3;exact checkLit_3 ar _ vn vr op pred ts at_ ct w
 by_cases h4:kind=4
 ·subst h4;exact checkLit_4 ar _ vn vr op pred ts at_ ct w
 exact checkLit_else ar _ vn vr kind op pred ts at_ ct w (fun e=>h (.inl e)) (fun e=>h (.inr e)) h3 h4
structure Bd (w:World) (X:Nat) (R:Nat) (bs:List Bool):Prop where
 box:w.heap[X]?=some (.cells #[.slice (some ⟨R,0,none⟩) bs.length bs.length] 57 (0,0))
 row:w.heap[R]?=some (.cells (bs.map Value.bool).toArray 4 (0,0))
theorem Bd.c0{w:World}{X R:Nat}{bs:List Bool}(h:Bd w X R bs):w.cell? ⟨X,0,none⟩=some (.slice (some ⟨R,0,none⟩) bs.length bs.length):=by rw[Lib.cell_of_heap h.box];rfl
theorem Bd.at{w:World}{X R:Nat}{bs:List Bool}(h:Bd w X R bs)(i:Nat)(hi:i<bs.length):w.cell? ⟨R,i,none⟩=some (.bool (bs.getD i false)):=by rw[Lib.cell_of_heap h.row];simp[List.getD_eq_getElem?_getD,hi]
theorem Bd.below{w w':World}{X R:Nat}{bs:List Bool}(h:Bd w X R bs)(hb:Below w.heap.size w w'):Bd w' X R bs:=
 ⟨(hb.block _ (heap_lt h.box)).trans h.box,(hb.block _ (heap_lt h.row)).trans h.row⟩
theorem known_any(X R:Nat)(bs:List Bool)(t:Sc.Term)(w:World)(hB:Bd w X R bs)(ht:t.var<bs.length):
 Calls Tryz.prog 223 #[ptermVal t, .pointer (some ⟨X,0,none⟩)] w fun e w'=>e=.returned (.bool (Sc.known bs t))∧Below w.heap.size w w':=by
 have hc0:=hB.c0;have hX:=heap_lt hB.box;have hR:=heap_lt hB.row;have hb0:∀o,Below w.heap.size w (w.alloc o):=fun o=>(Below.refl _ _).alloc (Nat.le_refl _) o;unfold Sc.known;by_cases h:t.var<0
 ·have g:decide (t.var<0)=true:=decide_eq_true h
  go_enter Tryz.func223,Tryz.ntmps223
  go_wp2;go_ret;exact⟨by rw[g];rfl,hb0 _⟩
 have g:decide (t.var<0)=false:=decide_eq_false h;obtain⟨k,hk⟩:∃k:Nat,t.var=k:=⟨t.var.toNat,oM⟩;have hkl:k<bs.length:=oM;have hcR:=hB.at k hkl;obtain⟨var,nn⟩:=t;simp only at hk ht h g;subst hk;clear h ht hB
 go_enter Tryz.func223,Tryz.ntmps223
 go_wp2_with fail;go_ret;exact⟨by rw[g];simp[hkl],hb0 _⟩
theorem enters223:Enters 223:=enters_of Tryz.func223 kR rfl
def LitGood(n:Nat)(x:Sc.Lit):Prop:=(x.kind=4→x.terms.length=3)∧(∀t,t∈x.terms→t.var<n)∧x.terms.length≤9223372036854775807
theorem good_at{n:Nat}{x:Sc.Lit}(h:LitGood n x)(i:Nat)(hi:i<x.terms.length):(Sc.termD x.terms i).var<n:=by refine h.2.1 _ ?_;unfold Sc.termD;rw[List.getD_eq_getElem?_getD,List.getElem?_eq_getElem hi];exact List.getElem_mem hi
theorem pterms_at{w:World}{ao:Option Addr}{l:List Sc.Term}(h:PTermsAt w ao l)(n:Nat)(hn:n<l.length):∃b off,ao=some ⟨b,off,none⟩∧∀i,i<l.length→PTermIn w b (off+i*2) (Sc.termD l i):=by
 rcases h with h|⟨b,off,ha,hc⟩
 ·rw[h]at hn;exact absurd hn sI
 exact⟨b,off,ha,hc⟩
theorem binds_any(X R:Nat)(bs:List Bool)(x:Sc.Lit)(v:Value)(w:World)(hB:Bd w X R bs)(hT:PTermsV w v x.terms)(hG:LitGood bs.length x):
 Calls Tryz.prog 224 #[plitVal x v, .func (.func 223) #[] #[.pointer (some ⟨X,0,none⟩)]] w fun e w'=>∃u,e=.returned u∧(∀y,PTermsV y v x.terms→PTermsV y u (Sc.binds bs x))∧Below w.heap.size w w':=by
 have he:=enters223;unfold Enters at he;have hb0:∀o,Below w.heap.size w (w.alloc o):=fun o=>(Below.refl _ _).alloc (Nat.le_refl _) o;obtain⟨kind,op,pred,ts⟩:=x;obtain⟨ao,cap,rfl,hcap,hA⟩:=hT;have hA:PTermsAt w ao ts:=hA;have HT:Hid (PTermsAt w ao ts):=hA;have hcap:ts.length≤cap:=hcap;cases g1:(kind==1)
 ·(have h1:¬kind=1:=by simpa using g1);cases g4:(kind==4)
  ·(have h4:¬kind=4:=by simpa using g4);(have HV:Hid (Sc.binds bs ⟨kind,op,pred,ts⟩=[]):=by show _=_;simp[Sc.binds,h1,h4]);clear h1 h4 hA
   go_enter Tryz.func224,Tryz.ntmps224
   go_wp2_with fail;go_ret;exact⟨_,rfl,by rw[HV.out];exact fun _ _=>⟨none,0,rfl,Nat.le_refl _, .inl rfl⟩,hb0 _⟩
  (have h4:kind=4:=by simpa using g4);have hl:ts.length=3:=hG.1 h4;obtain⟨b,off,rfl,hc⟩:=pterms_at hA 0 oM;obtain⟨a0,a1⟩:=hc 0 oM;obtain⟨a2,a3⟩:=hc 1 oM;have hv0:(Sc.termD ts 0).var<bs.length:=good_at hG 0 (show 0<ts.length by omega);have hv1:(Sc.termD ts 1).var<bs.length:=good_at hG 1 (show 1<ts.length by omega);simp only[Nat.zero_mul,Nat.one_mul,Nat.add_zero]at a0 a1 a2 a3;have hbw:b<w.heap.size:=World.block_lt_of_cell? w _ a0;have HK0:Hid (∀y,Below w.heap.size w y→Calls Tryz.prog 223 #[ptermVal (Sc.termD ts 0), .pointer (some ⟨X,0,none⟩)] y fun e w'=>e=.returned (.bool (Sc.known bs (Sc.termD ts 0)))∧Below y.heap.size y w'):=fun y hy=>known_any X R bs _ y (hB.below hy) hv0;have HK1:Hid (∀y,Below w.heap.size w y→Calls Tryz.prog 223 #[ptermVal (Sc.termD ts 1), .pointer (some ⟨X,0,none⟩)] y fun e w'=>e=.returned (.bool (Sc.known bs (Sc.termD ts 1)))∧Below y.heap.size y w'):=fun y hy=>known_any X R bs _ y (hB.below hy) hv1;(have HB:Hid (Sc.binds bs ⟨kind,op,pred,ts⟩=if Sc.known bs (Sc.termD ts 0)=true∧Sc.known bs (Sc.termD ts 1)=true then ts.drop 2 else []):=by show _=_;simp[Sc.binds,h4]);have HC:Hid (∀i,i<ts.length→PTermIn w b (off+i*2) (Sc.termD ts i)):=hc;subst h4;have hl':Hid (ts.length=3):=hl;have hcap3:3≤cap:=oM;have hX0:=heap_alloc_new w (.cells #[.int .i64 4, .int .i64 op, .int .i64 pred, .slice (some ⟨b,off,none⟩) 3 cap] 49);have hbx:=hb0 (.cells #[.int .i64 4, .int .i64 op, .int .i64 pred, .slice (some ⟨b,off,none⟩) 3 cap] 49);rw[show ts.length=3 from hl];clear hc hA HT hB hG hcap hl h1;generalize hT0:Sc.termD ts 0=t0 at *;generalize hT1:Sc.termD ts 1=t1 at *;clear hT0 hT1
  go_enter Tryz.func224,Tryz.ntmps224
  go_wp2_with fail;refine Calls.mono (HK0.out _ hbx) ?_;rintro e w1 ⟨rfl,hb1⟩;have hX1:=(hb1.block _ (heap_lt hX0)).trans hX0;have hw1:=hbx.trans (hb1.mono hbx.size);have b0:=cell_below hw1 a0;have b1:=cell_below hw1 a1;have b2:=cell_below hw1 a2;have b3:=cell_below hw1 a3;(have d0:w1.cell? ⟨w.heap.size,3,none⟩=some (.slice (some ⟨b,off,none⟩) 3 cap):=by rw[Lib.cell_of_heap hX1];rfl);clear hb1 hX0 hbx HK0;cases hk0:Sc.known bs t0
  ·(have HV:Hid (Sc.binds bs ⟨4,op,pred,ts⟩=[]):=by show _=_;rw[HB.out,hk0];simp);go_wp2_with fail;go_ret;exact⟨_,rfl,by rw[HV.out];exact fun _ _=>⟨none,0,rfl,Nat.le_refl _, .inl rfl⟩,hw1⟩
  go_wp2_with fail;refine Calls.mono (HK1.out _ hw1) ?_;rintro e w2 ⟨rfl,hb2⟩;have hX2:=(hb2.block _ (heap_lt hX1)).trans hX1;have hw2:=hw1.trans (hb2.mono hw1.size);(have d2:w2.cell? ⟨w.heap.size,3,none⟩=some (.slice (some ⟨b,off,none⟩) 3 cap):=by rw[Lib.cell_of_heap hX2];rfl);clear hb2 hX1 d0 b0 b1 b2 b3;cases hk1:Sc.known bs t1
  ·(have HV:Hid (Sc.binds bs ⟨4,op,pred,ts⟩=[]):=by show _=_;rw[HB.out,hk0,hk1];simp);go_wp2_with fail;go_ret;exact⟨_,rfl,by rw[HV.out];exact fun _ _=>⟨none,0,rfl,Nat.le_refl _, .inl rfl⟩,hw2⟩
  (have HV:Hid (Sc.binds bs ⟨4,op,pred,ts⟩=ts.drop 2):=by show _=_;rw[HB.out,hk0,hk1];simp);go_wp2_with fail;go_ret;refine⟨_,rfl,?_,hw2⟩;rw[HV.out];show∀y,PTermsV y (.slice (some ⟨b,off,none⟩) 3 cap) ts→PTermsV y (.slice (some ⟨b,off+4,none⟩) 1 (cap-2)) (ts.drop 2);intro y hy;(have hl1:(ts.drop 2).length=1:=by rw[List.length_drop,hl'.out]);refine⟨some ⟨b,off+4,none⟩,cap-2,by rw[hl1],oM, .inr ⟨b,off+4,rfl,fun i hi=>?_⟩⟩;obtain rfl:i=0:=oM;obtain⟨ao',cap',hv,_,hy⟩:=hy;injection hv with e1 e2 e3;subst e1;obtain⟨b',off',hb',hy⟩:=pterms_at hy 2 (by rw[hl'.out];omega);(obtain⟨rfl,rfl⟩:b=b'∧off=off':=by simpa using hb');have h2:=hy 2 (by rw[hl'.out];omega);(have hd:Sc.termD (ts.drop 2) 0=Sc.termD ts 2:=by simp[Sc.termD,List.getD_eq_getElem?_getD]);rw[hd];exact h2
 (have h1:kind=1:=by simpa using g1);(have HV:Hid (Sc.binds bs ⟨kind,op,pred,ts⟩=ts):=by show _=_;simp[Sc.binds,h1]);clear h1 hA
 go_enter Tryz.func224,Tryz.ntmps224
 go_wp2_with fail;go_ret;exact⟨_,rfl,by rw[HV.out];exact fun _ h=>h,hb0 _⟩
theorem index_any(R:Nat)(bs:List Bool)(n cap:Nat)(w:World)(hn:bs.length=n)(hmax:n≤9223372036854775807)(hB:∀i,i<n→w.cell? ⟨R,i,none⟩=some (.bool (bs.getD i false))):
 Calls Tryz.prog 232 #[.slice (some ⟨R,0,none⟩) n cap, .bool false] w fun e w'=>∃r:Int,e=.returned (.int .i64 r)∧decide (0≤r)= !(bs.all id)∧∃k,w'=w.drewN k:=by
 have HN:Hid (bs.length=n):=hn;clear hn
 go_enter Tryz.func232,Tryz.ntmps232
 go_wp2_with fail;go_loopw [8] (fun i wr=>∃k:Nat,k≤n∧i=.int .i64 k∧bs.all id=(bs.drop k).all id∧∃q,wr=w.drewN q) (fun i _=>n-(intOf i).toNat);case atStart=>exact⟨0,Nat.zero_le _,rfl,rfl,0,rfl⟩
 case round=>
  obtain⟨k,hk,rfl,hall,q,rfl⟩:=hrel;have HA:Hid (bs.all id=(bs.drop k).all id):=hall;clear hall;by_cases hlt:k<n
  ·have hc:=hB k hlt;have HD:Hid (bs.all id=(bs.getD k false&&(bs.drop (k+1)).all id)):=HA.out.trans (all_drop _ _ _ k (by rw[HN.out];exact hlt));clear hB HA;generalize bs.getD k false=x at *;cases x
   ·have HV:Hid (bs.all id=false):=HD.out;go_wp2_with fail;go_ret;exact⟨k,rfl,by rw[HV.out];simp,_,rfl⟩
   (have HV:Hid (bs.all id=(bs.drop (k+1)).all id):=by show _=_;rw[HD.out];rfl);clear HD;go_wp2_with fail;go_roundw;(case rel=>exact⟨k+1,oM,gN,HV.out,_,rfl⟩);case measure=>exact mI
  (have HV:Hid (bs.all id=true):=by show _=_;rw[HA.out,List.drop_of_length_le (by rw[HN.out];omega)];rfl);clear hB;go_wp2_with fail;go_ret;exact⟨-1,rfl,rV,_,rfl⟩
theorem contains_any(R:Nat)(bs:List Bool)(n cap:Nat)(w:World)(hn:bs.length=n)(hmax:n≤9223372036854775807)(hB:∀i,i<n→w.cell? ⟨R,i,none⟩=some (.bool (bs.getD i false))):
 Calls Tryz.prog 225 #[.slice (some ⟨R,0,none⟩) n cap, .bool false] w fun e w'=>e=.returned (.bool (!(bs.all id)))∧∃k,w'=w.drewN k:=by
 go_enter Tryz.func225,Tryz.ntmps225
 go_wp2_with fail;refine(index_any R bs n cap w hn hmax hB).mono ?_;rintro e w1 ⟨r,rfl,hr,k,rfl⟩;go_wp2_with fail;go_ret;exact⟨rfl,_,rfl⟩
def RuleGood(r:Sc.Rule):Prop:=0≤r.vars∧r.vars≤8∧r.body.length≤4∧∀i,i<r.body.length→LitGood r.vars.toNat (Sc.litD r.body i)
structure SInv (w:World) (rb:Obj) (X R:Nat) (bs:List Bool) (wr:World):Prop where
 bel:Below w.heap.size w wr
 box:wr.heap[w.heap.size]?=some rb
 bd:Bd wr X R bs
 r0:w.heap.size<R
 r1:R<X
theorem SInv.below{w wr w2:World}{rb:Obj}{X R:Nat}{bs:List Bool}(h:SInv w rb X R bs wr)(hb:Below wr.heap.size wr w2):SInv w rb X R bs w2:=
 ⟨h.bel.trans (hb.mono h.bel.size),(hb.block _ (heap_lt h.box)).trans h.box,h.bd.below hb,h.r0,h.r1⟩
theorem SInv.set{w wr:World}{rb:Obj}{X R:Nat}{bs:List Bool}(h:SInv w rb X R bs wr)(k:Nat):SInv w rb X R (bs.set k true) (wr.setCell ⟨R,k,none⟩ (.bool true)):=by
 have h0:=h.r0;have h1:=h.r1;refine⟨h.bel.setCell (p:=⟨R,k,none⟩) (Nat.le_of_lt h0) _,?_,⟨?_,?_⟩,h0,h1⟩
 ·rw[Below.heap_setCell _ _ _ _ (show¬w.heap.size=R by omega)];exact h.box
 ·rw[Below.heap_setCell _ _ _ _ (show¬X=R by omega),List.length_set];exact h.bd.box
 rw[Lib.heap_setCell_same h.bd.row];simp[List.map_set]
theorem made_bools(n:Nat):madeCells #[Value.bool false] n=((List.replicate n false).map Value.bool).toArray:=by
 apply Array.ext
 ·simp[size_madeCells]
 intro i h1 h2;simp[madeCells,Nat.mod_one]
theorem rounds_step(body:List Sc.Lit)(n k:Nat)(h:k<n)(b:List Bool):Sc.rounds body (n-k) b=Sc.rounds body (n-(k+1)) (Sc.round body b):=by obtain⟨m,hm⟩:∃m,n-k=m+1:=⟨n-k-1,oM⟩;rw[hm,show n-(k+1)=m by omega];rfl
theorem foldl_drop{α β:Type}(f:β→α→β)(d:α)(l:List α)(k:Nat)(h:k<l.length)(b:β):(l.drop k).foldl f b=(l.drop (k+1)).foldl f (f b (l.getD k d)):=by rw[List.drop_eq_getElem_cons h,List.foldl_cons,List.getD_eq_getElem?_getD,List.getElem?_eq_getElem h];rfl
theorem binds_sub{bs:List Bool}{x:Sc.Lit}{t:Sc.Term}(h:t∈Sc.binds bs x):t∈x.terms:=by
 unfold Sc.binds at h;split at h
 ·exact h
 split at h
 ·exact List.mem_of_mem_drop h
 simp at h
theorem binds_len(bs:List Bool)(x:Sc.Lit):(Sc.binds bs x).length≤x.terms.length:=by
 unfold Sc.binds;split
 ·exact Nat.le_refl _
 split
 ·simp
 simp
theorem termD_mem{l:List Sc.Term}{i:Nat}(h:i<l.length):Sc.termD l i∈l:=by unfold Sc.termD;rw[List.getD_eq_getElem?_getD,List.getElem?_eq_getElem h];exact List.getElem_mem h
theorem plits_at{w:World}{ao:Option Addr}{l:List Sc.Lit}(h:PLitsAt w ao l)(n:Nat)(hn:n<l.length):∃b off,ao=some ⟨b,off,none⟩∧PLitIn w b (off+n*4) (Sc.litD l n):=by
 rcases h with h|⟨b,off,ha,hc⟩
 ·rw[h]at hn;exact absurd hn sI
 exact⟨b,off,ha,hc n hn⟩
theorem isSafe_any(r:Sc.Rule)(vt vb:Value)(w:World)(hL:PLitsV w vb r.body)(hG:RuleGood r):
 Calls Tryz.prog 209 #[pruleVal r vt vb] w fun e w'=>e=.returned (.bool (Sc.safe r))∧Below w.heap.size w w':=by
 obtain⟨pred,ts,fold,body,vars⟩:=r;obtain⟨h0,h8,h4,hG⟩:=hG;obtain⟨nv,hnv⟩:∃nv:Nat,vars=nv:=⟨vars.toNat,by simp only at h0;omega⟩;subst hnv;simp only[Int.toNat_natCast]at *;obtain⟨ab,cb,rfl,hL⟩:=hL;have hmk:=run_make_row' (P:=Tryz.prog) 57 4 (.bool false) 1 Tryz.underlying57 kR rfl .i64 .i64 nv oM oM;have hmf:∀(fn:Fn)(first cap:Array Value)(w:World),(Instr.makeFunc fn first cap).run Tryz.prog w=.ok (.func fn first cap) w:=fun _ _ _ _=>rfl;(have hst:SInv w (.cells #[.int .i64 pred,vt, .int .i64 fold, .slice ab body.length cb, .int .i64 nv] 40) (w.heap.size+1+1) (w.heap.size+1) (List.replicate nv false) (((w.alloc (.cells #[.int .i64 pred,vt, .int .i64 fold, .slice ab body.length cb, .int .i64 nv] 40)).alloc (.cells (madeCells #[Value.bool false] nv) 4)).alloc (.cells #[.slice (some ⟨w.heap.size+1,0,none⟩) nv nv] 57)):=by have e1:=heap_alloc_new w (.cells #[.int .i64 pred,vt, .int .i64 fold, .slice ab body.length cb, .int .i64 nv] 40);have e2:=heap_alloc_new (w.alloc (.cells #[.int .i64 pred,vt, .int .i64 fold, .slice ab body.length cb, .int .i64 nv] 40)) (.cells (madeCells #[Value.bool false] nv) 4);have e3:=heap_alloc_new ((w.alloc (.cells #[.int .i64 pred,vt, .int .i64 fold, .slice ab body.length cb, .int .i64 nv] 40)).alloc (.cells (madeCells #[Value.bool false] nv) 4)) (.cells #[.slice (some ⟨w.heap.size+1,0,none⟩) nv nv] 57);(have s1:(w.alloc (.cells #[.int .i64 pred,vt, .int .i64 fold, .slice ab body.length cb, .int .i64 nv] 40)).heap.size=w.heap.size+1:=by simp);(have s2:((w.alloc (.cells #[.int .i64 pred,vt, .int .i64 fold, .slice ab body.length cb, .int .i64 nv] 40)).alloc (.cells (madeCells #[Value.bool false] nv) 4)).heap.size=w.heap.size+1+1:=by simp);rw[s1]at e2;rw[s2]at e3;have B:∀(u:World)(o:Obj),Below u.heap.size u (u.alloc o):=fun u o=>(Below.refl _ _).alloc (Nat.le_refl _) o;have b2:=B (w.alloc (.cells #[.int .i64 pred,vt, .int .i64 fold, .slice ab body.length cb, .int .i64 nv] 40)) (.cells (madeCells #[Value.bool false] nv) 4);have b3:=B ((w.alloc (.cells #[.int .i64 pred,vt, .int .i64 fold, .slice ab body.length cb, .int .i64 nv] 40)).alloc (.cells (madeCells #[Value.bool false] nv) 4)) (.cells #[.slice (some ⟨w.heap.size+1,0,none⟩) nv nv] 57);have b1:=B w (.cells #[.int .i64 pred,vt, .int .i64 fold, .slice ab body.length cb, .int .i64 nv] 40);have b12:=b1.trans (b2.mono b1.size);refine⟨b12.trans (b3.mono b12.size),(b3.block _ (by rw[s2];omega)).trans ((b2.block _ (by rw[s1];omega)).trans e1),⟨by simpa using e3,?_⟩,oM,oM⟩;rw[←made_bools];exact(b3.block _ (by rw[s2];omega)).trans e2);have HS:Hid (Sc.safe ⟨pred,ts,fold,body,nv⟩=(Sc.rounds body body.length (List.replicate nv false)).all id):=rfl;have hlen0:(List.replicate nv false).length=nv:=by simp
 go_enter Tryz.func209,Tryz.ntmps209
 go_wp2_with fail;generalize ((w.alloc (.cells #[.int .i64 pred,vt, .int .i64 fold, .slice ab body.length cb, .int .i64 nv] 40)).alloc (.cells (madeCells #[Value.bool false] nv) 4)).alloc (.cells #[.slice (some ⟨w.heap.size+1,0,none⟩) nv nv] 57)=w0 at *;generalize w.heap.size+1+1=X at *;generalize hR:w.heap.size+1=R at *;clear hR;generalize List.replicate nv false=bz at *;generalize hrb:Obj.cells #[.int .i64 pred,vt, .int .i64 fold, .slice ab body.length cb, .int .i64 nv] 40=rb at *;have HRB:Hid _:=hrb;clear hrb;go_loopw [16] (fun i wr=>∃(k:Nat)(bs:List Bool),k≤body.length∧i=.int .i64 k∧SInv w rb X R bs wr∧bs.length=nv∧Sc.rounds body (body.length-k) bs=Sc.rounds body body.length bz) (fun i _=>body.length-(intOf i).toNat);case atStart=>exact⟨0,bz,Nat.zero_le _,rfl,hst,hlen0,rfl⟩
 case round=>
  obtain⟨k,bs0,hk,rfl,hI,hn0,hrd⟩:=hrel;have HR:Hid _:=hrd;clear hrd hst hlen0;(have cb3:wr.cell? ⟨w.heap.size,3,none⟩=some (.slice ab body.length cb):=by rw[Lib.cell_of_heap (hI.box.trans (congrArg some HRB.out.symm))];rfl);by_cases hlt:k<body.length
  ·go_wp2_with fail;go_loopw [21] (fun i wq=>∃(j:Nat)(bs:List Bool),j≤body.length∧i=.int .i64 j∧SInv w rb X R bs wq∧bs.length=nv∧(body.drop j).foldl Sc.bindLit bs=Sc.round body bs0) (fun i _=>body.length-(intOf i).toNat);case atStart=>exact⟨0,bs0,Nat.zero_le _,rfl,hI,hn0,rfl⟩
   case round=>
    clear hI cb3 hn0;obtain⟨j,bs1,hj,rfl,hI,hn1,hfd⟩:=hrel;have HFD:Hid _:=hfd;clear hfd;by_cases hjl:j<body.length
    ·obtain⟨b,off,rfl,p0,p1,p2,v,p3,hT⟩:=plits_at hL j hjl;have HT:Hid (PTermsV w v (Sc.litD body j).terms):=hT;obtain⟨at_,ct,rfl,_,_⟩:=hT;have q0:=cell_below hI.bel p0;have q1:=cell_below hI.bel p1;have q2:=cell_below hI.bel p2;have q3:=cell_below hI.bel p3;have hg:=hG j hjl;rw[←hn1]at hg;have HF2:Hid ((body.drop (j+1)).foldl Sc.bindLit (Sc.bindLit bs1 (Sc.litD body j))=Sc.round body bs0):=(foldl_drop Sc.bindLit ⟨0,0,0,[]⟩ body j hjl bs1).symm.trans HFD.out;have hb1:Below wr.heap.size wr (wr.alloc (.cells #[.int .i64 (Sc.litD body j).kind, .int .i64 (Sc.litD body j).op, .int .i64 (Sc.litD body j).pred, .slice at_ (Sc.litD body j).terms.length ct] 49)):=(Below.refl _ _).alloc (Nat.le_refl _) _;have hI1:=hI.below hb1;clear p0 p1 p2 p3 hb1 hI HFD;generalize hx:Sc.litD body j=x at *;clear hx;go_wp2_with fail;refine Calls.mono (binds_any X R bs1 x (.slice at_ x.terms.length ct) _ hI1.bd (ptermsV_below HT.out hI1.bel) hg) ?_;rintro e w2 ⟨u,rfl,hu,hb2⟩;have hI2:=hI1.below hb2;have hU:=hu w HT.out;(have hv:∀i,i<(Sc.binds bs1 x).length→(Sc.termD (Sc.binds bs1 x) i).var<nv:=fun i hi=>by have :=hg.2.1 _ (binds_sub (termD_mem hi));rw[hn1]at this;exact this);have hql:(Sc.binds bs1 x).length≤9223372036854775807:=Nat.le_trans (binds_len bs1 x) hg.2.2;have HV2:Hid ((body.drop (j+1)).foldl Sc.bindLit (Sc.bindAll bs1 (Sc.binds bs1 x))=Sc.round body bs0):=HF2.out;clear hu hI1 hb2 q0 q1 q2 q3 HT HF2;generalize Sc.binds bs1 x=q at *;obtain⟨ao,cp,rfl,_,hU⟩:=hU;go_wp2_with fail;go_loopw [29] (fun i wz=>∃(m:Nat)(bs:List Bool),m≤q.length∧i=.int .i64 m∧SInv w rb X R bs wz∧bs.length=nv∧Sc.bindAll bs (q.drop m)=Sc.bindAll bs1 q) (fun i _=>q.length-(intOf i).toNat);case atStart=>exact⟨0,bs1,Nat.zero_le _,rfl,hI2,hn1,rfl⟩
     case round=>
      clear hI2;obtain⟨m,bs2,hm,rfl,hI,hn2,hbd⟩:=hrel;have HBD:Hid _:=hbd;clear hbd;by_cases hml:m<q.length
      ·obtain⟨b3,off3,rfl,hc⟩:=pterms_at hU m hml;obtain⟨r0,r1⟩:=hc m hml;have s0:=cell_below hI.bel r0;have s1:=cell_below hI.bel r1;have hvm:=hv m hml;have HB2:Hid (Sc.bindAll (Sc.bind1 bs2 (Sc.termD q m)) (q.drop (m+1))=Sc.bindAll bs1 q):=(foldl_drop Sc.bind1 ⟨0,0⟩ q m hml bs2).symm.trans HBD.out;clear HBD r0 r1 hc hU hv;generalize hT0:Sc.termD q m=t0 at *;clear hT0;obtain⟨var,nn⟩:=t0;have hb1:Below wr.heap.size wr (wr.alloc (.cells #[.int .i64 var, .int .i64 nn] 147)):=(Below.refl _ _).alloc (Nat.le_refl _) _;have hI3:=hI.below hb1;have hRlt:=heap_lt hI.bd.row;have hXlt:=heap_lt hI.bd.box;by_cases h5:0≤var
       ·have g5:decide (0≤var)=true:=decide_eq_true h5;obtain⟨kv,rfl⟩:∃kv:Nat,var=kv:=⟨var.toNat,oM⟩;(have hkl:kv<nv:=by simp only at hvm;omega);have hc0:=hI3.bd.c0;rw[hn2]at hc0;have hcR:=hI3.bd.at kv oM;have hfR:=Lib.frozen_of_heap hI3.bd.row kv;have hI4:=(hI.set kv).below ((Below.refl _ _).alloc (Nat.le_refl _) (.cells #[.int .i64 kv, .int .i64 nn] 147));(have HV:Hid (Sc.bindAll (bs2.set kv true) (q.drop (m+1))=Sc.bindAll bs1 q):=by show _=_;rw[←HB2.out];simp[Sc.bind1]);(have hn4:(bs2.set kv true).length=nv:=by rw[List.length_set];exact hn2);clear HB2;go_wp2_with fail;go_roundw;(case rel=>exact⟨m+1,_,oM,gN,hI4,hn4,HV.out⟩);case measure=>exact mI
       have g5:decide (0≤var)=false:=decide_eq_false h5;(have HV:Hid (Sc.bindAll bs2 (q.drop (m+1))=Sc.bindAll bs1 q):=by show _=_;rw[←HB2.out];simp[Sc.bind1,h5]);clear HB2;go_wp2_with fail;go_roundw;(case rel=>exact⟨m+1,_,oM,gN,hI3,hn2,HV.out⟩);case measure=>exact mI
      (have hend:Sc.bindAll bs2 (q.drop m)=bs2:=by rw[List.drop_of_length_le oM];rfl);(have HV:Hid ((body.drop (j+1)).foldl Sc.bindLit bs2=Sc.round body bs0):=by show _=_;rw[←HV2.out,←HBD.out,hend]);clear hU hv hend;go_wp2_with fail;go_roundw;(case rel=>exact⟨j+1,_,oM,gN,hI,hn2,HV.out⟩);case measure=>exact mI
    (have hend:(body.drop j).foldl Sc.bindLit bs1=bs1:=by rw[List.drop_of_length_le oM];rfl);(have HV:Hid (Sc.rounds body (body.length-(k+1)) bs1=Sc.rounds body body.length bz):=by show _=_;rw[←HR.out,rounds_step body _ k hlt,←HFD.out,hend]);clear hend;go_wp2_with fail;go_roundw;(case rel=>exact⟨k+1,_,oM,gN,hI,hn1,HV.out⟩);case measure=>exact mI
  have hk2:k=body.length:=oM;(have HV:Hid (bs0=Sc.rounds body body.length bz):=by show _=_;have :=HR.out;rw[hk2,Nat.sub_self]at this;exact this);have hc0:=hI.bd.c0;rw[hn0]at hc0;clear hk2;go_wp2_with fail;refine Calls.mono (contains_any R bs0 nv nv _ hn0 oM (fun i hi=>hI.bd.at i oM)) ?_;rintro e w2 ⟨rfl,q,rfl⟩;have hbel:=hI.bel;go_wp2_with fail;go_ret;exact⟨by rw[HS.out,←HV.out];simp,below_drewN hbel _⟩
end Go.Proofs.YthenjegmigeieaaGreat
