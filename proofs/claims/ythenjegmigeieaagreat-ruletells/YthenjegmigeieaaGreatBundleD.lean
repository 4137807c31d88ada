/- Own texts, one behind the other (part 4). -/
import Derived.Test.YthenjegmigeieaaGreatBundleC
import Derived.Test.YthenjegmigeieaaGreatRows
import Derived.Deep.OwnRows
import Derived.RangeFuncNested
import Derived.RangeFuncBound
import Derived.RangeFuncCalls
import Derived.RangeFuncLeaves
import Derived.Shelf.Abstract
import Derived.Shelf.RegionOpen
import Derived.WalkKit
import Derived.OwnWalkIn
import Derived.TacticsInMore
import Derived.LoopNIn
import Derived.LoopIn
import Derived.Deep.QuietTactic
import Derived.BigQuiet
import Derived.Deep.MidRow
import Derived.Deep.WholeRow
import Derived.Maps.OwnSet
import Derived.Defers
import Derived.Recover
import Derived.RegionTactic
import Derived.ChangeAlike
import Derived.Deep.Slices
import Derived.Orders
set_option maxRecDepth 100000
set_option maxHeartbeats 8000000
namespace Go.Proofs.YthenjegmigeieaaGreat
open Go.RowKit
theorem any_has (l:List Rl.Fc) (f:Rl.Fc):l.any (fun g=>Rl.ord f g==0)=Rl.has l f:=by
 unfold Rl.has
 congr 1
 funext g
 rw [Rl.ord_flip g f]
 by_cases h:Rl.ord g f=0
 · rw [h]
   rfl
 · have h2:¬ (- Rl.ord g f)=0:=by omega
   rw [beq_false_of_ne h2,beq_false_of_ne h]
theorem has1_any (w:World) (FB:Nat) (f:Rl.Fc) (a:Option Addr) (c:Nat) (hB:w.heap[FB]?=some (.cells #[.int .i64 f.pred,.slice a f.args.length c] 55)) (hI:IntsV w (.slice a f.args.length c) f.args) (hF:FFit f):Keeps1 213 #[.pointer (some ⟨FB,0,none⟩)] w (fun g=>Rl.ord f g==0):=by
 intro z g ao cap hz hIg hFg
 show Calls Tryz.prog 213 #[fcVal g.pred (.slice ao g.args.length cap),.pointer (some ⟨FB,0,none⟩)] z _
 have hBz:=(hz.block FB (rl_lt hB)).trans hB
 have hba:Below z.heap.size z (z.alloc (.cells #[.int .i64 g.pred,.slice ao g.args.length cap] 55)):=(Below.refl _ _).alloc (Nat.le_refl _) _
 have hBa:=(hba.block FB (rl_lt hBz)).trans hBz
 have hGa:=rl_new z (.cells #[.int .i64 g.pred,.slice ao g.args.length cap] 55)
 have HC:Hid (Calls Tryz.prog 148 #[fcVal f.pred (.slice a f.args.length c),fcVal g.pred (.slice ao g.args.length cap)] (z.alloc (.cells #[.int .i64 g.pred,.slice ao g.args.length cap] 55)) fun e w'=>e=.returned (.bool (Rl.ord f g==0))∧Gr (z.alloc (.cells #[.int .i64 g.pred,.slice ao g.args.length cap] 55)) w'):=same_any f g _ _ _ (intsV_below (intsV_below hI hz) hba) (intsV_below hIg hba) hF hFg
 have c0:(z.alloc (.cells #[.int .i64 g.pred,.slice ao g.args.length cap] 55)).cell? ⟨FB,0,none⟩=some (.int .i64 f.pred):=by rw [Lib.cell_of_heap hBa]; rfl
 have c1:(z.alloc (.cells #[.int .i64 g.pred,.slice ao g.args.length cap] 55)).cell? ⟨FB,1,none⟩=some (.slice a f.args.length c):=by rw [Lib.cell_of_heap hBa]; rfl
 have d0:(z.alloc (.cells #[.int .i64 g.pred,.slice ao g.args.length cap] 55)).cell? ⟨z.heap.size,0,none⟩=some (.int .i64 g.pred):=by rw [Lib.cell_of_heap hGa]; rfl
 have d1:(z.alloc (.cells #[.int .i64 g.pred,.slice ao g.args.length cap] 55)).cell? ⟨z.heap.size,1,none⟩=some (.slice ao g.args.length cap):=by rw [Lib.cell_of_heap hGa]; rfl
 clear hBz hBa hGa hIg hz
 go_enter Tryz.func213,Tryz.ntmps213
 go_wp2_with fail
 refine Calls.mono HC.out ?_
 rintro e w1 ⟨rfl,hg⟩
 have hb:=hba.trans (hg.below.mono hba.size)
 clear HC c0 c1 d0 d1
 go_wp2_with fail
 go_ret
 exact ⟨rfl,hb⟩
theorem rl_enters51:∀ args w,(callFunc 213 args).run Tryz.prog w=.ok (.enter 213 args) w:=enters_of Tryz.func213 (by kernel_rfl) rfl
theorem Has_any (l:List Rl.Fc) (f:Rl.Fc) (v u:Value) (w:World) (hV:FactsV w v l) (hU:IntsV w u f.args) (hl:l.length≤9223372036854775807) (hf:∀ f,f∈l→FFit f) (hF:FFit f) :
 Calls Tryz.prog 185 #[v,fcVal f.pred u] w fun e w'=>e=.returned (.bool (Rl.has l f))∧Below w.heap.size w w':=by
 obtain ⟨a,c,rfl,_⟩:=id hU
 have hmf:∀ (fn:Fn) (first cap:Array Value) (w:World),(Instr.makeFunc fn first cap).run Tryz.prog w=.ok (.func fn first cap) w:=fun _ _ _ _=>rfl
 have hba:Below w.heap.size w (w.alloc (.cells #[.int .i64 f.pred,.slice a f.args.length c] 55)):=(Below.refl _ _).alloc (Nat.le_refl _) _
 have HC:Hid (Calls Tryz.prog 135 #[v,.func (.func 213) #[] #[.pointer (some ⟨w.heap.size,0,none⟩)]] (w.alloc (.cells #[.int .i64 f.pred,.slice a f.args.length c] 55)) fun e w'=>e=.returned (.bool (Rl.has l f))∧Below (w.alloc (.cells #[.int .i64 f.pred,.slice a f.args.length c] 55)).heap.size (w.alloc (.cells #[.int .i64 f.pred,.slice a f.args.length c] 55)) w'):=by
  rw [← any_has]
  exact containsF_any l v _ 213 _ _ (factsV_below hV hba) hl hf rl_enters51 (has1_any _ w.heap.size f a c (rl_new w _) (intsV_below hU hba) hF)
 obtain ⟨ao,cap,rfl,_⟩:=hV
 clear hU hf
 go_enter Tryz.func185,Tryz.ntmps185
 go_wp2_with fail
 refine Calls.mono HC.out ?_
 rintro e w1 ⟨rfl,hb1⟩
 have hb:=hba.trans (hb1.mono hba.size)
 clear HC hb1 hba
 go_wp2_with fail
 go_ret
 exact ⟨rfl,hb⟩
theorem HasFact_any (l:List Rl.Fc) (f:Rl.Fc) (v u:Value) (w:World) (hV:FactsV w v l) (hU:IntsV w u f.args) (hl:l.length≤9223372036854775807) (hf:∀ f,f∈l→FFit f) (hF:FFit f) :
 Calls Tryz.prog 26 #[v,fcVal f.pred u] w fun e w'=>e=.returned (.bool (Rl.has l f))∧Below w.heap.size w w':=by
 obtain ⟨ao,cap,rfl,_,hA⟩:=hV
 obtain ⟨a,c,rfl,_⟩:=id hU
 have HA:Hid (FactsAt w ao l):=hA
 have HF:Hid (∀ f,f∈l→FFit f):=hf
 have HU:Hid (IntsV w (.slice a f.args.length c) f.args∧FFit f):=⟨hU,hF⟩
 have hba:Below w.heap.size w (w.alloc (.cells #[.int .i64 f.pred,.slice a f.args.length c] 55)):=(Below.refl _ _).alloc (Nat.le_refl _) _
 have hFB:=rl_new w (.cells #[.int .i64 f.pred,.slice a f.args.length c] 55)
 clear hA hf hU
 go_enter Tryz.func26,Tryz.ntmps26
 go_wp2_with fail
 generalize w.alloc (.cells #[.int .i64 f.pred,.slice a f.args.length c] 55)=w1 at *
 go_loopw [5] (fun i wr=>∃ k:Nat,k≤l.length∧i=.int .i64 k∧Rl.has l f=Rl.has (l.drop k) f∧Below w1.heap.size w1 wr) (fun i _=>l.length - (intOf i).toNat)
 case atStart=>exact ⟨0,Nat.zero_le _,rfl,rfl,Below.refl _ _⟩
 case round =>
  obtain ⟨k,hk,rfl,hall,hbel⟩:=hrel
  have HAL:Hid _:=hall
  clear hall
  have hbw:=hba.trans (hbel.mono hba.size)
  by_cases hlt:k<l.length
  · obtain ⟨b,off,rfl,p0,fv,p1,hIv⟩:=facts_at HA.out k hlt
    have hmem:=factD_mem l k hlt
    have HD:Hid (Rl.has l f=((Rl.ord (Rl.factD l k) f==0) || Rl.has (l.drop (k+1)) f)):=by show _=_; rw [HAL.out,factD_drop l k hlt]; rfl
    have HIV:Hid (IntsV w fv (Rl.factD l k).args∧FFit (Rl.factD l k)):=⟨hIv,HF.out _ hmem⟩
    obtain ⟨af,cf,rfl,_⟩:=hIv
    have a0:=cell_below hbw p0
    have a1:=cell_below hbw p1
    have hFB2:=(hbel.block _ (rl_lt hFB)).trans hFB
    have c0:wr.cell? ⟨w.heap.size,0,none⟩=some (.int .i64 f.pred):=by rw [Lib.cell_of_heap hFB2]; rfl
    have c1:wr.cell? ⟨w.heap.size,1,none⟩=some (.slice a f.args.length c):=by rw [Lib.cell_of_heap hFB2]; rfl
    clear p0 p1 HAL hmem hFB2
    generalize Rl.factD l k=g at *
    have HN:Hid (∀ z,Below wr.heap.size wr z→Calls Tryz.prog 44 #[fcVal g.pred (.slice af g.args.length cf),fcVal f.pred (.slice a f.args.length c)] z fun e w'=>e=.returned (.int .i64 (Rl.ord g f))∧Below wr.heap.size wr w'∧w'.cell? ⟨b,off+k * 2,none⟩=some (.int .i64 g.pred)∧w'.cell? ⟨b,off+k * 2+1,none⟩=some (.slice af g.args.length cf)∧w'.cell? ⟨w.heap.size,0,none⟩=some (.int .i64 f.pred)∧w'.cell? ⟨w.heap.size,1,none⟩=some (.slice a f.args.length c)):=by
     intro z hz
     have hzw:=hbw.trans (hz.mono hbw.size)
     refine (OrderOf_any g f _ _ z (intsV_below HIV.out.1 hzw) (intsV_below HU.out.1 hzw) HIV.out.2 HU.out.2).mono ?_
     rintro e w' ⟨h1,h2⟩
     have h3:=hz.trans (h2.mono hz.size)
     exact ⟨h1,h3,cell_below h3 a0,cell_below h3 a1,cell_below h3 c0,cell_below h3 c1⟩
    have HGA:∀ b o,Below wr.heap.size wr b→Below wr.heap.size wr (b.alloc o):=fun _ o h=>h.alloc h.size o
    have HGD:∀ b,Below wr.heap.size wr b→Below wr.heap.size wr b.drew:=fun _ h=>⟨h.os,h.tape,h.output,h.size,h.block⟩
    have HGR:Below wr.heap.size wr wr:=Below.refl _ _
    go_upto_region 4 with fail
    go_region_held3 (fun yy=>yy.cell? ⟨b,off+k * 2,none⟩=some (.int .i64 g.pred)∧yy.cell? ⟨b,off+k * 2+1,none⟩=some (.slice af g.args.length cf)∧yy.cell? ⟨w.heap.size,0,none⟩=some (.int .i64 f.pred)∧yy.cell? ⟨w.heap.size,1,none⟩=some (.slice a f.args.length c)∧Below wr.heap.size wr yy) (go_keep) (
     (go_at_call 44; refine Calls.mono (HN.out _ ?_) ?_; (simp [*]); rintro e w2 ⟨rfl,hb2,hz2,hz3,hz4,hz5⟩))
    clear HGA HGD HGR HN hz2 hz3 hz4 hz5
    have hb3:=hbel.trans (hb2.mono hbel.size)
    have hb4:=hbw.trans (hb2.mono hbw.size)
    clear a0 a1 c0 c1 hb2 hbel hbw
    cases hx:(Rl.ord g f==0)
    · have HV:Hid (Rl.has l f=Rl.has (l.drop (k+1)) f):=by show _=_; rw [HD.out,hx]; rfl
      clear HD
      go_wp2_with fail
      go_roundw
      case rel=>exact ⟨k+1,by omega,by go_num,HV.out,hb3⟩
      case measure=>simp [intOf]; omega
    · have HV:Hid (Rl.has l f=true):=by show _=_; rw [HD.out,hx]; rfl
      clear HD
      go_wp2_with fail
      go_ret
      exact ⟨by rw [HV.out]; rfl,hb4⟩
  · have HV:Hid (Rl.has l f=false):=by show _=_; rw [HAL.out,List.drop_of_length_le (by omega)]; rfl
    go_wp2_with fail
    go_ret
    exact ⟨by rw [HV.out]; rfl,hbw⟩
theorem SameFacts_refl (l:List Rl.Fc) (v u:Value) (w:World) (hV:FactsV w v l) (hU:FactsV w u l) (hl:l.length≤9223372036854775807) (hf:∀ f,f∈l→FFit f) :
 Calls Tryz.prog 21 #[v,u] w fun e w'=>e=.returned (.bool true)∧Below w.heap.size w w':=by
 obtain ⟨ao,cap,rfl,_,hA⟩:=hV
 obtain ⟨bo,cbp,rfl,_,hB⟩:=hU
 have HA:Hid (FactsAt w ao l):=hA
 have HB:Hid (FactsAt w bo l):=hB
 have HF:Hid (∀ f,f∈l→FFit f):=hf
 have hne:((l.length:Int) != (l.length:Int))=false:=by simp
 clear hA hB hf
 go_enter Tryz.func21,Tryz.ntmps21
 go_wp2_with fail
 go_loopw [5] (fun i wr=>∃ k:Nat,k≤l.length∧i=.int .i64 k∧Below w.heap.size w wr) (fun i _=>l.length - (intOf i).toNat)
 case atStart=>exact ⟨0,Nat.zero_le _,rfl,Below.refl _ _⟩
 case round =>
  obtain ⟨k,hk,rfl,hbw⟩:=hrel
  by_cases hlt:k<l.length
  · obtain ⟨b,off,rfl,p0,fv,p1,hIv⟩:=facts_at HA.out k hlt
    obtain ⟨b2,off2,rfl,r0,gv,r1,hJv⟩:=facts_at HB.out k hlt
    have hmem:=factD_mem l k hlt
    have HIV:Hid (IntsV w fv (Rl.factD l k).args∧IntsV w gv (Rl.factD l k).args∧FFit (Rl.factD l k)):=⟨hIv,hJv,HF.out _ hmem⟩
    obtain ⟨af,cf,rfl,_⟩:=hIv
    obtain ⟨ag,cg,rfl,_⟩:=hJv
    have a0:=cell_below hbw p0
    have a1:=cell_below hbw p1
    have c0:=cell_below hbw r0
    have c1:=cell_below hbw r1
    clear p0 p1 r0 r1 hmem
    generalize Rl.factD l k=g at *
    have HN:Hid (∀ z,Below wr.heap.size wr z→Calls Tryz.prog 44 #[fcVal g.pred (.slice af g.args.length cf),fcVal g.pred (.slice ag g.args.length cg)] z fun e w'=>e=.returned (.int .i64 0)∧Below wr.heap.size wr w'∧w'.cell? ⟨b,off+k * 2,none⟩=some (.int .i64 g.pred)∧w'.cell? ⟨b,off+k * 2+1,none⟩=some (.slice af g.args.length cf)∧w'.cell? ⟨b2,off2+k * 2,none⟩=some (.int .i64 g.pred)∧w'.cell? ⟨b2,off2+k * 2+1,none⟩=some (.slice ag g.args.length cg)):=by
     intro z hz
     have hzw:=hbw.trans (hz.mono hbw.size)
     refine (OrderOf_any g g _ _ z (intsV_below HIV.out.1 hzw) (intsV_below HIV.out.2.1 hzw) HIV.out.2.2 HIV.out.2.2).mono ?_
     rintro e w' ⟨h1,h2⟩
     have h3:=hz.trans (h2.mono hz.size)
     rw [Rl.ord_self] at h1
     exact ⟨h1,h3,cell_below h3 a0,cell_below h3 a1,cell_below h3 c0,cell_below h3 c1⟩
    have HGA:∀ b o,Below wr.heap.size wr b→Below wr.heap.size wr (b.alloc o):=fun _ o h=>h.alloc h.size o
    have HGD:∀ b,Below wr.heap.size wr b→Below wr.heap.size wr b.drew:=fun _ h=>⟨h.os,h.tape,h.output,h.size,h.block⟩
    have HGR:Below wr.heap.size wr wr:=Below.refl _ _
    go_upto_region 6 with fail
    go_region_held3 (fun yy=>yy.cell? ⟨b,off+k * 2,none⟩=some (.int .i64 g.pred)∧yy.cell? ⟨b,off+k * 2+1,none⟩=some (.slice af g.args.length cf)∧yy.cell? ⟨b2,off2+k * 2,none⟩=some (.int .i64 g.pred)∧yy.cell? ⟨b2,off2+k * 2+1,none⟩=some (.slice ag g.args.length cg)∧Below wr.heap.size wr yy) (go_keep) (
     (go_at_call 44; refine Calls.mono (HN.out _ ?_) ?_; (simp [*]); rintro e w2 ⟨rfl,hb2,hz2,hz3,hz4,hz5⟩))
    clear HGA HGD HGR HN hz2 hz3 hz4 hz5
    have hb3:=hbw.trans (hb2.mono hbw.size)
    clear a0 a1 c0 c1 hb2 hbw
    go_wp2_with fail
    go_roundw
    case rel=>exact ⟨k+1,by omega,by go_num,hb3⟩
    case measure=>simp [intOf]; omega
  · go_wp2_with fail
    go_ret
    exact ⟨rfl,hbw⟩
end Go.Proofs.YthenjegmigeieaaGreat
namespace Go.Proofs.YthenjegmigeieaaGreat
namespace Fx
abbrev Edge:=Nat × Nat × Int
end Fx
end Go.Proofs.YthenjegmigeieaaGreat
namespace Go.Proofs.YthenjegmigeieaaGreat
namespace St
open Sc
end St
end Go.Proofs.YthenjegmigeieaaGreat
namespace Go.Proofs.YthenjegmigeieaaGreat
open Go.RowKit
theorem checkLit_3 (ar:List Int) (va vn vr:Value) (op pred:Int) (ts:List Sc.Term) (at_:Option Addr) (ct:Nat) (w:World) :
 Calls Tryz.prog 208 #[progVal va vn vr,plitVal ⟨3,op,pred,ts⟩ (.slice at_ ts.length ct)] w fun e w'=>e=finE (Sc.litErr ar ⟨3,op,pred,ts⟩)∧Below w.heap.size w w':=by
 have hb0:Below w.heap.size w ((w.alloc (.cells #[va,vn,vr] 26)).alloc (.cells #[.int .i64 3,.int .i64 op,.int .i64 pred,.slice at_ ts.length ct] 49)):=below_two w _ _
 have HL:Hid (Sc.litErr ar ⟨3,op,pred,ts⟩=if Tr.between op 1 4 then (if pred≠0∨¬ ts.length=2 then 1 else 0) else 3):=by
  show _=_
  simp [Sc.litErr]
 by_cases h1:op<1
 · have HV:Hid (Sc.litErr ar ⟨3,op,pred,ts⟩=3):=by
    show _=_
    have:¬ 1≤op:=by omega
    rw [HL.out]; simp [Tr.between,this]
   have g1:decide (op<1)=true:=decide_eq_true h1
   clear HL
   go_enter Tryz.func208,Tryz.ntmps208
   go_wp2_with fail
   refine (refuse_yes 3 _).mono ?_
   rintro e w1 ⟨rfl,hb1⟩
   go_wp2_with fail
   exact ⟨rfl,by rw [HV.out]; rfl,hb0.trans (hb1.mono hb0.size)⟩
 · have g1:decide (op<1)=false:=decide_eq_false h1
   by_cases h2:4<op
   · have HV:Hid (Sc.litErr ar ⟨3,op,pred,ts⟩=3):=by
      show _=_
      have:¬ op≤4:=by omega
      rw [HL.out]; simp [Tr.between,this]
     have g2:decide (4<op)=true:=decide_eq_true h2
     clear HL
     go_enter Tryz.func208,Tryz.ntmps208
     go_wp2_with fail
     refine (refuse_yes 3 _).mono ?_
     rintro e w1 ⟨rfl,hb1⟩
     go_wp2_with fail
     exact ⟨rfl,by rw [HV.out]; rfl,hb0.trans (hb1.mono hb0.size)⟩
   · have g2:decide (4<op)=false:=decide_eq_false h2
     have HL2:Hid (Sc.litErr ar ⟨3,op,pred,ts⟩=if pred≠0∨¬ ts.length=2 then 1 else 0):=by
      show _=_
      have p1:1≤op:=by omega
      have p2:op≤4:=by omega
      rw [HL.out]; simp [Tr.between,p1,p2]
     clear HL
     cases g3:(pred != 0)
     · have p0:pred=0:=by simpa using g3
       by_cases h4:ts.length=2
       · have HV:Hid (Sc.litErr ar ⟨3,op,pred,ts⟩=0):=by show _=_; rw [HL2.out]; simp [p0,h4]
         have g4:((ts.length:Int) != 2)=false:=by rw [h4]; rfl
         clear HL2 p0 h4
         go_enter Tryz.func208,Tryz.ntmps208
         go_wp2_with fail
         refine (refuse_no 3 _).mono ?_
         rintro e w1 ⟨rfl,rfl⟩
         go_wp2_with fail
         refine (refuse_no 1 _).mono ?_
         rintro e w1 ⟨rfl,rfl⟩
         go_wp2_with fail
         exact ⟨rfl,.tuple #[],by simp [results,Tryz.results208],by rw [HV.out]; rfl,hb0⟩
       · have HV:Hid (Sc.litErr ar ⟨3,op,pred,ts⟩=1):=by show _=_; rw [HL2.out]; simp [h4]
         have g4:((ts.length:Int) != 2)=true:=by simp; omega
         clear HL2 p0 h4
         go_enter Tryz.func208,Tryz.ntmps208
         go_wp2_with fail
         refine (refuse_no 3 _).mono ?_
         rintro e w1 ⟨rfl,rfl⟩
         go_wp2_with fail
         refine (refuse_yes 1 _).mono ?_
         rintro e w1 ⟨rfl,hb1⟩
         go_wp2_with fail
         exact ⟨rfl,by rw [HV.out]; rfl,hb0.trans (hb1.mono hb0.size)⟩
     · have p0:¬ pred=0:=by simpa using g3
       have HV:Hid (Sc.litErr ar ⟨3,op,pred,ts⟩=1):=by show _=_; rw [HL2.out]; simp [p0]
       clear HL2 p0
       go_enter Tryz.func208,Tryz.ntmps208
       go_wp2_with fail
       refine (refuse_no 3 _).mono ?_
       rintro e w1 ⟨rfl,rfl⟩
       go_wp2_with fail
       refine (refuse_yes 1 _).mono ?_
       rintro e w1 ⟨rfl,hb1⟩
       go_wp2_with fail
       exact ⟨rfl,by rw [HV.out]; rfl,hb0.trans (hb1.mono hb0.size)⟩
theorem checkLit_4 (ar:List Int) (va vn vr:Value) (op pred:Int) (ts:List Sc.Term) (at_:Option Addr) (ct:Nat) (w:World) :
 Calls Tryz.prog 208 #[progVal va vn vr,plitVal ⟨4,op,pred,ts⟩ (.slice at_ ts.length ct)] w fun e w'=>e=finE (Sc.litErr ar ⟨4,op,pred,ts⟩)∧Below w.heap.size w w':=by
 have hb0:Below w.heap.size w ((w.alloc (.cells #[va,vn,vr] 26)).alloc (.cells #[.int .i64 4,.int .i64 op,.int .i64 pred,.slice at_ ts.length ct] 49)):=below_two w _ _
 have HL:Hid (Sc.litErr ar ⟨4,op,pred,ts⟩=if Tr.between op 5 7 then (if pred≠0∨¬ ts.length=3 then 1 else 0) else 3):=by
  show _=_
  simp [Sc.litErr]
 by_cases h1:op<5
 · have HV:Hid (Sc.litErr ar ⟨4,op,pred,ts⟩=3):=by
    show _=_
    have:¬ 5≤op:=by omega
    rw [HL.out]; simp [Tr.between,this]
   have g1:decide (op<5)=true:=decide_eq_true h1
   clear HL
   go_enter Tryz.func208,Tryz.ntmps208
   go_wp2_with fail
   refine (refuse_yes 3 _).mono ?_
   rintro e w1 ⟨rfl,hb1⟩
   go_wp2_with fail
   exact ⟨rfl,by rw [HV.out]; rfl,hb0.trans (hb1.mono hb0.size)⟩
 · have g1:decide (op<5)=false:=decide_eq_false h1
   by_cases h2:7<op
   · have HV:Hid (Sc.litErr ar ⟨4,op,pred,ts⟩=3):=by
      show _=_
      have:¬ op≤7:=by omega
      rw [HL.out]; simp [Tr.between,this]
     have g2:decide (7<op)=true:=decide_eq_true h2
     clear HL
     go_enter Tryz.func208,Tryz.ntmps208
     go_wp2_with fail
     refine (refuse_yes 3 _).mono ?_
     rintro e w1 ⟨rfl,hb1⟩
     go_wp2_with fail
     exact ⟨rfl,by rw [HV.out]; rfl,hb0.trans (hb1.mono hb0.size)⟩
   · have g2:decide (7<op)=false:=decide_eq_false h2
     have HL2:Hid (Sc.litErr ar ⟨4,op,pred,ts⟩=if pred≠0∨¬ ts.length=3 then 1 else 0):=by
      show _=_
      have p1:5≤op:=by omega
      have p2:op≤7:=by omega
      rw [HL.out]; simp [Tr.between,p1,p2]
     clear HL
     cases g3:(pred != 0)
     · have p0:pred=0:=by simpa using g3
       by_cases h4:ts.length=3
       · have HV:Hid (Sc.litErr ar ⟨4,op,pred,ts⟩=0):=by show _=_; rw [HL2.out]; simp [p0,h4]
         have g4:((ts.length:Int) != 3)=false:=by rw [h4]; rfl
         clear HL2 p0 h4
         go_enter Tryz.func208,Tryz.ntmps208
         go_wp2_with fail
         refine (refuse_no 3 _).mono ?_
         rintro e w1 ⟨rfl,rfl⟩
         go_wp2_with fail
         refine (refuse_no 1 _).mono ?_
         rintro e w1 ⟨rfl,rfl⟩
         go_wp2_with fail
         exact ⟨rfl,.tuple #[],by simp [results,Tryz.results208],by rw [HV.out]; rfl,hb0⟩
       · have HV:Hid (Sc.litErr ar ⟨4,op,pred,ts⟩=1):=by show _=_; rw [HL2.out]; simp [h4]
         have g4:((ts.length:Int) != 3)=true:=by simp; omega
         clear HL2 p0 h4
         go_enter Tryz.func208,Tryz.ntmps208
         go_wp2_with fail
         refine (refuse_no 3 _).mono ?_
         rintro e w1 ⟨rfl,rfl⟩
         go_wp2_with fail
         refine (refuse_yes 1 _).mono ?_
         rintro e w1 ⟨rfl,hb1⟩
         go_wp2_with fail
         exact ⟨rfl,by rw [HV.out]; rfl,hb0.trans (hb1.mono hb0.size)⟩
     · have p0:¬ pred=0:=by simpa using g3
       have HV:Hid (Sc.litErr ar ⟨4,op,pred,ts⟩=1):=by show _=_; rw [HL2.out]; simp [p0]
       clear HL2 p0
       go_enter Tryz.func208,Tryz.ntmps208
       go_wp2_with fail
       refine (refuse_no 3 _).mono ?_
       rintro e w1 ⟨rfl,rfl⟩
       go_wp2_with fail
       refine (refuse_yes 1 _).mono ?_
       rintro e w1 ⟨rfl,hb1⟩
       go_wp2_with fail
       exact ⟨rfl,by rw [HV.out]; rfl,hb0.trans (hb1.mono hb0.size)⟩
theorem checkLit_else (ar:List Int) (va vn vr:Value) (kind op pred:Int) (ts:List Sc.Term) (at_:Option Addr) (ct:Nat) (w:World) (h1:¬ kind=1) (h2:¬ kind=2) (h3:¬ kind=3) (h4:¬ kind=4) :
 Calls Tryz.prog 208 #[progVal va vn vr,plitVal ⟨kind,op,pred,ts⟩ (.slice at_ ts.length ct)] w fun e w'=>e=finE (Sc.litErr ar ⟨kind,op,pred,ts⟩)∧Below w.heap.size w w':=by
 have hb0:Below w.heap.size w ((w.alloc (.cells #[va,vn,vr] 26)).alloc (.cells #[.int .i64 kind,.int .i64 op,.int .i64 pred,.slice at_ ts.length ct] 49)):=below_two w _ _
 have HV:Hid (Sc.litErr ar ⟨kind,op,pred,ts⟩=7):=by show _=_; simp [Sc.litErr,h1,h2,h3,h4]
 have g1:(kind==1)=false:=by simpa using h1
 have g2:(kind==2)=false:=by simpa using h2
 have g3:(kind==3)=false:=by simpa using h3
 have g4:(kind==4)=false:=by simpa using h4
 clear h1 h2 h3 h4
 go_enter Tryz.func208,Tryz.ntmps208
 go_wp2_with fail
 refine (refuse_yes 7 _).mono ?_
 rintro e w1 ⟨rfl,hb1⟩
 go_wp2_with fail
 exact ⟨rfl,by rw [HV.out]; rfl,hb0.trans (hb1.mono hb0.size)⟩
theorem checkLit_any (ar:List Int) (va vn vr:Value) (x:Sc.Lit) (v:Value) (w:World) (hA:IntsV w va ar) (hT:∃ ao cap,v=.slice ao x.terms.length cap) :
 Calls Tryz.prog 208 #[progVal va vn vr,plitVal x v] w fun e w'=>e=finE (Sc.litErr ar x)∧Below w.heap.size w w':=by
 obtain ⟨kind,op,pred,ts⟩:=x
 obtain ⟨at_,ct,rfl⟩:=hT
 obtain ⟨ao,cap,rfl,hA⟩:=hA
 by_cases h:kind=1∨kind=2
 · exact checkLit_pred ar ao cap vn vr kind op pred ts at_ ct w hA h
 · by_cases h3:kind=3
   · subst h3; exact checkLit_3 ar _ vn vr op pred ts at_ ct w
   · by_cases h4:kind=4
     · subst h4; exact checkLit_4 ar _ vn vr op pred ts at_ ct w
     · exact checkLit_else ar _ vn vr kind op pred ts at_ ct w (fun e=>h (.inl e)) (fun e=>h (.inr e)) h3 h4
structure Bd (w:World) (X:Nat) (R:Nat) (bs:List Bool):Prop where
 box:w.heap[X]?=some (.cells #[.slice (some ⟨R,0,none⟩) bs.length bs.length] 57 (0,0))
 row:w.heap[R]?=some (.cells (bs.map Value.bool).toArray 4 (0,0))
theorem Bd.c0 {w:World} {X R:Nat} {bs:List Bool} (h:Bd w X R bs):w.cell? ⟨X,0,none⟩=some (.slice (some ⟨R,0,none⟩) bs.length bs.length):=by rw [Lib.cell_of_heap h.box]; rfl
theorem Bd.at {w:World} {X R:Nat} {bs:List Bool} (h:Bd w X R bs) (i:Nat) (hi:i<bs.length):w.cell? ⟨R,i,none⟩=some (.bool (bs.getD i false)):=by
 rw [Lib.cell_of_heap h.row]
 simp [List.getD_eq_getElem?_getD,hi]
theorem Bd.below {w w':World} {X R:Nat} {bs:List Bool} (h:Bd w X R bs) (hb:Below w.heap.size w w'):Bd w' X R bs :=
 ⟨(hb.block _ (heap_lt h.box)).trans h.box,(hb.block _ (heap_lt h.row)).trans h.row⟩
theorem known_any (X R:Nat) (bs:List Bool) (t:Sc.Term) (w:World) (hB:Bd w X R bs) (ht:t.var<bs.length) :
 Calls Tryz.prog 223 #[ptermVal t,.pointer (some ⟨X,0,none⟩)] w fun e w'=>e=.returned (.bool (Sc.known bs t))∧Below w.heap.size w w':=by
 have hc0:=hB.c0
 have hX:=heap_lt hB.box
 have hR:=heap_lt hB.row
 have hb0:∀ o,Below w.heap.size w (w.alloc o):=fun o=>(Below.refl _ _).alloc (Nat.le_refl _) o
 unfold Sc.known
 by_cases h:t.var<0
 · have g:decide (t.var<0)=true:=decide_eq_true h
   go_enter Tryz.func223,Tryz.ntmps223
   go_wp2
   go_ret
   exact ⟨by rw [g]; rfl,hb0 _⟩
 · have g:decide (t.var<0)=false:=decide_eq_false h
   obtain ⟨k,hk⟩:∃ k:Nat,t.var=k:=⟨t.var.toNat,by omega⟩
   have hkl:k<bs.length:=by omega
   have hcR:=hB.at k hkl
   obtain ⟨var,nn⟩:=t
   simp only at hk ht h g
   subst hk
   clear h ht hB
   go_enter Tryz.func223,Tryz.ntmps223
   go_wp2_with fail
   go_ret
   exact ⟨by rw [g]; simp [hkl],hb0 _⟩
theorem enters223:Enters 223:=enters_of Tryz.func223 (by kernel_rfl) rfl
def LitGood (n:Nat) (x:Sc.Lit):Prop:=(x.kind=4→x.terms.length=3)∧(∀ t,t∈x.terms→t.var<n)∧x.terms.length≤9223372036854775807
theorem good_at {n:Nat} {x:Sc.Lit} (h:LitGood n x) (i:Nat) (hi:i<x.terms.length):(Sc.termD x.terms i).var<n:=by
 refine h.2.1 _ ?_
 unfold Sc.termD
 rw [List.getD_eq_getElem?_getD,List.getElem?_eq_getElem hi]
 exact List.getElem_mem hi
theorem pterms_at {w:World} {ao:Option Addr} {l:List Sc.Term} (h:PTermsAt w ao l) (n:Nat) (hn:n<l.length):∃ b off,ao=some ⟨b,off,none⟩∧∀ i,i<l.length→PTermIn w b (off+i * 2) (Sc.termD l i):=by
 rcases h with h | ⟨b,off,ha,hc⟩
 · rw [h] at hn; exact absurd hn (by simp)
 · exact ⟨b,off,ha,hc⟩
theorem binds_any (X R:Nat) (bs:List Bool) (x:Sc.Lit) (v:Value) (w:World) (hB:Bd w X R bs) (hT:PTermsV w v x.terms) (hG:LitGood bs.length x) :
 Calls Tryz.prog 224 #[plitVal x v,.func (.func 223) #[] #[.pointer (some ⟨X,0,none⟩)]] w fun e w'=>∃ u,e=.returned u∧(∀ y,PTermsV y v x.terms→PTermsV y u (Sc.binds bs x))∧Below w.heap.size w w':=by
 have he:=enters223
 unfold Enters at he
 have hb0:∀ o,Below w.heap.size w (w.alloc o):=fun o=>(Below.refl _ _).alloc (Nat.le_refl _) o
 obtain ⟨kind,op,pred,ts⟩:=x
 obtain ⟨ao,cap,rfl,hcap,hA⟩:=hT
 have hA:PTermsAt w ao ts:=hA
 have HT:Hid (PTermsAt w ao ts):=hA
 have hcap:ts.length≤cap:=hcap
 cases g1:(kind==1)
 · have h1:¬ kind=1:=by simpa using g1
   cases g4:(kind==4)
   · have h4:¬ kind=4:=by simpa using g4
     have HV:Hid (Sc.binds bs ⟨kind,op,pred,ts⟩=[]):=by show _=_; simp [Sc.binds,h1,h4]
     clear h1 h4 hA
     go_enter Tryz.func224,Tryz.ntmps224
     go_wp2_with fail
     go_ret
     exact ⟨_,rfl,by rw [HV.out]; exact fun _ _=>⟨none,0,rfl,Nat.le_refl _,.inl rfl⟩,hb0 _⟩
   · have h4:kind=4:=by simpa using g4
     have hl:ts.length=3:=hG.1 h4
     obtain ⟨b,off,rfl,hc⟩:=pterms_at hA 0 (by omega)
     obtain ⟨a0,a1⟩:=hc 0 (by omega)
     obtain ⟨a2,a3⟩:=hc 1 (by omega)
     have hv0:(Sc.termD ts 0).var<bs.length:=good_at hG 0 (show 0<ts.length by omega)
     have hv1:(Sc.termD ts 1).var<bs.length:=good_at hG 1 (show 1<ts.length by omega)
     simp only [Nat.zero_mul,Nat.one_mul,Nat.add_zero] at a0 a1 a2 a3
     have hbw:b<w.heap.size:=World.block_lt_of_cell? w _ a0
     have HK0:Hid (∀ y,Below w.heap.size w y→Calls Tryz.prog 223 #[ptermVal (Sc.termD ts 0),.pointer (some ⟨X,0,none⟩)] y fun e w'=>e=.returned (.bool (Sc.known bs (Sc.termD ts 0)))∧Below y.heap.size y w'):=fun y hy=>known_any X R bs _ y (hB.below hy) hv0
     have HK1:Hid (∀ y,Below w.heap.size w y→Calls Tryz.prog 223 #[ptermVal (Sc.termD ts 1),.pointer (some ⟨X,0,none⟩)] y fun e w'=>e=.returned (.bool (Sc.known bs (Sc.termD ts 1)))∧Below y.heap.size y w'):=fun y hy=>known_any X R bs _ y (hB.below hy) hv1
     have HB:Hid (Sc.binds bs ⟨kind,op,pred,ts⟩=if Sc.known bs (Sc.termD ts 0)=true∧Sc.known bs (Sc.termD ts 1)=true then ts.drop 2 else []):=by show _=_; simp [Sc.binds,h4]
     have HC:Hid (∀ i,i<ts.length→PTermIn w b (off+i * 2) (Sc.termD ts i)):=hc
     subst h4
     have hl':Hid (ts.length=3):=hl
     have hcap3:3≤cap:=by omega
     have hX0:=heap_alloc_new w (.cells #[.int .i64 4,.int .i64 op,.int .i64 pred,.slice (some ⟨b,off,none⟩) 3 cap] 49)
     have hbx:=hb0 (.cells #[.int .i64 4,.int .i64 op,.int .i64 pred,.slice (some ⟨b,off,none⟩) 3 cap] 49)
     rw [show ts.length=3 from hl]
     clear hc hA HT hB hG hcap hl h1
     generalize hT0:Sc.termD ts 0=t0 at *
     generalize hT1:Sc.termD ts 1=t1 at *
     clear hT0 hT1
     go_enter Tryz.func224,Tryz.ntmps224
     go_wp2_with fail
     refine Calls.mono (HK0.out _ hbx) ?_
     rintro e w1 ⟨rfl,hb1⟩
     have hX1:=(hb1.block _ (heap_lt hX0)).trans hX0
     have hw1:=hbx.trans (hb1.mono hbx.size)
     have b0:=cell_below hw1 a0
     have b1:=cell_below hw1 a1
     have b2:=cell_below hw1 a2
     have b3:=cell_below hw1 a3
     have d0:w1.cell? ⟨w.heap.size,3,none⟩=some (.slice (some ⟨b,off,none⟩) 3 cap):=by rw [Lib.cell_of_heap hX1]; rfl
     clear hb1 hX0 hbx HK0
     cases hk0:Sc.known bs t0
     · have HV:Hid (Sc.binds bs ⟨4,op,pred,ts⟩=[]):=by show _=_; rw [HB.out,hk0]; simp
       go_wp2_with fail
       go_ret
       exact ⟨_,rfl,by rw [HV.out]; exact fun _ _=>⟨none,0,rfl,Nat.le_refl _,.inl rfl⟩,hw1⟩
     · go_wp2_with fail
       refine Calls.mono (HK1.out _ hw1) ?_
       rintro e w2 ⟨rfl,hb2⟩
       have hX2:=(hb2.block _ (heap_lt hX1)).trans hX1
       have hw2:=hw1.trans (hb2.mono hw1.size)
       have d2:w2.cell? ⟨w.heap.size,3,none⟩=some (.slice (some ⟨b,off,none⟩) 3 cap):=by rw [Lib.cell_of_heap hX2]; rfl
       clear hb2 hX1 d0 b0 b1 b2 b3
       cases hk1:Sc.known bs t1
       · have HV:Hid (Sc.binds bs ⟨4,op,pred,ts⟩=[]):=by show _=_; rw [HB.out,hk0,hk1]; simp
         go_wp2_with fail
         go_ret
         exact ⟨_,rfl,by rw [HV.out]; exact fun _ _=>⟨none,0,rfl,Nat.le_refl _,.inl rfl⟩,hw2⟩
       · have HV:Hid (Sc.binds bs ⟨4,op,pred,ts⟩=ts.drop 2):=by show _=_; rw [HB.out,hk0,hk1]; simp
         go_wp2_with fail
         go_ret
         refine ⟨_,rfl,?_,hw2⟩
         rw [HV.out]
         show ∀ y,PTermsV y (.slice (some ⟨b,off,none⟩) 3 cap) ts→PTermsV y (.slice (some ⟨b,off+4,none⟩) 1 (cap - 2)) (ts.drop 2)
         intro y hy
         have hl1:(ts.drop 2).length=1:=by rw [List.length_drop,hl'.out]
         refine ⟨some ⟨b,off+4,none⟩,cap - 2,by rw [hl1],by omega,.inr ⟨b,off+4,rfl,fun i hi=>?_⟩⟩
         obtain rfl:i=0:=by omega
         obtain ⟨ao',cap',hv,_,hy⟩:=hy
         injection hv with e1 e2 e3
         subst e1
         obtain ⟨b',off',hb',hy⟩:=pterms_at hy 2 (by rw [hl'.out]; omega)
         obtain ⟨rfl,rfl⟩:b=b'∧off=off':=by simpa using hb'
         have h2:=hy 2 (by rw [hl'.out]; omega)
         have hd:Sc.termD (ts.drop 2) 0=Sc.termD ts 2:=by simp [Sc.termD,List.getD_eq_getElem?_getD]
         rw [hd]
         exact h2
 · have h1:kind=1:=by simpa using g1
   have HV:Hid (Sc.binds bs ⟨kind,op,pred,ts⟩=ts):=by show _=_; simp [Sc.binds,h1]
   clear h1 hA
   go_enter Tryz.func224,Tryz.ntmps224
   go_wp2_with fail
   go_ret
   exact ⟨_,rfl,by rw [HV.out]; exact fun _ h=>h,hb0 _⟩
theorem index_any (R:Nat) (bs:List Bool) (n cap:Nat) (w:World) (hn:bs.length=n) (hmax:n≤9223372036854775807) (hB:∀ i,i<n→w.cell? ⟨R,i,none⟩=some (.bool (bs.getD i false))) :
 Calls Tryz.prog 232 #[.slice (some ⟨R,0,none⟩) n cap,.bool false] w fun e w'=>∃ r:Int,e=.returned (.int .i64 r)∧decide (0≤r)=!(bs.all id)∧∃ k,w'=w.drewN k:=by
 have HN:Hid (bs.length=n):=hn
 clear hn
 go_enter Tryz.func232,Tryz.ntmps232
 go_wp2_with fail
 go_loopw [8] (fun i wr=>∃ k:Nat,k≤n∧i=.int .i64 k∧bs.all id=(bs.drop k).all id∧∃ q,wr=w.drewN q) (fun i _=>n - (intOf i).toNat)
 case atStart=>exact ⟨0,Nat.zero_le _,rfl,rfl,0,rfl⟩
 case round =>
  obtain ⟨k,hk,rfl,hall,q,rfl⟩:=hrel
  have HA:Hid (bs.all id=(bs.drop k).all id):=hall
  clear hall
  by_cases hlt:k<n
  · have hc:=hB k hlt
    have HD:Hid (bs.all id=(bs.getD k false && (bs.drop (k+1)).all id)):=HA.out.trans (all_drop _ _ _ k (by rw [HN.out]; exact hlt))
    clear hB HA
    generalize bs.getD k false=x at *
    cases x
    · have HV:Hid (bs.all id=false):=HD.out
      go_wp2_with fail
      go_ret
      exact ⟨k,rfl,by rw [HV.out]; simp,_,rfl⟩
    · have HV:Hid (bs.all id=(bs.drop (k+1)).all id):=by show _=_; rw [HD.out]; rfl
      clear HD
      go_wp2_with fail
      go_roundw
      case rel=>exact ⟨k+1,by omega,by go_num,HV.out,_,rfl⟩
      case measure=>simp [intOf]; omega
  · have HV:Hid (bs.all id=true):=by show _=_; rw [HA.out,List.drop_of_length_le (by rw [HN.out]; omega)]; rfl
    clear hB
    go_wp2_with fail
    go_ret
    exact ⟨-1,rfl,by rw [HV.out]; rfl,_,rfl⟩
theorem contains_any (R:Nat) (bs:List Bool) (n cap:Nat) (w:World) (hn:bs.length=n) (hmax:n≤9223372036854775807) (hB:∀ i,i<n→w.cell? ⟨R,i,none⟩=some (.bool (bs.getD i false))) :
 Calls Tryz.prog 225 #[.slice (some ⟨R,0,none⟩) n cap,.bool false] w fun e w'=>e=.returned (.bool (!(bs.all id)))∧∃ k,w'=w.drewN k:=by
 go_enter Tryz.func225,Tryz.ntmps225
 go_wp2_with fail
 refine (index_any R bs n cap w hn hmax hB).mono ?_
 rintro e w1 ⟨r,rfl,hr,k,rfl⟩
 go_wp2_with fail
 go_ret
 exact ⟨rfl,_,rfl⟩
def RuleGood (r:Sc.Rule):Prop:=0≤r.vars∧r.vars≤8∧r.body.length≤4∧∀ i,i<r.body.length→LitGood r.vars.toNat (Sc.litD r.body i)
structure SInv (w:World) (rb:Obj) (X R:Nat) (bs:List Bool) (wr:World):Prop where
 bel:Below w.heap.size w wr
 box:wr.heap[w.heap.size]?=some rb
 bd:Bd wr X R bs
 r0:w.heap.size<R
 r1:R<X
theorem SInv.below {w wr w2:World} {rb:Obj} {X R:Nat} {bs:List Bool} (h:SInv w rb X R bs wr) (hb:Below wr.heap.size wr w2):SInv w rb X R bs w2 :=
 ⟨h.bel.trans (hb.mono h.bel.size),(hb.block _ (heap_lt h.box)).trans h.box,h.bd.below hb,h.r0,h.r1⟩
theorem SInv.set {w wr:World} {rb:Obj} {X R:Nat} {bs:List Bool} (h:SInv w rb X R bs wr) (k:Nat):SInv w rb X R (bs.set k true) (wr.setCell ⟨R,k,none⟩ (.bool true)):=by
 have h0:=h.r0
 have h1:=h.r1
 refine ⟨h.bel.setCell (p:=⟨R,k,none⟩) (Nat.le_of_lt h0) _,?_,⟨?_,?_⟩,h0,h1⟩
 · rw [Below.heap_setCell _ _ _ _ (show ¬ w.heap.size=R by omega)]; exact h.box
 · rw [Below.heap_setCell _ _ _ _ (show ¬ X=R by omega),List.length_set]; exact h.bd.box
 · rw [Lib.heap_setCell_same h.bd.row]
   simp [List.map_set]
theorem made_bools (n:Nat):madeCells #[Value.bool false] n=((List.replicate n false).map Value.bool).toArray:=by
 apply Array.ext
 · simp [size_madeCells]
 · intro i h1 h2
   simp [madeCells,Nat.mod_one]
theorem rounds_step (body:List Sc.Lit) (n k:Nat) (h:k<n) (b:List Bool):Sc.rounds body (n - k) b=Sc.rounds body (n - (k+1)) (Sc.round body b):=by
 obtain ⟨m,hm⟩:∃ m,n - k=m+1:=⟨n - k - 1,by omega⟩
 rw [hm,show n - (k+1)=m by omega]
 rfl
theorem foldl_drop {α β:Type} (f:β→α→β) (d:α) (l:List α) (k:Nat) (h:k<l.length) (b:β):(l.drop k).foldl f b=(l.drop (k+1)).foldl f (f b (l.getD k d)):=by
 rw [List.drop_eq_getElem_cons h,List.foldl_cons,List.getD_eq_getElem?_getD,List.getElem?_eq_getElem h]
 rfl
theorem binds_sub {bs:List Bool} {x:Sc.Lit} {t:Sc.Term} (h:t∈Sc.binds bs x):t∈x.terms:=by
 unfold Sc.binds at h
 split at h
 · exact h
 · split at h
   · exact List.mem_of_mem_drop h
   · simp at h
theorem binds_len (bs:List Bool) (x:Sc.Lit):(Sc.binds bs x).length≤x.terms.length:=by
 unfold Sc.binds
 split
 · exact Nat.le_refl _
 · split
   · simp
   · simp
theorem termD_mem {l:List Sc.Term} {i:Nat} (h:i<l.length):Sc.termD l i∈l:=by
 unfold Sc.termD
 rw [List.getD_eq_getElem?_getD,List.getElem?_eq_getElem h]
 exact List.getElem_mem h
theorem plits_at {w:World} {ao:Option Addr} {l:List Sc.Lit} (h:PLitsAt w ao l) (n:Nat) (hn:n<l.length):∃ b off,ao=some ⟨b,off,none⟩∧PLitIn w b (off+n * 4) (Sc.litD l n):=by
 rcases h with h | ⟨b,off,ha,hc⟩
 · rw [h] at hn; exact absurd hn (by simp)
 · exact ⟨b,off,ha,hc n hn⟩
theorem isSafe_any (r:Sc.Rule) (vt vb:Value) (w:World) (hL:PLitsV w vb r.body) (hG:RuleGood r) :
 Calls Tryz.prog 209 #[pruleVal r vt vb] w fun e w'=>e=.returned (.bool (Sc.safe r))∧Below w.heap.size w w':=by
 obtain ⟨pred,ts,fold,body,vars⟩:=r
 obtain ⟨h0,h8,h4,hG⟩:=hG
 obtain ⟨nv,hnv⟩:∃ nv:Nat,vars=nv:=⟨vars.toNat,by simp only at h0; omega⟩
 subst hnv
 simp only [Int.toNat_natCast] at *
 obtain ⟨ab,cb,rfl,hL⟩:=hL
 have hmk:=run_make_row' (P:=Tryz.prog) 57 4 (.bool false) 1 Tryz.underlying57 (by kernel_rfl) rfl .i64 .i64 nv (by omega) (by omega)
 have hmf:∀ (fn:Fn) (first cap:Array Value) (w:World),(Instr.makeFunc fn first cap).run Tryz.prog w=.ok (.func fn first cap) w:=fun _ _ _ _=>rfl
 have hst:SInv w (.cells #[.int .i64 pred,vt,.int .i64 fold,.slice ab body.length cb,.int .i64 nv] 40) (w.heap.size+1+1) (w.heap.size+1) (List.replicate nv false) (((w.alloc (.cells #[.int .i64 pred,vt,.int .i64 fold,.slice ab body.length cb,.int .i64 nv] 40)).alloc (.cells (madeCells #[Value.bool false] nv) 4)).alloc (.cells #[.slice (some ⟨w.heap.size+1,0,none⟩) nv nv] 57)):=by
  have e1:=heap_alloc_new w (.cells #[.int .i64 pred,vt,.int .i64 fold,.slice ab body.length cb,.int .i64 nv] 40)
  have e2:=heap_alloc_new (w.alloc (.cells #[.int .i64 pred,vt,.int .i64 fold,.slice ab body.length cb,.int .i64 nv] 40)) (.cells (madeCells #[Value.bool false] nv) 4)
  have e3:=heap_alloc_new ((w.alloc (.cells #[.int .i64 pred,vt,.int .i64 fold,.slice ab body.length cb,.int .i64 nv] 40)).alloc (.cells (madeCells #[Value.bool false] nv) 4)) (.cells #[.slice (some ⟨w.heap.size+1,0,none⟩) nv nv] 57)
  have s1:(w.alloc (.cells #[.int .i64 pred,vt,.int .i64 fold,.slice ab body.length cb,.int .i64 nv] 40)).heap.size=w.heap.size+1:=by simp
  have s2:((w.alloc (.cells #[.int .i64 pred,vt,.int .i64 fold,.slice ab body.length cb,.int .i64 nv] 40)).alloc (.cells (madeCells #[Value.bool false] nv) 4)).heap.size=w.heap.size+1+1:=by simp
  rw [s1] at e2
  rw [s2] at e3
  have B:∀ (u:World) (o:Obj),Below u.heap.size u (u.alloc o):=fun u o=>(Below.refl _ _).alloc (Nat.le_refl _) o
  have b2:=B (w.alloc (.cells #[.int .i64 pred,vt,.int .i64 fold,.slice ab body.length cb,.int .i64 nv] 40)) (.cells (madeCells #[Value.bool false] nv) 4)
  have b3:=B ((w.alloc (.cells #[.int .i64 pred,vt,.int .i64 fold,.slice ab body.length cb,.int .i64 nv] 40)).alloc (.cells (madeCells #[Value.bool false] nv) 4)) (.cells #[.slice (some ⟨w.heap.size+1,0,none⟩) nv nv] 57)
  have b1:=B w (.cells #[.int .i64 pred,vt,.int .i64 fold,.slice ab body.length cb,.int .i64 nv] 40)
  have b12:=b1.trans (b2.mono b1.size)
  refine ⟨b12.trans (b3.mono b12.size),(b3.block _ (by rw [s2]; omega)).trans ((b2.block _ (by rw [s1]; omega)).trans e1),⟨by simpa using e3,?_⟩,by omega,by omega⟩
  rw [← made_bools]
  exact (b3.block _ (by rw [s2]; omega)).trans e2
 have HS:Hid (Sc.safe ⟨pred,ts,fold,body,nv⟩=(Sc.rounds body body.length (List.replicate nv false)).all id):=rfl
 have hlen0:(List.replicate nv false).length=nv:=by simp
 go_enter Tryz.func209,Tryz.ntmps209
 go_wp2_with fail
 generalize ((w.alloc (.cells #[.int .i64 pred,vt,.int .i64 fold,.slice ab body.length cb,.int .i64 nv] 40)).alloc (.cells (madeCells #[Value.bool false] nv) 4)).alloc (.cells #[.slice (some ⟨w.heap.size+1,0,none⟩) nv nv] 57)=w0 at *
 generalize w.heap.size+1+1=X at *
 generalize hR:w.heap.size+1=R at *
 clear hR
 generalize List.replicate nv false=bz at *
 generalize hrb:Obj.cells #[.int .i64 pred,vt,.int .i64 fold,.slice ab body.length cb,.int .i64 nv] 40=rb at *
 have HRB:Hid _:=hrb
 clear hrb
 go_loopw [16] (fun i wr=>∃ (k:Nat) (bs:List Bool),k≤body.length∧i=.int .i64 k∧SInv w rb X R bs wr∧bs.length=nv∧Sc.rounds body (body.length - k) bs=Sc.rounds body body.length bz) (fun i _=>body.length - (intOf i).toNat)
 case atStart=>exact ⟨0,bz,Nat.zero_le _,rfl,hst,hlen0,rfl⟩
 case round =>
  obtain ⟨k,bs0,hk,rfl,hI,hn0,hrd⟩:=hrel
  have HR:Hid _:=hrd
  clear hrd hst hlen0
  have cb3:wr.cell? ⟨w.heap.size,3,none⟩=some (.slice ab body.length cb):=by rw [Lib.cell_of_heap (hI.box.trans (congrArg some HRB.out.symm))]; rfl
  by_cases hlt:k<body.length
  · go_wp2_with fail
    go_loopw [21] (fun i wq=>∃ (j:Nat) (bs:List Bool),j≤body.length∧i=.int .i64 j∧SInv w rb X R bs wq∧bs.length=nv∧(body.drop j).foldl Sc.bindLit bs=Sc.round body bs0) (fun i _=>body.length - (intOf i).toNat)
    case atStart=>exact ⟨0,bs0,Nat.zero_le _,rfl,hI,hn0,rfl⟩
    case round =>
     clear hI cb3 hn0
     obtain ⟨j,bs1,hj,rfl,hI,hn1,hfd⟩:=hrel
     have HFD:Hid _:=hfd
     clear hfd
     by_cases hjl:j<body.length
     · obtain ⟨b,off,rfl,p0,p1,p2,v,p3,hT⟩:=plits_at hL j hjl
       have HT:Hid (PTermsV w v (Sc.litD body j).terms):=hT
       obtain ⟨at_,ct,rfl,_,_⟩:=hT
       have q0:=cell_below hI.bel p0
       have q1:=cell_below hI.bel p1
       have q2:=cell_below hI.bel p2
       have q3:=cell_below hI.bel p3
       have hg:=hG j hjl
       rw [← hn1] at hg
       have HF2:Hid ((body.drop (j+1)).foldl Sc.bindLit (Sc.bindLit bs1 (Sc.litD body j))=Sc.round body bs0):=(foldl_drop Sc.bindLit ⟨0,0,0,[]⟩ body j hjl bs1).symm.trans HFD.out
       have hb1:Below wr.heap.size wr (wr.alloc (.cells #[.int .i64 (Sc.litD body j).kind,.int .i64 (Sc.litD body j).op,.int .i64 (Sc.litD body j).pred,.slice at_ (Sc.litD body j).terms.length ct] 49)):=(Below.refl _ _).alloc (Nat.le_refl _) _
       have hI1:=hI.below hb1
       clear p0 p1 p2 p3 hb1 hI HFD
       generalize hx:Sc.litD body j=x at *
       clear hx
       go_wp2_with fail
       refine Calls.mono (binds_any X R bs1 x (.slice at_ x.terms.length ct) _ hI1.bd (ptermsV_below HT.out hI1.bel) hg) ?_
       rintro e w2 ⟨u,rfl,hu,hb2⟩
       have hI2:=hI1.below hb2
       have hU:=hu w HT.out
       have hv:∀ i,i<(Sc.binds bs1 x).length→(Sc.termD (Sc.binds bs1 x) i).var<nv:=fun i hi=>by
        have:=hg.2.1 _ (binds_sub (termD_mem hi))
        rw [hn1] at this
        exact this
       have hql:(Sc.binds bs1 x).length≤9223372036854775807:=Nat.le_trans (binds_len bs1 x) hg.2.2
       have HV2:Hid ((body.drop (j+1)).foldl Sc.bindLit (Sc.bindAll bs1 (Sc.binds bs1 x))=Sc.round body bs0):=HF2.out
       clear hu hI1 hb2 q0 q1 q2 q3 HT HF2
       generalize Sc.binds bs1 x=q at *
       obtain ⟨ao,cp,rfl,_,hU⟩:=hU
       go_wp2_with fail
       go_loopw [29] (fun i wz=>∃ (m:Nat) (bs:List Bool),m≤q.length∧i=.int .i64 m∧SInv w rb X R bs wz∧bs.length=nv∧Sc.bindAll bs (q.drop m)=Sc.bindAll bs1 q) (fun i _=>q.length - (intOf i).toNat)
       case atStart=>exact ⟨0,bs1,Nat.zero_le _,rfl,hI2,hn1,rfl⟩
       case round =>
        clear hI2
        obtain ⟨m,bs2,hm,rfl,hI,hn2,hbd⟩:=hrel
        have HBD:Hid _:=hbd
        clear hbd
        by_cases hml:m<q.length
        · obtain ⟨b3,off3,rfl,hc⟩:=pterms_at hU m hml
          obtain ⟨r0,r1⟩:=hc m hml
          have s0:=cell_below hI.bel r0
          have s1:=cell_below hI.bel r1
          have hvm:=hv m hml
          have HB2:Hid (Sc.bindAll (Sc.bind1 bs2 (Sc.termD q m)) (q.drop (m+1))=Sc.bindAll bs1 q):=(foldl_drop Sc.bind1 ⟨0,0⟩ q m hml bs2).symm.trans HBD.out
          clear HBD r0 r1 hc hU hv
          generalize hT0:Sc.termD q m=t0 at *
          clear hT0
          obtain ⟨var,nn⟩:=t0
          have hb1:Below wr.heap.size wr (wr.alloc (.cells #[.int .i64 var,.int .i64 nn] 147)):=(Below.refl _ _).alloc (Nat.le_refl _) _
          have hI3:=hI.below hb1
          have hRlt:=heap_lt hI.bd.row
          have hXlt:=heap_lt hI.bd.box
          by_cases h5:0≤var
          · have g5:decide (0≤var)=true:=decide_eq_true h5
            obtain ⟨kv,rfl⟩:∃ kv:Nat,var=kv:=⟨var.toNat,by omega⟩
            have hkl:kv<nv:=by simp only at hvm; omega
            have hc0:=hI3.bd.c0
            rw [hn2] at hc0
            have hcR:=hI3.bd.at kv (by omega)
            have hfR:=Lib.frozen_of_heap hI3.bd.row kv
            have hI4:=(hI.set kv).below ((Below.refl _ _).alloc (Nat.le_refl _) (.cells #[.int .i64 kv,.int .i64 nn] 147))
            have HV:Hid (Sc.bindAll (bs2.set kv true) (q.drop (m+1))=Sc.bindAll bs1 q):=by
             show _=_
             rw [← HB2.out]
             simp [Sc.bind1]
            have hn4:(bs2.set kv true).length=nv:=by rw [List.length_set]; exact hn2
            clear HB2
            go_wp2_with fail
            go_roundw
            case rel=>exact ⟨m+1,_,by omega,by go_num,hI4,hn4,HV.out⟩
            case measure=>simp [intOf]; omega
          · have g5:decide (0≤var)=false:=decide_eq_false h5
            have HV:Hid (Sc.bindAll bs2 (q.drop (m+1))=Sc.bindAll bs1 q):=by
             show _=_
             rw [← HB2.out]
             simp [Sc.bind1,h5]
            clear HB2
            go_wp2_with fail
            go_roundw
            case rel=>exact ⟨m+1,_,by omega,by go_num,hI3,hn2,HV.out⟩
            case measure=>simp [intOf]; omega
        · have hend:Sc.bindAll bs2 (q.drop m)=bs2:=by rw [List.drop_of_length_le (by omega)]; rfl
          have HV:Hid ((body.drop (j+1)).foldl Sc.bindLit bs2=Sc.round body bs0):=by
           show _=_
           rw [← HV2.out,← HBD.out,hend]
          clear hU hv hend
          go_wp2_with fail
          go_roundw
          case rel=>exact ⟨j+1,_,by omega,by go_num,hI,hn2,HV.out⟩
          case measure=>simp [intOf]; omega
     · have hend:(body.drop j).foldl Sc.bindLit bs1=bs1:=by rw [List.drop_of_length_le (by omega)]; rfl
       have HV:Hid (Sc.rounds body (body.length - (k+1)) bs1=Sc.rounds body body.length bz):=by
        show _=_
        rw [← HR.out,rounds_step body _ k hlt,← HFD.out,hend]
       clear hend
       go_wp2_with fail
       go_roundw
       case rel=>exact ⟨k+1,_,by omega,by go_num,hI,hn1,HV.out⟩
       case measure=>simp [intOf]; omega
  · have hk2:k=body.length:=by omega
    have HV:Hid (bs0=Sc.rounds body body.length bz):=by
     show _=_
     have:=HR.out
     rw [hk2,Nat.sub_self] at this
     exact this
    have hc0:=hI.bd.c0
    rw [hn0] at hc0
    clear hk2
    go_wp2_with fail
    refine Calls.mono (contains_any R bs0 nv nv _ hn0 (by omega) (fun i hi=>hI.bd.at i (by omega))) ?_
    rintro e w2 ⟨rfl,q,rfl⟩
    have hbel:=hI.bel
    go_wp2_with fail
    go_ret
    exact ⟨by rw [HS.out,← HV.out]; simp,below_drewN hbel _⟩
end Go.Proofs.YthenjegmigeieaaGreat
namespace Go.Proofs.YthenjegmigeieaaGreat
open Go.RowKit Go.Shelf
attribute [local go_sem] Oper.semAt_some
abbrev HP (n:Nat):={ p:Int × Int // 0≤p.1∧p.1<(n:Int)∧(p.2=0∨p.2=1) }
abbrev hangEnc {n:Nat} (p:HP n):Array Value:=#[.int .i64 p.1.1,.int .i64 p.1.2]
end Go.Proofs.YthenjegmigeieaaGreat
namespace Go.Proofs.YthenjegmigeieaaGreat
open Go.RowKit Go.Shelf
theorem heap_set_other {w:World} {b c i:Nat} {v:Value} (h:¬ c=b):(w.setCell ⟨b,i,none⟩ v).heap[c]?=w.heap[c]?:=Below.heap_setCell _ _ _ _ h
end Go.Proofs.YthenjegmigeieaaGreat
namespace Go.Proofs.YthenjegmigeieaaGreat
open Go.RowKit
theorem blw_drewN (w:World) (n:Nat):Below w.heap.size w (w.drewN n):=⟨rfl,rfl,rfl,Nat.le_refl _,fun _ _=>rfl⟩
def wayArr (y:Ru.Way):Array Value:=(y.nums.map (Value.int .i64)++y.known.map Value.bool).toArray
abbrev wayVal (y:Ru.Way):Value:=.agg (wayArr y)
def WayAt (w:World) (b:Nat) (y:Ru.Way):Prop:=w.heap[b]?=some (.cells (wayArr y) 138)
theorem WayAt.num {w:World} {b:Nat} {y:Ru.Way} (h:WayAt w b y) (hy:Ru.Wf 8 y) {i:Nat} (hi:i<8):w.cell? ⟨b,i,none⟩=some (.int .i64 (y.nums.getD i 0)):=by
 rw [Lib.cell_of_heap h]
 unfold wayArr
 have h1:i<(y.nums.map (Value.int .i64)).length:=by rw [List.length_map,hy.n]; exact hi
 rw [List.getElem?_toArray,List.getElem?_append_left h1,List.getElem?_map,List.getD_eq_getElem?_getD,List.getElem?_eq_getElem (by rw [hy.n]; exact hi)]
 rfl
theorem WayAt.kn {w:World} {b:Nat} {y:Ru.Way} (h:WayAt w b y) (hy:Ru.Wf 8 y) {i:Nat} (hi:i<8):w.cell? ⟨b,8+i,none⟩=some (.bool (y.known.getD i false)):=by
 rw [Lib.cell_of_heap h]
 unfold wayArr
 have h1:(y.nums.map (Value.int .i64)).length=8:=by rw [List.length_map,hy.n]
 rw [List.getElem?_toArray,List.getElem?_append_right (by omega),h1,Nat.add_sub_cancel_left,List.getElem?_map,List.getD_eq_getElem?_getD,List.getElem?_eq_getElem (by rw [hy.k]; exact hi)]
 rfl
theorem Number_any (t:Sc.Term) (x:List Int) (v:Value) (w:World) (hV:IntsV w v x) (ht:t.var<0∨t.var.toNat<x.length) :
 Calls Tryz.prog 105 #[ptermVal t,v] w fun e w'=>e=.returned (.int .i64 (Ru.num x t))∧Below w.heap.size w w':=by
 obtain ⟨ao,c,rfl,hA⟩:=hV
 have hb:Below w.heap.size w (w.alloc (.cells #[.int .i64 t.var,.int .i64 t.n] 147)):=(Below.refl _ _).alloc (Nat.le_refl _) _
 by_cases h:t.var<0
 · have g:decide (t.var<0)=true:=decide_eq_true h
   have HV:Hid (Ru.num x t=t.n):=by show _=_; unfold Ru.num; rw [if_pos h]
   clear ht h hA
   go_enter Tryz.func105,Tryz.ntmps105
   go_wp2
   go_ret
   exact ⟨by rw [HV.out]; rfl,hb⟩
 · have g:decide (t.var<0)=false:=decide_eq_false h
   have hl:t.var.toNat<x.length:=by rcases ht with h1 | h1; exact absurd h1 h; exact h1
   obtain ⟨k,hk⟩:∃ k:Nat,t.var=k:=⟨t.var.toNat,by omega⟩
   have HV:Hid (Ru.num x t=Sc.intD x k):=by show _=_; unfold Ru.num; rw [if_neg h,hk]; rfl
   have hkl:k<x.length:=by omega
   obtain ⟨b,off,rfl,q0⟩:=ints_at hA k hkl
   have q1:=cell_below hb q0
   obtain ⟨var,nn⟩:=t
   simp only at hk h g ht hl
   subst hk
   clear ht h hl hA q0
   generalize Sc.intD x k=vv at *
   go_enter Tryz.func105,Tryz.ntmps105
   go_wp2
   go_ret
   exact ⟨by rw [HV.out]; rfl,hb⟩
theorem knows_any (y:Ru.Way) (t:Sc.Term) (w:World) (hy:Ru.Wf 8 y) (ht:Ru.TermIn 8 t) :
 Calls Tryz.prog 210 #[wayVal y,ptermVal t] w fun e w'=>e=.returned (.bool (Sc.known y.known t))∧Below w.heap.size w w':=by
 have hb:Below w.heap.size w ((w.alloc (.cells (wayArr y) 138)).alloc (.cells #[.int .i64 t.var,.int .i64 t.n] 147)):=((Below.refl _ _).alloc (Nat.le_refl _) _).alloc (by simp) _
 have hW:WayAt ((w.alloc (.cells (wayArr y) 138)).alloc (.cells #[.int .i64 t.var,.int .i64 t.n] 147)) w.heap.size y:=by
  have:=((Below.refl (w.alloc (.cells (wayArr y) 138)).heap.size (w.alloc (.cells (wayArr y) 138))).alloc (Nat.le_refl _) (.cells #[.int .i64 t.var,.int .i64 t.n] 147)).block w.heap.size (by simp)
  exact this.trans (heap_alloc_new w _)
 unfold Sc.known
 by_cases h:t.var<0
 · have g:decide (t.var<0)=true:=decide_eq_true h
   clear ht h hW
   go_enter Tryz.func210,Tryz.ntmps210
   go_wp2
   go_ret
   exact ⟨by rw [g]; rfl,hb⟩
 · have g:decide (t.var<0)=false:=decide_eq_false h
   have hl:t.var.toNat<8:=by rcases ht with h1 | h1; exact absurd h1 h; exact h1
   obtain ⟨k,hk⟩:∃ k:Nat,t.var=k:=⟨t.var.toNat,by omega⟩
   have hkl:k<8:=by omega
   have q:=hW.kn hy hkl
   obtain ⟨var,nn⟩:=t
   simp only at hk h g ht hl
   subst hk
   clear ht h hl hW
   go_enter Tryz.func210,Tryz.ntmps210
   go_wp2
   go_ret
   exact ⟨rfl,hb⟩
theorem WayAt.ints {w:World} {b:Nat} {y:Ru.Way} (h:WayAt w b y) (hy:Ru.Wf 8 y):IntsV w (.slice (some ⟨b,0,none⟩) 8 8) y.nums:=by
 refine ⟨some ⟨b,0,none⟩,8,by rw [hy.n],.inr ⟨b,0,rfl,fun i hi=>?_⟩⟩
 rw [Nat.zero_add]
 exact h.num hy (by rw [← hy.n]; exact hi)
theorem WayAt.below {w w':World} {b:Nat} {y:Ru.Way} (h:WayAt w b y) (hb:Below w.heap.size w w'):WayAt w' b y:=(hb.block _ (heap_lt h)).trans h
theorem ru_two (w:World) (o q:Obj):((w.alloc o).alloc q).heap[w.heap.size]?=some o∧((w.alloc o).alloc q).heap[w.heap.size+1]?=some q∧Below w.heap.size w ((w.alloc o).alloc q):=by
 refine ⟨?_,?_,((Below.refl _ _).alloc (Nat.le_refl _) _).alloc (by simp) _⟩
 · have:=((Below.refl (w.alloc o).heap.size (w.alloc o)).alloc (Nat.le_refl _) q).block w.heap.size (by simp)
   exact this.trans (heap_alloc_new w _)
 · have:=heap_alloc_new (w.alloc o) q
   simpa using this
theorem number_any (y:Ru.Way) (t:Sc.Term) (w:World) (hy:Ru.Wf 8 y) (ht:Ru.TermIn 8 t) :
 Calls Tryz.prog 187 #[wayVal y,ptermVal t] w fun e w'=>e=.returned (.int .i64 (Ru.num y.nums t))∧Below w.heap.size w w':=by
 obtain ⟨h0,h1,hb⟩:=ru_two w (.cells (wayArr y) 138) (.cells #[.int .i64 t.var,.int .i64 t.n] 147)
 have HW:Hid (WayAt ((w.alloc (.cells (wayArr y) 138)).alloc (.cells #[.int .i64 t.var,.int .i64 t.n] 147)) w.heap.size y):=h0
 have HB:Hid _:=hb
 have c0:((w.alloc (.cells (wayArr y) 138)).alloc (.cells #[.int .i64 t.var,.int .i64 t.n] 147)).cell? ⟨w.heap.size+1,0,none⟩=some (.int .i64 t.var):=by rw [Lib.cell_of_heap h1]; rfl
 have c1:((w.alloc (.cells (wayArr y) 138)).alloc (.cells #[.int .i64 t.var,.int .i64 t.n] 147)).cell? ⟨w.heap.size+1,1,none⟩=some (.int .i64 t.n):=by rw [Lib.cell_of_heap h1]; rfl
 have HT:Hid (t.var<0∨t.var.toNat<y.nums.length):=by
  show _∨_
  rw [hy.n]; exact ht
 clear h0 h1 hb ht
 go_enter Tryz.func187,Tryz.ntmps187
 go_upto_region 1 with fail
 generalize (w.alloc (.cells (wayArr y) 138)).alloc (.cells #[.int .i64 t.var,.int .i64 t.n] 147)=w1 at *
 go_region_with (go_at_call 105; refine Calls.mono (Number_any t y.nums _ _ (WayAt.ints (WayAt.below HW.out (blw_drewN w1 _)) hy) HT.out) ?_; rintro _ w2 ⟨rfl,hb2⟩)
 go_wp2_with fail
 go_ret
 exact ⟨rfl,HB.out.drew.trans (hb2.mono HB.out.size)⟩
theorem wayArr_size {y:Ru.Way} (hy:Ru.Wf 8 y):(wayArr y).size=16:=by
 unfold wayArr
 rw [List.size_toArray,List.length_append,List.length_map,List.length_map,hy.n,hy.k]
theorem wayArr_one (y:Ru.Way):(wayArr y).all (·.oneCell')=true:=by
 unfold wayArr
 refine all_oneCell_toArray fun v hv=>?_
 rcases List.mem_append.mp hv with h | h
 · obtain ⟨n,_,rfl⟩:=List.mem_map.mp h; rfl
 · obtain ⟨n,_,rfl⟩:=List.mem_map.mp h; rfl
theorem way_info:(Tryz.prog.info? 138).map (·.size)=some 16:=by kernel_rfl
theorem way_range {w:World} {b:Nat} {y:Ru.Way} (h:WayAt w b y):w.rangeAt b 0 (wayArr y).toList:=fun j v hv=>by
 rw [Nat.zero_add,Lib.cell_of_heap h]
 simpa using hv
theorem loadVar_way {w:World} {b:Nat} {y:Ru.Way} (h:WayAt w b y) (hy:Ru.Wf 8 y):(loadVar 138 ⟨b,0,none⟩).run Tryz.prog w=.ok (wayVal y) w:=by
 have:=run_loadVar_mid (P:=Tryz.prog) w b 0 138 (wayArr y).toList _ (way_range h) Tryz.underlying138 rfl (by rw [Array.length_toList,wayArr_size hy]; exact way_info)
 simpa using this
theorem load_way {a:Act} {o:Oper} {x:Operand} {w:World} {b:Nat} {y:Ru.Way} (ho:o.op=.load 138 x) (hx:a.eval x=.pointer (some ⟨b,0,none⟩)) (h:WayAt w b y) (hy:Ru.Wf 8 y):(execOp a.eval o).run Tryz.prog w=.ok (.value (wayVal y)) w:=by
 unfold execOp
 simp only [ho,hx,Instr.loadAt,Instr.sureAddr,Sem.run_bind,Sem.run_pure,Result.andThen_ok,loadVar_way h hy]
theorem wpList_loadWay {ops:Array Oper} {rest:List Oper} {o:Oper} {a:Act} {w:World} {Q:Exit→Act→World→Prop} (hw:Region.wanted o (yielded ops a.tmps)=true) (x:Operand) (ho:o.op=.load 138 x)
 (b:Nat) (hx:a.eval x=.pointer (some ⟨b,0,none⟩)) (y:Ru.Way) (hW:WayAt w b y) (hy:Ru.Wf 8 y) (h:wpList Tryz.prog ops Q rest (a.put o.dst (wayVal y)) w):wpList Tryz.prog ops Q (o::rest) a w:=by
 refine wpList_step fun K hK=>?_
 rw [if_pos hw]
 unfold Oper.wp
 rw [load_way ho hx hW hy,Oper.upon_value]
 exact hK _ _ h
theorem wpList_storeWay {ops:Array Oper} {rest:List Oper} {o:Oper} {a:Act} {w:World} {Q:Exit→Act→World→Prop} (hgd:o.guard=none) (x u:Operand) (ho:o.op=.store 138 x u)
 (b:Nat) (hx:a.eval x=.pointer (some ⟨b,0,none⟩)) (y z:Ru.Way) (hu:a.eval u=wayVal z) (hW:WayAt w b y) (hy:Ru.Wf 8 y) (hz:Ru.Wf 8 z) (h:wpList Tryz.prog ops Q rest (a.put o.dst undef) (w.setRow b (wayArr z))):wpList Tryz.prog ops Q (o::rest) a w:=by
 refine wpList_plain hgd fun K hK=>?_
 have hr:=run_storeVar_row (P:=Tryz.prog) w b 138 138 (wayArr y) (wayArr z) hW (by rw [wayArr_size hz]; exact way_info) (by rw [wayArr_size hy,wayArr_size hz]) (wayArr_one z)
 unfold Oper.wp execOp
 simp only [ho,hx,hu,Instr.storeAt,Instr.sureAddr,Sem.run_bind,Sem.run_pure,Result.andThen_ok,hr]
 exact hK _ _ h
theorem results_way {fn:Func} {t u:Tmp} (h:fn.results=#[.cell t 138,.tmp u]) {tmps:Array Value} {w:World} {b:Nat} {y:Ru.Way} (ht:tmps.getD t undef=.pointer (some ⟨b,0,none⟩)) (hW:WayAt w b y) (hy:Ru.Wf 8 y) :
 (results fn tmps).run Tryz.prog w=.ok (.tuple #[wayVal y,tmps.getD u undef]) w:=by
 have h1:=loadVar_way hW hy
 have ht':tmps[t]?.getD undef=.pointer (some ⟨b,0,none⟩):=by simpa using ht
 simp [results,h,ht',asAddr,h1]
theorem way_set {w:World} {b:Nat} {y z:Ru.Way} (h:WayAt w b y):WayAt (w.setRow b (wayArr z)) b z:=setRow_heap w b _ _ 138 _ h
theorem way_set_other {w:World} {b k:Nat} {z:Ru.Way} (h:¬ k=b):(w.setRow b (wayArr z)).heap[k]?=w.heap[k]?:=setRow_other w b k _ h
theorem way_set_below {n:Nat} {w wr:World} {b:Nat} {z:Ru.Way} (h:Below n w wr) (hb:n≤b):Below n w (wr.setRow b (wayArr z)) :=
 h.trans ⟨rfl,rfl,rfl,by simp,fun k hk=>setRow_other wr b k _ (by omega)⟩
def Rl.boolD (l:List Bool) (i:Nat):Bool:=l.getD i false
def BoolsAt (w:World) (ao:Option Addr) (l:List Bool):Prop :=
 l=[]∨∃ b off,ao=some ⟨b,off,none⟩∧∀ i,i<l.length→w.cell? ⟨b,off+i,none⟩=some (.bool (Rl.boolD l i))
def BoolsV (w:World) (v:Value) (l:List Bool):Prop:=∃ ao cap,v=.slice ao l.length cap∧(l.length≤cap∧(ao=none→cap=0))∧BoolsAt w ao l
theorem boolsAt_below {w w':World} {ao:Option Addr} {l:List Bool} (h:BoolsAt w ao l) (hb:Below w.heap.size w w'):BoolsAt w' ao l:=by
 rcases h with h | ⟨b,off,rfl,h⟩
 · exact .inl h
 · exact .inr ⟨b,off,rfl,fun i hi=>cell_below hb (h i hi)⟩
theorem three_new (w:World) (a b c:Obj):(((w.alloc a).alloc b).alloc c).heap[w.heap.size]?=some a∧(((w.alloc a).alloc b).alloc c).heap[w.heap.size+1]?=some b∧(((w.alloc a).alloc b).alloc c).heap[w.heap.size+2]?=some c:=by
 show (((w.heap.push a).push b).push c)[w.heap.size]?=some a∧(((w.heap.push a).push b).push c)[w.heap.size+1]?=some b∧(((w.heap.push a).push b).push c)[w.heap.size+2]?=some c
 refine ⟨?_,?_,?_⟩
 · rw [Array.getElem?_push,if_neg (by simp; omega),Array.getElem?_push,if_neg (by simp),Array.getElem?_push,if_pos rfl]
 · rw [Array.getElem?_push,if_neg (by simp),Array.getElem?_push,if_pos (by simp)]
 · rw [Array.getElem?_push,if_pos (by simp)]
theorem cl_info71:(Tryz.prog.info? 49).map (fun i=>(i.zero,i.size,i.bytes))=some (some (.agg #[.int .i64 0,.int .i64 0,.int .i64 0,.slice none 0 0]),4,48):=by kernel_rfl
end Go.Proofs.YthenjegmigeieaaGreat
namespace Go.Proofs.YthenjegmigeieaaGreat
open Go.RowKit
open Go.Maps
structure NumD (ns:List (List UInt8)) (D:DataW Unit):Prop where
 size:Maps.size D=ns.length
 has:∀ s:List UInt8,Maps.has D (.string s)=ns.contains s
 at_:∀ s:List UInt8,s∈ns→D.atKey (.string s) (.lit (.int .i64 0))=.lit (.int .i64 (ns.idxOf s))
def NumAt (w:World) (B:Nat) (ns:List (List UInt8)):Prop:=∃ D:DataW Unit,w.ownsMap Tryz.prog 9 (plainElem Tryz.prog 3) B ns.length D∧NumD ns D
theorem idx_mem {x:List UInt8}:∀ {l m:List (List UInt8)},x∈l→(l++m).idxOf x=l.idxOf x:=by
 intro l
 induction l with
 | nil=>exact fun h=>absurd h (by simp)
 | cons a r ih =>
  intro m h
  rw [List.cons_append,List.idxOf_cons,List.idxOf_cons]
  by_cases ha:a=x
  · simp [ha]
  · have hx:x∈r:=by
     rcases List.mem_cons.mp h with h | h
     · exact absurd h.symm ha
     · exact h
    rw [ih hx]
theorem idx_new {x:List UInt8}:∀ {l:List (List UInt8)},¬ x∈l→(l++[x]).idxOf x=l.length:=by
 intro l
 induction l with
 | nil=>intro _; simp
 | cons a r ih =>
  intro h
  have ha:¬ a=x:=fun e=>h (by simp [e])
  rw [List.cons_append,List.idxOf_cons,ih (fun e=>h (List.mem_cons_of_mem _ e)),beq_false_of_ne ha]
  rfl
theorem idx_none {x:List UInt8}:∀ {l:List (List UInt8)},¬ x∈l→l.idxOf x=l.length:=by
 intro l
 induction l with
 | nil=>intro _; simp
 | cons a r ih =>
  intro h
  have ha:¬ a=x:=fun e=>h (by simp [e])
  rw [List.idxOf_cons,ih (fun e=>h (List.mem_cons_of_mem _ e)),beq_false_of_ne ha]
  rfl
theorem numLaw:Keyed Tryz.prog 9:=string_keyed Tryz.underlying9
theorem numZero (w:World):(zeroValue 3).run Tryz.prog w=.ok (.int .i64 0) w:=by kernel_rfl
theorem NumD.nil:NumD [] (.map []):=⟨rfl,fun _=>rfl,fun _ h=>absurd h (by simp)⟩
theorem NumD.push {ns:List (List UInt8)} {D:DataW Unit} (h:NumD ns D) (hT:Tidy D) (s:List UInt8) (hs:ns.contains s=false):NumD (ns++[s]) (D.put (.string s) (.lit (.int .i64 ns.length))):=by
 have hk:WideAt.IsKeyLit (.string s):=by simp [WideAt.IsKeyLit]
 have hnm:¬ s∈ns:=by simpa using hs
 refine ⟨?_,fun x=>?_,fun x hx=>?_⟩
 · rw [size_put hT,h.has,hs,h.size]
   simp
 · by_cases hx:x=s
   · subst hx
     rw [has_put_same hT.isMap hk]
     simp
   · rw [has_put_other (by simpa using hx),h.has]
     simp [hx]
 · by_cases hxs:x=s
   · subst hxs
     rw [atKey_put_same hT.isMap hk,idx_new hnm]
   · have hxm:x∈ns:=by
      rcases List.mem_append.mp hx with h | h
      · exact h
      · exact absurd (by simpa using h) hxs
     rw [atKey_put_other (by simpa using hxs),h.at_ x hxm,idx_mem hxm]
theorem NumAt.below {w w':World} {B:Nat} {ns:List (List UInt8)} (h:NumAt w B ns) (hb:Below w.heap.size w w'):NumAt w' B ns:=by
 obtain ⟨D,⟨es,clock,h1,h2,h3,h4⟩,hN⟩:=h
 exact ⟨D,⟨es,clock,(hb.block _ (heap_lt h1)).trans h1,h2,h3,h4⟩,hN⟩
theorem numAt_made (w:World):NumAt (w.alloc (.map #[] 0)) w.heap.size []:=⟨_,World.ownsMap_made _ _ _ _,NumD.nil⟩
theorem of_any (B:Nat) (ns:List (List UInt8)) (s:List UInt8) (w:World) (h:NumAt w B ns) (hs:s.length≤5000) (hl:ns.length≤1000000) :
 Calls Tryz.prog 174 #[.map (some B),.string ⟨s.toArray⟩] w fun e w'=>e=.returned (.int .i64 (ns.idxOf s))∧NumAt w' B (if ns.contains s then ns else ns++[s])∧w.grownBy w' (some B):=by
 obtain ⟨D,hown,hN⟩:=h
 have hkey:keyOf Tryz.prog 9 (.string ⟨s.toArray⟩)=some (.string s):=by
  have:keyOf Tryz.prog 9 (.string ⟨s.toArray⟩)=some (.string (⟨s.toArray⟩:ByteArray).data.toList):=Go.WideMaps.keyOf_string_mk Tryz.underlying9 (by unfold maxLen; simp [ByteArray.size]; omega)
  simpa using this
 have hT:=hown.tidy numLaw
 have hh:=hN.has s
 cases hc:ns.contains s
 · rw [hc] at hh
   have hsz:=hN.size
   have HP:Hid (NumD (ns++[s]) (D.put (.string s) (.lit (.int .i64 ns.length)))):=hN.push hT s hc
   have hidx:ns.idxOf s=ns.length:=idx_none (by simpa using hc)
   clear hN hT
   have hwl:(Lit.int IntKind.i64 (ns.length:Int)).wf=true:=WalkArith.wf_i64 (by omega)
   go_enter Tryz.func174,Tryz.ntmps174
   go_wp2_with (first
    | (at_lookup; refine wpList_lookup_own_ok_int _ rfl _ _ 208 rfl 9 3 .i64 numLaw Tryz.underlying208 Tryz.underlying3 (numZero _) B ns.length D rfl hown _ _ rfl hkey ?_; intro c hat hwc)
    | (at_len; refine wpList_len_own _ rfl _ 208 rfl 9 3 Tryz.underlying208 _ B ns.length D rfl hown ?_)
    | (at_mapUpdate; refine wpList_mapUpdate_own _ rfl _ _ _ 208 rfl 9 3 numLaw Tryz.underlying208 _ B ns.length _ rfl hown (by unfold maxLen; omega) _ _ _ rfl rfl hkey _ [] (plainElem_int Tryz.underlying3 hwl) ?_; intro w1 hown1 hgrow1))
   go_ret
   exact ⟨rfl,⟨_,by rw [List.length_append]; exact hown1,HP.out⟩,hgrow1⟩
 · rw [hc] at hh
   have hat:=hN.at_ s (by simpa using hc)
   have HN:Hid (NumD ns D):=hN
   clear hN hT
   go_enter Tryz.func174,Tryz.ntmps174
   go_wp2_with (at_lookup; refine wpList_lookup_own_ok_int _ rfl _ _ 208 rfl 9 3 .i64 numLaw Tryz.underlying208 Tryz.underlying3 (numZero _) B ns.length D rfl hown _ _ rfl hkey ?_; intro c hac hwc)
   go_ret
   have hcc:c=(ns.idxOf s:Int):=by
    rw [hat] at hac
    simpa using hac.symm
   subst hcc
   exact ⟨rfl,⟨D,hown,HN.out⟩,grownBy_of_below (Below.refl _ _) _⟩
end Go.Proofs.YthenjegmigeieaaGreat
namespace Go.Proofs.YthenjegmigeieaaGreat
open Go.RowKit
theorem name_check (s:List UInt8):(Tr.check [⟨0,s,[],0,[]⟩]==0)=Tr.isName s:=by
 cases h:Tr.isName s <;> simp [Tr.check,Tr.many,Tr.ruleMany,Tr.litsMany,Tr.ruleOk,Tr.termsOk,Tr.foldOk,Tr.litsOk,h]
theorem scName_any (s:List UInt8) (w:World):Calls Tryz.prog 173 #[.string ⟨s.toArray⟩] w fun e w'=>e=.returned (.bool (Tr.isName s))∧Below w.heap.size w w':=by
 rw [← name_check]
 go_enter Tryz.func173,Tryz.ntmps173
 go_wp2_with fail
 have hV:RulesV (w.alloc (.cells #[.int .i64 0,.string ⟨s.toArray⟩,.slice none 0 0,.int .i64 0,.slice none 0 0] 240)) (.slice (some ⟨w.heap.size,0,none⟩) 1 1) [⟨0,s,[],0,[]⟩]:=by
  have hh:=heap_alloc_new w (.cells #[.int .i64 0,.string ⟨s.toArray⟩,.slice none 0 0,.int .i64 0,.slice none 0 0] 240)
  refine ⟨some ⟨w.heap.size,0,none⟩,1,rfl,.inr ⟨w.heap.size,0,rfl,fun i hi=>?_⟩⟩
  obtain rfl:i=0:=by simpa using hi
  refine ⟨?_,?_,⟨_,?_,⟨none,0,rfl,.inl rfl⟩⟩,?_,_,?_,⟨none,0,rfl,.inl rfl⟩⟩ <;> (rw [Lib.cell_of_heap hh]; rfl)
 refine Calls.mono (Check_any _ _ _ hV) ?_
 rintro e w1 ⟨rfl,hb1⟩
 have hb0:Below w.heap.size w (w.alloc (.cells #[.int .i64 0,.string ⟨s.toArray⟩,.slice none 0 0,.int .i64 0,.slice none 0 0] 240)):=(Below.refl _ _).alloc (Nat.le_refl _) _
 go_wp2_with fail
 go_ret
 exact ⟨rfl,hb0.trans (hb1.mono hb0.size)⟩
structure RB (w:World) (o1 o2:Obj) (wr:World):Prop where
 bel:Below w.heap.size w wr
 b1:wr.heap[w.heap.size]?=some o1
 b2:wr.heap[w.heap.size+1]?=some o2
theorem RB.below {w wr w2:World} {o1 o2:Obj} (h:RB w o1 o2 wr) (hb:Below wr.heap.size wr w2):RB w o1 o2 w2 :=
 ⟨h.bel.trans (hb.mono h.bel.size),(hb.block _ (heap_lt h.b1)).trans h.b1,(hb.block _ (heap_lt h.b2)).trans h.b2⟩
theorem RB.start (w:World) (o1 o2:Obj):RB w o1 o2 ((w.alloc o1).alloc o2):=⟨below_two w _ _,(two_blocks (Below.refl _ _)).1,(two_blocks (Below.refl _ _)).2⟩
theorem RB.drew {w wr:World} {o1 o2:Obj} (h:RB w o1 o2 wr):RB w o1 o2 wr.drew:=⟨h.bel.drew,h.b1,h.b2⟩
theorem first_zero {α:Type} {f:α→Int}:∀ {l:List α},Sc.first f l=0→∀ x,x∈l→f x=0:=by
 intro l
 induction l with
 | nil=>exact fun _ x hx=>absurd hx (by simp)
 | cons a r ih =>
  intro h x hx
  rw [Sc.first] at h
  split at h
  · rename_i h0
    rcases List.mem_cons.mp hx with rfl | hx
    · exact h0
    · exact ih h x hx
  · rename_i h0
    exact absurd h h0
theorem litD_mem {l:List Sc.Lit} {i:Nat} (h:i<l.length):Sc.litD l i∈l:=by
 unfold Sc.litD
 rw [List.getD_eq_getElem?_getD,List.getElem?_eq_getElem h]
 exact List.getElem_mem h
theorem thn_both {a b:Int} (h:Sc.thn a b=0):a=0∧b=0:=by
 unfold Sc.thn at h
 split at h
 · exact ⟨by assumption,h⟩
 · rename_i h0
   exact absurd h h0
theorem lit_good {ar:List Int} {vars:Int} {x:Sc.Lit} (h:Sc.litAll ar vars x=0) (h0:0≤vars) (hF:LitFit x):LitGood vars.toNat x:=by
 obtain ⟨h1,h2⟩:=thn_both h
 refine ⟨fun h4=>?_,fun t ht=>?_,hF⟩
 · rw [Sc.litErr,if_neg (by rw [h4]; decide),if_neg (by rw [h4]; decide),if_pos h4] at h1
   split at h1
   · split at h1
     · exact absurd h1 (by decide)
     · rename_i hn
       exact Classical.byContradiction fun hne=>hn (.inr hne)
   · exact absurd h1 (by decide)
 · have:=first_zero h2 t ht
   unfold Sc.termErr Tr.between at this
   split at this
   · rename_i hb
     simp at hb
     omega
   · exact absurd this (by decide)
theorem checkRule_any (ar:List Int) (va vn vr:Value) (r:Sc.Rule) (vt vb:Value) (w:World) (hA:IntsV w va ar) (hT:PTermsV w vt r.terms) (hL:PLitsV w vb r.body) (hF:RuleFit r) :
 Calls Tryz.prog 175 #[progVal va vn vr,pruleVal r vt vb] w fun e w'=>e=finE (Sc.ruleErr ar r)∧Below w.heap.size w w':=by
 obtain ⟨ao,cap,rfl,hA⟩:=hA
 obtain ⟨pred,ts,fold,body,vars⟩:=r
 have HT:Hid (PTermsV w vt ts):=hT
 have HL:Hid (PLitsV w vb body):=hL
 have HA:Hid (IntsV w (.slice ao ar.length cap) ar):=⟨ao,cap,rfl,hA⟩
 have HFT:Hid (ts.length≤9223372036854775807):=hF.1
 have HFB:Hid (∀ i,i<body.length→LitFit (Sc.litD body i)):=hF.2.2
 obtain ⟨at_,ct,rfl,_,_⟩:=hT
 obtain ⟨ab,cb,rfl,hLA⟩:=hL
 have hLA:PLitsAt w ab body:=hLA
 simp only at HT HL
 clear hF
 have hR:=RB.start w (.cells #[.slice ao ar.length cap,vn,vr] 26) (.cells #[.int .i64 pred,.slice at_ ts.length ct,.int .i64 fold,.slice ab body.length cb,.int .i64 vars] 40)
 have HE0:Hid (Sc.ruleErr ar ⟨pred,ts,fold,body,vars⟩=if Sc.isPred ar pred then
  Sc.thn (if (ts.length:Int)≠Sc.intD ar pred.toNat then 1 else 0) (
  Sc.thn (if Tr.between vars 0 8 then 0 else 3) (
  Sc.thn (Sc.termsErr vars ts) (
  Sc.thn (if Tr.between fold 0 4 then 0 else 7) (
  Sc.thn (if fold≠0∧(ts.length=0∨body.length=0) then 1 else 0) (
  Sc.thn (if 4<body.length then 2 else 0) (
  Sc.thn (Sc.first (Sc.litAll ar vars) body) (if Sc.safe ⟨pred,ts,fold,body,vars⟩ then 0 else 4)))))))
 else 5):=rfl
 cases g1:Sc.isPred ar pred
 · have HV:Hid (Sc.ruleErr ar ⟨pred,ts,fold,body,vars⟩=5):=by show _=_; rw [HE0.out,g1]; rfl
   clear HE0 hLA HT HL HA HFT HFB
   go_enter Tryz.func175,Tryz.ntmps175
   go_wp2_with fail
   refine (isPred_any ar ao cap vn vr pred _).mono ?_
   rintro e w2 ⟨he,hb2⟩
   rw [g1] at he
   subst he
   have hR:=hR.below hb2
   go_wp2_with fail
   refine (refuse_yes 5 _).mono ?_
   rintro e w1 ⟨rfl,hb1⟩
   go_wp2_with fail
   exact ⟨rfl,by rw [HV.out]; rfl,hR.bel.trans (hb1.mono hR.bel.size)⟩
 · obtain ⟨k,rfl,hk⟩:=nat_of g1
   obtain ⟨b,off,rfl,hc⟩:=ints_at hA k hk
   have HC:Hid (∀ y,Below w.heap.size w y→y.cell? ⟨b,off+k,none⟩=some (.int .i64 (Sc.intD ar k))):=fun y hy=>cell_below hy hc
   clear hc hA
   rw [g1,if_pos rfl,Int.toNat_natCast] at HE0
   go_enter Tryz.func175,Tryz.ntmps175
   go_wp2_with fail
   refine (isPred_any ar _ cap vn vr k _).mono ?_
   rintro e w2 ⟨he,hb2⟩
   rw [g1] at he
   subst he
   have hR:=hR.below hb2
   have hq:=HC.out _ hR.bel
   clear hb2 HC
   go_wp2_with fail
   refine (refuse_no 5 _).mono ?_
   rintro e w1 ⟨rfl,rfl⟩
   have c1:w1.cell? ⟨w.heap.size,0,none⟩=some (.slice (some ⟨b,off,none⟩) ar.length cap):=by rw [Lib.cell_of_heap hR.b1]; rfl
   have d0:w1.cell? ⟨w.heap.size+1,0,none⟩=some (.int .i64 k):=by rw [Lib.cell_of_heap hR.b2]; rfl
   have d1:w1.cell? ⟨w.heap.size+1,1,none⟩=some (.slice at_ ts.length ct):=by rw [Lib.cell_of_heap hR.b2]; rfl
   have d2:w1.cell? ⟨w.heap.size+1,2,none⟩=some (.int .i64 fold):=by rw [Lib.cell_of_heap hR.b2]; rfl
   have d3:w1.cell? ⟨w.heap.size+1,3,none⟩=some (.slice ab body.length cb):=by rw [Lib.cell_of_heap hR.b2]; rfl
   have d4:w1.cell? ⟨w.heap.size+1,4,none⟩=some (.int .i64 vars):=by rw [Lib.cell_of_heap hR.b2]; rfl
   go_upto_region 2 with fail
   cases g2:((ts.length:Int) != Sc.intD ar k)
   · have h2:(ts.length:Int)=Sc.intD ar k:=by simpa using g2
     rw [if_neg (by simp [h2]),Sc.thn_zero] at HE0
     go_region_held3 (fun y=>y.cell? ⟨w.heap.size,0,none⟩=some (.slice (some ⟨b,off,none⟩) ar.length cap)∧y.cell? ⟨w.heap.size+1,0,none⟩=some (.int .i64 k)∧y.cell? ⟨w.heap.size+1,1,none⟩=some (.slice at_ ts.length ct)∧y.cell? ⟨b,off+k,none⟩=some (.int .i64 (Sc.intD ar k))) (go_keep) ((go_at_call 129; refine Calls.mono (refuse_no 1 _) ?_; rintro e y ⟨rfl,rfl⟩))
     have hR:=hR.drew
     clear c1 d0 d1 d2 d3 d4 h2 hq
     generalize w1.drew=wd at *
     have c1:wd.cell? ⟨w.heap.size,0,none⟩=some (.slice (some ⟨b,off,none⟩) ar.length cap):=by rw [Lib.cell_of_heap hR.b1]; rfl
     have d0:wd.cell? ⟨w.heap.size+1,0,none⟩=some (.int .i64 k):=by rw [Lib.cell_of_heap hR.b2]; rfl
     have d1:wd.cell? ⟨w.heap.size+1,1,none⟩=some (.slice at_ ts.length ct):=by rw [Lib.cell_of_heap hR.b2]; rfl
     have d2:wd.cell? ⟨w.heap.size+1,2,none⟩=some (.int .i64 fold):=by rw [Lib.cell_of_heap hR.b2]; rfl
     have d3:wd.cell? ⟨w.heap.size+1,3,none⟩=some (.slice ab body.length cb):=by rw [Lib.cell_of_heap hR.b2]; rfl
     have d4:wd.cell? ⟨w.heap.size+1,4,none⟩=some (.int .i64 vars):=by rw [Lib.cell_of_heap hR.b2]; rfl
     by_cases h3:vars<0
     · have HV:Hid (Sc.ruleErr ar ⟨k,ts,fold,body,vars⟩=3):=by show _=_; rw [HE0.out,if_neg (by simp [Tr.between]; omega)]; rfl
       have g3:decide (vars<0)=true:=decide_eq_true h3
       clear HE0
       go_wp2_with fail
       refine (refuse_yes 3 _).mono ?_
       rintro e w1 ⟨rfl,hb1⟩
       go_wp2_with fail
       exact ⟨rfl,by rw [HV.out]; rfl,hR.bel.trans (hb1.mono hR.bel.size)⟩
     have g3:decide (vars<0)=false:=decide_eq_false h3
     by_cases h3b:8<vars
     · have HV:Hid (Sc.ruleErr ar ⟨k,ts,fold,body,vars⟩=3):=by show _=_; rw [HE0.out,if_neg (by simp [Tr.between]; omega)]; rfl
       have g3b:decide (8<vars)=true:=decide_eq_true h3b
       clear HE0
       go_wp2_with fail
       refine (refuse_yes 3 _).mono ?_
       rintro e w1 ⟨rfl,hb1⟩
       go_wp2_with fail
       exact ⟨rfl,by rw [HV.out]; rfl,hR.bel.trans (hb1.mono hR.bel.size)⟩
     have g3b:decide (8<vars)=false:=decide_eq_false h3b
     rw [if_pos (show Tr.between vars 0 8=true by simp [Tr.between]; omega),Sc.thn_zero] at HE0
     go_wp2_with fail
     refine (refuse_no 3 _).mono ?_
     rintro e w1 ⟨rfl,rfl⟩
     go_wp2_with fail
     refine Calls.mono (checkTerms_any ts vars _ _ HFT.out (ptermsV_below HT.out hR.bel)) ?_
     rintro e w3 ⟨he,hb3⟩
     by_cases h4:Sc.termsErr vars ts=0
     rotate_left
     · have HV:Hid (Sc.ruleErr ar ⟨k,ts,fold,body,vars⟩=Sc.termsErr vars ts):=by show _=_; rw [HE0.out,Sc.thn_ne _ h4]
       rw [finE_ne h4] at he
       subst he
       clear HE0
       go_wp2_with fail
       exact ⟨rfl,by rw [HV.out,finE_ne h4],hR.bel.trans (hb3.mono hR.bel.size)⟩
     rw [h4,finE_zero] at he
     subst he
     rw [h4,Sc.thn_zero] at HE0
     have hR:=hR.below hb3
     clear c1 d0 d1 d2 d3 d4 hb3 h4 HFT
     have c1:w3.cell? ⟨w.heap.size,0,none⟩=some (.slice (some ⟨b,off,none⟩) ar.length cap):=by rw [Lib.cell_of_heap hR.b1]; rfl
     have d0:w3.cell? ⟨w.heap.size+1,0,none⟩=some (.int .i64 k):=by rw [Lib.cell_of_heap hR.b2]; rfl
     have d1:w3.cell? ⟨w.heap.size+1,1,none⟩=some (.slice at_ ts.length ct):=by rw [Lib.cell_of_heap hR.b2]; rfl
     have d2:w3.cell? ⟨w.heap.size+1,2,none⟩=some (.int .i64 fold):=by rw [Lib.cell_of_heap hR.b2]; rfl
     have d3:w3.cell? ⟨w.heap.size+1,3,none⟩=some (.slice ab body.length cb):=by rw [Lib.cell_of_heap hR.b2]; rfl
     have d4:w3.cell? ⟨w.heap.size+1,4,none⟩=some (.int .i64 vars):=by rw [Lib.cell_of_heap hR.b2]; rfl
     by_cases h5:fold<0
     · have HV:Hid (Sc.ruleErr ar ⟨k,ts,fold,body,vars⟩=7):=by show _=_; rw [HE0.out,if_neg (by simp [Tr.between]; omega)]; rfl
       have g5:decide (fold<0)=true:=decide_eq_true h5
       clear HE0
       go_wp2_with fail
       refine (refuse_yes 7 _).mono ?_
       rintro e w1 ⟨rfl,hb1⟩
       go_wp2_with fail
       exact ⟨rfl,by rw [HV.out]; rfl,hR.bel.trans (hb1.mono hR.bel.size)⟩
     have g5:decide (fold<0)=false:=decide_eq_false h5
     by_cases h5b:4<fold
     · have HV:Hid (Sc.ruleErr ar ⟨k,ts,fold,body,vars⟩=7):=by show _=_; rw [HE0.out,if_neg (by simp [Tr.between]; omega)]; rfl
       have g5b:decide (4<fold)=true:=decide_eq_true h5b
       clear HE0
       go_wp2_with fail
       refine (refuse_yes 7 _).mono ?_
       rintro e w1 ⟨rfl,hb1⟩
       go_wp2_with fail
       exact ⟨rfl,by rw [HV.out]; rfl,hR.bel.trans (hb1.mono hR.bel.size)⟩
     have g5b:decide (4<fold)=false:=decide_eq_false h5b
     rw [if_pos (show Tr.between fold 0 4=true by simp [Tr.between]; omega),Sc.thn_zero] at HE0
     go_wp2_with fail
     refine (refuse_no 7 _).mono ?_
     rintro e w1 ⟨rfl,rfl⟩
     go_upto_region 6 with fail
     by_cases h6:fold≠0∧(ts.length=0∨body.length=0)
     · have HV:Hid (Sc.ruleErr ar ⟨k,ts,fold,body,vars⟩=1):=by show _=_; rw [HE0.out,if_pos h6]; rfl
       clear HE0
       have g6:(fold != 0)=true:=by simpa using h6.1
       by_cases h7:ts.length=0
       · have g7:((ts.length:Int)==0)=true:=by simp [h7]
         clear h6 h7
         go_wp2_with fail
         refine (refuse_yes 1 _).mono ?_
         rintro e w1 ⟨rfl,hb1⟩
         go_wp2_with fail
         exact ⟨rfl,by rw [HV.out]; rfl,hR.bel.trans (hb1.mono hR.bel.size)⟩
       · have g7:((ts.length:Int)==0)=false:=by simp; exact fun e=>h7 (by rw [e]; rfl)
         have h8:body.length=0:=h6.2.resolve_left h7
         have g8:((body.length:Int)==0)=true:=by simp [h8]
         clear h6 h7 h8
         go_wp2_with fail
         refine (refuse_yes 1 _).mono ?_
         rintro e w1 ⟨rfl,hb1⟩
         go_wp2_with fail
         exact ⟨rfl,by rw [HV.out]; rfl,hR.bel.trans (hb1.mono hR.bel.size)⟩
     rw [if_neg h6,Sc.thn_zero] at HE0
     go_cut [] (fun wx=>wx=w1)
     case first =>
      cases g6:(fold != 0)
      · clear h6
        go_wp2_with fail
        refine (refuse_no 1 _).mono ?_
        rintro e w5 ⟨rfl,rfl⟩
        go_wp2_with fail
        go_meet
        rfl
      · have h9:¬ (ts.length=0∨body.length=0):=fun h=>h6 ⟨by simpa using g6,h⟩
        have g7:((ts.length:Int)==0)=false:=by simp; exact fun e=>h9 (.inl (by rw [e]; rfl))
        have g8:((body.length:Int)==0)=false:=by simp; exact fun e=>h9 (.inr (by rw [e]; rfl))
        clear h6 h9
        go_wp2_with fail
        refine (refuse_no 1 _).mono ?_
        rintro e w5 ⟨rfl,rfl⟩
        go_wp2_with fail
        go_meet
        rfl
     case rest =>
      subst hcut
      clear h6
      by_cases h8:4<body.length
      · have HV:Hid (Sc.ruleErr ar ⟨k,ts,fold,body,vars⟩=2):=by show _=_; rw [HE0.out,if_pos h8]; rfl
        have g8:decide (4<body.length)=true:=decide_eq_true h8
        have g8':decide ((4:Int)<(body.length:Int))=true:=decide_eq_true (by omega)
        clear HE0
        go_wp2_with fail
        refine (refuse_yes 2 _).mono ?_
        rintro e w1 ⟨rfl,hb1⟩
        go_wp2_with fail
        exact ⟨rfl,by rw [HV.out]; rfl,hR.bel.trans (hb1.mono hR.bel.size)⟩
      have g8:decide (4<body.length)=false:=decide_eq_false h8
      have g8':decide ((4:Int)<(body.length:Int))=false:=decide_eq_false (by omega)
      rw [if_neg h8,Sc.thn_zero] at HE0
      go_wp2_with fail
      refine (refuse_no 2 _).mono ?_
      rintro e w1 ⟨rfl,rfl⟩
      go_wp2_with fail
      clear c1 d0 d1 d2 d3 d4
      go_loopw [70] (fun i wr=>∃ j:Nat,j≤body.length∧i=.int .i64 j∧RB w (.cells #[.slice (some ⟨b,off,none⟩) ar.length cap,vn,vr] 26) (.cells #[.int .i64 k,.slice at_ ts.length ct,.int .i64 fold,.slice ab body.length cb,.int .i64 vars] 40) wr∧Sc.first (Sc.litAll ar vars) body=Sc.first (Sc.litAll ar vars) (body.drop j)) (fun i _=>body.length - (intOf i).toNat)
      case atStart=>exact ⟨0,Nat.zero_le _,rfl,hR,rfl⟩
      case round =>
       clear hR
       obtain ⟨j,hj,rfl,hR,hfj⟩:=hrel
       have HFJ:Hid _:=hfj
       clear hfj
       have c1:wr.cell? ⟨w.heap.size,0,none⟩=some (.slice (some ⟨b,off,none⟩) ar.length cap):=by rw [Lib.cell_of_heap hR.b1]; rfl
       have d0:wr.cell? ⟨w.heap.size+1,0,none⟩=some (.int .i64 k):=by rw [Lib.cell_of_heap hR.b2]; rfl
       have d1:wr.cell? ⟨w.heap.size+1,1,none⟩=some (.slice at_ ts.length ct):=by rw [Lib.cell_of_heap hR.b2]; rfl
       have d2:wr.cell? ⟨w.heap.size+1,2,none⟩=some (.int .i64 fold):=by rw [Lib.cell_of_heap hR.b2]; rfl
       have d3:wr.cell? ⟨w.heap.size+1,3,none⟩=some (.slice ab body.length cb):=by rw [Lib.cell_of_heap hR.b2]; rfl
       have d4:wr.cell? ⟨w.heap.size+1,4,none⟩=some (.int .i64 vars):=by rw [Lib.cell_of_heap hR.b2]; rfl
       have c2:wr.cell? ⟨w.heap.size,1,none⟩=some vn:=by rw [Lib.cell_of_heap hR.b1]; rfl
       have c3:wr.cell? ⟨w.heap.size,2,none⟩=some vr:=by rw [Lib.cell_of_heap hR.b1]; rfl
       by_cases hjl:j<body.length
       · obtain ⟨b3,off3,rfl,p0,p1,p2,v,p3,hTv⟩:=plits_at hLA j hjl
         have HTV:Hid (PTermsV w v (Sc.litD body j).terms):=hTv
         obtain ⟨av,cv,rfl,_,_⟩:=hTv
         have q0:=cell_below hR.bel p0
         have q1:=cell_below hR.bel p1
         have q2:=cell_below hR.bel p2
         have q3:=cell_below hR.bel p3
         have HFD:Hid (Sc.first (Sc.litAll ar vars) body=Sc.thn (Sc.litAll ar vars (Sc.litD body j)) (Sc.first (Sc.litAll ar vars) (body.drop (j+1)))):=HFJ.out.trans (Sc.first_drop _ _ _ j hjl)
         have HFI:Hid (LitFit (Sc.litD body j)):=HFB.out j hjl
         have hb1:Below wr.heap.size wr (wr.alloc (.cells #[.int .i64 (Sc.litD body j).kind,.int .i64 (Sc.litD body j).op,.int .i64 (Sc.litD body j).pred,.slice av (Sc.litD body j).terms.length cv] 49)):=(Below.refl _ _).alloc (Nat.le_refl _) _
         have hlb:=heap_alloc_new wr (.cells #[.int .i64 (Sc.litD body j).kind,.int .i64 (Sc.litD body j).op,.int .i64 (Sc.litD body j).pred,.slice av (Sc.litD body j).terms.length cv] 49)
         have hR1:=hR.below hb1
         clear p0 p1 p2 p3 hb1 HFJ hLA HL
         generalize hx:Sc.litD body j=x at *
         clear hx c1 c2 c3
         have c1:(wr.alloc (.cells #[.int .i64 x.kind,.int .i64 x.op,.int .i64 x.pred,.slice av x.terms.length cv] 49)).cell? ⟨w.heap.size,0,none⟩=some (.slice (some ⟨b,off,none⟩) ar.length cap):=by rw [Lib.cell_of_heap hR1.b1]; rfl
         have c2:(wr.alloc (.cells #[.int .i64 x.kind,.int .i64 x.op,.int .i64 x.pred,.slice av x.terms.length cv] 49)).cell? ⟨w.heap.size,1,none⟩=some vn:=by rw [Lib.cell_of_heap hR1.b1]; rfl
         have c3:(wr.alloc (.cells #[.int .i64 x.kind,.int .i64 x.op,.int .i64 x.pred,.slice av x.terms.length cv] 49)).cell? ⟨w.heap.size,2,none⟩=some vr:=by rw [Lib.cell_of_heap hR1.b1]; rfl
         go_wp2_with fail
         refine Calls.mono (checkLit_any ar _ vn vr x _ _ (intsV_below HA.out hR1.bel) ⟨_,_,rfl⟩) ?_
         rintro e w2 ⟨he,hb2⟩
         by_cases h9:Sc.litErr ar x=0
         rotate_left
         · have HV:Hid (Sc.ruleErr ar ⟨k,ts,fold,body,vars⟩=Sc.litErr ar x):=by show _=_; rw [HE0.out,HFD.out,Sc.litAll,Sc.thn_ne _ h9,Sc.thn_ne _ h9,Sc.thn_ne _ h9]
           rw [finE_ne h9] at he
           subst he
           clear HE0 HFD
           go_wp2_with fail
           exact ⟨rfl,by rw [HV.out,finE_ne h9],hR1.bel.trans (hb2.mono hR1.bel.size)⟩
         rw [h9,finE_zero] at he
         subst he
         have hR2:=hR1.below hb2
         have hlb2:=(hb2.block _ (heap_lt hlb)).trans hlb
         have l3:w2.cell? ⟨wr.heap.size,3,none⟩=some (.slice av x.terms.length cv):=by rw [Lib.cell_of_heap hlb2]; rfl
         have d4':w2.cell? ⟨w.heap.size+1,4,none⟩=some (.int .i64 vars):=by rw [Lib.cell_of_heap hR2.b2]; rfl
         clear hlb hlb2 hb2 hR1 q0 q1 q2 q3 c1 d0 d1 d2 d3 d4 c2 c3
         go_wp2_with fail
         refine Calls.mono (checkTerms_any x.terms vars _ _ HFI.out (ptermsV_below HTV.out hR2.bel)) ?_
         rintro e w3 ⟨he,hb3⟩
         by_cases h10:Sc.termsErr vars x.terms=0
         rotate_left
         · have HV:Hid (Sc.ruleErr ar ⟨k,ts,fold,body,vars⟩=Sc.termsErr vars x.terms):=by show _=_; rw [HE0.out,HFD.out,Sc.litAll,h9,Sc.thn_zero,Sc.thn_ne _ h10,Sc.thn_ne _ h10]
           rw [finE_ne h10] at he
           subst he
           clear HE0 HFD
           go_wp2_with fail
           exact ⟨rfl,by rw [HV.out,finE_ne h10],hR2.bel.trans (hb3.mono hR2.bel.size)⟩
         rw [h10,finE_zero] at he
         subst he
         have hR3:=hR2.below hb3
         have HV:Hid (Sc.first (Sc.litAll ar vars) body=Sc.first (Sc.litAll ar vars) (body.drop (j+1))):=by show _=_; rw [HFD.out,Sc.litAll,h9,Sc.thn_zero,h10,Sc.thn_zero]
         clear HFD HTV HFI hb3 h9 h10 l3 d4' hR2
         go_wp2_with fail
         go_roundw
         case rel=>exact ⟨j+1,by omega,by go_num,hR3,HV.out⟩
         case measure=>simp [intOf]; omega
       · have hz:Sc.first (Sc.litAll ar vars) body=0:=by rw [HFJ.out,List.drop_of_length_le (by omega)]; rfl
         have hgood:RuleGood ⟨k,ts,fold,body,vars⟩:=⟨by show 0≤vars; omega,by show vars≤8; omega,by show body.length≤4; omega,fun i hi=>lit_good (first_zero hz _ (litD_mem hi)) (by show 0≤vars; omega) (HFB.out i hi)⟩
         rw [hz,Sc.thn_zero] at HE0
         clear HFJ hz hLA
         go_wp2_with fail
         refine Calls.mono (isSafe_any ⟨k,ts,fold,body,vars⟩ _ _ _ (plitsV_below HL.out hR.bel) hgood) ?_
         rintro e w2 ⟨he,hb2⟩
         have hR:=hR.below hb2
         cases h11:Sc.safe ⟨k,ts,fold,body,vars⟩
         · rw [h11] at he HE0
           subst he
           have HV:Hid (Sc.ruleErr ar ⟨k,ts,fold,body,vars⟩=4):=by show _=_; rw [HE0.out]; rfl
           clear HE0 hgood h11
           go_wp2_with fail
           refine (refuse_yes 4 _).mono ?_
           rintro e w1 ⟨rfl,hb1⟩
           go_wp2_with fail
           exact ⟨rfl,by rw [HV.out]; rfl,hR.bel.trans (hb1.mono hR.bel.size)⟩
         · rw [h11] at he HE0
           subst he
           have HV:Hid (Sc.ruleErr ar ⟨k,ts,fold,body,vars⟩=0):=by show _=_; rw [HE0.out]; rfl
           clear HE0 hgood h11
           go_wp2_with fail
           refine (refuse_no 4 _).mono ?_
           rintro e w1 ⟨rfl,rfl⟩
           go_wp2_with fail
           exact ⟨rfl,.tuple #[],by simp [results,Tryz.results175],by rw [HV.out]; rfl,hR.bel⟩
   · have h2:¬ (ts.length:Int)=Sc.intD ar k:=by simpa using g2
     have HV:Hid (Sc.ruleErr ar ⟨k,ts,fold,body,vars⟩=1):=by show _=_; rw [HE0.out,if_pos h2]; rfl
     have hb02:=hR.bel
     clear HE0 h2
     refine wp_region_held_drew (S:=(fun y=>y.cell? ⟨w.heap.size,0,none⟩=some (.slice (some ⟨b,off,none⟩) ar.length cap)∧y.cell? ⟨w.heap.size+1,0,none⟩=some (.int .i64 k)∧y.cell? ⟨w.heap.size+1,1,none⟩=some (.slice at_ ts.length ct)∧y.cell? ⟨b,off+k,none⟩=some (.int .i64 (Sc.intD ar k)))) (by kernel_rfl) (by go_keep) (fun hHeld=>?_)
     refine wpAnyH_take (i:=0) (v:=?v0x0) rfl (by kernel_rfl) (by kernel_rfl) (by kernel_rfl) (fun _ _ _ h=>h) (Or.inl ⟨by rfl,?hy0x0⟩) (by assumption) ?_
     case hy0x0 =>
      intro w hSw
      (try dsimp only at hSw)
      go_simp
      try with_reducible rfl
     try simp only [Act.put,List.setIfInBounds_toArray]
     refine wpAnyH_take (i:=1) (v:=?v1x1) rfl (by kernel_rfl) (by kernel_rfl) (by kernel_rfl) (fun _ _ _ h=>h) (Or.inl ⟨by rfl,?hy1x1⟩) (by assumption) ?_
     case hy1x1 =>
      intro w hSw
      (try dsimp only at hSw)
      go_simp
      try with_reducible rfl
     try simp only [Act.put]
     refine wpAnyH_take (i:=2) (v:=?v2x2) rfl (by kernel_rfl) (by kernel_rfl) (by kernel_rfl) (fun _ _ _ h=>h) (Or.inl ⟨by rfl,?hy2x2⟩) (by assumption) ?_
     case hy2x2 =>
      intro w hSw
      (try dsimp only at hSw)
      go_simp
      try with_reducible rfl
     try simp only [Act.put]
     refine wpAnyH_take (i:=3) (v:=?v3x3) rfl (by kernel_rfl) (by kernel_rfl) (by kernel_rfl) (fun _ _ _ h=>h) (Or.inl ⟨by rfl,?hy3x3⟩) (by assumption) ?_
     case hy3x3 =>
      intro w hSw
      (try dsimp only at hSw)
      go_simp
      try with_reducible rfl
     try simp only [Act.put]
     refine wpAnyH_take (i:=4) (v:=?v4x4) rfl (by kernel_rfl) (by kernel_rfl) (by kernel_rfl) (fun _ _ _ h=>h) (Or.inl ⟨by rfl,?hy4x4⟩) (by assumption) ?_
     case hy4x4 =>
      intro w hSw
      (try dsimp only at hSw)
      go_simp
      try with_reducible rfl
     try simp only [Act.put]
     refine wpAnyH_take (i:=5) (v:=?v5x5) rfl (by kernel_rfl) (by kernel_rfl) (by kernel_rfl) (fun _ _ _ h=>h) (Or.inl ⟨by rfl,?hy5x5⟩) (by assumption) ?_
     case hy5x5 =>
      intro w hSw
      (try dsimp only at hSw)
      go_simp
      try with_reducible rfl
     try simp only [Act.put]
     refine wpAnyH_take (i:=6) (v:=?v6x6) rfl (by kernel_rfl) (by kernel_rfl) (by kernel_rfl) (fun _ _ _ h=>h) (Or.inl ⟨by rfl,?hy6x6⟩) (by assumption) ?_
     case hy6x6 =>
      intro w hSw
      (try dsimp only at hSw)
      go_simp
      try with_reducible rfl
     try simp only [Act.put]
     refine wpAnyH_take (i:=7) (v:=?v7x7) rfl (by kernel_rfl) (by kernel_rfl) (by kernel_rfl) (fun _ _ _ h=>h) (Or.inl ⟨by rfl,?hy7x7⟩) (by assumption) ?_
     case hy7x7 =>
      intro w hSw
      (try dsimp only at hSw)
      go_simp
      try with_reducible rfl
     try simp only [Act.put]
     refine wpAnyH_take (i:=8) (v:=?v8x8) rfl (by kernel_rfl) (by kernel_rfl) (by kernel_rfl) (fun _ _ _ h=>h) (Or.inl ⟨by rfl,?hy8x8⟩) (by assumption) ?_
     case hy8x8 =>
      intro w hSw
      (try dsimp only at hSw)
      go_simp
      try with_reducible rfl
     try simp only [Act.put]
     refine wpAnyH_take (i:=9) (v:=?v9x9) rfl (by kernel_rfl) (by kernel_rfl) (by kernel_rfl) (fun _ _ _ h=>h) (Or.inl ⟨by rfl,?hy9x9⟩) (by assumption) ?_
     case hy9x9 =>
      intro w hSw
      (try dsimp only at hSw)
      go_simp
      try with_reducible rfl
     try simp only [Act.put]
     refine wpAnyH_ready (rs:=[10]) (by kernel_rfl) (by simp) ?_
     refine AllReadyH.cons rfl (fun K hK=>?_) AllReadyH.nil
     go_simp
     go_at_call 129
     refine Calls.mono (refuse_yes 1 _) ?_
     rintro e y2 ⟨rfl,hb4⟩
     exact ⟨rfl,by rw [HV.out]; rfl,hb02.drew.trans (hb4.mono hb02.size)⟩
structure CB (w:World) (o:Obj) (M:Nat) (ns:List (List UInt8)) (wr:World):Prop where
 bel:Below w.heap.size w wr
 box:wr.heap[w.heap.size]?=some o
 num:NumAt wr M ns
 lt:w.heap.size<M
theorem CB.below {w wr w2:World} {o:Obj} {M:Nat} {ns:List (List UInt8)} (h:CB w o M ns wr) (hb:Below wr.heap.size wr w2):CB w o M ns w2 :=
 ⟨h.bel.trans (hb.mono h.bel.size),(hb.block _ (heap_lt h.box)).trans h.box,h.num.below hb,h.lt⟩
theorem CB.of {w wr w2:World} {o:Obj} {M:Nat} {ns ns':List (List UInt8)} (h:CB w o M ns wr) (hg:wr.grownBy w2 (some M)) (hn:NumAt w2 M ns'):CB w o M ns' w2:=by
 have hlt:=h.lt
 have hs:=h.bel.size
 exact ⟨⟨hg.os.trans h.bel.os,hg.tape.trans h.bel.tape,hg.output.trans h.bel.output,Nat.le_trans hs hg.size,fun k hk=>(hg.block k (Nat.lt_of_lt_of_le hk hs) (fun e=>by injection e; omega)).trans (h.bel.block k hk)⟩,
  (hg.block _ (heap_lt h.box) (fun e=>by injection e; omega)).trans h.box,hn,hlt⟩
theorem CB.start (w:World) (o:Obj):CB w o (w.heap.size+1) [] ((w.alloc o).alloc (.map #[] 0)):=by
 have h:=two_blocks (w:=w) (o1:=o) (o2:=.map #[] 0) (Below.refl _ _)
 have hn:=numAt_made (w.alloc o)
 rw [show (w.alloc o).heap.size=w.heap.size+1 by simp] at hn
 exact ⟨below_two w _ _,h.1,hn,by omega⟩
theorem strs_at {w:World} {ao:Option Addr} {l:List (List UInt8)} (h:StrsAt w ao l) (n:Nat) (hn:n<l.length):∃ b off,ao=some ⟨b,off,none⟩∧w.cell? ⟨b,off+n,none⟩=some (.string ⟨(Sc.strD l n).toArray⟩):=by
 rcases h with h | ⟨b,off,ha,hc⟩
 · rw [h] at hn; exact absurd hn (by simp)
 · exact ⟨b,off,ha,hc n hn⟩
theorem prules_at {w:World} {ao:Option Addr} {l:List Sc.Rule} (h:PRulesAt w ao l) (n:Nat) (hn:n<l.length):∃ b off,ao=some ⟨b,off,none⟩∧PRuleIn w b (off+n * 5) (Sc.ruleD l n):=by
 rcases h with h | ⟨b,off,ha,hc⟩
 · rw [h] at hn; exact absurd hn (by simp)
 · exact ⟨b,off,ha,hc n hn⟩
theorem pred_drop (ar:List Int) (ns:List (List UInt8)) (j:Nat) (h:j<ns.length):Sc.first (Sc.predErr ar ns) ((List.range ns.length).drop j)=Sc.thn (Sc.predErr ar ns j) (Sc.first (Sc.predErr ar ns) ((List.range ns.length).drop (j+1))):=by
 rw [Sc.first_drop _ 0 _ j (by simpa using h)]
 congr 2
 simp [h]
theorem take_step (ns:List (List UInt8)) (j:Nat) (h:j<ns.length):ns.take j++[Sc.strD ns j]=ns.take (j+1):=by
 rw [List.take_succ_eq_append_getElem h]
 simp [Sc.strD,List.getD_eq_getElem?_getD,h]
theorem idx_lt {x:List UInt8} {l:List (List UInt8)} (h:l.contains x=true):l.idxOf x<l.length:=List.idxOf_lt_length_iff.mpr (by simpa using h)
theorem scCheck_any (p:Sc.Prog) (va vn vr:Value) (w:World) (hP:ProgV w va vn vr p) (hF:ProgFit p) :
 Calls Tryz.prog 128 #[progVal va vn vr] w fun e w'=>e=finE (Sc.check p)∧Below w.heap.size w w':=by
 obtain ⟨ar,ns,rs⟩:=p
 obtain ⟨hA,hN,hL⟩:=hP
 have HA:Hid (IntsV w va ar):=hA
 obtain ⟨ao,cap,rfl,hA⟩:=hA
 obtain ⟨an,cn,rfl,hN⟩:=hN
 obtain ⟨al,cl,rfl,hL⟩:=hL
 have hA:IntsAt w ao ar:=hA
 have hN:StrsAt w an ns:=hN
 have hL:PRulesAt w al rs:=hL
 have HFR:Hid (∀ i,i<rs.length→RuleFit (Sc.ruleD rs i)):=hF.rs
 clear hF
 have hmm:=@run_makeMap Tryz.prog
 have hb0:Below w.heap.size w (w.alloc (.cells #[.slice ao ar.length cap,.slice an ns.length cn,.slice al rs.length cl] 26)):=(Below.refl _ _).alloc (Nat.le_refl _) _
 have HE0:Hid (Sc.check ⟨ar,ns,rs⟩=if 10<ar.length∨12<rs.length then 2 else if ¬ ns.length=ar.length then 1 else Sc.thn (Sc.first (Sc.predErr ar ns) (List.range ns.length)) (Sc.first (Sc.ruleErr ar) rs)):=rfl
 by_cases h1:10<ar.length
 · have HV:Hid (Sc.check ⟨ar,ns,rs⟩=2):=by show _=_; rw [HE0.out,if_pos (.inl h1)]
   have g1:decide (10<ar.length)=true:=decide_eq_true h1
   have g1':decide ((10:Int)<(ar.length:Int))=true:=decide_eq_true (by omega)
   clear HE0 hA hN hL
   go_enter Tryz.func128,Tryz.ntmps128
   go_wp2_with fail
   refine (refuse_yes 2 _).mono ?_
   rintro e w1 ⟨rfl,hb1⟩
   go_wp2_with fail
   exact ⟨rfl,by rw [HV.out]; rfl,hb0.trans (hb1.mono hb0.size)⟩
 have g1:decide (10<ar.length)=false:=decide_eq_false h1
 have g1':decide ((10:Int)<(ar.length:Int))=false:=decide_eq_false (by omega)
 by_cases h2:12<rs.length
 · have HV:Hid (Sc.check ⟨ar,ns,rs⟩=2):=by show _=_; rw [HE0.out,if_pos (.inr h2)]
   have g2:decide (12<rs.length)=true:=decide_eq_true h2
   have g2':decide ((12:Int)<(rs.length:Int))=true:=decide_eq_true (by omega)
   clear HE0 hA hN hL
   go_enter Tryz.func128,Tryz.ntmps128
   go_wp2_with fail
   refine (refuse_yes 2 _).mono ?_
   rintro e w1 ⟨rfl,hb1⟩
   go_wp2_with fail
   exact ⟨rfl,by rw [HV.out]; rfl,hb0.trans (hb1.mono hb0.size)⟩
 have g2:decide (12<rs.length)=false:=decide_eq_false h2
 have g2':decide ((12:Int)<(rs.length:Int))=false:=decide_eq_false (by omega)
 rw [if_neg (fun h=>h.elim h1 h2)] at HE0
 by_cases h3:ns.length=ar.length
 rotate_left
 · have HV:Hid (Sc.check ⟨ar,ns,rs⟩=1):=by show _=_; rw [HE0.out,if_pos h3]
   have g3:((ns.length:Int) != (ar.length:Int))=true:=by simp; omega
   have g3':(ns.length != ar.length)=true:=by simp; omega
   clear HE0 hA hN hL
   go_enter Tryz.func128,Tryz.ntmps128
   go_wp2_with fail
   refine (refuse_no 2 _).mono ?_
   rintro e w1 ⟨rfl,rfl⟩
   go_wp2_with fail
   refine (refuse_yes 1 _).mono ?_
   rintro e w1 ⟨rfl,hb1⟩
   go_wp2_with fail
   exact ⟨rfl,by rw [HV.out]; rfl,hb0.trans (hb1.mono hb0.size)⟩
 rw [if_neg (fun h=>h h3)] at HE0
 have H3:Hid (ns.length=ar.length):=h3
 have g3:((ns.length:Int) != (ar.length:Int))=false:=by simp; omega
 have g3':(ns.length != ar.length)=false:=by simp; omega
 have hst:=CB.start w (.cells #[.slice ao ar.length cap,.slice an ns.length cn,.slice al rs.length cl] 26)
 have H10:Hid (ns.length≤10):=by show _≤_; omega
 clear h3
 go_enter Tryz.func128,Tryz.ntmps128
 go_wp2_with fail
 refine (refuse_no 2 _).mono ?_
 rintro e w1 ⟨rfl,rfl⟩
 go_wp2_with fail
 refine (refuse_no 1 _).mono ?_
 rintro e w1 ⟨rfl,rfl⟩
 go_wp2_with fail
 generalize w.heap.size+1=M at *
 go_loopw [30] (fun i wr=>∃ j:Nat,j≤ns.length∧i=.int .i64 j∧CB w (.cells #[.slice ao ar.length cap,.slice an ns.length cn,.slice al rs.length cl] 26) M (ns.take j) wr∧Sc.first (Sc.predErr ar ns) (List.range ns.length)=Sc.first (Sc.predErr ar ns) ((List.range ns.length).drop j)) (fun i _=>ns.length - (intOf i).toNat)
 case atStart=>exact ⟨0,Nat.zero_le _,rfl,hst,rfl⟩
 case round =>
  clear hst
  obtain ⟨j,hj,rfl,hR,hfj⟩:=hrel
  have HFJ:Hid _:=hfj
  clear hfj
  have c0:wr.cell? ⟨w.heap.size,0,none⟩=some (.slice ao ar.length cap):=by rw [Lib.cell_of_heap hR.box]; rfl
  by_cases hjl:j<ns.length
  · obtain ⟨b,off,rfl,p0⟩:=strs_at hN j hjl
    have hja:j<ar.length:=by rw [← H3.out]; exact hjl
    obtain ⟨b2,off2,rfl,p1⟩:=ints_at hA j hja
    have q0:=cell_below hR.bel p0
    have q1:=cell_below hR.bel p1
    have HFD:Hid (Sc.first (Sc.predErr ar ns) (List.range ns.length)=Sc.thn (Sc.predErr ar ns j) (Sc.first (Sc.predErr ar ns) ((List.range ns.length).drop (j+1)))):=HFJ.out.trans (pred_drop ar ns j hjl)
    have HPE:Hid (Sc.predErr ar ns j=Sc.thn (if Tr.between (Sc.intD ar j) 0 3 then 0 else 3) (Sc.thn (if Tr.isName (Sc.strD ns j) then 0 else 1) (if (ns.take j).contains (Sc.strD ns j) then 6 else 0))):=rfl
    have HTS:Hid (ns.take j++[Sc.strD ns j]=ns.take (j+1)):=take_step ns j hjl
    clear p0 p1 hA hN hL HFJ
    generalize Sc.intD ar j=a at *
    generalize Sc.strD ns j=s at *
    by_cases h4:a<0
    · have HV:Hid (Sc.check ⟨ar,ns,rs⟩=3):=by show _=_; rw [HE0.out,HFD.out,HPE.out,if_neg (by simp [Tr.between]; omega)]; rfl
      have g4:decide (a<0)=true:=decide_eq_true h4
      clear HE0 HFD HPE
      go_wp2_with fail
      refine (refuse_yes 3 _).mono ?_
      rintro e w1 ⟨rfl,hb1⟩
      go_wp2_with fail
      exact ⟨rfl,by rw [HV.out]; rfl,hR.bel.trans (hb1.mono hR.bel.size)⟩
    have g4:decide (a<0)=false:=decide_eq_false h4
    by_cases h4b:3<a
    · have HV:Hid (Sc.check ⟨ar,ns,rs⟩=3):=by show _=_; rw [HE0.out,HFD.out,HPE.out,if_neg (by simp [Tr.between]; omega)]; rfl
      have g4b:decide (3<a)=true:=decide_eq_true h4b
      clear HE0 HFD HPE
      go_wp2_with fail
      refine (refuse_yes 3 _).mono ?_
      rintro e w1 ⟨rfl,hb1⟩
      go_wp2_with fail
      exact ⟨rfl,by rw [HV.out]; rfl,hR.bel.trans (hb1.mono hR.bel.size)⟩
    have g4b:decide (3<a)=false:=decide_eq_false h4b
    rw [if_pos (show Tr.between a 0 3=true by simp [Tr.between]; omega),Sc.thn_zero] at HPE
    go_wp2_with fail
    refine (refuse_no 3 _).mono ?_
    rintro e w1 ⟨rfl,rfl⟩
    go_wp2_with fail
    refine Calls.mono (scName_any s _) ?_
    rintro e w2 ⟨he,hb2⟩
    have hR2:=hR.below hb2
    cases h5:Tr.isName s
    · rw [h5] at he
      subst he
      have HV:Hid (Sc.check ⟨ar,ns,rs⟩=1):=by show _=_; rw [HE0.out,HFD.out,HPE.out,h5]; rfl
      clear HE0 HFD HPE
      go_wp2_with fail
      refine (refuse_yes 1 _).mono ?_
      rintro e w1 ⟨rfl,hb1⟩
      go_wp2_with fail
      exact ⟨rfl,by rw [HV.out]; rfl,hR2.bel.trans (hb1.mono hR2.bel.size)⟩
    rw [h5] at he
    subst he
    have h12:s.length≤5000:=by
     have:Tk.isTok 1 s=true:=by
      unfold Tr.isName at h5
      simp at h5
      exact h5.1
     have:=Tk.isTok_len _ _ this
     omega
    rw [h5,if_pos rfl,Sc.thn_zero] at HPE
    clear hR hb2 q0 q1 c0 h5
    go_wp2_with fail
    refine (refuse_no 1 _).mono ?_
    rintro e w1 ⟨rfl,rfl⟩
    go_wp2_with fail
    refine Calls.mono (of_any M (ns.take j) s _ hR2.num h12 (by have:=H10.out; rw [List.length_take]; omega)) ?_
    rintro e w3 ⟨rfl,hn3,hg3⟩
    have hlt:(ns.take j).length=j:=by rw [List.length_take]; omega
    cases h6:(ns.take j).contains s
    · rw [h6,if_neg (by simp),HTS.out] at hn3
      have hR3:=hR2.of hg3 hn3
      have hix:(ns.take j).idxOf s=j:=by rw [idx_none (by simpa using h6),hlt]
      rw [hix]
      have g6:((j:Int) != (j:Int))=false:=by simp
      have HV:Hid (Sc.first (Sc.predErr ar ns) (List.range ns.length)=Sc.first (Sc.predErr ar ns) ((List.range ns.length).drop (j+1))):=by show _=_; rw [HFD.out,HPE.out,h6]; rfl
      clear HFD HPE hn3 hg3 hR2 hix h6 hlt HTS
      go_wp2_with fail
      refine (refuse_no 6 _).mono ?_
      rintro e w1 ⟨rfl,rfl⟩
      go_wp2_with fail
      go_roundw
      case rel=>exact ⟨j+1,by omega,by go_num,hR3,HV.out⟩
      case measure=>simp [intOf]; omega
    · rw [h6,if_pos rfl] at hn3
      have hR3:=hR2.of hg3 hn3
      have hix:=idx_lt h6
      rw [hlt] at hix
      have g6:(((ns.take j).idxOf s:Int) != (j:Int))=true:=by simp; omega
      have HV:Hid (Sc.check ⟨ar,ns,rs⟩=6):=by show _=_; rw [HE0.out,HFD.out,HPE.out,h6]; rfl
      clear HFD HPE hn3 hg3 hR2 h6 HE0 HTS
      generalize (ns.take j).idxOf s=ix at *
      have g6':(ix != j)=true:=by simp; omega
      go_wp2_with fail
      refine (refuse_yes 6 _).mono ?_
      rintro e w1 ⟨rfl,hb1⟩
      go_wp2_with fail
      exact ⟨rfl,by rw [HV.out]; rfl,hR3.bel.trans (hb1.mono hR3.bel.size)⟩
  · have hz:Sc.first (Sc.predErr ar ns) (List.range ns.length)=0:=by rw [HFJ.out,List.drop_of_length_le (by simp; omega)]; rfl
    rw [hz,Sc.thn_zero] at HE0
    generalize hj0:j=j0 at *
    clear hj0
    have c2:wr.cell? ⟨w.heap.size,2,none⟩=some (.slice al rs.length cl):=by rw [Lib.cell_of_heap hR.box]; rfl
    clear HFJ hz hA hN
    go_wp2_with fail
    go_loopw [64] (fun i wr=>∃ j:Nat,j≤rs.length∧i=.int .i64 j∧CB w (.cells #[.slice ao ar.length cap,.slice an ns.length cn,.slice al rs.length cl] 26) M (ns.take j0) wr∧Sc.first (Sc.ruleErr ar) rs=Sc.first (Sc.ruleErr ar) (rs.drop j)) (fun i _=>rs.length - (intOf i).toNat)
    case atStart=>exact ⟨0,Nat.zero_le _,rfl,hR,rfl⟩
    case round =>
     clear hR c0 c2
     obtain ⟨j,hj,rfl,hR,hfj⟩:=hrel
     have HFJ:Hid _:=hfj
     clear hfj
     by_cases hjl:j<rs.length
     · obtain ⟨b,off,rfl,p0,⟨vt,p1,hT⟩,p2,⟨vb,p3,hB⟩,p4⟩:=prules_at hL j hjl
       have HT:Hid (PTermsV w vt (Sc.ruleD rs j).terms):=hT
       have HB:Hid (PLitsV w vb (Sc.ruleD rs j).body):=hB
       obtain ⟨at_,ct,rfl,_,_⟩:=hT
       obtain ⟨ab,cb,rfl,_⟩:=hB
       have q0:=cell_below hR.bel p0
       have q1:=cell_below hR.bel p1
       have q2:=cell_below hR.bel p2
       have q3:=cell_below hR.bel p3
       have q4:=cell_below hR.bel p4
       have HFD:Hid (Sc.first (Sc.ruleErr ar) rs=Sc.thn (Sc.ruleErr ar (Sc.ruleD rs j)) (Sc.first (Sc.ruleErr ar) (rs.drop (j+1)))):=HFJ.out.trans (Sc.first_drop _ _ _ j hjl)
       have HFI:Hid (RuleFit (Sc.ruleD rs j)):=HFR.out j hjl
       have hb1:Below wr.heap.size wr (wr.alloc (.cells #[.int .i64 (Sc.ruleD rs j).pred,.slice at_ (Sc.ruleD rs j).terms.length ct,.int .i64 (Sc.ruleD rs j).fold,.slice ab (Sc.ruleD rs j).body.length cb,.int .i64 (Sc.ruleD rs j).vars] 40)):=(Below.refl _ _).alloc (Nat.le_refl _) _
       have hR1:=hR.below hb1
       clear p0 p1 p2 p3 p4 HFJ hL hb1
       generalize hx:Sc.ruleD rs j=x at *
       clear hx
       have c0:(wr.alloc (.cells #[.int .i64 x.pred,.slice at_ x.terms.length ct,.int .i64 x.fold,.slice ab x.body.length cb,.int .i64 x.vars] 40)).cell? ⟨w.heap.size,0,none⟩=some (.slice ao ar.length cap):=by rw [Lib.cell_of_heap hR1.box]; rfl
       have c1:(wr.alloc (.cells #[.int .i64 x.pred,.slice at_ x.terms.length ct,.int .i64 x.fold,.slice ab x.body.length cb,.int .i64 x.vars] 40)).cell? ⟨w.heap.size,1,none⟩=some (.slice an ns.length cn):=by rw [Lib.cell_of_heap hR1.box]; rfl
       have c2:(wr.alloc (.cells #[.int .i64 x.pred,.slice at_ x.terms.length ct,.int .i64 x.fold,.slice ab x.body.length cb,.int .i64 x.vars] 40)).cell? ⟨w.heap.size,2,none⟩=some (.slice (some ⟨b,off,none⟩) rs.length cl):=by rw [Lib.cell_of_heap hR1.box]; rfl
       go_wp2_with fail
       refine Calls.mono (checkRule_any ar _ _ _ x _ _ _ (intsV_below HA.out hR1.bel) (ptermsV_below HT.out hR1.bel) (plitsV_below HB.out hR1.bel) HFI.out) ?_
       rintro e w2 ⟨he,hb2⟩
       by_cases h9:Sc.ruleErr ar x=0
       rotate_left
       · have HV:Hid (Sc.check ⟨ar,ns,rs⟩=Sc.ruleErr ar x):=by show _=_; rw [HE0.out,HFD.out,Sc.thn_ne _ h9]
         rw [finE_ne h9] at he
         subst he
         clear HE0 HFD
         go_wp2_with fail
         exact ⟨rfl,by rw [HV.out,finE_ne h9],hR1.bel.trans (hb2.mono hR1.bel.size)⟩
       rw [h9,finE_zero] at he
       subst he
       have hR2:=hR1.below hb2
       have HV:Hid (Sc.first (Sc.ruleErr ar) rs=Sc.first (Sc.ruleErr ar) (rs.drop (j+1))):=by show _=_; rw [HFD.out,h9,Sc.thn_zero]
       clear HFD HT HB HFI hb2 h9 hR1 q0 q1 q2 q3 q4 c0 c1 c2
       go_wp2_with fail
       go_roundw
       case rel=>exact ⟨j+1,by omega,by go_num,hR2,HV.out⟩
       case measure=>simp [intOf]; omega
     · have HV:Hid (Sc.check ⟨ar,ns,rs⟩=0):=by show _=_; rw [HE0.out,HFJ.out,List.drop_of_length_le (by omega)]; rfl
       clear HE0 hL
       go_wp2_with fail
       exact ⟨rfl,.tuple #[],by simp [results,Tryz.results128],by rw [HV.out]; rfl,hR.bel⟩
theorem catchS_idle (pf:Addr) (w:World) :
 CallsD Tryz.prog 172 #[.pointer (some pf)] .returning w fun e u' w'=>e=.returned (.tuple #[])∧u'=.returning∧w'=w:=by
 refine callsD_of_wpS Tryz.func172 rfl fun c₀ cs hu=>?_
 apply wpS_seq
 apply wpS_region
 simp [wpOpsS,go_sem,recoverD,hu,Tryz.ntmps172,Exit.thenS]
 refine wpS_of_wp ?_
 go_wp2
 refine ⟨rfl,.returning,?_,.tuple #[],?_,rfl,rfl,rfl⟩
 · rw [← hu]
 · simp [results,Tryz.results172]
theorem catchS_panicking (bf:Nat) (g0 g1:Value) (a c:Int) (older:List PanicEntry) (w:World)
 (hg0:w.cell? ⟨bf,0,none⟩=some g0) (hg1:w.cell? ⟨bf,1,none⟩=some g1) (fg0:w.frozen? ⟨bf,0,none⟩=false) (fg1:w.frozen? ⟨bf,1,none⟩=false) :
 CallsD Tryz.prog 172 #[.pointer (some ⟨bf,0,none⟩)] (.panicking ({ v:=.iface 168 (.agg #[.int .i64 a,.int .i64 c]),recovered:=false }::older)) w fun e u' w' =>
  e=.returned (.tuple #[])∧u'=.panicking ({ v:=.iface 168 (.agg #[.int .i64 a,.int .i64 c]),recovered:=true }::older) ∧
  w'.cell? ⟨bf,0,none⟩=some (.int .i64 a)∧w'.cell? ⟨bf,1,none⟩=some (.int .i64 c)∧w.grownBy w' (some bf)∧w'.heap.size=w.heap.size:=by
 have hta:∀ w:World,(Instr.typeAssert (.iface 168 (.agg #[.int .i64 a,.int .i64 c])) 20 168 false).run Tryz.prog w=.ok (.agg #[.int .i64 a,.int .i64 c]) w:=fun _=>by kernel_rfl
 refine callsD_of_wpS Tryz.func172 rfl fun c₀ cs hu=>?_
 apply wpS_seq
 apply wpS_region
 simp [wpOpsS,go_sem,recoverD,hu,Tryz.ntmps172,Exit.thenS]
 refine wpS_of_wp ?_
 go_wp2
 refine ⟨rfl,_,rfl,.tuple #[],?_,rfl,rfl,?_,?_,?_,?_⟩
 · simp [results,Tryz.results172]
 · simp [go_sem,hg0]
 · simp [go_sem,hg1]
 · exact grownBy_trans (grownBy_set _ _) (grownBy_set _ _)
 · simp
theorem enters142:Enters 142:=enters_of Tryz.func142 (by kernel_rfl) rfl
def endE (a c:Int):Ending:=if c=0 then goneOn else gaveF a c
def CaughtEnd (a c:Int) (row:Option Nat) (Z:World→Prop) (w:World) (e:Ending) (w':World):Prop :=
 e=.returned (.agg #[.int .i64 (if c=0 then 0 else a),.int .i64 c])∧w.grownBy w' row∧Z w'
theorem grow_trans {w u v:World} {row:Option Nat} (o:Obj) (hu:(w.alloc o).grownBy u row) (hv:u.grownBy v (some w.heap.size)):w.grownBy v row:=by
 have hs:(w.alloc o).heap.size=w.heap.size+1:=by simp
 refine ⟨hv.os.trans hu.os,hv.tape.trans hu.tape,hv.output.trans hu.output,Nat.le_trans (by rw [← Nat.succ_le_succ_iff]; have:=hu.size; omega) hv.size,fun k hk hne=>?_⟩
 have h1:=hu.block k (by omega) hne
 have h2:=hv.block k (by have:=hu.size; omega) (fun e=>by injection e; omega)
 rw [h2,h1]
 exact ((Below.refl _ _).alloc (Nat.le_refl _) o).block k hk
theorem caught_any (G:Nat) (caps:Array Value) (row:Option Nat) (a c:Int) (Z:World→Prop) (w:World) (hE:Enters G) (hrow:∀ k,row=some k→k<w.heap.size)
 (hZ:∀ u v:World,Z u→v.heap.size=u.heap.size→(∀ k,¬ k=w.heap.size→v.heap[k]?=u.heap[k]?)→Z v)
 (hdo:Calls Tryz.prog G caps (w.alloc (.cells #[.int .i64 0,.int .i64 0] 168)) fun e w'=>e=endE a c∧(w.alloc (.cells #[.int .i64 0,.int .i64 0] 168)).grownBy w' row∧Z w') :
 Calls Tryz.prog 126 #[.func (.func G) #[] caps] w (CaughtEnd a c row Z w):=by
 have hmf:∀ (fn:Fn) (first cap:Array Value) (w:World),(Instr.makeFunc fn first cap).run Tryz.prog w=.ok (.func fn first cap) w:=fun _ _ _ _=>rfl
 have he:=hE
 unfold Enters at he
 have hBx:=heap_alloc_new w (.cells #[.int .i64 0,.int .i64 0] 168)
 go_enter_defers Tryz.func126,Tryz.ntmps126
 go_wp2_with fail
 refine Calls.mono hdo ?_
 rintro e w1 ⟨rfl,hg,hz⟩
 have hB1:=(hg.block _ (heap_lt hBx) (fun e=>Nat.lt_irrefl _ (hrow _ e.symm))).trans hBx
 have g0:w1.cell? ⟨w.heap.size,0,none⟩=some (.int .i64 0):=by rw [Lib.cell_of_heap hB1]; rfl
 have g1:w1.cell? ⟨w.heap.size,1,none⟩=some (.int .i64 0):=by rw [Lib.cell_of_heap hB1]; rfl
 have f0:w1.frozen? ⟨w.heap.size,0,none⟩=false:=Lib.frozen_of_heap hB1 0
 have f1:w1.frozen? ⟨w.heap.size,1,none⟩=false:=Lib.frozen_of_heap hB1 1
 clear hdo hBx hB1 he hmf
 unfold endE
 by_cases hc:c=0
 · subst hc
   rw [if_pos rfl]
   go_wp2_with fail
   refine leaves_cons (f:=172) (args:=#[.pointer (some ⟨w.heap.size,0,none⟩)]) (by simp) (by simp [go_sem]) ?_
   refine (catchS_idle _ _).mono ?_
   rintro e u' w2 ⟨rfl,rfl,rfl⟩
   refine ⟨.agg #[.int .i64 0,.int .i64 0],by simp [results,Tryz.results126,go_sem,g0,g1],rfl,?_,?_⟩
   · exact grow_trans _ hg (grownBy_trans (grownBy_set _ _) (grownBy_set _ _))
   · exact hZ _ _ hz (by simp) (fun k hk=>by rw [Below.heap_setCell _ _ _ _ hk,Below.heap_setCell _ _ _ _ hk])
 · rw [if_neg hc]
   go_wp2_with fail
   refine leaves_cons (f:=172) (args:=#[.pointer (some ⟨w.heap.size,0,none⟩)]) (by simp) (by simp [go_sem]) ?_
   refine (catchS_panicking w.heap.size _ _ a c [] w1 g0 g1 f0 f1).mono ?_
   rintro e u' w2 ⟨rfl,rfl,k1,k2,hg2,hs2⟩
   refine ⟨.agg #[.int .i64 a,.int .i64 c],by simp [results,Tryz.results126,go_sem,k1,k2],by rw [if_neg hc],?_,?_⟩
   · exact grow_trans _ hg hg2
   · refine hZ _ _ hz hs2 (fun k hk=>?_)
     rcases Nat.lt_or_ge k w1.heap.size with h | h
     · exact hg2.block k h (fun e=>by injection e with e; exact hk e)
     · rw [Array.getElem?_eq_none h,Array.getElem?_eq_none (by omega)]
theorem below_of_grown {w w':World} (h:w.grownBy w' none):Below w.heap.size w w':=⟨h.os,h.tape,h.output,h.size,fun k hk=>h.block k hk (fun e=>by cases e)⟩
theorem fldF (a b:Value) (w:World):(Instr.field 168 (.agg #[a,b]) 1).run Tryz.prog w=.ok b w:=by kernel_rfl
theorem check1_any (p:Sc.Prog) (va vn vr:Value) (X:Nat) (w:World) (hX:w.heap[X]?=some (.cells #[va,vn,vr] 26)) (hP:ProgV w va vn vr p) (hF:ProgFit p) :
 Calls Tryz.prog 142 #[.pointer (some ⟨X,0,none⟩)] w fun e w'=>e=finE (Sc.check p)∧Below w.heap.size w w':=by
 have c0:w.cell? ⟨X,0,none⟩=some va:=by rw [Lib.cell_of_heap hX]; rfl
 have c1:w.cell? ⟨X,1,none⟩=some vn:=by rw [Lib.cell_of_heap hX]; rfl
 have c2:w.cell? ⟨X,2,none⟩=some vr:=by rw [Lib.cell_of_heap hX]; rfl
 go_enter Tryz.func142,Tryz.ntmps142
 go_wp2_with fail
 refine Calls.mono (scCheck_any p va vn vr _ hP hF) ?_
 rintro e w1 ⟨rfl,hb⟩
 by_cases h:Sc.check p=0
 · rw [h,finE_zero]
   go_wp2_with fail
   exact ⟨rfl,.tuple #[],by simp [results,Tryz.results142],by rw [h]; rfl,hb⟩
 · rw [finE_ne h]
   go_wp2_with fail
   exact ⟨rfl,(finE_ne h).symm,hb⟩
theorem ScCheck_any (p:Sc.Prog) (va vn vr:Value) (w:World) (hP:ProgV w va vn vr p) (hF:ProgFit p) :
 Calls Tryz.prog 97 #[progVal va vn vr] w fun e w'=>e=.returned (.int .i64 (Sc.check p))∧Below w.heap.size w w':=by
 obtain ⟨a0,n0,rfl,_⟩:=id hP.ar
 obtain ⟨a1,n1,rfl,_⟩:=id hP.nm
 obtain ⟨a2,n2,rfl,_⟩:=id hP.rl
 have hmf:∀ (fn:Fn) (first cap:Array Value) (w:World),(Instr.makeFunc fn first cap).run Tryz.prog w=.ok (.func fn first cap) w:=fun _ _ _ _=>rfl
 have hb0:∀ (u:World) (o:Obj),Below u.heap.size u (u.alloc o):=fun u o=>(Below.refl _ _).alloc (Nat.le_refl _) o
 have hX:=heap_alloc_new w (.cells #[.slice a0 p.arity.length n0,.slice a1 p.names.length n1,.slice a2 p.rules.length n2] 26)
 have hP1:=hP.below (hb0 w (.cells #[.slice a0 p.arity.length n0,.slice a1 p.names.length n1,.slice a2 p.rules.length n2] 26))
 have HB:=hb0 w (.cells #[.slice a0 p.arity.length n0,.slice a1 p.names.length n1,.slice a2 p.rules.length n2] 26)
 go_enter Tryz.func97,Tryz.ntmps97
 go_wp2_with fail
 generalize w.alloc (.cells #[.slice a0 p.arity.length n0,.slice a1 p.names.length n1,.slice a2 p.rules.length n2] 26)=w1 at *
 refine Calls.mono (caught_any 142 _ none 0 (Sc.check p) (fun _=>True) w1 enters142 (fun _ e=>by cases e) (fun _ _ _ _ _=>trivial) ?_) ?_
 · refine Calls.mono (check1_any p _ _ _ w.heap.size _ (((hb0 w1 _).block _ (heap_lt hX)).trans hX) (hP1.below (hb0 w1 _)) hF) ?_
   rintro e w2 ⟨rfl,hb⟩
   exact ⟨rfl,grownBy_of_below hb _,trivial⟩
 · rintro e w2 ⟨rfl,hg,_⟩
   have hbb:=HB.trans ((below_of_grown hg).mono HB.size)
   go_wp2_with fail
   simp only [fldF]
   go_wp2_with fail
   go_ret
   exact ⟨rfl,hbb⟩
end Go.Proofs.YthenjegmigeieaaGreat
namespace Go.Proofs.YthenjegmigeieaaGreat
open Go.RowKit Go.Shelf
attribute [local go_sem] Oper.semAt_some
end Go.Proofs.YthenjegmigeieaaGreat
namespace Go.Proofs.YthenjegmigeieaaGreat
open Go.RowKit
theorem _root_.Go.World.grownBy.trans_row {a b c:World} {LB:Nat} (h:a.grownBy b (some LB)) (k:b.grownBy c (some LB)):a.grownBy c (some LB) :=
 ⟨k.os.trans h.os,k.tape.trans h.tape,k.output.trans h.output,Nat.le_trans h.size k.size,fun j hj hn=>(k.block j (Nat.lt_of_lt_of_le hj h.size) hn).trans (h.block j hj hn)⟩
abbrev Lv:=Sc.Lit × Value
def lvCells (p:Lv):List Value:=[.int .i64 p.1.kind,.int .i64 p.1.op,.int .i64 p.1.pred,p.2]
def lCells (q:List Lv):List Value:=(q.map lvCells).flatten
theorem flat_at {α:Type} (f:α→List Value) (c:Nat) (hf:∀ a,(f a).length=c):∀ (l:List α) (i:Nat) (a:α) (t:Nat),l[i]?=some a→t<c→(l.map f).flatten[i * c+t]?=(f a)[t]?
 | [],i,a,t,h,_=>by simp at h
 | b::l,0,a,t,h,ht=>by
  have hab:b=a:=by simpa using h
  subst hab
  rw [List.map_cons,List.flatten_cons,Nat.zero_mul,Nat.zero_add,List.getElem?_append_left (by rw [hf]; exact ht)]
 | b::l,i+1,a,t,h,ht=>by
  have h':l[i]?=some a:=by simpa using h
  rw [List.map_cons,List.flatten_cons,List.getElem?_append_right (by rw [hf,Nat.add_mul]; omega),hf]
  have e:(i+1) * c+t - c=i * c+t:=by rw [Nat.add_mul]; omega
  rw [e]
  exact flat_at f c hf l i a t h' ht
theorem flat_len {α:Type} (f:α→List Value) (c:Nat) (hf:∀ a,(f a).length=c):∀ (l:List α),(l.map f).flatten.length=l.length * c
 | []=>by simp
 | b::l=>by rw [List.map_cons,List.flatten_cons,List.length_append,hf,flat_len f c hf l,List.length_cons,Nat.add_mul]; omega
theorem flatv_get {α:Type} (f:α→List Value) (c:Nat) (hc:0<c) (hf:∀ a,(f a).length=c) (l:List α) (j:Nat) (u:Value) (h:(l.map f).flatten[j]?=some u):∃ a,l[j / c]?=some a∧(f a)[j % c]?=some u:=by
 have hj:j<l.length * c:=by
  rw [← flat_len f c hf l]
  exact (List.getElem?_eq_some_iff.mp h).1
 have hd:j / c<l.length:=(Nat.div_lt_iff_lt_mul hc).mpr hj
 refine ⟨l[j / c],List.getElem?_eq_getElem hd,?_⟩
 rw [← flat_at f c hf l (j / c) l[j / c] (j % c) (List.getElem?_eq_getElem hd) (Nat.mod_lt _ hc),Nat.mul_comm,Nat.div_add_mod]
 exact h
theorem own_type {W W':World} {B e c n:Nat} {v:Value} {xs:List Value} (h:W.ownsRow B e c v n xs) (hk:∀ (k:Nat) (a:Array Value),W.heap[k]?=some (.cells a e)→W'.heap[k]?=some (.cells a e)):W'.ownsRow B e c v n xs:=by
 obtain ⟨h1,h2⟩:=h
 refine ⟨h1,?_⟩
 rcases h2 with h2 | ⟨g,cap,cur,hv,hg,hh,r⟩
 · exact .inl h2
 · exact .inr ⟨g,cap,cur,hv,hg,hk g cur hh,r⟩
theorem own_cells {W:World} {B e c n:Nat} {v:Value} {xs:List Value} (h:W.ownsRow B e c v n xs):∃ ao cap,v=.slice ao n cap∧n≤cap∧(n=0∨∃ g,ao=some ⟨g,0,none⟩∧∀ j,j<n * c→W.cell? ⟨g,j,none⟩=xs[j]?):=by
 rcases ownsRow_forms9 h with ⟨rfl,rfl⟩ | ⟨g,cap,rfl⟩
 · exact ⟨none,0,rfl,Nat.le_refl _,.inl rfl⟩
 · refine ⟨_,cap,rfl,?_,.inr ⟨g,rfl,fun j hj=>h.cellAt j hj⟩⟩
   rcases h.2 with ⟨h2,_⟩ | ⟨g2,cap2,cur,hv,_,_,hle,_⟩
   · cases h2
   · injection hv with _ _ h3
     omega
end Go.Proofs.YthenjegmigeieaaGreat
namespace Go.Proofs.YthenjegmigeieaaGreat
section
variable {P:Program} {ops:Array Oper} {Q:Exit→Act→World→Prop} {md:Region.Mode}
theorem ready_mem {s:Array Bool} {i:Nat} (h:i∈Region.ready md ops s):s[i]?=some false∧∃ o,ops[i]?=some o∧∀ e,e∈o.after→Region.binds md e=true→s[e.on]?=some true:=by
 unfold Region.ready at h
 obtain ⟨_,h⟩:=List.mem_filter.mp h
 rw [Bool.and_eq_true] at h
 obtain ⟨h1,h2⟩:=h
 refine ⟨?_,?_⟩
 · cases hs:s[i]? with
   | none=>simp [Array.getD_eq_getD_getElem?,hs] at h1
   | some b=>cases b <;> simp [Array.getD_eq_getD_getElem?,hs] at h1 ⊢
 · cases ho:ops[i]? with
   | none=>simp [ho] at h2
   | some o =>
    refine ⟨o,rfl,fun e he hb=>?_⟩
    rw [ho,Option.map_some,Option.getD_some,Array.all_eq_true_iff_forall_mem] at h2
    have h3:=h2 e he
    rw [hb] at h3
    cases hs:s[e.on]? with
    | none=>simp [Array.getD_eq_getD_getElem?,hs] at h3
    | some b=>cases b <;> simp [Array.getD_eq_getD_getElem?,hs] at h3 ⊢
def left (s:Array Bool):Nat:=s.toList.countP (fun b=>!b)
theorem left_zero {s:Array Bool} (h:left s=0):Region.ready md ops s=[]:=by
 cases hr:Region.ready md ops s with
 | nil=>rfl
 | cons i r =>
  have h1:=(ready_mem (s:=s) (i:=i) (by rw [hr]; exact List.mem_cons_self)).1
  have h2:false∈s.toList:=by
   rw [← Array.getElem?_toList] at h1
   exact List.mem_of_getElem? h1
  have h3:=List.countP_eq_zero.mp h false h2
  simp at h3
theorem left_set {s:Array Bool} {i:Nat} (h:s[i]?=some false):left (s.setIfInBounds i true)+1=left s:=by
 obtain ⟨hi,he⟩:=Array.getElem?_eq_some_iff.mp h
 unfold left
 have h1:(s.setIfInBounds i true).toList=s.toList.set i true:=by simp
 rw [h1,List.countP_set (h:=by simpa using hi)]
 have hm:0<s.toList.countP (fun b=>!b):=List.countP_pos_iff.mpr ⟨false,by rw [← Array.getElem?_toList] at h; exact List.mem_of_getElem? h,rfl⟩
 have h2:s.toList[i]'(by simpa using hi)=false:=by rw [Array.getElem_toList]; exact he
 rw [h2]
 simp only [Bool.not_false,Bool.not_true,if_true,Bool.false_eq_true,if_false]
 omega
theorem wpAny_inv (I:Array Bool→Act→World→Prop) (hend:∀ s a w,Region.ready md ops s=[]→I s a w→Q .normal a w)
 (hstep:∀ s a w i,i∈Region.ready md ops s→I s a w→wpOp P ops Q i (I (s.setIfInBounds i true)) a w) :
 ∀ (fuel:Nat) (s:Array Bool) (a:Act) (w:World),left s≤fuel→I s a w→wpAny P md ops Q fuel s a w
 | 0,s,a,w,hc,hI=>⟨left_zero (by omega),hend s a w (left_zero (by omega)) hI⟩
 | fuel+1,s,a,w,hc,hI=>⟨fun h0=>hend s a w h0 hI,fun i hi=>wpOp_mono (fun a' w' hI'=>wpAny_inv I hend hstep fuel _ a' w' (by have:=left_set (ready_mem hi).1; omega) hI') (hstep s a w i hi hI)⟩
theorem wp_region_inv (I:Array Bool→Act→World→Prop) {id:Nat} {a:Act} {w:World} (hm:P.follows .mixedOrders=true)
 (hend:∀ s a w,Region.ready .any ops s=[]→I s a w→Q .normal a w)
 (hstep:∀ s a w i,i∈Region.ready .any ops s→I s a w→wpOp P ops Q i (I (s.setIfInBounds i true)) a w)
 (h0:I (Array.replicate ops.size false) a { w with drawn:=w.drawn+1 }):(Code.region id ops true).wp P Q a w:=by
 refine wp_region_any hm (wpAny_inv I hend hstep ops.size _ _ _ ?_ h0)
 unfold left
 exact Nat.le_trans List.countP_le_length (by simp)
end
end Go.Proofs.YthenjegmigeieaaGreat
namespace Go.Proofs.YthenjegmigeieaaGreat
open Go.RowKit
def tabFine (ops:Array Oper) (n:Nat):Bool :=
 decide ((ops.toList.filterMap (·.dst)).Nodup) && (ops.toList.filterMap (·.dst)).all (fun t=>decide (t<n)) && (List.range ops.size).all (fun i=>((ops[i]?).map (fun o=>o.after.toList.all (fun e=>decide (e.on<i)))).getD true)
structure Tabbed (ops:Array Oper) (T:Nat→Value→World→Prop) (a0:Act) (w0:World) (s:Array Bool) (a:Act) (w:World):Prop where
 below:Below w0.heap.size w0 w
 defers:a.defers=a0.defers
 size:a.tmps.size=a0.tmps.size
 still:∀ t,t∉ops.toList.filterMap (·.dst)→a.tmps.getD t undef=a0.tmps.getD t undef
 done:∀ (i:Nat) (o:Oper) (t:Nat),s[i]?=some true→ops[i]?=some o→o.dst=some t→T t (a.tmps.getD t undef) w
section
variable {P:Program} {ops:Array Oper} {Q:Exit→Act→World→Prop} {T:Nat→Value→World→Prop}
theorem dst_mem {i:Nat} {o:Oper} {t:Nat} (h:ops[i]?=some o) (ht:o.dst=some t):t∈ops.toList.filterMap (·.dst):=by
 refine List.mem_filterMap.mpr ⟨o,?_,ht⟩
 rw [← Array.getElem?_toList] at h
 exact List.mem_of_getElem? h
theorem dst_inj:∀ (l:List Oper),(l.filterMap (·.dst)).Nodup→∀ (i j:Nat) (o o':Oper) (t:Nat),l[i]?=some o→l[j]?=some o'→o.dst=some t→o'.dst=some t→i=j
 | [],_,i,j,o,o',t,h,_,_,_=>by simp at h
 | x::l,hn,i,j,o,o',t,hi,hj,ho,ho'=>by
  have hmem:∀ k (o:Oper),l[k]?=some o→o.dst=some t→t∈l.filterMap (·.dst):=fun k o h1 h2=>List.mem_filterMap.mpr ⟨o,List.mem_of_getElem? h1,h2⟩
  cases i with
  | zero =>
   cases j with
   | zero=>rfl
   | succ j =>
    simp only [List.getElem?_cons_zero,Option.some.injEq] at hi
    subst hi
    simp only [List.getElem?_cons_succ] at hj
    rw [List.filterMap_cons,ho] at hn
    exact absurd (hmem j o' hj ho') (List.nodup_cons.mp hn).1
  | succ i =>
   cases j with
   | zero =>
    simp only [List.getElem?_cons_zero,Option.some.injEq] at hj
    subst hj
    simp only [List.getElem?_cons_succ] at hi
    rw [List.filterMap_cons,ho'] at hn
    exact absurd (hmem i o hi ho) (List.nodup_cons.mp hn).1
   | succ j =>
    simp only [List.getElem?_cons_succ] at hi hj
    have hn':(l.filterMap (·.dst)).Nodup:=by
     rw [List.filterMap_cons] at hn
     cases hx:x.dst with
     | none=>rw [hx] at hn; exact hn
     | some z=>rw [hx] at hn; exact (List.nodup_cons.mp hn).2
    exact congrArg (·+1) (dst_inj l hn' i j o o' t hi hj ho ho')
structure OpIn (ops:Array Oper) (T:Nat→Value→World→Prop) (a0:Act) (w0:World) (o:Oper) (a:Act) (w:World):Prop where
 below:Below w0.heap.size w0 w
 still:∀ t,t∉ops.toList.filterMap (·.dst)→a.tmps.getD t undef=a0.tmps.getD t undef
 has:∀ e,e∈o.after→Region.binds .any e=true→∀ (o':Oper) (t:Nat),ops[e.on]?=some o'→o'.dst=some t→T t (a.tmps.getD t undef) w
def OpOk (P:Program) (ops:Array Oper) (Q:Exit→Act→World→Prop) (T:Nat→Value→World→Prop) (o:Oper) (a:Act) (w:World):Prop :=
 if Region.wanted o (yielded ops a.tmps) then o.wp P a w (fun a' w'=>∃ v,a'=a.put o.dst v∧(∀ t,o.dst=some t→T t v w')∧Below w.heap.size w w') Q∨(o.asks P a w∧LetsOut Q)
 else ∀ t,o.dst=some t→T t undef w
theorem put_get_self {a:Act} {t:Nat} {v:Value} (h:t<a.tmps.size):(a.put (some t) v).tmps.getD t undef=v:=by
 simp [Act.put,Array.getD_eq_getD_getElem?,h]
theorem put_get_ne {a:Act} {t u:Nat} {v:Value} (h:u≠t):(a.put (some t) v).tmps.getD u undef=a.tmps.getD u undef:=by
 simp [Act.put,Array.getD_eq_getD_getElem?,Ne.symm h]
theorem put_size {a:Act} {d:Option Nat} {v:Value}:(a.put d v).tmps.size=a.tmps.size:=by
 cases d <;> simp [Act.put]
theorem put_defers {a:Act} {d:Option Nat} {v:Value}:(a.put d v).defers=a.defers:=by
 cases d <;> simp [Act.put]
theorem wp_region_tab (T:Nat→Value→World→Prop) {id:Nat} {a0:Act} {w0:World} (hm:P.follows .mixedOrders=true)
 (hf:tabFine ops a0.tmps.size=true)
 (hmono:∀ t v w w',Below w.heap.size w w'→T t v w→T t v w')
 (hop:∀ (i:Nat) (o:Oper),ops[i]?=some o→∀ a w,OpIn ops T a0 w0 o a w→OpOk P ops Q T o a w)
 (hend:∀ a w,Below w0.heap.size w0 w→a.defers=a0.defers→a.tmps.size=a0.tmps.size→(∀ t,t∉ops.toList.filterMap (·.dst)→a.tmps.getD t undef=a0.tmps.getD t undef)→(∀ t,t∈ops.toList.filterMap (·.dst)→T t (a.tmps.getD t undef) w)→Q .normal a w) :
 (Code.region id ops true).wp P Q a0 w0:=by
 unfold tabFine at hf
 rw [Bool.and_eq_true,Bool.and_eq_true] at hf
 obtain ⟨⟨hnd,hlt⟩,hah⟩:=hf
 have hnd:=of_decide_eq_true hnd
 have hlt':∀ t,t∈ops.toList.filterMap (·.dst)→t<a0.tmps.size:=fun t ht=>by
  have h:=List.all_eq_true.mp hlt t ht
  exact of_decide_eq_true h
 have hah':∀ (i:Nat) (o:Oper),ops[i]?=some o→∀ e,e∈o.after→e.on<i:=fun i o ho e he=>by
  have hi:i<ops.size:=(Array.getElem?_eq_some_iff.mp ho).1
  have h:=List.all_eq_true.mp hah i (List.mem_range.mpr hi)
  rw [ho,Option.map_some,Option.getD_some] at h
  exact of_decide_eq_true (List.all_eq_true.mp h e (by simpa using he))
 have hset:∀ {T:Nat→Value→World→Prop} {s:Array Bool} {a:Act} {w w':World} {i:Nat} {o:Oper} {v:Value},(∀ t v w w',Below w.heap.size w w'→T t v w→T t v w')→s.size=ops.size→ops[i]?=some o→Tabbed ops T a0 w0 s a w→(∀ t,o.dst=some t→T t v w')→Below w.heap.size w w'→Tabbed ops T a0 w0 (s.setIfInBounds i true) (a.put o.dst v) w':=by
  intro T s a w w' i o v hmono hs ho hI hv hb
  refine ⟨hI.below.trans (hb.mono hI.below.size),by rw [put_defers]; exact hI.defers,by rw [put_size]; exact hI.size,fun t ht=>?_,fun j oj t hj hoj hd=>?_⟩
  · cases hd:o.dst with
    | none=>exact hI.still t ht
    | some u =>
     have hne:t≠u:=fun h=>ht (h ▸ dst_mem ho hd)
     rw [put_get_ne hne]
     exact hI.still t ht
  · by_cases hij:j=i
    · subst hij
      rw [ho] at hoj
      cases hoj
      rw [hd,put_get_self (by rw [hI.size]; exact hlt' t (dst_mem ho hd))]
      exact hv t hd
    · have hj':s[j]?=some true:=by
       rw [Array.getElem?_setIfInBounds,if_neg (fun h=>hij h.symm)] at hj
       exact hj
      have h1:=hmono t _ w w' hb (hI.done j oj t hj' hoj hd)
      cases hd2:o.dst with
      | none=>exact h1
      | some u =>
       have hne:t≠u:=fun h=>hij (dst_inj ops.toList hnd j i oj o t (by rw [Array.getElem?_toList]; exact hoj) (by rw [Array.getElem?_toList]; exact ho) hd (h ▸ hd2))
       rw [put_get_ne hne]
       exact h1
 refine wp_region_inv (fun s a w=>s.size=ops.size∧Tabbed ops T a0 w0 s a w) hm ?_ ?_ ?_
 · rintro s a w hr ⟨hs,hI⟩
   have hall:∀ n:Nat,n≤ops.size→∀ i:Nat,i<n→s[i]?=some true:=by
    intro n
    induction n with
    | zero=>intro _ i hi; exact absurd hi (Nat.not_lt_zero _)
    | succ n ih =>
     intro hn i hi
     have ih:=ih (by omega)
     by_cases hin:i<n
     · exact ih i hin
     · have hin:i=n:=by omega
       subst hin
       cases hsi:s[i]? with
       | none=>rw [Array.getElem?_eq_none_iff] at hsi; omega
       | some b =>
        cases b with
        | true=>rfl
        | false =>
         exfalso
         have hio:i<ops.size:=by omega
         have:i∈Region.ready .any ops s:=by
          unfold Region.ready
          refine List.mem_filter.mpr ⟨List.mem_range.mpr hio,?_⟩
          rw [Bool.and_eq_true]
          refine ⟨by simp [Array.getD_eq_getD_getElem?,hsi],?_⟩
          have ho:ops[i]?=some ops[i]:=Array.getElem?_eq_getElem hio
          rw [ho,Option.map_some,Option.getD_some,Array.all_eq_true_iff_forall_mem]
          intro e he
          have h1:=ih e.on (hah' i _ ho e he)
          simp [Array.getD_eq_getD_getElem?,h1]
         rw [hr] at this
         exact absurd this (by simp)
   refine hend a w hI.below hI.defers hI.size hI.still (fun t ht=>?_)
   obtain ⟨o,ho,hd⟩:=List.mem_filterMap.mp ht
   obtain ⟨i,hi⟩:=List.mem_iff_getElem?.mp ho
   rw [Array.getElem?_toList] at hi
   exact hI.done i o t (hall ops.size (Nat.le_refl _) i (Array.getElem?_eq_some_iff.mp hi).1) hi hd
 · rintro s a w i hi ⟨hs,hI⟩
   obtain ⟨hsi,o,ho,haf⟩:=ready_mem hi
   have h:=hop i o ho a w ⟨hI.below,hI.still,fun e he hb o' t ho' hd=>hI.done e.on o' t (haf e he hb) ho' hd⟩
   have hss:(s.setIfInBounds i true).size=ops.size:=by simp [hs]
   unfold OpOk at h
   unfold wpOp
   rw [ho]
   dsimp only
   by_cases hw:Region.wanted o (yielded ops a.tmps)=true
   · rw [if_pos hw] at h ⊢
     refine h.imp (Oper.wp_mono ?_) (fun h=>h)
     rintro a' w' ⟨v,rfl,hv,hb⟩
     exact ⟨hss,hset hmono hs ho hI hv hb⟩
   · rw [if_neg hw] at h ⊢
     exact ⟨hss,hset hmono hs ho hI h (Below.refl _ _)⟩
 · refine ⟨by simp,⟨⟨rfl,rfl,rfl,Nat.le_refl _,fun _ _=>rfl⟩,rfl,rfl,fun _ _=>rfl,fun i o t h _ _=>?_⟩⟩
   rw [Array.getElem?_replicate] at h
   split at h <;> simp at h
end
def waitsFor (ops:Array Oper) (o:Oper) (t:Nat):Bool:=o.after.toList.any fun e=>Region.binds .any e && ((ops[e.on]?).map fun o'=>o'.dst==some t).getD false
def stays (ops:Array Oper) (t:Nat):Bool:=!(ops.toList.filterMap (·.dst)).contains t
section
variable {P:Program} {ops:Array Oper} {Q:Exit→Act→World→Prop} {T:Nat→Value→World→Prop} {a0 a:Act} {w0 w:World} {o:Oper}
theorem OpIn.of (h:OpIn ops T a0 w0 o a w) (t:Nat) (hw:waitsFor ops o t=true):T t (a.tmps.getD t undef) w:=by
 unfold waitsFor at hw
 obtain ⟨e,he,hb⟩:=List.any_eq_true.mp hw
 rw [Bool.and_eq_true] at hb
 cases ho:ops[e.on]? with
 | none=>rw [ho] at hb; simp at hb
 | some o' =>
  rw [ho,Option.map_some,Option.getD_some] at hb
  exact h.has e (by simpa using he) hb.1 o' t ho (by simpa using hb.2)
theorem OpIn.old (h:OpIn ops T a0 w0 o a w) (t:Nat) (hs:stays ops t=true):a.tmps.getD t undef=a0.tmps.getD t undef:=by
 refine h.still t fun hm=>?_
 unfold stays at hs
 simp [hm] at hs
theorem wanted_none {y:Nat→Option Bool} (hg:o.guard=none):Region.wanted o y=true:=by simp [Region.wanted,hg]
theorem wanted_some {j t:Nat} {b:Bool} {oj:Oper} (hg:o.guard=some (j,b)) (hj:ops[j]?=some oj) (hd:oj.dst=some t) (hv:a.tmps.getD t undef=.bool b):Region.wanted o (yielded ops a.tmps)=true:=by
 have ht:a.tmps[t]?=some (.bool b):=by
  rw [Array.getD_eq_getD_getElem?] at hv
  cases h:a.tmps[t]? with
  | none=>rw [h] at hv; simp [undef] at hv
  | some v=>rw [h] at hv; simpa using hv
 unfold Region.wanted
 rw [hg]
 dsimp only
 unfold yielded
 rw [hj,Option.bind_some,hd,Option.bind_some,ht]
 simp
theorem opOk_val {v:Value} {w':World} (hw:Region.wanted o (yielded ops a.tmps)=true) (hr:(execOp a.eval o).run P w=.ok (.value v) w') (hT:∀ t,o.dst=some t→T t v w') (hb:Below w.heap.size w w'):OpOk P ops Q T o a w:=by
 unfold OpOk
 rw [if_pos hw]
 left
 unfold Oper.wp
 rw [hr,Oper.upon_value]
 exact ⟨v,rfl,hT,hb⟩
theorem opOk_call {f:FuncId} {args:Array Value} (hw:Region.wanted o (yielded ops a.tmps)=true) (hr:(execOp a.eval o).run P w=.ok (.enter f args) w)
 (hc:Calls P f args w fun e w'=>∃ v,e=.returned v∧(∀ t,o.dst=some t→T t v w')∧Below w.heap.size w w'):OpOk P ops Q T o a w:=by
 unfold OpOk
 rw [if_pos hw]
 left
 unfold Oper.wp
 rw [hr,Oper.upon_enter]
 refine Calls.mono hc ?_
 rintro e w' ⟨v,rfl,hT,hb⟩
 exact ⟨v,rfl,hT,hb⟩
def AllOps (Φ:Oper→Prop):List Oper→Prop
 | []=>True
 | o::l=>Φ o∧AllOps Φ l
theorem AllOps.nil {Φ:Oper→Prop}:AllOps Φ []:=trivial
theorem AllOps.cons {Φ:Oper→Prop} {o:Oper} {l:List Oper} (h:Φ o) (hl:AllOps Φ l):AllOps Φ (o::l):=⟨h,hl⟩
theorem AllOps.mem {Φ:Oper→Prop}:∀ (l:List Oper),AllOps Φ l→∀ o,o∈l→Φ o
 | [],_,o,ho=>absurd ho (by simp)
 | x::l,h,o,ho=>by
  rcases List.mem_cons.mp ho with rfl | ho
  · exact h.1
  · exact AllOps.mem l h.2 o ho
theorem AllOps.at {Φ:Oper→Prop} {ops:Array Oper} (h:AllOps Φ ops.toList) (i:Nat) (o:Oper) (ho:ops[i]?=some o):Φ o:=by
 rw [← Array.getElem?_toList] at ho
 exact AllOps.mem _ h o (List.mem_of_getElem? ho)
theorem ends_at {t:Nat} (h:∀ t,t∈ops.toList.filterMap (·.dst)→T t (a.tmps.getD t undef) w) (hs:stays ops t=false):T t (a.tmps.getD t undef) w:=by
 refine h t ?_
 unfold stays at hs
 simpa [List.contains_iff_mem] using hs
theorem wp_region_tabA (T:Nat→Value→World→Prop) {id:Nat} {a0:Act} {w0:World} (hm:P.follows .mixedOrders=true) (hf:tabFine ops a0.tmps.size=true)
 (hmono:∀ t v w w',Below w.heap.size w w'→T t v w→T t v w')
 (hop:AllOps (fun o=>∀ a w,OpIn ops T a0 w0 o a w→OpOk P ops Q T o a w) ops.toList)
 (hend:∀ a w,Below w0.heap.size w0 w→a.defers=a0.defers→a.tmps.size=a0.tmps.size→(∀ t,t∉ops.toList.filterMap (·.dst)→a.tmps.getD t undef=a0.tmps.getD t undef)→(∀ t,t∈ops.toList.filterMap (·.dst)→T t (a.tmps.getD t undef) w)→Q .normal a w) :
 (Code.region id ops true).wp P Q a0 w0 :=
 wp_region_tab T hm hf hmono (fun i o ho=>AllOps.at hop i o ho) hend
end
theorem tmps_fold:∀ (D:List Nat) (x y:Array Value),x.size=y.size→(∀ t,t∉D→x.getD t undef=y.getD t undef)→x=D.foldl (fun arr t=>arr.setIfInBounds t (x.getD t undef)) y
 | [],x,y,hs,h=>by
  show x=y
  refine Array.ext hs fun i h1 h2=>?_
  have:=h i (by simp)
  rw [Array.getD_eq_getD_getElem?,Array.getD_eq_getD_getElem?,Array.getElem?_eq_getElem h1,Array.getElem?_eq_getElem h2] at this
  exact this
 | t::D,x,y,hs,h=>by
  show x=D.foldl (fun arr t=>arr.setIfInBounds t (x.getD t undef)) (y.setIfInBounds t (x.getD t undef))
  refine tmps_fold D x _ (by simp [hs]) fun s hsD=>?_
  by_cases hst:s=t
  · subst hst
    by_cases hl:s<y.size
    · simp [Array.getD_eq_getD_getElem?,hl]
    · have h1:x[s]?=none:=by rw [Array.getElem?_eq_none_iff]; omega
      have h2:∀ v,(y.setIfInBounds s v)[s]?=none:=fun v=>by rw [Array.getElem?_eq_none_iff]; simp; omega
      rw [Array.getD_eq_getD_getElem?,Array.getD_eq_getD_getElem?,h1,h2]
  · rw [h s (by simp [hst,hsD])]
    simp [Array.getD_eq_getD_getElem?,Ne.symm hst]
section
variable {P:Program} {ops:Array Oper} {Q:Exit→Act→World→Prop} {T:Nat→Value→World→Prop} {a:Act} {w:World} {o:Oper}
theorem opOk_skip {j t:Nat} {b c:Bool} {oj:Oper} (hg:o.guard=some (j,b)) (hj:ops[j]?=some oj) (hd:oj.dst=some t) (hv:a.tmps.getD t undef=.bool c) (hbc:c≠b) (hT:∀ t,o.dst=some t→T t undef w):OpOk P ops Q T o a w:=by
 have ht:a.tmps[t]?=some (.bool c):=by
  rw [Array.getD_eq_getD_getElem?] at hv
  cases h:a.tmps[t]? with
  | none=>rw [h] at hv; simp [undef] at hv
  | some v=>rw [h] at hv; simpa using hv
 have hw:Region.wanted o (yielded ops a.tmps)=false:=by
  unfold Region.wanted
  rw [hg]
  dsimp only
  unfold yielded
  rw [hj,Option.bind_some,hd,Option.bind_some,ht]
  simp [hbc]
 unfold OpOk
 rw [hw,if_neg (by simp)]
 exact hT
end

theorem own_at {W:World} {B e c n cap:Nat} {g:Nat} {xs:List Value} (h:W.ownsRow B e c (.slice (some ⟨g,0,none⟩) n cap) n xs):B≤g∧∃ cur,W.heap[g]?=some (.cells cur e):=by
 rcases h.2 with ⟨h2,_⟩ | ⟨g2,cap2,cur,hv,hB,hh,_⟩
 · cases h2
 · injection hv with h3 _ _
   injection h3 with h3
   injection h3 with h3
   subst h3
   exact ⟨hB,cur,hh⟩
end Go.Proofs.YthenjegmigeieaaGreat
namespace Go.Proofs.YthenjegmigeieaaGreat
open Go.RowKit Go.Shelf
attribute [local go_sem] Oper.semAt_some
end Go.Proofs.YthenjegmigeieaaGreat
namespace Go.Proofs.YthenjegmigeieaaGreat
open Go.RowKit


end Go.Proofs.YthenjegmigeieaaGreat
