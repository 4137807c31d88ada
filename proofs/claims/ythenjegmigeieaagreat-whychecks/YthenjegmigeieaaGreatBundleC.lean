/- Own texts, one behind the other (part 3). -/
import Derived.Test.YthenjegmigeieaaGreatBundleB
import Derived.Test.YthenjegmigeieaaGreatRows
import Derived.Shelf.SlSortCmp.WholeK
import Derived.Ground.SlsfProg
import Derived.Test.YthenjegmigeieaaGreatProg
import Derived.Lib.Atoi
import Derived.RegionTactic
import Derived.BigRegion
import Derived.Lib.AtoiBound
import Derived.Shelf.SlSortCmp.Whole1
import Derived.Lib.SliceRun
import Derived.Lib.LazyBuf
import Derived.Shelf.SlSortCmp.NoneTotal
import Derived.Deep.OwnRows
import Derived.RangeFuncNested
import Derived.RangeFuncBound
import Derived.RangeFuncCalls
import Derived.RangeFuncLeaves
import Derived.Shelf.Abstract
import Derived.Shelf.RegionOpen
import Derived.WalkKit
import Derived.OwnWalkIn
import Derived.TacticsInMore
import Derived.LoopNIn
import Derived.LoopIn
set_option maxRecDepth 100000
set_option maxHeartbeats 8000000
namespace Go.Proofs
open Go.Shelf
def Tryz.sortF_ren:Go.Shelf.Ren:=⟨fun |6=>106|15=>103|14=>160|28=>157|29=>158|20=>195|21=>196|22=>197|23=>198|24=>199|25=>200|26=>201|27=>202|46=>215|47=>191|48=>192|49=>216|50=>217|57=>227|n=>n,fun |22=>27|24=>55|25=>78|3=>3|39=>144|0=>0|53=>194|55=>196|4=>4|46=>188|45=>187|50=>180|5=>5|9=>9|66=>222|70=>226|76=>248|77=>233|n=>n,fun |n=>n⟩
theorem Tryz.sortF:Go.Proofs.SlLaysF0.n6 Tryz.prog Tryz.sortF_ren:={
 mixed:=by kernel_rfl
 f6:=⟨Tryz.f106.name,by decide,Tryz.func106.trans (congrArg some (by kernel_rfl))⟩
 f14:=⟨Tryz.f160.name,by decide,Tryz.func160.trans (congrArg some (by kernel_rfl))⟩
 f15:=Tryz.func103.trans (congrArg some (by kernel_rfl))
 f20:=⟨Tryz.f195.name,by decide,Tryz.func195.trans (congrArg some (by kernel_rfl))⟩
 f21:=⟨Tryz.f196.name,by decide,Tryz.func196.trans (congrArg some (by kernel_rfl))⟩
 f22:=⟨Tryz.f197.name,by decide,Tryz.func197.trans (congrArg some (by kernel_rfl))⟩
 f23:=⟨Tryz.f198.name,by decide,Tryz.func198.trans (congrArg some (by kernel_rfl))⟩
 f24:=⟨Tryz.f199.name,by decide,Tryz.func199.trans (congrArg some (by kernel_rfl))⟩
 f25:=⟨Tryz.f200.name,by decide,Tryz.func200.trans (congrArg some (by kernel_rfl))⟩
 f26:=⟨Tryz.f201.name,by decide,Tryz.func201.trans (congrArg some (by kernel_rfl))⟩
 f27:=⟨Tryz.f202.name,by decide,Tryz.func202.trans (congrArg some (by kernel_rfl))⟩
 f28:=Tryz.func157.trans (congrArg some (by kernel_rfl))
 f29:=Tryz.func158.trans (congrArg some (by kernel_rfl))
 f46:=⟨Tryz.f215.name,by decide,Tryz.func215.trans (congrArg some (by kernel_rfl))⟩
 f47:=Tryz.func191.trans (congrArg some (by kernel_rfl))
 f48:=Tryz.func192.trans (congrArg some (by kernel_rfl))
 f49:=⟨Tryz.f216.name,by decide,Tryz.func216.trans (congrArg some (by kernel_rfl))⟩
 f50:=⟨Tryz.f217.name,by decide,Tryz.func217.trans (congrArg some (by kernel_rfl))⟩
 f57:=⟨Tryz.f227.name,by decide,Tryz.func227.trans (congrArg some (by kernel_rfl))⟩
 t0:=Tryz.underlying0
 a0:=Tryz.isAgg0
 z0:=Tryz.sizeOf0
 v0:=Tryz.zeroValue0
 t3:=Tryz.underlying3
 a3:=Tryz.isAgg3
 z3:=Tryz.sizeOf3
 v3:=Tryz.zeroValue3
 t4:=Tryz.underlying4
 a4:=Tryz.isAgg4
 z4:=Tryz.sizeOf4
 v4:=Tryz.zeroValue4
 t5:=Tryz.underlying5
 a5:=Tryz.isAgg5
 z5:=Tryz.sizeOf5
 v5:=Tryz.zeroValue5
 t9:=Tryz.underlying9
 a9:=Tryz.isAgg9
 z9:=Tryz.sizeOf9
 v9:=Tryz.zeroValue9
 t22:=Tryz.underlying27
 a22:=Tryz.isAgg27
 z22:=Tryz.sizeOf27
 v22:=Tryz.zeroValue27
 t25:=Tryz.underlying78
 a25:=Tryz.isAgg78
 z25:=Tryz.sizeOf78
 v25:=Tryz.zeroValue78
 t39:=Tryz.underlying144
 a39:=Tryz.isAgg144
 z39:=Tryz.sizeOf144
 v39:=Tryz.zeroValue144
 t45:=Tryz.underlying187
 a45:=Tryz.isAgg187
 z45:=Tryz.sizeOf187
 v45:=Tryz.zeroValue187
 t46:=Tryz.underlying188
 a46:=Tryz.isAgg188
 z46:=Tryz.sizeOf188
 v46:=Tryz.zeroValue188
 t50:=Tryz.underlying180
 a50:=Tryz.isAgg180
 z50:=Tryz.sizeOf180
 v50:=Tryz.zeroValue180
 t53:=Tryz.underlying194
 a53:=Tryz.isAgg194
 z53:=Tryz.sizeOf194
 v53:=Tryz.zeroValue194
 t55:=Tryz.underlying196
 a55:=Tryz.isAgg196
 z55:=Tryz.sizeOf196
 v55:=Tryz.zeroValue196
 t66:=Tryz.underlying222
 a66:=Tryz.isAgg222
 z66:=Tryz.sizeOf222
 v66:=Tryz.zeroValue222
 t70:=Tryz.underlying226
 a70:=Tryz.isAgg226
 z70:=Tryz.sizeOf226
 v70:=Tryz.zeroValue226
 t76:=Tryz.underlying248
 a76:=Tryz.isAgg248
 z76:=Tryz.sizeOf248
 v76:=Tryz.zeroValue248
 t77:=Tryz.underlying233
 a77:=Tryz.isAgg233
 z77:=Tryz.sizeOf233
 v77:=Tryz.zeroValue233}
end Go.Proofs

namespace Go.Proofs.YthenjegmigeieaaGreat
open Go.RowKit
theorem NN(t:fL)(w:World):Calls Tryz.prog 235 #[aSL t] w fun e d=>e=.returned (.bool (zC t))/\Below w.heap.size w d:=by
 unfold zC;cases f:t.var.isEmpty
 ·cases g:(t.n==0)
  ·go_enter Tryz.func235,Tryz.ntmps235
   go_wp2;go_ret;exact⟨rfl,(aH _ _).alloc (aE _) _⟩
  go_enter Tryz.func235,Tryz.ntmps235
  go_wp2_with fail;refine(QC t.var 2 _).mono ?_;rintro e j ⟨rfl,b⟩;go_wp2;go_ret;exact⟨rfl,jX b⟩
 unfold dG;by_cases h: -9999999<=t.n
 ·go_enter Tryz.func235,Tryz.ntmps235
  go_wp2;go_ret;exact⟨by simp,(aH _ _).alloc (aE _) _⟩
 have i:decide (-9999999<=t.n)=false:=by simpa using h
 go_enter Tryz.func235,Tryz.ntmps235
 go_wp2;go_ret;exact⟨rfl,(aH _ _).alloc (aE _) _⟩
theorem TW(w:World)(ao:Option Addr)(b:Nat):Calls Tryz.prog 229 #[.slice ao 0 b] w fun e d=>e=.returned (.bool true)/\Below w.heap.size w d:=by
 go_enter Tryz.func229,Tryz.ntmps229
 go_wp2_with fail;refine mG 1 ?_;rw[rounds_succ];go_wp2_with fail;go_ret;exact⟨rfl,aH _ _⟩
theorem TX(l:List fL)(w:World)(n b off C:Nat)(B:l.length=n)(I:n<=140737488355328)(s:∀i,i<n->KG w b (off+i*2) (vE l i)):
 Calls Tryz.prog 229 #[.slice (some ⟨b,off,none⟩) n C] w fun e D=>e=.returned (.bool (pP l))/\Below w.heap.size w D:=by
 have HN:O (l.length=n):=B;clear B
 go_enter Tryz.func229,Tryz.ntmps229
 go_wp2_with fail;go_loopw [7] (fun i wr=>∃k:Nat,k<=n/\i=.int .i64 k/\pP l=(l.drop k).all zC/\Below w.heap.size w wr) (fun i _=>n-(intOf i).toNat);case atStart=>exact⟨0,bG _,rfl,rfl,aH _ _⟩
 case round=>
  obtain⟨k,H,rfl,y,d⟩:=hrel;have m:O (pP l=(l.drop k).all zC):=y;clear y;by_cases A:k<n
  ·obtain⟨r,x⟩:=s k A;have z:b<w.heap.size:=jE w _ r;have F:=(d.cell (p:=⟨b,off+k*2,none⟩) z).trans r;have G:=(d.cell (p:=⟨b,off+k*2+1,none⟩) z).trans x;have q:O (pP l=(zC (vE l k)&&(l.drop (k+1)).all zC)):=m.o.trans (EA _ _ _ k (by rw[HN.o];exact A));clear r x s m;generalize vE l k=t at *;cases f:zC t
   ·(have HV:O (pP l=false):=by show _=_;rw[q.o,f];rfl);go_wp2_with fail;refine(NN t _).mono ?_;rintro e E ⟨g,j⟩;rw[f]at g;subst g;have v:=d.trans ((jX j).mono d.size);go_wp2_with fail;go_ret;exact⟨jY HV.o.symm,v⟩
   (have HV:O (pP l=(l.drop (k+1)).all zC):=by show _=_;rw[q.o,f];rfl);go_wp2_with fail;refine(NN t _).mono ?_;rintro e E ⟨g,j⟩;rw[f]at g;subst g;have v:=d.trans ((jX j).mono d.size);clear j f q;go_wp2_with fail;go_roundw;(case rel=>exact⟨k+1,oM,gN,HV.o,v⟩);case measure=>exact mI
  (have HV:O (pP l=true):=by show _=_;rw[m.o,bD (by rw[HN.o];omega)];rfl);clear s;go_wp2_with fail;go_ret;exact⟨jY HV.o.symm,d⟩
theorem JJ(l:List fL)(v:Value)(w:World)(i:l.length<=140737488355328)(d:MH w v l):
 Calls Tryz.prog 229 #[v] w fun e k=>e=.returned (.bool (pP l))/\Below w.heap.size w k:=by
 obtain⟨g,f,rfl,d⟩:=d;rcases d with rfl|⟨b,j,rfl,d⟩
 ·exact TW w g f
 exact TX l w l.length b j f rfl i d
abbrev QE(x:iX)(v:Value):Obj:=.cells #[.int .i64 x.kind, .int .i64 x.at_, .int .i64 x.op, .string ⟨x.name.toArray⟩,v] 260
abbrev DL(r:jN)(v u:Value):Obj:=.cells #[.int .i64 r.at_, .string ⟨r.name.toArray⟩,v, .int .i64 r.x,u] 240
theorem IB{w b:World}{x:iX}{v:Value}(e:Below (w.alloc (QE x v)).heap.size (w.alloc (QE x v)) b):
 b.cell? ⟨w.heap.size,0,none⟩=some (.int .i64 x.kind)/\b.cell? ⟨w.heap.size,1,none⟩=some (.int .i64 x.at_)/\b.cell? ⟨w.heap.size,2,none⟩=some (.int .i64 x.op)/\
 b.cell? ⟨w.heap.size,3,none⟩=some (.string ⟨x.name.toArray⟩)/\b.cell? ⟨w.heap.size,4,none⟩=some v:=by
 obtain⟨d,f⟩:=Vg e;(have h:w.heap.size<(w.alloc (QE x v)).heap.size:=by simp);refine⟨?_,?_,?_,?_,?_⟩
 ·rw[d _ _ h];simp[go_sem]
 ·rw[d _ _ h];simp[go_sem]
 ·rw[d _ _ h];simp[go_sem]
 ·rw[d _ _ h];simp[go_sem]
 rw[d _ _ h];simp[go_sem]
theorem aSG{w b:World}{r:jN}{v u:Value}(e:Below (w.alloc (DL r v u)).heap.size (w.alloc (DL r v u)) b):
 b.cell? ⟨w.heap.size,0,none⟩=some (.int .i64 r.at_)/\b.cell? ⟨w.heap.size,1,none⟩=some (.string ⟨r.name.toArray⟩)/\b.cell? ⟨w.heap.size,2,none⟩=some v/\
 b.cell? ⟨w.heap.size,3,none⟩=some (.int .i64 r.x)/\b.cell? ⟨w.heap.size,4,none⟩=some u:=by
 obtain⟨d,f⟩:=Vg e;(have h:w.heap.size<(w.alloc (DL r v u)).heap.size:=by simp);refine⟨?_,?_,?_,?_,?_⟩
 ·rw[d _ _ h];simp[go_sem]
 ·rw[d _ _ h];simp[go_sem]
 ·rw[d _ _ h];simp[go_sem]
 ·rw[d _ _ h];simp[go_sem]
 rw[d _ _ h];simp[go_sem]
theorem kY(w:World)(o:Obj):Below w.heap.size w (w.alloc o):=(aH _ _).alloc (aE _) _
theorem Jz(x:iX)(v:Value)(w:World)(H:x.p.length<=140737488355328)(F:MH w v x.p):
 Calls Tryz.prog 231 #[aT8 x v] w fun e s=>e=.returned (.bool (zS x))/\Below w.heap.size w s:=by
 have i:O (_):=JJ x.p v (w.alloc (QE x v)) H (wO F (kY _ _));obtain⟨L,M,rfl,_⟩:=F
 have HV:O (zS x=(pP x.p&&(if x.kind=1\/x.kind=2 then(x.op==0)&&oR x.name
  else if x.kind=3 then dG x.op 1 4&&x.name.isEmpty&&((x.p.length:Int)==2)
  else if x.kind=4 then dG x.op 5 7&&x.name.isEmpty&&((x.p.length:Int)==3)else false))):=rfl
 generalize zS x=V at *;cases g:pP x.p
 ·(have f:O (V=false):=by show _=_;rw[HV.o,g];rfl);clear HV
  go_enter Tryz.func231,Tryz.ntmps231
  go_wp2_with fail;refine Calls.mono i.o ?_;rintro e j ⟨d,b⟩;rw[g]at d;subst d;go_wp2_with fail;go_ret;exact⟨jY f.o.symm,jX b⟩
 rw[g,IF]at HV;by_cases r:x.kind=1\/x.kind=2
 ·rw[if_pos r]at HV;cases q:(x.op==0)
  ·(have f:O (V=false):=by show _=_;rw[HV.o,q];rfl);clear HV;rcases r with B|C
   ·have D:(x.kind==1)=true:=mN.2 B;clear B
    go_enter Tryz.func231,Tryz.ntmps231
    go_wp2_with fail;refine Calls.mono i.o ?_;rintro e j ⟨d,b⟩;rw[g]at d;subst d;obtain⟨c0,k,l,m,n⟩:=IB b;go_wp2_with fail;go_ret;exact⟨jY f.o.symm,jX b⟩
   have D:(x.kind==1)=false:=fR.2 oM;have G:(x.kind==2)=true:=mN.2 C;clear C
   go_enter Tryz.func231,Tryz.ntmps231
   go_wp2_with fail;refine Calls.mono i.o ?_;rintro e j ⟨d,b⟩;rw[g]at d;subst d;obtain⟨c0,k,l,m,n⟩:=IB b;go_wp2_with fail;go_ret;exact⟨jY f.o.symm,jX b⟩
  (have f:O (V=oR x.name):=by show _=_;rw[HV.o,q];rfl);clear HV;rcases r with B|C
  ·have D:(x.kind==1)=true:=mN.2 B;clear B
   go_enter Tryz.func231,Tryz.ntmps231
   go_wp2_with fail;refine Calls.mono i.o ?_;rintro e j ⟨d,b⟩;rw[g]at d;subst d;obtain⟨c0,k,l,m,n⟩:=IB b;go_wp2_with fail;refine(TP x.name _).mono ?_;rintro e K ⟨rfl,E⟩;go_wp2_with fail;go_ret;exact⟨jY f.o.symm,(jX b).trans (E.mono (jX b).size)⟩
  have D:(x.kind==1)=false:=fR.2 oM;have G:(x.kind==2)=true:=mN.2 C;clear C
  go_enter Tryz.func231,Tryz.ntmps231
  go_wp2_with fail;refine Calls.mono i.o ?_;rintro e j ⟨d,b⟩;rw[g]at d;subst d;obtain⟨c0,k,l,m,n⟩:=IB b;go_wp2_with fail;refine(TP x.name _).mono ?_;rintro e K ⟨rfl,E⟩;go_wp2_with fail;go_ret;exact⟨jY f.o.symm,(jX b).trans (E.mono (jX b).size)⟩
 rw[if_neg r]at HV;have D:(x.kind==1)=false:=fR.2 (fun h=>r (.inl h));have G:(x.kind==2)=false:=fR.2 (fun h=>r (.inr h));clear r;by_cases y:x.kind=3
 ·rw[if_pos y]at HV;have I:(x.kind==3)=true:=mN.2 y;clear y;cases q:dG x.op 1 4
  ·(have f:O (V=false):=by show _=_;rw[HV.o,q];rfl);clear HV
   go_enter Tryz.func231,Tryz.ntmps231
   go_wp2_with fail;refine Calls.mono i.o ?_;rintro e j ⟨d,b⟩;rw[g]at d;subst d;obtain⟨c0,k,l,m,n⟩:=IB b;go_wp2_with(go_at_call 236;refine(TQ _ _).mono ?_;rintro e s ⟨rfl,rfl⟩);go_ret;exact⟨jY f.o.symm,jX b⟩
  cases A:x.name.isEmpty
  ·(have f:O (V=false):=by show _=_;rw[HV.o,A];simp);clear HV
   go_enter Tryz.func231,Tryz.ntmps231
   go_wp2_with fail;refine Calls.mono i.o ?_;rintro e j ⟨d,b⟩;rw[g]at d;subst d;obtain⟨c0,k,l,m,n⟩:=IB b;go_wp2_with(go_at_call 236;refine(TQ _ _).mono ?_;rintro e s ⟨rfl,rfl⟩);go_ret;exact⟨jY f.o.symm,jX b⟩
  (have f:O (V=((x.p.length:Int)==2)):=by show _=_;rw[HV.o,q,A];rfl);clear HV
  go_enter Tryz.func231,Tryz.ntmps231
  go_wp2_with fail;refine Calls.mono i.o ?_;rintro e j ⟨d,b⟩;rw[g]at d;subst d;obtain⟨c0,k,l,m,n⟩:=IB b;go_wp2_with(go_at_call 236;refine(TQ _ _).mono ?_;rintro e s ⟨rfl,rfl⟩);go_ret;exact⟨jY f.o.symm,jX b⟩
 rw[if_neg y]at HV;have I:(x.kind==3)=false:=fR.2 y;clear y;by_cases z:x.kind=4
 ·rw[if_pos z]at HV;have J:(x.kind==4)=true:=mN.2 z;clear z;cases q:dG x.op 5 7
  ·(have f:O (V=false):=by show _=_;rw[HV.o,q];rfl);clear HV
   go_enter Tryz.func231,Tryz.ntmps231
   go_wp2_with fail;refine Calls.mono i.o ?_;rintro e j ⟨d,b⟩;rw[g]at d;subst d;obtain⟨c0,k,l,m,n⟩:=IB b;go_wp2_with(go_at_call 237;refine(TO _ _).mono ?_;rintro e s ⟨rfl,rfl⟩);go_ret;exact⟨jY f.o.symm,jX b⟩
  cases A:x.name.isEmpty
  ·(have f:O (V=false):=by show _=_;rw[HV.o,A];simp);clear HV
   go_enter Tryz.func231,Tryz.ntmps231
   go_wp2_with fail;refine Calls.mono i.o ?_;rintro e j ⟨d,b⟩;rw[g]at d;subst d;obtain⟨c0,k,l,m,n⟩:=IB b;go_wp2_with(go_at_call 237;refine(TO _ _).mono ?_;rintro e s ⟨rfl,rfl⟩);go_ret;exact⟨jY f.o.symm,jX b⟩
  (have f:O (V=((x.p.length:Int)==3)):=by show _=_;rw[HV.o,q,A];rfl);clear HV
  go_enter Tryz.func231,Tryz.ntmps231
  go_wp2_with fail;refine Calls.mono i.o ?_;rintro e j ⟨d,b⟩;rw[g]at d;subst d;obtain⟨c0,k,l,m,n⟩:=IB b;go_wp2_with(go_at_call 237;refine(TO _ _).mono ?_;rintro e s ⟨rfl,rfl⟩);go_ret;exact⟨jY f.o.symm,jX b⟩
 rw[if_neg z]at HV;have J:(x.kind==4)=false:=fR.2 z;have f:O (V=false):=HV.o;clear z HV
 go_enter Tryz.func231,Tryz.ntmps231
 go_wp2_with fail;refine Calls.mono i.o ?_;rintro e j ⟨d,b⟩;rw[g]at d;subst d;obtain⟨c0,k,l,m,n⟩:=IB b;go_wp2_with fail;go_ret;exact⟨jY f.o.symm,jX b⟩
theorem Cv(r:jN)(ao j:Option Addr)(k cb:Nat)(w:World):
 Calls Tryz.prog 230 #[aLC r (.slice ao r.p.length k) (.slice j r.body.length cb)] w fun e l=>e=.returned (.bool (CQ r.x r.p.length r.body.length))/\Below w.heap.size w l:=by
 have HV:O (CQ r.x r.p.length r.body.length=((r.x==0)||(decide (1<=r.x)&&decide (r.x<=4)&&decide (0<r.p.length)&&decide (0<r.body.length)))):=rfl;generalize CQ r.x r.p.length r.body.length=V at *;cases d:(r.x==0)
 ·cases f:decide (1<=r.x)
  ·(have b:O (V=false):=by show _=_;rw[HV.o,d,f];rfl);clear HV
   go_enter Tryz.func230,Tryz.ntmps230
   go_wp2;go_ret;exact⟨jY b.o.symm,kY _ _⟩
  cases g:decide (r.x<=4)
  ·(have b:O (V=false):=by show _=_;rw[HV.o,d,f,g];rfl);clear HV
   go_enter Tryz.func230,Tryz.ntmps230
   go_wp2;go_ret;exact⟨jY b.o.symm,kY _ _⟩
  cases i:decide (0<r.p.length)
  ·(have b:O (V=false):=by show _=_;rw[HV.o,d,f,g,i];rfl);clear HV
   go_enter Tryz.func230,Tryz.ntmps230
   go_wp2;go_ret;exact⟨jY b.o.symm,kY _ _⟩
  (have b:O (V=decide (0<r.body.length)):=by show _=_;rw[HV.o,d,f,g,i];rfl);clear HV
  go_enter Tryz.func230,Tryz.ntmps230
  go_wp2;go_ret;exact⟨jY (by rw[b.o]),kY _ _⟩
 (have b:O (V=true):=by show _=_;rw[HV.o,d];rfl);clear HV
 go_enter Tryz.func230,Tryz.ntmps230
 go_wp2;go_ret;exact⟨jY b.o.symm,kY _ _⟩
def aDH(l:List iX):Prop:=∀i,i<l.length->(AD l i).p.length<=140737488355328
theorem Cw(r:jN)(v u:Value)(w:World)(a6:r.p.length<=140737488355328)(ac:r.body.length<=140737488355328)(a7:aDH r.body)(T:MH w v r.p)(U:Tw w u r.body):
 Calls Tryz.prog 222 #[aLC r v u] w fun e w'=>e=.returned (.bool (qL r))/\Below w.heap.size w w':=by
 have K:=wO T (kY w (DL r v u));have M:=uH U (kY w (DL r v u));obtain⟨ao,ca,rfl,_⟩:=T;obtain⟨bo,cb,rfl,_⟩:=U;have HV:O (qL r=(oR r.name&&pP r.p&&CQ r.x r.p.length r.body.length&&AT r.body)):=rfl;generalize qL r=V at *
 go_enter Tryz.func222,Tryz.ntmps222
 go_wp2_with fail;refine(TP r.name _).mono ?_;rintro e w1 ⟨d,s⟩;have G:Below w.heap.size w w1:=jX s;obtain⟨c0,Q,R,S,D⟩:=aSG s;have L:=wO K s;have N:=uH M s;cases m:oR r.name
 ·(have f:O (V=false):=by show _=_;rw[HV.o,m];rfl);rw[m]at d;subst d;clear HV K M L N;go_wp2_with fail;go_ret;exact⟨jY f.o.symm,G⟩
 rw[m]at d;subst d;go_wp2_with fail;refine(JJ r.p _ _ a6 L).mono ?_;rintro e w2 ⟨d,j⟩;have H:=G.trans (j.mono G.size);have W:=uH N j;have c0:=aB j c0;have Q:=aB j Q;have R:=aB j R;have S:=aB j S;have D:=aB j D;clear K M L N;cases n:pP r.p
 ·(have f:O (V=false):=by show _=_;rw[HV.o,n];simp);rw[n]at d;subst d;go_wp2_with fail;go_ret;exact⟨jY f.o.symm,H⟩
 rw[n]at d;subst d;go_wp2_with fail;refine(Cv r ao bo ca cb _).mono ?_;rintro e w3 ⟨d,E⟩;have y:=H.trans (E.mono H.size);have P:=uH W E;have D:=aB E D;cases q:CQ r.x r.p.length r.body.length
 ·(have f:O (V=false):=by show _=_;rw[HV.o,q];simp);rw[q]at d;subst d;go_wp2_with fail;go_ret;exact⟨jY f.o.symm,y⟩
 rw[q]at d;subst d;(have J:O (V=AT r.body):=by show _=_;rw[HV.o,m,n,q];rfl);clear HV m n q s j E W G H;go_wp2_with fail;go_loopw [23] (fun i wr=>∃k:Nat,k<=r.body.length/\i=.int .i64 k/\AT r.body=(r.body.drop k).all zS/\Below w3.heap.size w3 wr) (fun i _=>r.body.length-(intOf i).toNat);case atStart=>exact⟨0,bG _,rfl,rfl,aH _ _⟩
 case round=>
  obtain⟨k,hk,rfl,Y,l⟩:=hrel;have B:O (AT r.body=(r.body.drop k).all zS):=Y;clear Y;by_cases A:k<r.body.length
  ·obtain⟨a9,ab,hv,hL⟩:=uH P l;rcases hL with h|⟨b,ad,rfl,Z⟩
   ·rw[h]at A;exact absurd A sI
   injection hv with e1 _ e3;subst e1 e3;obtain⟨a0,a1,a2,a3,v4,a4,X⟩:=Z k A;have C:O (AT r.body=(zS (AD r.body k)&&(r.body.drop (k+1)).all zS)):=B.o.trans (EA _ _ _ k A);have a5:=a7 k A;clear Z B P;generalize AD r.body k=x at *;have I:O (_):=Jz x v4 (wr.alloc (QE x v4)) a5 (wO X (kY _ _));obtain⟨a8,aa,rfl,_⟩:=X;cases g:zS x
   ·(have f:O (V=false):=by show _=_;rw[J.o,C.o,g];rfl);clear C J;go_wp2_with fail;refine Calls.mono I.o ?_;rintro e w4 ⟨d,F⟩;rw[g]at d;subst d;have z:=y.trans ((l.trans ((jX F).mono l.size)).mono y.size);go_wp2_with fail;go_ret;exact⟨jY f.o.symm,z⟩
   (have HN:O (AT r.body=(r.body.drop (k+1)).all zS):=by show _=_;rw[C.o,g];rfl);clear C;go_wp2_with fail;refine Calls.mono I.o ?_;rintro e w4 ⟨d,F⟩;rw[g]at d;subst d;have z:=l.trans ((jX F).mono l.size);clear F I g a0 a1 a2 a3 a4;go_wp2_with fail;go_roundw;(case rel=>exact⟨k+1,oM,gN,HN.o,z⟩);case measure=>exact mI
  (have f:O (V=true):=by show _=_;rw[J.o,B.o,bD oM];rfl);have z:=y.trans (l.mono y.size);clear P B;go_wp2_with fail;go_ret;exact⟨jY f.o.symm,z⟩
abbrev aLD(v:Value):Value:=.agg #[v]
theorem aG7(l:List jN)(v:Value)(w:World)(X:OY w v l):
 Calls Tryz.prog 221 #[aLD v] w fun e w'=>e=.returned (.bool (jA l))/\Below w.heap.size w w':=by
 have q:=BZ X (kY w (.cells #[v] 243));have m:=kY w (.cells #[v] 243);obtain⟨ao,ca,rfl,_⟩:=X;by_cases U:12<l.length
 ·have d:O (jA l=true):=by show _=_;unfold jA;rw[aQ U];rfl
  go_enter Tryz.func221,Tryz.ntmps221
  go_wp2_with fail;go_ret;exact⟨jY d.o.symm,m⟩
 have HV:O (jA l=l.any nI):=by show _=_;unfold jA;rw[aJ U];rfl
 go_enter Tryz.func221,Tryz.ntmps221
 go_wp2_with fail;generalize (w.alloc (.cells #[.slice ao l.length ca] 243))=K at *;go_loopw [14] (fun i wr=>∃k:Nat,k<=l.length/\i=.int .i64 k/\jA l=(l.drop k).any nI/\Below K.heap.size K wr) (fun i _=>l.length-(intOf i).toNat);case atStart=>exact⟨0,bG _,rfl,HV.o,aH _ _⟩
 case round=>
  obtain⟨k,hk,rfl,A,y⟩:=hrel;have C:O (jA l=(l.drop k).any nI):=A;clear A HV;by_cases I:k<l.length
  ·obtain⟨a9,ab,P,hR⟩:=BZ q y;rcases hR with h|⟨b,ad,rfl,B⟩
   ·rw[h]at I;exact absurd I sI
   injection P with L _ M;subst L M;obtain⟨a0,a1,⟨Q,a2,N⟩,a3,R,a4,G⟩:=B k I;have f:O (jA l=(nI (tL l k)||(l.drop (k+1)).any nI)):=C.o.trans (aE4 _ _ _ k I);clear B C;generalize tL l k=r at *;have z:=uH G (kY wr (DL r Q R));have H:Below w.heap.size w (wr.alloc (DL r Q R)):=(m.trans (y.mono m.size)).trans ((kY wr _).mono (m.trans (y.mono m.size)).size);have Y:Below K.heap.size K (wr.alloc (DL r Q R)):=y.trans ((kY wr _).mono y.size);obtain⟨a5,a7,rfl,_⟩:=N;obtain⟨a6,a8,rfl,_⟩:=G;by_cases W:4<r.body.length;rotate_left
   ·have g1:decide ((4:Int)<(r.body.length:Int))=false:=aJ oM;by_cases V:3<r.p.length;rotate_left
    ·have g2:decide ((3:Int)<(r.p.length:Int))=false:=aJ oM;(have F:O (nI r=vS r.body):=by show _=_;unfold nI;rw[aJ W,aJ V];rfl);go_wp2_with fail;generalize (wr.alloc (DL r (.slice a5 r.p.length a7) (.slice a6 r.body.length a8)))=w1 at *;go_loopw [31] (fun i wq=>∃j:Nat,j<=r.body.length/\i=.int .i64 j/\vS r.body=(r.body.drop j).any (fun x=>decide (3<x.p.length))/\Below w1.heap.size w1 wq) (fun i _=>r.body.length-(intOf i).toNat);case atStart=>exact⟨0,bG _,rfl,rfl,aH _ _⟩
     case round=>
      obtain⟨j,hj,rfl,A,s⟩:=hrel;have D:O (vS r.body=(r.body.drop j).any (fun x=>decide (3<x.p.length))):=A;clear A;by_cases J:j<r.body.length
      ·obtain⟨aa,ac,P,G⟩:=uH z s;rcases G with h|⟨b2,ae,rfl,B⟩
       ·rw[h]at J;exact absurd J sI
       injection P with L _ M;subst L M;obtain⟨q0,q1,q2,q3,u4,q4,N⟩:=B j J;have E:O (vS r.body=(decide (3<(AD r.body j).p.length)||(r.body.drop (j+1)).any (fun x=>decide (3<x.p.length)))):=D.o.trans (aE4 _ _ _ j J);clear B D z q;generalize AD r.body j=x at *;obtain⟨S,T,rfl,_⟩:=N;by_cases Z:3<x.p.length;rotate_left
       ·have g:decide ((3:Int)<(x.p.length:Int))=false:=aJ oM;(have HN:O (vS r.body=(r.body.drop (j+1)).any (fun x=>decide (3<x.p.length))):=by show _=_;rw[E.o,aJ Z];rfl);have n:=s.trans ((kY _ (QE x (.slice S x.p.length T))).mono s.size);clear E;go_wp2_with fail;go_roundw;(case rel=>exact⟨j+1,oM,gN,HN.o,n⟩);case measure=>exact mI
       have g:decide ((3:Int)<(x.p.length:Int))=true:=aQ oM;(have d:O (jA l=true):=by show _=_;rw[f.o,F.o,E.o,aQ Z];rfl);have n:=H.trans ((s.trans ((kY _ (QE x (.slice S x.p.length T))).mono s.size)).mono H.size);clear E f F;go_wp2_with fail;go_ret;exact⟨jY d.o.symm,n⟩
      (have HN:O (jA l=(l.drop (k+1)).any nI):=by show _=_;rw[f.o,F.o,D.o,bD oM];rfl);have n:=Y.trans (s.mono Y.size);clear D f F z q;go_wp2_with fail;go_roundw;(case rel=>exact⟨k+1,oM,gN,HN.o,n⟩);case measure=>exact mI
    have g2:decide ((3:Int)<(r.p.length:Int))=true:=aQ oM;(have d:O (jA l=true):=by show _=_;rw[f.o];unfold nI;rw[aQ V];simp);clear f q z;go_wp2_with fail;go_ret;exact⟨jY d.o.symm,H⟩
   have g1:decide ((4:Int)<(r.body.length:Int))=true:=aQ oM;(have d:O (jA l=true):=by show _=_;rw[f.o];unfold nI;rw[aQ W];simp);clear f q z;go_wp2_with fail;go_ret;exact⟨jY d.o.symm,H⟩
  (have d:O (jA l=false):=by show _=_;rw[C.o,bD oM];rfl);have n:=m.trans (y.mono m.size);clear q C;go_wp2_with fail;go_ret;exact⟨jY d.o.symm,n⟩
theorem aGW{r:jN}(h:nI r=false):r.p.length<=3/\r.body.length<=4/\aDH r.body:=by unfold nI at h;simp only[Bool.or_eq_false_iff,decide_eq_false_iff_not]at h;refine⟨oM,oM,fun i d=>?_⟩;have b:=h.2;unfold vS at b;rw[XO]at b;(have e:AD r.body i=r.body[i]:=by rw[AD,aC,aD d];rfl);have :=b _ (dY d);rw[e];simp at this;omega
theorem aLN(l:List jN)(v:Value)(w:World)(I:OY w v l):
 Calls Tryz.prog 206 #[aLD v] w fun e w'=>e=.returned (.int .i64 (lB l))/\Below w.heap.size w w':=by
 have B:=BZ I (kY w (.cells #[v] 243));have D:=kY w (.cells #[v] 243);have G:O (_):=aG7 l v (w.alloc (.cells #[v] 243)) B;obtain⟨X,Y,rfl,_⟩:=I
 go_enter Tryz.func206,Tryz.ntmps206
 go_wp2_with fail;refine Calls.mono G.o ?_;rintro e F ⟨f,y⟩;have n:=D.trans (y.mono D.size);have C:=BZ B y;have c0:F.cell? ⟨w.heap.size,0,none⟩=some (.slice X l.length Y):=aB y (by simp[go_sem]);clear G B y D;cases d:jA l
 ·rw[d]at f;subst f;(have ab:l.length<=12:=by unfold jA at d;simp only[Bool.or_eq_false_iff,decide_eq_false_iff_not]at d;omega);(have K:∀k,k<l.length->nI (tL l k)=false:=fun k E=>by unfold jA at d;simp only[Bool.or_eq_false_iff]at d;(have e:tL l k=l[k]:=by rw[tL,aC,aD E];rfl);rw[e];have :=XO.1 d.2 _ (dY E);simpa using this);have R:O (∀k,k<l.length->nI (tL l k)=false):=K;(have HV:O (lB l=if l.all qL then 0 else 1):=by show _=_;unfold lB;rw[d];rfl);clear K d;go_wp2_with fail;go_loopw [10] (fun i wr=>∃k:Nat,k<=l.length/\i=.int .i64 k/\l.all qL=(l.drop k).all qL/\Below F.heap.size F wr) (fun i _=>l.length-(intOf i).toNat);case atStart=>exact⟨0,bG _,rfl,rfl,aH _ _⟩
  case round=>
   obtain⟨k,E,rfl,M,j⟩:=hrel;have s:O (l.all qL=(l.drop k).all qL):=M;clear M;by_cases q:k<l.length
   ·obtain⟨a5,a8,hv,hR⟩:=BZ C j;rcases hR with h|⟨b,ac,rfl,N⟩
    ·rw[h]at q;exact absurd q sI
    injection hv with Z _ e3;subst Z e3;obtain⟨S,T,⟨P,U,L⟩,V,Q,W,J⟩:=N k q;have x:O (l.all qL=(qL (tL l k)&&(l.drop (k+1)).all qL)):=s.o.trans (EA _ _ _ k q);obtain⟨f1,f2,H⟩:=aGW (R.o k q);clear N s C;generalize tL l k=r at *;have A:O (_):=Cw r P Q (wr.alloc (DL r P Q)) oM oM H (wO L (kY _ _)) (uH J (kY _ _));obtain⟨a6,a9,rfl,_⟩:=L;obtain⟨a7,aa,rfl,_⟩:=J;clear H;cases g:qL r
    ·(have m:O (lB l=1):=by show _=_;rw[HV.o,x.o,g];rfl);clear x HV;go_wp2_with fail;refine Calls.mono A.o ?_;rintro e w4 ⟨f,z⟩;rw[g]at f;subst f;have p:=n.trans ((j.trans ((jX z).mono j.size)).mono n.size);go_wp2_with fail;go_ret;exact⟨AH m.o.symm,p⟩
    (have HN:O (l.all qL=(l.drop (k+1)).all qL):=by show _=_;rw[x.o,g];rfl);clear x;go_wp2_with fail;refine Calls.mono A.o ?_;rintro e w4 ⟨f,z⟩;rw[g]at f;subst f;have p:=j.trans ((jX z).mono j.size);clear z A g S T U V W;go_wp2_with fail;go_roundw;(case rel=>exact⟨k+1,oM,gN,HN.o,p⟩);case measure=>exact mI
   (have m:O (lB l=0):=by show _=_;rw[HV.o,s.o,bD oM];rfl);have p:=n.trans (j.mono n.size);clear C s HV;go_wp2_with fail;go_ret;exact⟨AH m.o.symm,p⟩
 rw[d]at f;subst f;(have m:O (lB l=2):=by show _=_;unfold lB;rw[d];rfl);go_wp2_with fail;go_ret;exact⟨AH m.o.symm,n⟩
theorem lI{w w':World}(h:Below w.heap.size w w')(d:Option Nat):w.grownBy w' d:=
 ⟨h.os,h.tape,h.output,h.size,fun k b _=>h.block k b⟩
theorem uR{a b c:World}{d:Option Nat}(h:a.grownBy b d)(k:b.grownBy c d):a.grownBy c d:=
 ⟨k.os.trans h.os,k.tape.trans h.tape,k.output.trans h.output,bH h.size k.size,fun i e f=>(k.block i (dQ e h.size) f).trans (h.block i e f)⟩
theorem AY{w:World}{P:Nat}(o:Nat)(v:Value):w.grownBy (w.setCell ⟨P,o,none⟩ v) (some P):=
 ⟨rfl,rfl,rfl,by simp[World.setCell],fun k _ b=>gE _ _ _ _ (fun e=>b (by rw[e]))⟩
theorem oH{B:Nat}{a w:World}(h:Below B a w)(n:Nat):Below B a (w.drewN n):=⟨h.os,h.tape,h.output,h.size,h.block⟩
end Go.Proofs.YthenjegmigeieaaGreat

namespace Go.Proofs.YthenjegmigeieaaGreat
open Go.RowKit
abbrev aUD(w:World)(x:fD):World:=w.alloc (.cells #[.int .i64 x.kind, .int .i64 x.at_, .string ⟨x.text.toArray⟩] 271)
abbrev aCP:Obj:=.cells #[.string {data:=#[]}, .int .i64 0] 266
theorem JF(k:Nat):∀cs:List (List Value),(∀c,c∈cs->c.length=k)->cs.flatten.length=cs.length*k:=by
 intro cs
 induction cs with
 |nil=>intro _;simp
 |cons c r ih=>
  intro h;rw[yK,bA,ih (fun c hc=>h c (bO _ hc)),h c dC,zW,QO];omega
theorem GX(k:Nat):∀(cs:List (List Value)),(∀c,c∈cs->c.length=k)->∀i c j u,cs[i]?=some c->c[j]?=some u->cs.flatten[i*k+j]?=some u:=by
 intro cs
 induction cs with
 |nil=>intro _ i c j u h;simp at h
 |cons a r ih=>
  intro h i c j u hi hj;have ha:=h a dC;have hjk:j<c.length:=by
   rcases jW j c.length with h|h
   ·exact h
   rw[cZ h]at hj;cases hj
  rw[yK]
  cases i with
  |zero=>
   (have hac:a=c:=by simpa using hi);subst hac;rw[EQ,dV,mL hjk];exact hj
  |succ i=>
   rw[jP (by rw[ha,QO];omega),ha,show(i+1)*k+j-k=i*k+j from by rw[QO];omega];exact ih (fun c hc=>h c (bO _ hc)) i c j u (by simpa using hi) hj
theorem bP{w:World}{b:Nat}{o:Obj}(h:w.heap[b]?=some o):b<w.heap.size:=by
 rcases jW b w.heap.size with h1|h1
 ·exact h1
 rw[AO h1]at h;cases h
theorem Xm{w:World}{b:Nat}{o:Obj}(h:w.heap[b]?=some o):b<w.heap.size:=by
 rcases jW b w.heap.size with d|d
 ·exact d
 rw[AO d]at h;cases h
theorem kT(w:World)(o:Obj):(w.alloc o).heap[w.heap.size]?=some o:=by show(w.heap.push o)[w.heap.size]?=some o;simp
theorem aGP{d y:World}{b o:Nat}{v:Value}(h:d.cell? ⟨b,o,none⟩=some v)(e:∀k,k<d.heap.size->y.heap[k]?=d.heap[k]?):y.cell? ⟨b,o,none⟩=some v:=(lQ (a:=⟨b,o,none⟩) (e b (jE d _ h))).trans h
theorem QJ{b y:World}(f:∀k,k<b.heap.size->y.heap[k]?=b.heap[k]?):b.heap.size<=y.heap.size:=by
 rcases UC b.heap.size with h|h
 ·omega
 have d:=f (b.heap.size-1) oM;have e:b.heap[b.heap.size-1]?=some b.heap[b.heap.size-1]:=iG oM;have :=Xm (d.trans e);omega
theorem kH{w w':World}{B k n:Nat}{e:TypeId}{v:Value}{d:List Value}(h:w.ownsRow B e k v n d)(p:∀g,v.ownBlock=some g->w'.heap[g]?=w.heap[g]?):w'.ownsRow B e k v n d:=by
 obtain⟨j,b⟩:=h;refine⟨j,?_⟩;rcases b with b|⟨g,f,i,rfl,l,m,r⟩
 ·exact .inl b
 exact .inr ⟨g,f,i,rfl,l,(p g rfl).trans m,r⟩
theorem AZ{d w:World}{v:Value}{l:List Int}(h:dM d v l)(m:∀k,k<d.heap.size->w.heap[k]?=d.heap[k]?):dM w v l:=by
 obtain⟨e,f,rfl,h⟩:=h;refine⟨e,f,rfl,?_⟩;rcases h with h|⟨b,n,rfl,g⟩
 ·exact .inl h
 exact .inr ⟨b,n,rfl,fun i j=>aGP (g i j) m⟩
abbrev Fv:=aN×Value
def dW(x:Fv):List Value:=[.int .i64 x.1.z,x.2]
theorem aBS(q:List Fv):∀c,c∈q.map dW->c.length=2:=by intro c b;obtain⟨t,_,rfl⟩:=cR.mp b;rfl
theorem JE(q:List Fv)(t:Nat)(ht:t<q.length*2):∃x,q[t/2]?=some x/\((q.map dW).flatten)[t]?=(dW x)[t% 2]?:=by
 have b:t/2<q.length:=oM;refine⟨q[t/2],aD b,?_⟩;have d:(dW q[t/2])[t% 2]?=some ((dW q[t/2])[t% 2]'(by show _<2;omega)):=aD _;have :=GX 2 (q.map dW) (aBS q) (t/2) (dW q[t/2]) (t% 2) _ (by rw[cY,aD b];rfl) d;rw[d,<-this]
 congr 1
 omega
theorem pE(q:List Fv):((q.map dW).flatten).length=q.length*2:=by rw[JF 2 _ (aBS q),aP]
abbrev vL(w:World)(B g b:Nat)(q:List Fv):Prop:=w.ownsRow B 55 2 (.slice (some ⟨g,0,none⟩) q.length b) q.length (q.map dW).flatten
section
variable {w w':World} {B g cap:Nat} {q:List Fv}
theorem vL.cell(h:vL w B g cap q){i:Nat}{x:Fv}(d:q[i]?=some x):w.cell? ⟨g,i*2,none⟩=some (.int .i64 x.1.z)/\w.cell? ⟨g,i*2+1,none⟩=some x.2:=by
 have j:i<q.length:=by
  rcases jW i q.length with b|b
  ·exact b
  rw[cZ b]at d;cases d
 (have e:(q.map dW)[i]?=some (dW x):=by rw[cY,d];rfl);have c0:=GX 2 (q.map dW) (aBS q) i (dW x) 0 (.int .i64 x.1.z) e rfl;have f:=GX 2 (q.map dW) (aBS q) i (dW x) 1 x.2 e rfl;exact⟨(World.ownsRow.cellAt h (i*2) oM).trans c0,(World.ownsRow.cellAt h (i*2+1) oM).trans f⟩
theorem vL.frozen(h:vL w B g cap q)(j:Nat):w.frozen? ⟨g,j,none⟩=false:=World.ownsRow.frozenAt h j
theorem vL.lt(h:vL w B g cap q):B<=g/\g<w.heap.size:=World.ownsRow.lt h g rfl
theorem vL.keep(h:vL w B g cap q)(e:w'.heap[g]?=w.heap[g]?):vL w' B g cap q:=kH h fun b d=>by
 (have :g=b:=by simpa[Value.ownBlock]using d);subst this
 exact e
theorem aPP(q:List Fv)(i:Nat)(n:i<q.length)(y:Fv):((((q.map dW).flatten).set (i*2) (.int .i64 y.1.z)).set (i*2+1) y.2)=(((q.set i y).map dW).flatten):=by
 apply jU;intro t;by_cases ht:t<q.length*2
 ·obtain⟨x,k,l⟩:=JE q t ht;obtain⟨z,b,m⟩:=JE (q.set i y) t (by rw[kL];exact ht);rw[m];rw[fS]at b;rw[fS,fS,kL,pE];by_cases e:i=t/2
  ·rw[if_pos e,if_pos oM]at b;(obtain rfl:y=z:=by simpa using b);by_cases g:t% 2=0
   ·have d:¬i*2+1=t:=oM;have f:i*2=t:=oM;rw[if_neg d,if_pos f,if_pos oM,g];rfl
   have j:t% 2=1:=oM;have d:i*2+1=t:=oM;rw[if_pos d,if_pos oM,j];rfl
  rw[if_neg e,k]at b;(obtain rfl:x=z:=by simpa using b);rw[if_neg oM,if_neg oM,l]
 rw[cZ,cZ]
 ·rw[pE,kL];omega
 rw[kL,kL,pE];omega
theorem vL.put(h:vL w B g cap q)(i:Nat)(e:i<q.length)(y:Fv):vL ((w.setCell ⟨g,i*2,none⟩ (.int .i64 y.1.z)).setCell ⟨g,i*2+1,none⟩ y.2) B g cap (q.set i y):=by have b:=(World.ownsRow.stored h (i*2) (.int .i64 y.1.z)).1;have d:=(World.ownsRow.stored b (i*2+1) y.2).1;unfold vL;rw[kL,<-aPP q i e y];exact d
end
end Go.Proofs.YthenjegmigeieaaGreat
namespace Go.Proofs.YthenjegmigeieaaGreat
open Go.Shelf Go.RowKit Go.Lib Go.Sort
def DN(w:World)(x:Fv):Prop:=dM w x.2 x.1.args/\fW x.1
abbrev FvS(w:World):={x:Fv//DN w x}
theorem aPV(w:World):DN w (⟨0,[]⟩, .slice none 0 0):=⟨⟨none,0,rfl, .inl rfl⟩,by show([]:List Int).length<=_;decide⟩
theorem aRX{w:World}:∀{q:List Fv},(∀p,p∈q->DN w p)->∃Q:List (FvS w),Q.map (·.1)=q:=by
 intro q
 induction q with
 |nil=>intro _;exact⟨[],rfl⟩
 |cons a r ih=>
  intro h;obtain⟨Q,hQ⟩:=ih (fun p hp=>h p (by simp[hp]));exact⟨⟨a,h a sI⟩::Q,by simp[hQ]⟩
abbrev Iy(w:World):Inhabited (FvS w):=⟨⟨_,aPV w⟩⟩
def PW{w:World}(x:FvS w):List Value:=dW x.1
def Iw{w:World}(x y:FvS w):Int:=eV x.1.1 y.1.1
theorem aT0(w:World):SWO (ltOf (Iw (w:=w)))where
 irrefl x:=by unfold ltOf Iw;rw[vO];decide
 trans x y z h1 h2:=by unfold ltOf Iw at *;simp only[decide_eq_true_eq]at *;exact sT h1 h2
 ntrans x y z h1 h2:=by
  unfold ltOf Iw at *;simp only[decide_eq_false_iff_not]at *;intro h3;rcases GD x.1.1 y.1.1 with h4|h4|h4
  ·exact h1 h4
  ·rw[h4]at h3;exact h2 h3
  exact h2 (sT h4 h3)
theorem aTZ{w:World}(x:FvS w):∀v∈PW x,v.oneCell'=true:=by intro v hv;obtain⟨⟨⟨p,a⟩,u⟩,h⟩:=x;obtain⟨⟨ao,cap,hu,_⟩,_⟩:=h;have hu:u=.slice ao a.length cap:=hu;subst hu;simp[PW,dW]at hv;rcases hv with rfl|rfl<;>rfl
theorem zI{α:Type}[Inhabited α](enc:α->List Value)(k:Nat)(w:World)(g m:Nat)(d:Array α)(os:Array Obj)(i:Nat)(hi:i<w.heap.size)(hne:¬i=g):(sortWorldK enc k w g 0 m d os).heap[i]?=w.heap[i]?:=by unfold sortWorldK putRowK putRow mapBlock Sort.ahead grow;show((w.heap.modify g _)++os)[i]?=_;rw[sL (by simpa using hi),tO,if_neg (fun e=>hne e.symm)]
theorem NL{α:Type}[Inhabited α](enc:α->List Value)(k:Nat)(w:World)(g m:Nat)(d:Array α)(os:Array Obj):w.heap.size<=(sortWorldK enc k w g 0 m d os).heap.size:=by unfold sortWorldK putRowK putRow mapBlock Sort.ahead grow;show _<=((w.heap.modify g _)++os).size;simp
theorem aPJ{w0 w:World}{g:Nat}(hg:w0.heap.size<=g)(hlow:∀k,k<w0.heap.size->w.heap[k]?=w0.heap[k]?)(size:Nat):@CmpLays (FvS w0) (Iy w0) Tryz.prog 71 #[] PW 2 Iw g 0 size w:=by
 letI:Inhabited (FvS w0):=Iy w0
 intro m os dk _ x y;have hl:∀k,k<w0.heap.size->(sortWorldK (PW (w:=w0)) 2 w g 0 m dk os).heap[k]?=w0.heap[k]?:=fun k hk=>(zI _ _ _ _ _ _ _ k (dQ hk (QJ hlow)) oM).trans (hlow k hk);exact CL x.1.1 y.1.1 x.1.2 y.1.2 _ (AZ x.2.1 hl) (AZ y.2.1 hl) x.2.2 y.2.2
theorem aND{w0 w:World}{B g cap:Nat}{Q:List (FvS w0)}(h:vL w B g cap (Q.map (·.1))):@HoldsK (FvS w0) (Iy w0) PW 2 w g 0 Q.toArray:=by
 letI:Inhabited (FvS w0):=Iy w0
 intro t ht;(have ht2:t<Q.length*2:=by simpa using ht);refine⟨?_,by rw[dV];exact h.frozen t⟩;rw[dV];have hc:=World.ownsRow.cellAt h t (by rw[aP];exact ht2);obtain⟨x,hx,hx2⟩:=JE (Q.map (·.1)) t (by rw[aP];exact ht2);rw[hc,hx2];have h1:t/2<Q.length:=oM;rw[cY,aD h1]at hx;(have hx3:Q[t/2].1=x:=by simpa using hx);show(dW x)[t% 2]?=some ((flatK PW 2 Q.toArray)[t]!);rw[get_flatK PW 2 Q.toArray t (by simpa using ht2)];(have h2:(Q.toArray)[t/2]! =Q[t/2]:=by simp[h1]);rw[h2];show _=some ((dW Q[t/2].1)[t% 2]!);rw[hx3];(have h3:t% 2<(dW x).length:=by show t% 2<2;omega);rw[aD h3,getElem!_pos (dW x) (t% 2) h3]
theorem aJ8{w0 w:World}{B g cap n:Nat}{Q:List (FvS w0)}{d:Array (FvS w0)}{os:Array Obj}(h:vL w B g cap (Q.map (·.1)))(hd:d.size=Q.length):
 vL (@sortWorldK (FvS w0) (Iy w0) PW 2 w g 0 n d os) B g cap (d.toList.map (·.1)):=by
 letI:Inhabited (FvS w0):=Iy w0
 have hg:=h.lt;obtain⟨h1,h2⟩:=h;rcases h2 with⟨h2,_⟩|⟨g',cap',cur,hv,hb,hh,hc1,hc2,hc3,hc4⟩
 ·cases h2
 injection hv with e1 _ e3;injection e1 with e1;injection e1 with e1;subst e1 e3;(have hl:(d.toList.map (·.1)).length=Q.length:=by rw[aP,zO,hd]);refine⟨pE _, .inr ⟨g,cap,putCells id 0 (flatK PW 2 d) cur,rfl,hb,?_,by rw[hl];simpa using hc1,hc2,by simpa[putCells]using hc3,?_⟩⟩
 ·unfold sortWorldK putRowK putRow mapBlock Sort.ahead grow;show((w.heap.modify g _)++os)[g]?=_;rw[sL (by simpa using hg.2),tO,if_pos rfl,hh];rfl
 apply jU;intro t;rw[gS,fH,hl];by_cases ht:t<Q.length*2
 ·rw[if_pos ht];have hq:(Q.map (·.1)).length=Q.length:=aP _;(have hcs:t<cur.size:=by rw[hc3];(have :Q.length<=cap:=by simpa using hc1);omega);obtain⟨x,hx,hx2⟩:=JE (d.toList.map (·.1)) t (by rw[hl];exact ht);rw[hx2];unfold putCells;rw[LK,iG hcs,lE,if_pos (by rw[size_flatK,hd];omega)];have h4:t/2<d.size:=oM;rw[cY,fH,iG h4]at hx;(have hx3:d[t/2].1=x:=by simpa using hx);rw[Nat.sub_zero,get_flatK PW 2 d t (by rw[hd];exact ht),getElem!_pos d _ h4];show some ((dW d[t/2].1)[t% 2]!)=_;rw[hx3];(have h3:t% 2<(dW x).length:=by show t% 2<2;omega);rw[aD h3,getElem!_pos (dW x) (t% 2) h3]
 rw[if_neg ht,cZ];rw[pE,hl];omega
theorem aQP(w0 w:World)(B g cap:Nat)(q:List Fv)(h0:w0.heap.size<=g)(hlow:∀k,k<w0.heap.size->w.heap[k]?=w0.heap[k]?)(hown:vL w B g cap q)(hq:∀p,p∈q->DN w0 p)(hn:q.length<4611686018427387904):
 Calls Tryz.prog 106 #[.slice (some ⟨g,0,none⟩) q.length cap, .func (.func 71) #[] #[]] w fun e w'=>e=.returned (.tuple #[])/\∃q',q'.Perm q/\(q'.map (·.1)).Pairwise (fun a b=>¬zM b a)/\vL w' B g cap q'/\w.grownBy w' (some g):=by
 obtain⟨Q,rfl⟩:=aRX hq
 letI:Inhabited (FvS w0):=Iy w0
 have eg:∀args w,(callFunc 71 args).run Tryz.prog w=.ok (.enter 71 args) w:=jQ Tryz.func71 kR rfl;(have hsz:Q.toArray.size=Q.length:=by simp);have hcon:=AnyQ.slices_SortFunc Tryz.sortF 2 Tryz.isAgg55 Tryz.sizeOf55 PW (fun _=>rfl) aTZ Iw (aT0 w0) 71 #[] g 0 cap Q.toArray w eg (aPJ h0 hlow _) (aND hown) hown.lt.2 (by rw[hsz];simpa using hn);rw[hsz]at hcon;change Calls Tryz.prog 106 _ _ _ at hcon;rw[aP];refine hcon.mono ?_;rintro e w' ⟨rfl,d',n,os,hp,hs,rfl⟩;obtain⟨p1,p2,p3⟩:=hp;(have hds:d'.size=Q.length:=by rw[p1];simp);(have e1:d'.extract 0 Q.length=d':=by rw[<-hds];simp);(have e2:Q.toArray.extract 0 Q.length=Q.toArray:=by simp);rw[e1,e2]at p3;refine⟨rfl,d'.toList.map (·.1),?_,?_,aJ8 hown hds,rfl,rfl,rfl,NL _ _ _ _ _ _ _,fun k hk hne=>zI _ _ _ _ _ _ _ k hk (fun e=>hne (by rw[e]))⟩
 ·exact p3.map _
 rw[xL];intro i j hi hj hij;(have hi2:i<d'.size:=by simpa using hi);(have hj2:j<d'.size:=by simpa using hj);have :=hs i j (bG _) hij oM;rw[getElem!_pos d' j hj2,getElem!_pos d' i hi2]at this;unfold ltOf Iw at this;simp only[decide_eq_false_iff_not]at this;simpa[zM]using this
end Go.Proofs.YthenjegmigeieaaGreat
namespace Go.Proofs
open Go.Shelf
def Tryz.sortI_ren:Go.Shelf.Ren:=⟨fun |6=>55|15=>103|14=>102|28=>157|29=>158|20=>149|21=>150|22=>151|23=>152|24=>153|25=>154|26=>155|27=>156|46=>190|47=>191|48=>192|49=>193|50=>194|57=>214|n=>n,fun |22=>28|24=>22|25=>95|3=>3|39=>144|0=>0|53=>194|55=>196|4=>4|46=>188|45=>187|50=>180|5=>5|9=>9|66=>222|70=>226|76=>248|77=>233|n=>n,fun |n=>n⟩
theorem Tryz.sortI:Go.Proofs.SlLaysF.n6 Tryz.prog Tryz.sortI_ren:={
 mixed:=by kernel_rfl
 f6:=⟨Tryz.f55.name,by decide,Tryz.func55.trans (congrArg some (by kernel_rfl))⟩
 f14:=⟨Tryz.f102.name,by decide,Tryz.func102.trans (congrArg some (by kernel_rfl))⟩
 f15:=Tryz.func103.trans (congrArg some (by kernel_rfl))
 f20:=⟨Tryz.f149.name,by decide,Tryz.func149.trans (congrArg some (by kernel_rfl))⟩
 f21:=⟨Tryz.f150.name,by decide,Tryz.func150.trans (congrArg some (by kernel_rfl))⟩
 f22:=⟨Tryz.f151.name,by decide,Tryz.func151.trans (congrArg some (by kernel_rfl))⟩
 f23:=⟨Tryz.f152.name,by decide,Tryz.func152.trans (congrArg some (by kernel_rfl))⟩
 f24:=⟨Tryz.f153.name,by decide,Tryz.func153.trans (congrArg some (by kernel_rfl))⟩
 f25:=⟨Tryz.f154.name,by decide,Tryz.func154.trans (congrArg some (by kernel_rfl))⟩
 f26:=⟨Tryz.f155.name,by decide,Tryz.func155.trans (congrArg some (by kernel_rfl))⟩
 f27:=⟨Tryz.f156.name,by decide,Tryz.func156.trans (congrArg some (by kernel_rfl))⟩
 f28:=Tryz.func157.trans (congrArg some (by kernel_rfl))
 f29:=Tryz.func158.trans (congrArg some (by kernel_rfl))
 f46:=⟨Tryz.f190.name,by decide,Tryz.func190.trans (congrArg some (by kernel_rfl))⟩
 f47:=Tryz.func191.trans (congrArg some (by kernel_rfl))
 f48:=Tryz.func192.trans (congrArg some (by kernel_rfl))
 f49:=⟨Tryz.f193.name,by decide,Tryz.func193.trans (congrArg some (by kernel_rfl))⟩
 f50:=⟨Tryz.f194.name,by decide,Tryz.func194.trans (congrArg some (by kernel_rfl))⟩
 f57:=⟨Tryz.f214.name,by decide,Tryz.func214.trans (congrArg some (by kernel_rfl))⟩
 t0:=Tryz.underlying0
 a0:=Tryz.isAgg0
 z0:=Tryz.sizeOf0
 v0:=Tryz.zeroValue0
 t3:=Tryz.underlying3
 a3:=Tryz.isAgg3
 z3:=Tryz.sizeOf3
 v3:=Tryz.zeroValue3
 t4:=Tryz.underlying4
 a4:=Tryz.isAgg4
 z4:=Tryz.sizeOf4
 v4:=Tryz.zeroValue4
 t5:=Tryz.underlying5
 a5:=Tryz.isAgg5
 z5:=Tryz.sizeOf5
 v5:=Tryz.zeroValue5
 t9:=Tryz.underlying9
 a9:=Tryz.isAgg9
 z9:=Tryz.sizeOf9
 v9:=Tryz.zeroValue9
 t22:=Tryz.underlying28
 a22:=Tryz.isAgg28
 z22:=Tryz.sizeOf28
 v22:=Tryz.zeroValue28
 a24:=Tryz.isAgg22
 z24:=Tryz.sizeOf22
 t25:=Tryz.underlying95
 a25:=Tryz.isAgg95
 z25:=Tryz.sizeOf95
 v25:=Tryz.zeroValue95
 t39:=Tryz.underlying144
 a39:=Tryz.isAgg144
 z39:=Tryz.sizeOf144
 v39:=Tryz.zeroValue144
 t45:=Tryz.underlying187
 a45:=Tryz.isAgg187
 z45:=Tryz.sizeOf187
 v45:=Tryz.zeroValue187
 t46:=Tryz.underlying188
 a46:=Tryz.isAgg188
 z46:=Tryz.sizeOf188
 v46:=Tryz.zeroValue188
 t50:=Tryz.underlying180
 a50:=Tryz.isAgg180
 z50:=Tryz.sizeOf180
 v50:=Tryz.zeroValue180
 t53:=Tryz.underlying194
 a53:=Tryz.isAgg194
 z53:=Tryz.sizeOf194
 v53:=Tryz.zeroValue194
 t55:=Tryz.underlying196
 a55:=Tryz.isAgg196
 z55:=Tryz.sizeOf196
 v55:=Tryz.zeroValue196
 t66:=Tryz.underlying222
 a66:=Tryz.isAgg222
 z66:=Tryz.sizeOf222
 v66:=Tryz.zeroValue222
 t70:=Tryz.underlying226
 a70:=Tryz.isAgg226
 z70:=Tryz.sizeOf226
 v70:=Tryz.zeroValue226
 t76:=Tryz.underlying248
 a76:=Tryz.isAgg248
 z76:=Tryz.sizeOf248
 v76:=Tryz.zeroValue248
 t77:=Tryz.underlying233
 a77:=Tryz.isAgg233
 z77:=Tryz.sizeOf233
 v77:=Tryz.zeroValue233}
end Go.Proofs
namespace Go.Proofs.YthenjegmigeieaaGreat
def qW(p:aN):List Fv->List Fv
 |[]=>[]
 |x::r=>if eV x.1 p=0 then qW x.1 r else x::qW x.1 r
def tH:List Fv->List Fv
 |[]=>[]
 |x::r=>x::qW x.1 r
def xR(p:aN):List Fv->aN
 |[]=>p
 |x::r=>xR x.1 r
theorem Zx:∀(l:List Fv)(p:aN)(x:Fv),qW p (l++[x])=if eV x.1 (xR p l)=0 then qW p l else qW p l++[x]:=by
 intro l
 induction l with
 |nil=>intro p x;by_cases h:eV x.1 p=0<;>simp[qW,xR,h]
 |cons y r e=>
  intro p x;have d:=e y.1 x;by_cases h:eV y.1 p=0
  ·by_cases b:eV x.1 (xR y.1 r)=0
   ·rw[if_pos b]at d;simp[qW,xR,h,b,d]
   rw[if_neg b]at d;simp[qW,xR,h,b,d]
  by_cases b:eV x.1 (xR y.1 r)=0
  ·rw[if_pos b]at d;simp[qW,xR,h,b,d]
  rw[if_neg b]at d;simp[qW,xR,h,b,d]
theorem Zz:∀(l:List Fv)(p:aN)(y:Fv),l.getLast?=some y->xR p l=y.1:=by
 intro l
 induction l with
 |nil=>intro p y h;cases h
 |cons x r b=>
  intro p y h
  cases r with
  |nil=>
   simp at h;rw[<-h];rfl
  |cons z r=>
   rw[List.getLast?_cons_cons]at h;exact b x.1 y h
theorem aH1(l:List Fv)(x y:Fv)(h:l.getLast?=some y):tH (l++[x])=if eV x.1 y.1=0 then tH l else tH l++[x]:=by
 cases l with
 |nil=>cases h
 |cons a r=>
  simp only[List.cons_append,tH,Zx];have e:xR a.1 r=y.1:=by
   cases r with
   |nil=>simp at h;rw[<-h];rfl
   |cons b r=>
    rw[List.getLast?_cons_cons]at h;exact Zz (b::r) a.1 y h
  rw[e];by_cases d:eV x.1 y.1=0
  ·rw[if_pos d,if_pos d]
  rw[if_neg d,if_neg d]
theorem TD(q:List Fv)(m:Nat)(x y:Fv)(h1:1<=m)(b:q[m]?=some x)(e:q[m-1]?=some y):tH (q.take (m+1))=if eV x.1 y.1=0 then tH (q.take m)else tH (q.take m)++[x]:=by
 rw[eI,b];refine aH1 (q.take m) x y ?_;have d:m<=q.length:=by
  rcases jW m q.length with h|h
  ·omega
  rw[cZ h]at b;cases b
 rw[List.getLast?_eq_getElem?,cW,vA d,gS,if_pos oM];exact e
theorem aDY:∀(l:List Fv)(p:aN)(x:Fv),x∈qW p l->x∈l:=by
 intro l
 induction l with
 |nil=>intro p x h;exact h
 |cons y r b=>
  intro p x h;simp only[qW]at h;split at h
  ·exact bO _ (b _ _ h)
  rcases eQ.mp h with rfl|h
  ·simp
  exact bO _ (b _ _ h)
theorem Uj(l:List Fv)(x:Fv)(h:x∈tH l):x∈l:=by
 cases l with
 |nil=>exact h
 |cons a r=>
  rcases eQ.mp h with rfl|h
  ·simp
  exact bO _ (aDY _ _ _ h)
theorem Zy(l:List Fv):(tH l).length<=l.length:=by
 have h:∀(l:List Fv)(p:aN),(qW p l).length<=l.length:=by
  intro l
  induction l with
  |nil=>intro p;exact aE _
  |cons y r b=>
   intro p;simp only[qW];split
   ·have :=b y.1;simp;omega
   have :=b y.1;simp;omega
 cases l with
 |nil=>exact aE _
 |cons a r=>simp only[tH,List.length_cons];have :=h r a.1;omega
theorem aDX:∀(l:List Fv)(p:aN),(∀x,x∈l->¬zM x.1 p)->(l.map (·.1)).Pairwise (fun a b=>¬zM b a)->
 vN ((qW p l).map (·.1))/\(∀x,x∈(qW p l).map (·.1)->zM p x)/\∀x,x∈l.map (·.1)->x=p\/x∈(qW p l).map (·.1):=by
 intro l
 induction l with
 |nil=>intro p _ _;exact⟨List.Pairwise.nil,fun x h=>by simp[qW]at h,fun x h=>by simp at h⟩
 |cons y r n=>
  intro p m f;rw[lF,lW]at f;obtain⟨j,g,k⟩:=n y.1 (fun x d=>f.1 x.1 (cR.mpr ⟨x,d,rfl⟩)) f.2;simp only[qW];by_cases h:eV y.1 p=0
  ·rw[if_pos h];rw[pU]at h;refine⟨j,fun x d=>by rw[<-h];exact g x d,fun x d=>?_⟩;rw[lF]at d;rcases eQ.mp d with d|d
   ·exact .inl (d.trans h)
   rcases k x d with e|e
   ·exact .inl (e.trans h)
   exact .inr e
  rw[if_neg h];have i:zM p y.1:=by
   rcases GD p y.1 with e|e|e
   ·exact e
   ·exact absurd (pU.mpr e.symm) h
   exact absurd e (m y sI)
  rw[lF];refine⟨lW.mpr ⟨g,j⟩,fun x d=>?_,fun x d=>?_⟩
  ·rcases eQ.mp d with rfl|d
   ·exact i
   exact i.trans (g x d)
  rw[lF]at d;rcases eQ.mp d with d|d
  ·exact .inr (by simp[d])
  rcases k x d with e|e
  ·exact .inr (by simp[e])
  exact .inr (bO _ e)
theorem aL3(l:List Fv)(h:(l.map (·.1)).Pairwise (fun a b=>¬zM b a)):xP ((tH l).map (·.1)) (l.map (·.1)):=by
 cases l with
 |nil=>exact⟨List.Pairwise.nil,fun x=>Iff.rfl⟩
 |cons a r=>
  rw[lF,lW]at h;obtain⟨g,i,j⟩:=aDX r a.1 (fun x d=>h.1 x.1 (cR.mpr ⟨x,d,rfl⟩)) h.2;refine⟨?_,fun x=>⟨fun d=>?_,fun d=>?_⟩⟩
  ·show vN (a.1::(qW a.1 r).map (·.1));exact lW.mpr ⟨i,g⟩
  ·obtain⟨y,f,rfl⟩:=cR.mp d;exact cR.mpr ⟨y,Uj _ _ f,rfl⟩
  rw[lF]at d;show x∈a.1::(qW a.1 r).map (·.1);rcases eQ.mp d with d|d
  ·simp[d]
  rcases j x d with e|e
  ·simp[e]
  exact bO _ e
end Go.Proofs.YthenjegmigeieaaGreat
namespace Go.Proofs.YthenjegmigeieaaGreat
open Go.RowKit Go.Lib
theorem aQG{B e k n g m:Nat}:∀(vs:List Value)(o:Nat)(w:World)(d:List Value),w.ownsRow B e k (.slice (some ⟨g,0,none⟩) n m) n d->
 ∃l,l.length=d.length/\(∀j,j<o->l[j]?=d[j]?)/\(w.setCells g o vs).ownsRow B e k (.slice (some ⟨g,0,none⟩) n m) n l/\w.grownBy (w.setCells g o vs) (some g):=by
 intro vs
 induction vs with
 |nil=>intro o w d h;exact⟨d,rfl,fun _ _=>rfl,h,rfl,rfl,rfl,aE _,fun _ _ _=>rfl⟩
 |cons v r A=>
  intro o w d h;obtain⟨z,b⟩:=World.ownsRow.stored h o v;obtain⟨l,s,x,y,f⟩:=A (o+1) _ _ z;refine⟨l,by rw[s,kL],fun j C=>?_,y,⟨f.os.trans b.os,f.tape.trans b.tape,f.output.trans b.output,bH b.size f.size,fun i p q=>(f.block i (dQ p b.size) q).trans (b.block i p q)⟩⟩;rw[x j oM,fS,if_neg oM]
theorem aSE{w:World}{B g d n:Nat}{f:List Value}{q:List Fv}(h:w.ownsRow B 55 2 (.slice (some ⟨g,0,none⟩) n d) n f)(D:q.length<=n)(v:∀j,j<q.length*2->f[j]?=((q.map dW).flatten)[j]?):vL w B g d q:=by
 obtain⟨A,e⟩:=h;rcases e with⟨e,_⟩|⟨z,y,i,x,l,s,C,m,p,r⟩
 ·cases e
 injection x with b _ k;injection b with b;injection b with b;subst b k;refine⟨pE _, .inr ⟨g,d,i,rfl,l,s,oM,m,p,?_⟩⟩;apply jU;intro t;rw[gS];by_cases ht:t<q.length*2
 ·rw[if_pos ht,<-v t ht,<-r,gS,if_pos oM]
 rw[if_neg ht,cZ];rw[pE];omega
theorem aMU(w:World)(B g e:Nat)(q:List Fv)(k:Nat)(h:vL w B g e q)(M:k<q.length):
 ∃r,(∀A,(Builtin.clear_ #[27] A #[.slice (some ⟨g,k*2,none⟩) (q.length-k) (e-k)]).run Tryz.prog w=.ok (.tuple #[]) r)/\vL r B g e (q.take k)/\w.grownBy r (some g):=by
 obtain⟨m,H⟩:∃m,q.length-k=m+1:=⟨q.length-k-1,oM⟩;obtain⟨b,n⟩:∃b,b=(Builtin.zeroCells (Value.agg #[.int .i64 0, .slice none 0 0]).cells (m+1)).toList:=⟨_,rfl⟩;(have G:b.length=(m+1)*2:=by rw[n];simp[Builtin.zeroCells,Value.cells]);have I:∀v∈b,v.oneCell'=true:=by
  intro v l;rw[n]at l;simp[Builtin.zeroCells,Value.cells]at l;obtain⟨a,L,rfl⟩:=l;rcases SW a with f|f
  ·simp[f];rfl
  simp[f];rfl
 have s:=run_storeCells_cells (P:=Tryz.prog) g (k*2) b 0 w (by
  intro j i;rw[G]at i;have F:=World.ownsRow.cellAt h (k*2+j) oM;obtain⟨x,y,p⟩:=JE q (k*2+j) oM;rw[BE,F,p,aD (show(k*2+j)% 2<(dW x).length by show _<2;omega)]
  rfl) (by intro j _;exact h.frozen _) I
 simp only[Nat.add_zero]at s;obtain⟨N,K,C,D,E⟩:=aQG b (k*2) w _ h;refine⟨w.setCells g (k*2) b,?_,aSE (q:=q.take k) D (by rw[cW];omega) (fun j i=>?_),E⟩
 ·intro A;have d:∀w,(zeroValue 55).run Tryz.prog w=.ok (.agg #[.int .i64 0, .slice none 0 0]) w:=fun w=>kR;rw[H];simp[Builtin.clear_,run_underlying Tryz.underlying27,d,<-n,s]
 rw[cW]at i;rw[C j oM];obtain⟨x,y,p⟩:=JE q j oM;obtain⟨z,d,J⟩:=JE (q.take k) j (by rw[cW];omega);rw[gS,if_pos oM,y]at d;(obtain rfl:x=z:=by simpa using d);rw[p,J]
structure CI (w0 w:World) (B g cap:Nat) (R:List Fv) (wr:World):Prop where
 row:vL wr B g cap R
 gr:w.grownBy wr (some g)
 low:∀k,k<w0.heap.size->wr.heap[k]?=w0.heap[k]?
theorem CI.u{f w wr i:World}{B g d:Nat}{R:List Fv}(h:CI f w B g d R wr)(b:Below wr.heap.size wr i):CI f w B g d R i:=
 ⟨h.row.keep (b.block g h.row.lt.2),uR h.gr (lI b _),fun k e=>(b.block k (dQ e (QJ h.low))).trans (h.low k e)⟩
theorem CI.put{b w wr:World}{B g d:Nat}{R:List Fv}(h:CI b w B g d R wr)(hg:b.heap.size<=g)(i:Nat)(l:i<R.length)(y:Fv):CI b w B g d (R.set i y) ((wr.setCell ⟨g,i*2,none⟩ (.int .i64 y.1.z)).setCell ⟨g,i*2+1,none⟩ y.2):=by have f:wr.grownBy ((wr.setCell ⟨g,i*2,none⟩ (.int .i64 y.1.z)).setCell ⟨g,i*2+1,none⟩ y.2) (some g):=uR (AY _ _) (AY _ _);exact⟨h.row.put i l y,uR h.gr f,fun k j=>(f.block k (dQ j (QJ h.low)) (by intro e;injection e;omega)).trans (h.low k j)⟩
theorem EN{q:List Fv}{i:Nat}(h:i<q.length):∃x,q[i]?=some x/\x∈q:=⟨q[i],aD h,dY h⟩
theorem aFF(C w:World)(B g D:Nat)(q:List Fv)(h0:C.heap.size<=g)(aq:∀k,k<C.heap.size->w.heap[k]?=C.heap[k]?)(ac:vL w B g D q)(hq:∀p,p∈q->DN C p)(hn:q.length<4611686018427387904):
 Calls Tryz.prog 147 #[.slice (some ⟨g,0,none⟩) q.length D, .func (.func 148) #[] #[]] w fun e v=>e=.returned (.slice (some ⟨g,0,none⟩) (tH q).length D)/\vL v B g D (tH q)/\w.grownBy v (some g):=by
 have he:∀ah w,(callFunc 148 ah).run Tryz.prog w=.ok (.enter 148 ah) w:=jQ Tryz.func148 kR rfl;have hC:CI C w B g D q w:=⟨ac,⟨rfl,rfl,rfl,aE _,fun _ _ _=>rfl⟩,aq⟩;have A:O (∀p,p∈q->DN C p):=hq;have b6:q.length<=D:=by
  obtain⟨_,G⟩:=ac;rcases G with⟨G,_⟩|⟨g',b3,b4,hv,_,_,b5,_⟩
  ·cases G
  injection hv with _ _ e3;omega
 clear ac aq hq;by_cases G:q.length<2
 ·have HD:O (tH q=q):=by
   show _=_
   match q,G with
   |[],_=>rfl
   |[x],_=>rfl
  go_enter Tryz.func147,Tryz.ntmps147
  go_wp2_with fail;go_ret;exact⟨by rw[HD.o];rfl,by rw[HD.o];exact hC.row,hC.gr⟩
 go_enter Tryz.func147,Tryz.ntmps147
 go_wp2_with fail;go_loopw [5] (fun i wr=>∃k:Nat,1<=k/\k<=q.length/\i=.int .i64 k/\CI C w B g D q wr/\tH (q.take k)=q.take k) (fun i _=>q.length-(intOf i).toNat);case atStart=>exact⟨1,aE _,oM,rfl,hC,by
  match q,G with
  |x::r,_=>rfl
  |[],h=>exact absurd (show([]:List Fv).length<2 by decide) h⟩
 case round=>
  clear hC;obtain⟨T,b0⟩:∃T,T=wr:=⟨_,rfl⟩;subst b0;obtain⟨k,an,hk,rfl,m,al⟩:=hrel;have a4:O _:=al;clear al;obtain⟨s,ao⟩:∃s,s+1=k:=⟨k-1,oM⟩;(have b2:IntKind.i64.wrap ((k:Int)-1)=(s:Int):=by have h9:(k:Int)-1=(s:Int):=oM;rw[h9];simp[IntKind.wrap,IntKind.bits,IntKind.signed];omega);by_cases aS:k<q.length
  ·obtain⟨x,W,J⟩:=EN aS;obtain⟨y,X,L⟩:=EN (q:=q) (i:=s) oM;obtain⟨c0,P⟩:=m.row.cell W;obtain⟨d0,Q⟩:=m.row.cell X;have I:O (q[k]?=some x/\q[s]?=some y):=⟨W,X⟩;(have HN:O (∀z,Gr T z->Calls Tryz.prog 148 #[kS x.1.z x.2,kS y.1.z y.2] z fun e v=>e=.returned (.bool (eV x.1 y.1==0))/\Gr T v/\v.cell? ⟨g,k*2,none⟩=some (.int .i64 x.1.z)/\v.cell? ⟨g,k*2+1,none⟩=some x.2/\v.cell? ⟨g,s*2,none⟩=some (.int .i64 y.1.z)/\v.cell? ⟨g,s*2+1,none⟩=some y.2):=by intro z hz;have hl:∀j,j<C.heap.size->z.heap[j]?=C.heap[j]?:=(m.u hz.u).low;refine(XH x.1 y.1 x.2 y.2 z (AZ (A.o x J).1 hl) (AZ (A.o y L).1 hl) (A.o x J).2 (A.o y L).2).mono ?_;rintro e v ⟨h1,G⟩;have E:=hz.trans G;exact⟨h1,E,aB E.u c0,aB E.u P,aB E.u d0,aB E.u Q⟩);(obtain⟨xa,xn,xc,K⟩:∃a n c,x.2=.slice a n c:=by obtain⟨⟨a,c,h,_⟩,_⟩:=A.o x J;exact⟨a,_,c,h⟩);(obtain⟨ya,yn,yc,S⟩:∃a n c,y.2=.slice a n c:=by obtain⟨⟨a,c,h,_⟩,_⟩:=A.o y L;exact⟨a,_,c,h⟩);have HY:O (y=(y.1,y.2)):=rfl;have ab:O (x.2=.slice xa xn xc/\y.2=.slice ya yn yc):=⟨K,S⟩;rw[K]at P;rw[S]at Q;rw[K,S]at HN;clear W X J L K S;have HO:O (∃o,o=eV x.1 y.1):=⟨_,rfl⟩;obtain⟨o,ho⟩:=HO.o;rw[<-ho]at HN;have Z:O (o=eV x.1 y.1):=ho;clear ho HO;generalize a2:x.1.z=xp at *;generalize a6:y.1.z=yp at *;have HP:O (x.1.z=xp/\y.1.z=yp):=⟨a2,a6⟩;clear a2 a6;have b7:s<q.length:=oM;have b8:(0:Int)<=(s:Int):=oM;have b9:(s:Int)<(q.length:Int):=oM;have ag:O (s+1=k):=ao;clear ao;go_upto_region 6 with fail;have a7:∀a b o,Gr a b->Gr a (b.alloc o):=fun _ _ o h=>h.alloc o;have a8:∀a b,Gr a b->Gr a b.drew:=fun _ _ h=>h.drew;have a9:Gr T T:=Gr.refl T
   go_region_held3 (fun F=>F.cell? ⟨g,k*2,none⟩=some (.int .i64 xp)/\F.cell? ⟨g,k*2+1,none⟩=some (.slice xa xn xc)/\F.cell? ⟨g,s*2,none⟩=some (.int .i64 yp)/\F.cell? ⟨g,s*2+1,none⟩=some (.slice ya yn yc)/\Gr T F) (go_keep) (
    (go_at_call 148;refine Calls.mono (HN.o _ ?_) ?_;(simp[*]);rintro e z1 ⟨rfl,a3,av,aw,ad,ae⟩))
   have H:=m.u a3.u;clear a7 a8 a9 a3 av aw ad ae c0 P d0 Q HN;cases ho:(o==0)
   ·(have U:O (tH (q.take (k+1))=q.take (k+1)):=by show _=_;rw[TD q k x y an I.o.1 (by rw[show k-1=s by have :=ag.o;omega];exact I.o.2),if_neg (by rw[<-Z.o];simpa using ho),a4.o,eI,I.o.1];rfl);clear m;go_wp2_with fail;go_roundw;(case rel=>exact⟨k+1,oM,oM,gN,H,U.o⟩);case measure=>exact mI
   (have U:O (q.take k=tH (q.take (k+1))):=by show _=_;rw[TD q k x y an I.o.1 (by rw[show k-1=s by have :=ag.o;omega];exact I.o.2),if_pos (by rw[<-Z.o];simpa using ho),a4.o]);clear m a4 I HP Z ab HY b2;go_wp2_with fail;go_loopw [5,7] (fun i5 i7 wr=>∃(f d:Nat)(R:List Fv),i5=.int .i64 f/\i7=.int .i64 d/\1<=d/\k+d<=q.length/\f<k+d/\CI C w B g D R wr/\R.length=q.length/\R.take f=tH (q.take (k+d))/\∀j,k+d<=j+1->R[j]?=q[j]?) (fun _ i7 _=>q.length-(k+(intOf i7).toNat));case atStart=>exact⟨k,1,q,rfl,rfl,aE _,oM,oM,H,rfl,U.o,fun _ _=>rfl⟩
   case round=>
    clear H;obtain⟨M,b1⟩:∃M,M=wr:=⟨_,rfl⟩;subst b1;obtain⟨f,d,R,rfl,rfl,ba,hm,bg,m,aj,ak,ai⟩:=hrel;have a0:O _:=ak;have V:O _:=ai;have N:O (R.length=q.length):=aj;clear ak ai aj;by_cases aT:k+d<q.length
    ·obtain⟨l,ap⟩:∃l,l+1=d:=⟨d-1,oM⟩;(have bh:IntKind.i64.wrap ((d:Int)-1)=(l:Int):=by have h9:(d:Int)-1=(l:Int):=oM;rw[h9];simp[IntKind.wrap,IntKind.bits,IntKind.signed];omega);(obtain⟨x,W,J⟩:=EN aT;obtain⟨y,X,L⟩:=EN (q:=q) (i:=k+l) oM;obtain⟨c0,P⟩:=m.row.cell ((V.o (k+d) oM).trans W);obtain⟨d0,Q⟩:=m.row.cell ((V.o (k+l) oM).trans X);rw[show(k+d)*2=k*2+d*2 by omega]at c0 P;rw[show(k+l)*2=k*2+l*2 by omega]at d0 Q;have I:O (q[k+d]?=some x/\q[k+l]?=some y):=⟨W,X⟩;have HN:O (∀z,Gr M z->Calls Tryz.prog 148 #[kS x.1.z x.2,kS y.1.z y.2] z fun e v=>e=.returned (.bool (eV x.1 y.1==0))/\Gr M v/\v.cell? ⟨g,k*2+d*2,none⟩=some (.int .i64 x.1.z)/\v.cell? ⟨g,k*2+d*2+1,none⟩=some x.2/\v.cell? ⟨g,k*2+l*2,none⟩=some (.int .i64 y.1.z)/\v.cell? ⟨g,k*2+l*2+1,none⟩=some y.2):=by intro z hz;have hl:∀j,j<C.heap.size->z.heap[j]?=C.heap[j]?:=(m.u hz.u).low;refine(XH x.1 y.1 x.2 y.2 z (AZ (A.o x J).1 hl) (AZ (A.o y L).1 hl) (A.o x J).2 (A.o y L).2).mono ?_;rintro e v ⟨h1,G⟩;have E:=hz.trans G;exact⟨h1,E,aB E.u c0,aB E.u P,aB E.u d0,aB E.u Q⟩);((obtain⟨xa,xn,xc,K⟩:∃a n c,x.2=.slice a n c:=by obtain⟨⟨a,c,h,_⟩,_⟩:=A.o x J;exact⟨a,_,c,h⟩);obtain⟨ya,yn,yc,S⟩:∃a n c,y.2=.slice a n c:=by obtain⟨⟨a,c,h,_⟩,_⟩:=A.o y L;exact⟨a,_,c,h⟩);have ab:O (x.2=.slice xa xn xc):=K;rw[K]at P;rw[S]at Q;rw[K,S]at HN;clear W X J L K S;have HO:O (∃o,o=eV x.1 y.1):=⟨_,rfl⟩;obtain⟨o2,a1⟩:=HO.o;rw[<-a1]at HN;have Z:O (o2=eV x.1 y.1):=a1;clear a1 HO;generalize a2:x.1.z=xp at *;generalize a6:y.1.z=yp at *;have HP:O (x.1.z=xp):=a2;clear a2 a6;have bc:l<q.length-k:=oM;have bd:(0:Int)<=(l:Int):=oM;have be:(l:Int)<((q.length-k:Nat):Int):=oM;have bb:(d:Int)<((q.length-k:Nat):Int):=oM;have ax:O (l+1=d):=ap;clear ap;go_upto_region 11 with fail;have a7:∀a b o,Gr a b->Gr a (b.alloc o):=fun _ _ o h=>h.alloc o;have a8:∀a b,Gr a b->Gr a b.drew:=fun _ _ h=>h.drew;have a9:Gr M M:=Gr.refl M
     go_region_held3 (fun F=>F.cell? ⟨g,k*2+d*2,none⟩=some (.int .i64 xp)/\F.cell? ⟨g,k*2+d*2+1,none⟩=some (.slice xa xn xc)/\F.cell? ⟨g,k*2+l*2,none⟩=some (.int .i64 yp)/\F.cell? ⟨g,k*2+l*2+1,none⟩=some (.slice ya yn yc)/\Gr M F) (go_keep) (
      (go_at_call 148;refine Calls.mono (HN.o _ ?_) ?_;(simp[*]);rintro e z1 ⟨rfl,a3,av,aw,ad,ae⟩))
     have H:=m.u a3.u;clear a7 a8 a9 a3 ad ae c0 P d0 Q HN m;have a5:O (tH (q.take (k+d+1))=if eV x.1 y.1=0 then tH (q.take (k+d))else tH (q.take (k+d))++[x]):=TD q (k+d) x y oM I.o.1 (by rw[show k+d-1=k+l by have :=ax.o;omega];exact I.o.2);cases a1:(o2==0)
     ·(have aa:O ((R.set f x).take (f+1)=tH (q.take (k+(d+1)))):=by show _=_;rw[<-II,a5.o,if_neg (by rw[<-Z.o];simpa using a1),<-a0.o,eI,List.take_set_of_le (aE _),fS,if_pos rfl,if_pos (by rw[N.o];omega)];rfl);(have U:O (∀j,k+(d+1)<=j+1->(R.set f x)[j]?=q[j]?):=fun j hj=>by rw[fS,if_neg oM];exact V.o j oM);have ar:=H.put h0 f (by rw[N.o];omega) x;rw[HP.o,ab.o]at ar;obtain⟨r,hr,_⟩:=EN (q:=R) (i:=f) (by rw[N.o];omega);obtain⟨r0,r1⟩:=H.row.cell hr;have bi:=H.row.frozen (f*2);have bj:=H.row.frozen (f*2+1);have aI:f<q.length:=oM;clear a5 H a0 V hr;go_wp2_with fail;go_roundw;(case rel=>exact⟨f+1,d+1,R.set f x,gN,gN,oM,oM,oM,ar,by rw[kL];exact N.o,aa.o,U.o⟩);case measure=>exact mI
     (have aa:O (R.take f=tH (q.take (k+(d+1)))):=by show _=_;rw[<-II,a5.o,if_pos (by rw[<-Z.o];simpa using a1),a0.o]);have U:O (∀j,k+(d+1)<=j+1->R[j]?=q[j]?):=fun j hj=>V.o j oM;clear a5 a0 V;go_wp2_with fail;go_roundw;(case rel=>exact⟨f,d+1,R,gN,gN,oM,oM,oM,H,N.o,aa.o,U.o⟩);case measure=>exact mI
    have aV:k+d=q.length:=oM;obtain⟨w9,az,au,am⟩:=aMU M B g D R f m.row (by rw[N.o];omega);rw[N.o]at az;(have Y:O (R.take f=tH q):=by show _=_;rw[a0.o,aV,lA]);(have ay:O ((tH q).length=f):=by show _=_;rw[<-Y.o,cW,N.o];omega);have af:O (vL w9 B g D (tH q)/\w.grownBy w9 (some g)):=⟨by rw[<-Y.o];exact au,uR m.gr am⟩;clear m au am a0 V Y;have aI:f<=q.length:=oM;have bf:f<=D:=oM;go_wp2_with fail;go_ret;exact⟨by rw[ay.o];rfl,af.o.1,af.o.2⟩
  have aF:k=q.length:=oM;(have Y:O (tH q=q):=by show _=_;have :=a4.o;rw[aF,lA]at this;exact this);go_wp2_with fail;go_ret;exact⟨by rw[Y.o];rfl,by rw[Y.o];exact m.row,m.gr⟩
end Go.Proofs.YthenjegmigeieaaGreat
namespace Go.Proofs.YthenjegmigeieaaGreat
open Go.RowKit
theorem IC:(Tryz.prog.info? 3).map (fun i=>(i.zero,i.size,i.bytes))=some (some (.int .i64 0),1,8):=kR
theorem Ak(l:List Int)(v:Value)(w:World)(H:dM w v l)(X:l.length<=17592186044416):
 Calls Tryz.prog 77 #[v] w fun e C=>∃r,e=.returned r/\C.ownsRow w.heap.size 3 1 r l.length (l.map (Value.int .i64))/\Below w.heap.size w C:=by
 obtain⟨S,K,P,Q,R⟩:=iT IC;obtain⟨y,F,rfl,A⟩:=H;have Y:∀(w:World)(a:Option Addr)(n c:Nat),(binOp .eql 22 (.slice a n c) (.slice none 0 0)).run Tryz.prog w=.ok (.bool a.isNone) w:=fun w a n c=>tP w 22 3 a n c 0 0 Tryz.underlying22;have Z:∀w,Sem.run Tryz.prog (underlying 22) w=.ok (TypeDesc.slice 3) w:=run_underlying Tryz.underlying22;have g:O (pH w y l):=A;clear A
 cases y with
 |none=>
  have M:l=[]:=by
   rcases g.o with h|⟨b,f,h,_⟩
   ·exact h
   cases h
  subst M
  go_enter Tryz.func77,Tryz.ntmps77
  go_wp2_with fail;go_ret;exact⟨_,rfl,eD _ _ _ _,aH _ _⟩
 |some a=>
  obtain⟨b,f,W⟩:∃b f,l=[]\/a=⟨b,f,none⟩:=by
   rcases g.o with h|⟨b,f,h,_⟩
   ·exact⟨0,0, .inl h⟩
   exact⟨b,f, .inr (Option.some.inj h)⟩
  have s:O (∀j u,(l.map (Value.int .i64))[j]?=some u->w.cell? (a.add j)=some u):=by
   intro j u d;rcases g.o with h|⟨b,f,h,J⟩
   ·rw[h]at d;simp at d
   have I:=Option.some.inj h;have m:j<l.length:=by
    rcases jW j l.length with i|i
    ·exact i
    rw[cZ (by simpa using i)]at d;cases d
   rw[cY,aD m]at d;(have q:Value.int .i64 l[j]=u:=by simpa using d);rw[<-q,I];have z:=J j m;(have G:bM l j=l[j]:=by simp[bM,m]);rw[G]at z;rw[Addr.add_lit];exact z
  clear g
  go_enter Tryz.func77,Tryz.ntmps77
  go_wp2_with(at_builtin;refine fX _ rfl _ _ 22 rfl w.heap.size 3 S _ 1 8 Tryz.underlying22 K P Q R rfl dE _ _ _ rfl (lY w #[] 0 (aE _) (bG _) sI) a l.length F (l.map (Value.int .i64)) rfl ?qc1 ?qc2 ?qc3 ?qc4 ?qc5 ?qc6 ?_);(case qc1=>rw[aP,QP]);(case qc2=>intro j u d;exact NU _ (s.o j u d));(case qc3=>intro u q;obtain⟨x,_,rfl⟩:=cR.mp q;rfl);(case qc4=>unfold maxLen;omega);(case qc5=>omega);(case qc6=>simp);intro r T p B N;obtain⟨U,V,rfl⟩:=bJ p;have D:O (Below w.heap.size w T):=((aH _ w).alloc (aE _) _).grown B sI (by intro k L;simp[Value.ownBlock]at L;omega);have E:O _:=p;clear p B N s;go_wp2_with fail;go_ret;exact⟨_,rfl,E.o,D.o⟩
theorem GU(l:List Int)(v:Value)(w:World)(f:dM w v l)(g:l.length<=1048576):
 Calls Tryz.prog 77 #[v] w fun e d=>∃b,e=.returned b/\d.ownsRow w.heap.size 3 1 b l.length (l.map (Value.int .i64))/\Below w.heap.size w d:=
 Ak l v w f oM
theorem vK:(Tryz.prog.info? 55).map (fun i=>(i.zero,i.size,i.bytes))=some (some (.agg #[.int .i64 0, .slice none 0 0]),2,32):=kR
def tG(B:Nat)(w:World)(v:Value)(s:List aN):Prop:=
 ∃q:List Fv,q.map (·.1)=s/\w.ownsRow B 55 2 v q.length (q.map dW).flatten/\∀p,p∈q->w.ownsRow B 3 1 p.2 p.1.args.length (p.1.args.map (Value.int .i64))
def EJ(h:Nat)(cb:Array Value)(w:World)(P:aN->Bool):Prop:=
 ∀(z:World)(f:aN)(b:Option Addr)(d:Nat),Below w.heap.size w z->dM z (.slice b f.args.length d) f.args->fW f->Calls Tryz.prog h (#[kS f.z (.slice b f.args.length d)]++cb) z fun e g=>e=.returned (.bool (P f))/\Below z.heap.size z g
theorem vL.put1{w:World}{B g e:Nat}{q:List Fv}(h:vL w B g e q){i:Nat}{x:Fv}(d:q[i]?=some x)(u:Value):vL (w.setCell ⟨g,i*2+1,none⟩ u) B g e (q.set i (x.1,u)):=by
 have k:i<q.length:=by
  rcases jW i q.length with b|b
  ·exact b
  rw[cZ b]at d;cases d
 have b:=(World.ownsRow.stored h (i*2+1) u).1;unfold vL;rw[kL,<-aPP q i k (x.1,u)];have j:((q.map dW).flatten).set (i*2) (.int .i64 x.1.z)=(q.map dW).flatten:=by
  apply jU;intro t;rw[fS];split
  ·rename_i ht;obtain⟨y,f,l⟩:=JE q t oM;rw[<-ht,Nat.mul_div_cancel _ dE,d]at f;(obtain rfl:x=y:=by simpa using f);rw[l,if_pos (by rw[pE];omega),<-ht,Nat.mul_mod_left];rfl
  rfl
 show World.ownsRow _ B 55 2 _ q.length ((((q.map dW).flatten).set (i*2) (.int .i64 x.1.z)).set (i*2+1) u);rw[j];exact b
theorem aGA{w:World}{B g l n:Nat}{q:List Fv}{v:Value}{k:List Value}(h:w.ownsRow B 3 1 v n k)(s:vL w B g l q)(o:Nat)(u:Value):(w.setCell ⟨g,o,none⟩ u).ownsRow B 3 1 v n k:=by
 refine kH h fun m d=>gE _ _ _ _ (fun e=>?_);subst e;obtain⟨_,i⟩:=h;rcases i with⟨i,_⟩|⟨p,z,C,x,_,r,_⟩
 ·rw[i]at d;cases d
 rw[x]at d;(have b:p=m:=by simpa[Value.ownBlock]using d);subst b;obtain⟨_,j⟩:=s;rcases j with⟨j,_⟩|⟨E,A,D,y,_,f,_⟩
 ·cases j
 injection y with b _ _;injection b with b;injection b with b;subst b;rw[r]at f;injection f with f;injection f with _ q _;cases q
theorem gL{w:World}{base d size n:Nat}{e:TypeId}{v:Value}{f:List Value}(h:w.ownsRow base e size v n f)(l:d<=base):w.ownsRow d e size v n f:=by
 obtain⟨k,b⟩:=h;refine⟨k,?_⟩;rcases b with b|⟨g,i,j,p,m,r⟩
 ·exact .inl b
 exact .inr ⟨g,i,j,p,bH l m,r⟩
theorem jJ{w:World}{base size n:Nat}{e:TypeId}{v:Value}{i:List Value}(h:w.ownsRow base e size v n i):(v=.slice none 0 0/\n=0)\/∃g b,v=.slice (some ⟨g,0,none⟩) n b:=by
 rcases h.2 with d|⟨g,b,j,f,_⟩
 ·exact .inl d
 exact .inr ⟨g,b,f⟩
theorem Wx(w:World)(a b:Value)(e:TypeId):∀j z,[a,b][j]?=some z->(w.alloc (.cells #[a,b] e)).cell? ((⟨w.heap.size,0,none⟩:Addr).add j)=some z:=by
 intro j z d;have g:=kT w (.cells #[a,b] e)
 match j,d with
 |0,d=>
  (have f:a=z:=by simpa using d);subst f;rw[Addr.add_lit,cD g];rfl
 |1,d=>
  (have f:b=z:=by simpa using d);subst f;rw[Addr.add_lit,cD g];rfl
theorem aFG(w:World)(ao:Option Addr)(b:Nat)(d:Value):Calls Tryz.prog 147 #[.slice ao 0 b,d] w fun e f=>e=.returned (.slice ao 0 b)/\f=w:=by
 go_enter Tryz.func147,Tryz.ntmps147
 go_wp2_with fail;go_ret;exact⟨rfl,rfl⟩
theorem Iz{w:World}{x:Fv}(h:DN w x):∃a c,x.2=.slice a x.1.args.length c:=by obtain⟨⟨a,c,h,_⟩,_⟩:=h;exact⟨a,c,h⟩
theorem YN(l:List aN)(v:Value)(w:World)(h:Nat)(cb:Array Value)(P:aN->Bool)(hV:dA w v l)(hl:l.length<=4398046511103)(hf:∀f,f∈l->f.args.length<=17592186044416)(he:∀ax w,(callFunc h ax).run Tryz.prog w=.ok (.enter h ax) w)(hK:EJ h cb w P):
 Calls Tryz.prog 100 #[v, .func (.func h) #[] cb] w fun e w'=>∃v',e=.returned v'/\tG w.heap.size w' v' (dR (l.filter P))/\Below w.heap.size w w':=by
 obtain⟨i0,hi,bs,bt,bu⟩:=iT vK;obtain⟨ao,bw,rfl,bT,hA⟩:=hV;have HA:O (lJ w ao l):=hA;have HF:O (∀f,f∈l->f.args.length<=17592186044416):=hf;have HK:O (EJ h cb w P):=hK;clear hA hf hK
 go_enter Tryz.func100,Tryz.ntmps100
 go_wp2_with fail;go_loopw [5,11] (fun vs i wr=>∃(k:Nat)(q:List Fv),k<=l.length/\i=.int .i64 k/\wr.ownsRow w.heap.size 55 2 vs q.length (q.map dW).flatten/\q.map (·.1)=(l.take k).filter P/\(∀p,p∈q->DN w p/\p.1∈l)/\Below w.heap.size w wr/\q.length<=k) (fun _ i _=>l.length-(intOf i).toNat);case atStart=>exact⟨0,[],bG _,rfl,eD _ _ _ _,rfl,fun _ n=>absurd n sI,aH _ _,aE _⟩
 case round=>
  obtain⟨A,bq⟩:∃A,A=wr:=⟨_,rfl⟩;subst bq;obtain⟨k,q,y,rfl,B,b2,b3,d,bY⟩:=hrel;have L:O _:=b2;have E:O _:=b3;clear b2 b3;obtain⟨bv,a3,rfl⟩:=bJ B;by_cases J:k<l.length
  ·obtain⟨b,bZ,rfl,p0,fv,p1,ay⟩:=qJ HA.o k J;have al:=mT l k J;(have M:O ((l.take (k+1)).filter P=(l.take k).filter P++if P (aZ l k)then [aZ l k] else []):=by show _=_;rw[eI,CX l k J,lC];simp only[Option.toList_some,List.filter_cons,List.filter_nil]);have ar:O (dM w fv (aZ l k).args):=ay;(have aq:O (fW (aZ l k)):=by have :=HF.o _ al;show _<=_;omega);have HM:O (aZ l k∈l):=al;obtain⟨r,s,rfl,_⟩:=ay;have q0:=aB d p0;have q1:=aB d p1;clear p0 p1 al;generalize aZ l k=f at *;go_upto_region 5 with fail;have ah:Below A.heap.size A (A.alloc (.cells #[.int .i64 f.z, .slice r f.args.length s] 55)):=(aH _ _).alloc (aE _) _;have X:=kT A (.cells #[.int .i64 f.z, .slice r f.args.length s] 55);have b1:=bI B ah;have V:=d.trans (ah.mono d.size);clear B ah d q0 q1;generalize bk:A.heap.size=FB at *;generalize A.alloc (.cells #[.int .i64 f.z, .slice r f.args.length s] 55)=wa at *;clear bk;(have c0:wa.cell? ⟨FB,0,none⟩=some (.int .i64 f.z):=cH X);(have N:wa.cell? ⟨FB,1,none⟩=some (.slice r f.args.length s):=cH X);go_wp2_with fail;refine Calls.mono (HK.o wa f r s V (aM ar.o V) aq.o) ?_;rintro e w1 ⟨bj,a4⟩;subst bj;have ai:=(a4.block _ (Xm X)).trans X;have a6:=bI b1 a4;have W:=V.trans (a4.mono V.size);clear b1 a4 V X c0 N;(have c0:w1.cell? ⟨FB,0,none⟩=some (.int .i64 f.z):=cH ai);(have N:w1.cell? ⟨FB,1,none⟩=some (.slice r f.args.length s):=cH ai);cases n:P f
   ·rw[n]at M;(have ae:O (q.map (·.1)=(l.take (k+1)).filter P):=by show _=_;rw[M.o,L.o];simp);clear M L;go_wp2_with fail;go_roundw;(case rel=>exact⟨k+1,q,oM,gN,a6,ae.o,E.o,W,oM⟩);case measure=>exact mI
   rw[n]at M;(have ae:O ((q++[(f,Value.slice r f.args.length s)]).map (·.1)=(l.take (k+1)).filter P):=by show _=_;rw[M.o,<-L.o];simp);have bb:O (∀p,p∈q++[(f,Value.slice r f.args.length s)]->DN w p/\p.1∈l):=by
    intro p n;rcases dP.mp n with n|n
    ·exact E.o p n
    (obtain rfl:p=(f,Value.slice r f.args.length s):=by simpa using n);exact⟨⟨ar.o,aq.o⟩,HM.o⟩
   clear M L E;have bN:=W.size;go_wp2_with(at_builtin;refine fX _ rfl (.tmp 18) (.tmp 20) 27 rfl w.heap.size 55 i0 _ 2 32 Tryz.underlying27 hi bs bt bu rfl dE _ _ _ rfl (a6.alloc _) ⟨w1.heap.size,0,none⟩ 1 1 (dW (f, .slice r f.args.length s)) rfl rfl ?c1 ?c2 ?c3 ?c4 ?c5 ?_);(case c1=>exact Wx w1 _ _ 55);(case c2=>intro u hu;simp[dW]at hu;rcases hu with rfl|rfl<;>rfl);(case c3=>unfold maxLen;omega);(case c4=>omega);(case c5=>simp;omega);intro c6 w4 am aT _;obtain⟨bf,bg,rfl⟩:=bJ am;have bh:Below w.heap.size w w4:=(W.alloc W.size _).grown aT sO (fun k y=>(a6.lt k y).1);(have bl:w4.ownsRow w.heap.size 55 2 (.slice bf (q.length+1) bg) (q++[(f,Value.slice r f.args.length s)]).length ((q++[(f,Value.slice r f.args.length s)]).map dW).flatten:=by rw[bA,cB,fZ];simpa using am);clear am aT a6 W c0 N ai;go_wp2_with fail;go_roundw;(case rel=>exact⟨k+1,_,oM,gN,bl,ae.o,bb.o,bh,by rw[bA];simp;omega⟩);case measure=>exact mI
  (have ab:O (q.map (·.1)=l.filter P):=by show _=_;rw[L.o,dU oM]);clear L;rcases jJ B with⟨hv,bn⟩|⟨g,bx,hv⟩
  ·injection hv with e1 e2 e3;subst e1 e3;have bo:q=[]:=eB bn;subst bo;(have HS:O (dR (l.filter P)=[]):=by show _=_;rw[<-ab.o];rfl);have hs:=AnyF.slices_SortFunc_none Tryz.sortF none 0 (.func (.func 71) #[] #[]) A;change Calls Tryz.prog 106 _ _ _ at hs;have be:O _:=hs;clear hs B;simp only[List.length_nil];go_wp2_with fail;refine Calls.mono be.o ?_;rintro e w5 ⟨rfl,rfl⟩;go_wp2_with fail;refine Calls.mono (aFG _ _ _ _) ?_;rintro e w5 ⟨rfl,rfl⟩;go_wp2_with fail;refine mG 1 ?_;rw[rounds_succ];go_wp2_with fail;go_ret;exact⟨_,rfl,by rw[HS.o];exact⟨[],rfl,eD _ _ _ _,fun _ n=>absurd n sI⟩,d⟩
  injection hv with e1 e2 e3;subst e1 e3;have aS:=B.lt g rfl;have bp:q.length<4611686018427387904:=oM;have av:O _:=aQP w A w.heap.size g a3 q aS.1 d.block B (fun p n=>(E.o p n).1) bp;go_wp2_with fail;refine Calls.mono av.o ?_;rintro e w5 ⟨rfl,C,Z,b7,b5,Q⟩;have b0:C.length=q.length:=Z.length_eq;have aj:∀k,k<w.heap.size->w5.heap[k]?=w.heap[k]?:=fun k y=>(Q.block k (dQ y d.size) (by intro e;injection e;omega)).trans (d.block k y);have a9:O _:=aFF w w5 w.heap.size g a3 C aS.1 aj b5 (fun p n=>(E.o p (Z.mem_iff.mp n)).1) oM;rw[b0]at a9;(have bd:O ((tH C).map (·.1)=dR (l.filter P)):=by show _=_;rw[DU (aL3 C b7),<-ab.o];exact OK fun x=>(Z.map (·.1)).mem_iff);have aa:O (∀p,p∈tH C->DN w p/\p.1∈l):=fun p n=>E.o p (Z.mem_iff.mp (Uj _ _ n));(have bU:(tH C).length<=4398046511103:=by have :=Zy C;omega);have H:Below w.heap.size w w5:=⟨Q.os.trans d.os,Q.tape.trans d.tape,Q.output.trans d.output,bH d.size Q.size,aj⟩;clear Z b7 b5 Q aj av B d E ab b0;go_wp2_with fail;refine Calls.mono a9.o ?_;rintro e w6 ⟨rfl,b6,S⟩;have aI:Below w.heap.size w w6:=⟨S.os.trans H.os,S.tape.trans H.tape,S.output.trans H.output,bH H.size S.size,fun k y=>(S.block k (dQ y H.size) (by intro e;injection e;omega)).trans (H.block k y)⟩;clear H S a9;generalize tH C=D at *;go_wp2_with fail;go_loopw [29] (fun i wr=>∃(m:Nat)(R:List Fv),m<=D.length/\i=.int .i64 m/\vL wr w.heap.size g a3 R/\R.map (·.1)=D.map (·.1)/\(∀j,m<=j->R[j]?=D[j]?)/\(∀j p,j<m->R[j]?=some p->wr.ownsRow w.heap.size 3 1 p.2 p.1.args.length (p.1.args.map (Value.int .i64)))/\Below w.heap.size w wr) (fun i _=>D.length-(intOf i).toNat);case atStart=>exact⟨0,D,bG _,rfl,b6,rfl,fun _ _=>rfl,fun j p Y=>absurd Y oM,aI⟩
  case round=>
   clear b6 aI;obtain⟨wp,br⟩:∃wp,wp=wr:=⟨_,rfl⟩;subst br;obtain⟨m,R,hm,rfl,K,ak,b4,aF,d⟩:=hrel;(have az:R.length=D.length:=by have :=congrArg List.length ak;simpa using this);have ac:O (R.length=D.length):=az;have a1:O _:=ak;have a2:O _:=b4;have a0:O _:=aF;clear ak b4 aF az;by_cases J:m<D.length
   ·obtain⟨x,hx,a8⟩:=EN J;have ag:R[m]?=some x:=(a2.o m (aE _)).trans hx;obtain⟨c0,N⟩:=K.cell ag;obtain⟨xa,xc,ap⟩:=Iz (aa.o x a8).1;have au:O (dM w x.2 x.1.args/\x.1.args.length<=17592186044416):=⟨(aa.o x a8).1.1,HF.o _ (aa.o x a8).2⟩;have aw:O (x.2=.slice xa x.1.args.length xc):=ap;rw[ap]at N;have ad:O (R[m]?=some x/\D[m]?=some x):=⟨ag,hx⟩;clear ag hx a8 ap;have f1:=K.frozen (m*2+1);(have bX:m<R.length:=by rw[ac.o];exact J);go_wp2_with fail;refine Calls.mono (Ak x.1.args _ wp (by have h3:=aM au.o.1 d;rw[aw.o]at h3;exact h3) au.o.2) ?_;rintro e w7 ⟨v7,rfl,an,a5⟩;obtain⟨F,G,rfl⟩:=bJ an;have T:=K.keep (a5.block g K.lt.2);have bm:=T.put1 ad.o.1 (.slice F x.1.args.length G);obtain⟨d0,d1⟩:=T.cell ad.o.1;rw[aw.o]at d1;have bz:=T.frozen (m*2+1);(have bi:Below w.heap.size w (w7.setCell ⟨g,m*2+1,none⟩ (.slice F x.1.args.length G)):=by have U:=d.trans (a5.mono d.size);exact⟨U.os,U.tape,U.output,by simpa[World.setCell]using U.size,fun k y=>(gE _ _ _ _ (show¬k=g by omega)).trans (U.block k y)⟩);have b8:O (∀j p,j<m+1->(R.set m (x.1,Value.slice F x.1.args.length G))[j]?=some p->(w7.setCell ⟨g,m*2+1,none⟩ (.slice F x.1.args.length G)).ownsRow w.heap.size 3 1 p.2 p.1.args.length (p.1.args.map (Value.int .i64))):=by
     intro j p Y I;rw[fS]at I;by_cases aV:m=j
     ·rw[if_pos aV,if_pos oM]at I;(obtain rfl:(x.1,Value.slice F x.1.args.length G)=p:=by simpa using I);exact aGA (gL an d.size) T _ _
     rw[if_neg aV]at I;exact aGA (bI (a0.o j p oM I) a5) T _ _
    have ba:O ((R.set m (x.1,Value.slice F x.1.args.length G)).map (·.1)=D.map (·.1)):=by
     show _=_;rw[yP,a1.o];apply jU;intro t;rw[fS];split
     ·rename_i ht;subst ht;rw[if_pos (by simpa using J),cY,ad.o.2];rfl
     rfl
    (have bc:O (∀j,m+1<=j->(R.set m (x.1,Value.slice F x.1.args.length G))[j]?=D[j]?):=fun j Y=>by rw[fS,if_neg oM];exact a2.o j oM);clear K an a5 T d a0 a1 a2 c0 N f1;go_wp2_with fail;go_roundw;(case rel=>exact⟨m+1,_,oM,gN,bm,ba.o,bc.o,b8.o,bi⟩);case measure=>exact mI
   have bW:m=D.length:=oM;(have b9:O (tG w.heap.size wp (.slice (some ⟨g,0,none⟩) D.length a3) (dR (l.filter P))):=by refine⟨R,a1.o.trans bd.o,by rw[<-ac.o];exact K,fun p n=>?_⟩;obtain⟨j,Y,I⟩:=mH n;exact a0.o j p (by have :=ac.o;omega) (by rw[aD Y,I]));clear K a0 a1 a2;go_wp2_with fail;go_ret;exact⟨_,rfl,b9.o,d⟩
theorem yI{w:World}{B:Nat}{v:Value}{l:List Int}(h:w.ownsRow B 3 1 v l.length (l.map (Value.int .i64))):dM w v l:=by
 rcases h.2 with⟨b,d⟩|⟨g,f,j,b,q,r,k,m,n,p⟩
 ·exact⟨none,0,by rw[b,d], .inl (eB d)⟩
 subst b;refine⟨_,_,rfl, .inr ⟨g,0,rfl,fun i e=>?_⟩⟩;rw[dV,World.ownsRow.cellAt h i oM,cY,aD e];simp[bM,e]
theorem tG.toV{B:Nat}{w:World}{v:Value}{s:List aN}(h:tG B w v s):dA w v s:=by
 obtain⟨q,rfl,e,m⟩:=h;rcases jJ e with⟨b,l⟩|⟨g,j,b⟩
 ·have f:q=[]:=eB l;subst f;exact⟨none,0,b,⟨aE _,fun _=>rfl⟩, .inl rfl⟩
 subst b;have n:q.length<=j:=by
  rcases e.2 with⟨b,_⟩|⟨_,_,_,b,_,_,x,_⟩
  ·cases b
  injection b with _ _ r;omega
 refine⟨_,j,by rw[aP],⟨by rw[aP];exact n,fun h=>by cases h⟩, .inr ⟨g,0,rfl,fun i d=>?_⟩⟩;rw[aP]at d;have f:q[i]?=some q[i]:=aD d;(have p:aZ (q.map (·.1)) i=q[i].1:=by simp[aZ,d]);obtain⟨c0,k⟩:=vL.cell e f;rw[dV,p];exact⟨c0,q[i].2,k,yI (m _ (dY d))⟩
theorem tG.nil(B:Nat)(w:World):tG B w (.slice none 0 0) []:=⟨[],rfl,eD _ _ _ _,fun _ b=>absurd b sI⟩
theorem aQL(w:World):EJ 101 #[] w (fun _=>true):=by
 intro z f b d _ _ _;show Calls Tryz.prog 101 #[kS f.z (.slice b f.args.length d)] z _;have e:∀o,Below z.heap.size z (z.alloc o):=fun o=>(aH _ _).alloc (aE _) o
 go_enter Tryz.func101,Tryz.ntmps101
 go_wp2_with fail;go_ret;exact⟨rfl,by first|exact e _|exact aH _ _⟩
theorem aGQ:∀b w,(callFunc 101 b).run Tryz.prog w=.ok (.enter 101 b) w:=jQ Tryz.func101 kR rfl
theorem aER(l:List aN)(v:Value)(w:World)(k:dA w v l)(r:l.length<=4398046511103)(p:∀f,f∈l->f.args.length<=17592186044416):
 Calls Tryz.prog 54 #[v] w fun e d=>∃b,e=.returned b/\tG w.heap.size d b (dR l)/\Below w.heap.size w d:=by
 (have HK:O (Calls Tryz.prog 100 #[v, .func (.func 101) #[] #[]] w fun e d=>∃b,e=.returned b/\tG w.heap.size d b (dR l)/\Below w.heap.size w d):=by have h:=YN l v w 101 #[] (fun _=>true) k r p aGQ (aQL w);rw[List.filter_eq_self.mpr (fun _ _=>rfl)]at h;exact h);obtain⟨x,g,rfl,_⟩:=k;have z:∀(j:Fn)(first g:Array Value)(w:World),(Instr.makeFunc j first g).run Tryz.prog w=.ok (.func j first g) w:=fun _ _ _ _=>rfl
 go_enter Tryz.func54,Tryz.ntmps54
 go_wp2_with fail;refine Calls.mono HK.o ?_;rintro e B ⟨b,rfl,i,n⟩;obtain⟨q,A,m,_⟩:=id i;obtain⟨s,y,rfl⟩:=bJ m;have HP:O _:=i;clear i m HK;go_wp2_with fail;go_ret;exact⟨_,rfl,HP.o,n⟩
theorem ME(l:List aN)(v:Value)(w:World)(g:dA w v l)(j:l.length<=2097152)(i:∀f,f∈l->f.args.length<=1048576):
 Calls Tryz.prog 54 #[v] w fun e d=>∃b,e=.returned b/\tG w.heap.size d b (dR l)/\Below w.heap.size w d:=
 aER l v w g oM (fun f h=>bH (i f h) dE)
theorem aJC(l:List aN)(ao:Option Addr)(H:Nat)(w:World)(h:Nat)(cb:Array Value)(P:aN->Bool)(q:lJ w ao l)(T:l.length<=9223372036854775807)(z:∀f,f∈l->fW f)(R:∀p w,(callFunc h p).run Tryz.prog w=.ok (.enter h p) w)(v:EJ h cb w P):
 Calls Tryz.prog 179 #[.slice ao l.length H, .func (.func h) #[] cb] w fun e M=>∃r:Int,e=.returned (.int .i64 r)/\decide (0<=r)=l.any P/\Below w.heap.size w M:=by
 have E:O (lJ w ao l):=q;have F:O (∀f,f∈l->fW f):=z;have HK:O (EJ h cb w P):=v;clear q z v
 go_enter Tryz.func179,Tryz.ntmps179
 go_wp2_with fail;go_loopw [8] (fun i wr=>∃k:Nat,k<=l.length/\i=.int .i64 k/\l.any P=(l.drop k).any P/\Below w.heap.size w wr) (fun i _=>l.length-(intOf i).toNat);case atStart=>exact⟨0,bG _,rfl,rfl,aH _ _⟩
 case round=>
  obtain⟨k,S,rfl,x,d⟩:=hrel;have j:O _:=x;clear x;by_cases m:k<l.length
  ·obtain⟨b,U,rfl,C,J,D,s⟩:=qJ E.o k m;have A:=mT l k m;(have g:O (l.any P=(P (aZ l k)||(l.drop (k+1)).any P)):=by show _=_;rw[j.o,GV l k m,List.any_cons]);have n:O (dM w J (aZ l k).args/\fW (aZ l k)):=⟨s,F.o _ A⟩;obtain⟨G,I,rfl,_⟩:=s;have N:=aB d C;have Q:=aB d D;clear C D j A;generalize aZ l k=f at *;go_wp2_with fail;refine Calls.mono (HK.o wr f G I d (aM n.o.1 d) n.o.2) ?_;rintro e V ⟨L,K⟩;subst L;have y:=d.trans (K.mono d.size);cases B:P f
   ·(have HV:O (l.any P=(l.drop (k+1)).any P):=by show _=_;rw[g.o,B];rfl);clear g;go_wp2_with fail;go_roundw;(case rel=>exact⟨k+1,oM,gN,HV.o,y⟩);case measure=>exact mI
   (have HV:O (l.any P=true):=by show _=_;rw[g.o,B];rfl);clear g;go_wp2_with fail;go_ret;exact⟨k,rfl,by rw[HV.o];simp,y⟩
  (have HV:O (l.any P=false):=by show _=_;rw[j.o,bD oM];rfl);go_wp2_with fail;go_ret;exact⟨-1,rfl,rV,d⟩
theorem SL(l:List aN)(v:Value)(w:World)(h:Nat)(cb:Array Value)(P:aN->Bool)(n:dA w v l)(s:l.length<=9223372036854775807)(i:∀f,f∈l->fW f)(q:∀b w,(callFunc h b).run Tryz.prog w=.ok (.enter h b) w)(g:EJ h cb w P):
 Calls Tryz.prog 135 #[v, .func (.func h) #[] cb] w fun e y=>e=.returned (.bool (l.any P))/\Below w.heap.size w y:=by
 obtain⟨k,m,rfl,_,d⟩:=n;have j:O _:=aJC l k m w h cb P d s i q g;clear d i g
 go_enter Tryz.func135,Tryz.ntmps135
 go_wp2_with fail;refine Calls.mono j.o ?_;rintro e z ⟨r,rfl,x,p⟩;go_wp2_with fail;go_ret;exact⟨by rw[<-x];rfl,p⟩
theorem AQ(f g:aN)(v u:Value)(w:World)(Y:dM w v f.args)(X:dM w u g.args)(hx:fW f)(hy:fW g):
 Calls Tryz.prog 44 #[kS f.z v,kS g.z u] w fun e w'=>e=.returned (.int .i64 (eV f g))/\Below w.heap.size w w':=by
 obtain⟨p,x⟩:=f;obtain⟨q,y⟩:=g;have Y:dM w v x:=Y;have X:dM w u y:=X;have hx:x.length<=9223372036854775807:=hx;have hy:y.length<=9223372036854775807:=hy;obtain⟨s,m,rfl,hA⟩:=Y;obtain⟨A,r,rfl,hB⟩:=X;have HA:O (pH w s x):=hA;have HB:O (pH w A y):=hB;have N:=yJ (w:=w) (o1:=.cells #[.int .i64 p, .slice s x.length m] 55) (o2:=.cells #[.int .i64 q, .slice A y.length r] 55) (aH _ _);have C:=AX w (.cells #[.int .i64 p, .slice s x.length m] 55) (.cells #[.int .i64 q, .slice A y.length r] 55);have P:O (eV ⟨p,x⟩ ⟨q,y⟩=if gA p q=0 then eS x y else gA p q):=rfl;clear hA hB;(have c0:((w.alloc (.cells #[.int .i64 p, .slice s x.length m] 55)).alloc (.cells #[.int .i64 q, .slice A y.length r] 55)).cell? ⟨w.heap.size,0,none⟩=some (.int .i64 p):=cH N.1);(have c1:((w.alloc (.cells #[.int .i64 p, .slice s x.length m] 55)).alloc (.cells #[.int .i64 q, .slice A y.length r] 55)).cell? ⟨w.heap.size,1,none⟩=some (.slice s x.length m):=cH N.1);(have d0:((w.alloc (.cells #[.int .i64 p, .slice s x.length m] 55)).alloc (.cells #[.int .i64 q, .slice A y.length r] 55)).cell? ⟨w.heap.size+1,0,none⟩=some (.int .i64 q):=cH N.2);(have d1:((w.alloc (.cells #[.int .i64 p, .slice s x.length m] 55)).alloc (.cells #[.int .i64 q, .slice A y.length r] 55)).cell? ⟨w.heap.size+1,1,none⟩=some (.slice A y.length r):=cH N.2);clear N;by_cases a1:p=q
 ·subst a1;(have E:O (eV ⟨p,x⟩ ⟨p,y⟩=eS x y):=by show _=_;rw[P.o,if_pos (LS p)]);(have g0:(p != p)=false:=by simp);clear P
  go_enter Tryz.func44,Tryz.ntmps44
  go_wp2_with fail;generalize (w.alloc (.cells #[.int .i64 p, .slice s x.length m] 55)).alloc (.cells #[.int .i64 p, .slice A y.length r] 55)=j at *;(have a6:O (∀k,k<x.length->∃b d,s=some ⟨b,d,none⟩/\j.cell? ⟨b,d+k,none⟩=some (.int .i64 (bM x k))):=fun k Q=>by obtain⟨b,d,B,H⟩:=qY HA.o k Q;exact⟨b,d,B,aB C H⟩);(have a7:O (∀k,k<y.length->∃b d,A=some ⟨b,d,none⟩/\j.cell? ⟨b,d+k,none⟩=some (.int .i64 (bM y k))):=fun k Q=>by obtain⟨b,d,B,H⟩:=qY HB.o k Q;exact⟨b,d,B,aB C H⟩);clear HA HB;have J:O (∀n,Below w.heap.size w (j.drewN n)):=fun n=>⟨C.os,C.tape,C.output,C.size,C.block⟩;clear C;go_loopw [5] (fun i wr=>∃k nq:Nat,k<=x.length/\k<=y.length/\i=.int .i64 k/\wr=j.drewN nq/\eS (x.drop k) (y.drop k)=eS x y) (fun i _=>x.length-(intOf i).toNat);case atStart=>exact⟨0,0,bG _,bG _,rfl,rfl,rfl⟩
  case round=>
   obtain⟨k,nq,Q,a9,rfl,rfl,hq⟩:=hrel;have K:O _:=hq;clear hq;by_cases Z:k<x.length
   ·by_cases a0:k<y.length
    ·obtain⟨b,d,rfl,p0⟩:=a6.o k Z;obtain⟨G,I,rfl,p1⟩:=a7.o k a0;(have R:O (eS x y=if gA (bM x k) (bM y k)=0 then eS (x.drop (k+1)) (y.drop (k+1))else gA (bM x k) (bM y k)):=by show _=_;rw[<-K.o];exact Vp x y k Z a0);clear K;generalize bM x k=a at *;generalize bM y k=l at *;have a2:∀n,(j.drewN n).cell? ⟨w.heap.size,1,none⟩=some (.slice (some ⟨b,d,none⟩) x.length m):=fun _=>c1;have a3:∀n,(j.drewN n).cell? ⟨w.heap.size+1,1,none⟩=some (.slice (some ⟨G,I,none⟩) y.length r):=fun _=>d1;have a4:∀n,(j.drewN n).cell? ⟨b,d+k,none⟩=some (.int .i64 a):=fun _=>p0;have a5:∀n,(j.drewN n).cell? ⟨G,I+k,none⟩=some (.int .i64 l):=fun _=>p1;go_upto_region 8 with fail;have T:=a2 nq;have U:=a3 nq;have V:=a4 nq;have W:=a5 nq;generalize L:j.drewN nq=z at *;go_region_held3 (fun D=>D.cell? ⟨w.heap.size,1,none⟩=some (.slice (some ⟨b,d,none⟩) x.length m)/\D.cell? ⟨w.heap.size+1,1,none⟩=some (.slice (some ⟨G,I,none⟩) y.length r)/\D.cell? ⟨b,d+k,none⟩=some (.int .i64 a)/\D.cell? ⟨G,I+k,none⟩=some (.int .i64 l)) (go_keep) (fail);clear T U V W;(have M:z.drew=j.drewN (nq+1):=by rw[<-L];rfl);rw[M];clear L M;have S:O (gA a l=if a<l then -1 else if l<a then 1 else 0):=rfl;by_cases B:a<l
     ·(have HV:O (eS x y= -1):=by show _=_;(have F:gA a l= -1:=by rw[S.o,if_pos B]);rw[R.o,if_neg (by rw[F];decide),F]);go_wp2_with fail;go_ret;exact⟨by rw[E.o,HV.o];rfl,J.o _⟩
     go_upto_region 10 with fail;have T:=a2 (nq+1);have U:=a3 (nq+1);have V:=a4 (nq+1);have W:=a5 (nq+1);generalize L:j.drewN (nq+1)=z at *;go_region_held3 (fun D=>D.cell? ⟨w.heap.size,1,none⟩=some (.slice (some ⟨b,d,none⟩) x.length m)/\D.cell? ⟨w.heap.size+1,1,none⟩=some (.slice (some ⟨G,I,none⟩) y.length r)/\D.cell? ⟨b,d+k,none⟩=some (.int .i64 a)/\D.cell? ⟨G,I+k,none⟩=some (.int .i64 l)) (go_keep) (fail);clear T U V W;(have M:z.drew=j.drewN (nq+1+1):=by rw[<-L];rfl);rw[M];clear L M;by_cases H:l<a
     ·(have HV:O (eS x y=1):=by show _=_;(have F:gA a l=1:=by rw[S.o,if_neg B,if_pos H]);rw[R.o,if_neg (by rw[F];decide),F]);go_wp2_with fail;go_ret;exact⟨by rw[E.o,HV.o];rfl,J.o _⟩
     (have HV:O (eS (x.drop (k+1)) (y.drop (k+1))=eS x y):=by show _=_;(have F:gA a l=0:=by rw[S.o,if_neg B,if_neg H]);rw[R.o,if_pos F]);go_wp2_with fail;go_roundw;(case rel=>exact⟨k+1,nq+1+1,oM,oM,gN,rfl,HV.o⟩);case measure=>exact mI
    (have HV:O (eS x y=1):=by show _=_;rw[<-K.o];exact Vq x y k Z oM);have a8:y.length<x.length:=oM;have aa:¬x.length<y.length:=oM;go_wp2_with fail;go_ret;exact⟨by rw[E.o,HV.o];rfl,J.o _⟩
   by_cases a0:x.length<y.length
   ·(have HV:O (eS x y= -1):=by show _=_;rw[<-K.o];exact Ip x y k oM oM);go_wp2_with fail;go_ret;exact⟨by rw[E.o,HV.o];rfl,J.o _⟩
   (have HV:O (eS x y=0):=by show _=_;rw[<-K.o,bD oM,bD oM];rfl);have a8:¬y.length<x.length:=oM;go_wp2_with fail;go_ret;exact⟨by rw[E.o,HV.o];rfl,J.o _⟩
 (have g0:(p != q)=true:=by simpa using a1);(have E:O (eV ⟨p,x⟩ ⟨q,y⟩=gA p q):=by show _=_;rw[P.o,if_neg (fun h=>a1 (mU.mp h))]);have HC:O (gA p q=if p<q then -1 else if q<p then 1 else 0):=rfl;clear P;by_cases B:p<q
 ·have HV:O (gA p q= -1):=by show _=_;rw[HC.o,if_pos B]
  go_enter Tryz.func44,Tryz.ntmps44
  go_wp2_with fail;go_ret;exact⟨by rw[E.o,HV.o];rfl,C⟩
 have HV:O (gA p q=1):=by show _=_;rw[HC.o,if_neg B,if_pos oM]
 go_enter Tryz.func44,Tryz.ntmps44
 go_wp2_with fail;go_ret;exact⟨by rw[E.o,HV.o];rfl,C⟩
theorem aRR(l:List aN)(f:aN):l.any (fun g=>eV f g==0)=jZ l f:=by
 unfold jZ
 congr 1
 funext g;rw[DV g f];by_cases h:eV g f=0
 ·rw[h];rfl
 have b:¬(-eV g f)=0:=oM;rw[beq_false_of_ne b,beq_false_of_ne h]
theorem aPY(w:World)(i:Nat)(f:aN)(a:Option Addr)(c:Nat)(q:w.heap[i]?=some (.cells #[.int .i64 f.z, .slice a f.args.length c] 55))(B:dM w (.slice a f.args.length c) f.args)(y:fW f):EJ 213 #[.pointer (some ⟨i,0,none⟩)] w (fun g=>eV f g==0):=by
 intro z g b d n r A;show Calls Tryz.prog 213 #[kS g.z (.slice b g.args.length d), .pointer (some ⟨i,0,none⟩)] z _;have l:=(n.block i (Xm q)).trans q;have j:Below z.heap.size z (z.alloc (.cells #[.int .i64 g.z, .slice b g.args.length d] 55)):=(aH _ _).alloc (aE _) _;have k:=(j.block i (Xm l)).trans l;have m:=kT z (.cells #[.int .i64 g.z, .slice b g.args.length d] 55);have p:O (Calls Tryz.prog 148 #[kS f.z (.slice a f.args.length c),kS g.z (.slice b g.args.length d)] (z.alloc (.cells #[.int .i64 g.z, .slice b g.args.length d] 55)) fun e E=>e=.returned (.bool (eV f g==0))/\Gr (z.alloc (.cells #[.int .i64 g.z, .slice b g.args.length d] 55)) E):=XH f g _ _ _ (aM (aM B n) j) (aM r j) y A;(have c0:(z.alloc (.cells #[.int .i64 g.z, .slice b g.args.length d] 55)).cell? ⟨i,0,none⟩=some (.int .i64 f.z):=cH k);(have s:(z.alloc (.cells #[.int .i64 g.z, .slice b g.args.length d] 55)).cell? ⟨i,1,none⟩=some (.slice a f.args.length c):=cH k);(have v:(z.alloc (.cells #[.int .i64 g.z, .slice b g.args.length d] 55)).cell? ⟨z.heap.size,0,none⟩=some (.int .i64 g.z):=cH m);(have x:(z.alloc (.cells #[.int .i64 g.z, .slice b g.args.length d] 55)).cell? ⟨z.heap.size,1,none⟩=some (.slice b g.args.length d):=cH m);clear l k m r n
 go_enter Tryz.func213,Tryz.ntmps213
 go_wp2_with fail;refine Calls.mono p.o ?_;rintro e F ⟨rfl,D⟩;have C:=j.trans (D.u.mono j.size);clear p c0 s v x;go_wp2_with fail;go_ret;exact⟨rfl,C⟩
theorem aGR:∀b w,(callFunc 213 b).run Tryz.prog w=.ok (.enter 213 b) w:=jQ Tryz.func213 kR rfl
theorem aKN(l:List aN)(f:aN)(v u:Value)(w:World)(m:dA w v l)(g:dM w u f.args)(s:l.length<=9223372036854775807)(p:∀f,f∈l->fW f)(q:fW f):
 Calls Tryz.prog 185 #[v,kS f.z u] w fun e i=>e=.returned (.bool (jZ l f))/\Below w.heap.size w i:=by
 obtain⟨a,c,rfl,_⟩:=id g;have y:∀(k:Fn)(first d:Array Value)(w:World),(Instr.makeFunc k first d).run Tryz.prog w=.ok (.func k first d) w:=fun _ _ _ _=>rfl;have b:Below w.heap.size w (w.alloc (.cells #[.int .i64 f.z, .slice a f.args.length c] 55)):=(aH _ _).alloc (aE _) _;(have j:O (Calls Tryz.prog 135 #[v, .func (.func 213) #[] #[.pointer (some ⟨w.heap.size,0,none⟩)]] (w.alloc (.cells #[.int .i64 f.z, .slice a f.args.length c] 55)) fun e i=>e=.returned (.bool (jZ l f))/\Below (w.alloc (.cells #[.int .i64 f.z, .slice a f.args.length c] 55)).heap.size (w.alloc (.cells #[.int .i64 f.z, .slice a f.args.length c] 55)) i):=by rw[<-aRR];exact SL l v _ 213 _ _ (bR m b) s p aGR (aPY _ w.heap.size f a c (kT w _) (aM g b) q));obtain⟨x,d,rfl,_⟩:=m;clear g p
 go_enter Tryz.func185,Tryz.ntmps185
 go_wp2_with fail;refine Calls.mono j.o ?_;rintro e A ⟨rfl,n⟩;have r:=b.trans (n.mono b.size);clear j n b;go_wp2_with fail;go_ret;exact⟨rfl,r⟩
theorem AP(l:List aN)(f:aN)(v u:Value)(w:World)(hV:dA w v l)(B:dM w u f.args)(hl:l.length<=9223372036854775807)(Q:∀f,f∈l->fW f)(hF:fW f):
 Calls Tryz.prog 26 #[v,kS f.z u] w fun e j=>e=.returned (.bool (jZ l f))/\Below w.heap.size w j:=by
 obtain⟨ao,aa,rfl,_,K⟩:=hV;obtain⟨a,c,rfl,_⟩:=id B;have X:O (lJ w ao l):=K;have Y:O (∀f,f∈l->fW f):=Q;have G:O (dM w (.slice a f.args.length c) f.args/\fW f):=⟨B,hF⟩;have P:Below w.heap.size w (w.alloc (.cells #[.int .i64 f.z, .slice a f.args.length c] 55)):=(aH _ _).alloc (aE _) _;have L:=kT w (.cells #[.int .i64 f.z, .slice a f.args.length c] 55);clear K Q B
 go_enter Tryz.func26,Tryz.ntmps26
 go_wp2_with fail;generalize w.alloc (.cells #[.int .i64 f.z, .slice a f.args.length c] 55)=W at *;go_loopw [5] (fun i wr=>∃k:Nat,k<=l.length/\i=.int .i64 k/\jZ l f=jZ (l.drop k) f/\Below W.heap.size W wr) (fun i _=>l.length-(intOf i).toNat);case atStart=>exact⟨0,bG _,rfl,rfl,aH _ _⟩
 case round=>
  obtain⟨k,hk,rfl,N,n⟩:=hrel;have s:O _:=N;clear N;have d:=P.trans (n.mono P.size);by_cases D:k<l.length
  ·obtain⟨b,r,rfl,U,fv,V,M⟩:=qJ X.o k D;have R:=mT l k D;(have q:O (jZ l f=((eV (aZ l k) f==0)||jZ (l.drop (k+1)) f)):=by show _=_;rw[s.o,GV l k D];rfl);have F:O (dM w fv (aZ l k).args/\fW (aZ l k)):=⟨M,Y.o _ R⟩;obtain⟨x,y,rfl,_⟩:=M;have H:=aB d U;have I:=aB d V;have A:=(n.block _ (Xm L)).trans L;(have c0:wr.cell? ⟨w.heap.size,0,none⟩=some (.int .i64 f.z):=cH A);(have J:wr.cell? ⟨w.heap.size,1,none⟩=some (.slice a f.args.length c):=cH A);clear U V s R A;generalize aZ l k=g at *;(have HN:O (∀z,Below wr.heap.size wr z->Calls Tryz.prog 44 #[kS g.z (.slice x g.args.length y),kS f.z (.slice a f.args.length c)] z fun e j=>e=.returned (.int .i64 (eV g f))/\Below wr.heap.size wr j/\j.cell? ⟨b,r+k*2,none⟩=some (.int .i64 g.z)/\j.cell? ⟨b,r+k*2+1,none⟩=some (.slice x g.args.length y)/\j.cell? ⟨w.heap.size,0,none⟩=some (.int .i64 f.z)/\j.cell? ⟨w.heap.size,1,none⟩=some (.slice a f.args.length c)):=by intro z E;have T:=d.trans (E.mono d.size);refine(AQ g f _ _ z (aM F.o.1 T) (aM G.o.1 T) F.o.2 G.o.2).mono ?_;rintro e j ⟨h1,h2⟩;have m:=E.trans (h2.mono E.size);exact⟨h1,m,aB m H,aB m I,aB m c0,aB m J⟩);have Z:∀b o,Below wr.heap.size wr b->Below wr.heap.size wr (b.alloc o):=fun _ o h=>h.alloc h.size o;have a2:∀b,Below wr.heap.size wr b->Below wr.heap.size wr b.drew:=fun _ h=>⟨h.os,h.tape,h.output,h.size,h.block⟩;have a3:Below wr.heap.size wr wr:=aH _ _;go_upto_region 4 with fail
   go_region_held3 (fun p=>p.cell? ⟨b,r+k*2,none⟩=some (.int .i64 g.z)/\p.cell? ⟨b,r+k*2+1,none⟩=some (.slice x g.args.length y)/\p.cell? ⟨w.heap.size,0,none⟩=some (.int .i64 f.z)/\p.cell? ⟨w.heap.size,1,none⟩=some (.slice a f.args.length c)/\Below wr.heap.size wr p) (go_keep) (
    (go_at_call 44;refine Calls.mono (HN.o _ ?_) ?_;(simp[*]);rintro e w2 ⟨rfl,C,a6,a7,a8,a9⟩))
   clear Z a2 a3 HN a6 a7 a8 a9;have a4:=n.trans (C.mono n.size);have a5:=d.trans (C.mono d.size);clear H I c0 J C n d;cases S:(eV g f==0)
   ·(have HV:O (jZ l f=jZ (l.drop (k+1)) f):=by show _=_;rw[q.o,S];rfl);clear q;go_wp2_with fail;go_roundw;(case rel=>exact⟨k+1,oM,gN,HV.o,a4⟩);case measure=>exact mI
   (have HV:O (jZ l f=true):=by show _=_;rw[q.o,S];rfl);clear q;go_wp2_with fail;go_ret;exact⟨rV,a5⟩
  (have HV:O (jZ l f=false):=by show _=_;rw[s.o,bD oM];rfl);go_wp2_with fail;go_ret;exact⟨rV,d⟩
theorem xY(l:List aN)(v u:Value)(w:World)(hV:dA w v l)(hU:dA w u l)(hl:l.length<=9223372036854775807)(N:∀f,f∈l->fW f):
 Calls Tryz.prog 21 #[v,u] w fun e j=>e=.returned (.bool true)/\Below w.heap.size w j:=by
 obtain⟨ao,a8,rfl,_,I⟩:=hV;obtain⟨bo,a9,rfl,_,J⟩:=hU;have V:O (lJ w ao l):=I;have W:O (lJ w bo l):=J;have X:O (∀f,f∈l->fW f):=N;(have aa:((l.length:Int) != (l.length:Int))=false:=by simp);clear I J N
 go_enter Tryz.func21,Tryz.ntmps21
 go_wp2_with fail;go_loopw [5] (fun i wr=>∃k:Nat,k<=l.length/\i=.int .i64 k/\Below w.heap.size w wr) (fun i _=>l.length-(intOf i).toNat);case atStart=>exact⟨0,bG _,rfl,aH _ _⟩
 case round=>
  obtain⟨k,hk,rfl,d⟩:=hrel;by_cases C:k<l.length
  ·obtain⟨b,r,rfl,R,fv,S,K⟩:=qJ V.o k C;obtain⟨q,s,rfl,T,gv,U,L⟩:=qJ W.o k C;have P:=mT l k C;have p:O (dM w fv (aZ l k).args/\dM w gv (aZ l k).args/\fW (aZ l k)):=⟨K,L,X.o _ P⟩;obtain⟨x,A,rfl,_⟩:=K;obtain⟨y,B,rfl,_⟩:=L;have E:=aB d R;have F:=aB d S;have c0:=aB d T;have G:=aB d U;clear R S T U P;generalize aZ l k=g at *;(have HN:O (∀z,Below wr.heap.size wr z->Calls Tryz.prog 44 #[kS g.z (.slice x g.args.length A),kS g.z (.slice y g.args.length B)] z fun e j=>e=.returned (.int .i64 0)/\Below wr.heap.size wr j/\j.cell? ⟨b,r+k*2,none⟩=some (.int .i64 g.z)/\j.cell? ⟨b,r+k*2+1,none⟩=some (.slice x g.args.length A)/\j.cell? ⟨q,s+k*2,none⟩=some (.int .i64 g.z)/\j.cell? ⟨q,s+k*2+1,none⟩=some (.slice y g.args.length B)):=by intro z D;have Q:=d.trans (D.mono d.size);refine(AQ g g _ _ z (aM p.o.1 Q) (aM p.o.2.1 Q) p.o.2.2 p.o.2.2).mono ?_;rintro e j ⟨H,h2⟩;have m:=D.trans (h2.mono D.size);rw[vO]at H;exact⟨H,m,aB m E,aB m F,aB m c0,aB m G⟩);have Y:∀b o,Below wr.heap.size wr b->Below wr.heap.size wr (b.alloc o):=fun _ o h=>h.alloc h.size o;have Z:∀b,Below wr.heap.size wr b->Below wr.heap.size wr b.drew:=fun _ h=>⟨h.os,h.tape,h.output,h.size,h.block⟩;have a2:Below wr.heap.size wr wr:=aH _ _;go_upto_region 6 with fail
   go_region_held3 (fun n=>n.cell? ⟨b,r+k*2,none⟩=some (.int .i64 g.z)/\n.cell? ⟨b,r+k*2+1,none⟩=some (.slice x g.args.length A)/\n.cell? ⟨q,s+k*2,none⟩=some (.int .i64 g.z)/\n.cell? ⟨q,s+k*2+1,none⟩=some (.slice y g.args.length B)/\Below wr.heap.size wr n) (go_keep) (
    (go_at_call 44;refine Calls.mono (HN.o _ ?_) ?_;(simp[*]);rintro e w2 ⟨rfl,M,a4,a5,a6,a7⟩))
   clear Y Z a2 HN a4 a5 a6 a7;have a3:=d.trans (M.mono d.size);clear E F c0 G M d;go_wp2_with fail;go_roundw;(case rel=>exact⟨k+1,oM,gN,a3⟩);case measure=>exact mI
  go_wp2_with fail;go_ret;exact⟨rfl,d⟩
theorem aIP(i:List Int)(va vn vr:Value)(b f:Int)(d:List dL)(at_:Option Addr)(q:Nat)(w:World):
 Calls Tryz.prog 208 #[eN va vn vr,nR ⟨3,b,f,d⟩ (.slice at_ d.length q)] w fun e C=>e=WT (dX i ⟨3,b,f,d⟩)/\Below w.heap.size w C:=by
 have g:Below w.heap.size w ((w.alloc (.cells #[va,vn,vr] 26)).alloc (.cells #[.int .i64 3, .int .i64 b, .int .i64 f, .slice at_ d.length q] 49)):=AX w _ _;(have l:O (dX i ⟨3,b,f,d⟩=if dG b 1 4 then(if f≠0\/¬d.length=2 then 1 else 0)else 3):=by show _=_;simp[dX]);by_cases s:b<1
 ·(have HV:O (dX i ⟨3,b,f,d⟩=3):=by show _=_;have :¬1<=b:=oM;rw[l.o];simp[dG,this]);have x:decide (b<1)=true:=aQ s;clear l
  go_enter Tryz.func208,Tryz.ntmps208
  go_wp2_with fail;refine(gO 3 _).mono ?_;rintro e k ⟨rfl,j⟩;go_wp2_with fail;exact⟨rfl,rV,g.trans (j.mono g.size)⟩
 have x:decide (b<1)=false:=aJ s;by_cases v:4<b
 ·(have HV:O (dX i ⟨3,b,f,d⟩=3):=by show _=_;have :¬b<=4:=oM;rw[l.o];simp[dG,this]);have y:decide (4<b)=true:=aQ v;clear l
  go_enter Tryz.func208,Tryz.ntmps208
  go_wp2_with fail;refine(gO 3 _).mono ?_;rintro e k ⟨rfl,j⟩;go_wp2_with fail;exact⟨rfl,rV,g.trans (j.mono g.size)⟩
 have y:decide (4<b)=false:=aJ v;(have m:O (dX i ⟨3,b,f,d⟩=if f≠0\/¬d.length=2 then 1 else 0):=by show _=_;have A:1<=b:=oM;have B:b<=4:=oM;rw[l.o];simp[dG,A,B]);clear l;cases r:(f != 0)
 ·(have n:f=0:=by simpa using r);by_cases p:d.length=2
  ·(have HV:O (dX i ⟨3,b,f,d⟩=0):=by show _=_;rw[m.o];simp[n,p]);(have z:((d.length:Int) != 2)=false:=by rw[p];rfl);clear m n p
   go_enter Tryz.func208,Tryz.ntmps208
   go_wp2_with fail;refine(iW 3 _).mono ?_;rintro e k ⟨rfl,rfl⟩;go_wp2_with fail;refine(iW 1 _).mono ?_;rintro e k ⟨rfl,rfl⟩;go_wp2_with fail;exact⟨rfl, .tuple #[],by simp[results,Tryz.results208],rV,g⟩
  (have HV:O (dX i ⟨3,b,f,d⟩=1):=by show _=_;rw[m.o];simp[p]);(have z:((d.length:Int) != 2)=true:=by simp;omega);clear m n p
  go_enter Tryz.func208,Tryz.ntmps208
  go_wp2_with fail;refine(iW 3 _).mono ?_;rintro e k ⟨rfl,rfl⟩;go_wp2_with fail;refine(gO 1 _).mono ?_;rintro e k ⟨rfl,j⟩;go_wp2_with fail;exact⟨rfl,rV,g.trans (j.mono g.size)⟩
 (have n:¬f=0:=by simpa using r);(have HV:O (dX i ⟨3,b,f,d⟩=1):=by show _=_;rw[m.o];simp[n]);clear m n
 go_enter Tryz.func208,Tryz.ntmps208
 go_wp2_with fail;refine(iW 3 _).mono ?_;rintro e k ⟨rfl,rfl⟩;go_wp2_with fail;refine(gO 1 _).mono ?_;rintro e k ⟨rfl,j⟩;go_wp2_with fail;exact⟨rfl,rV,g.trans (j.mono g.size)⟩
theorem aIQ(i:List Int)(va vn vr:Value)(b f:Int)(d:List dL)(at_:Option Addr)(q:Nat)(w:World):
 Calls Tryz.prog 208 #[eN va vn vr,nR ⟨4,b,f,d⟩ (.slice at_ d.length q)] w fun e C=>e=WT (dX i ⟨4,b,f,d⟩)/\Below w.heap.size w C:=by
 have g:Below w.heap.size w ((w.alloc (.cells #[va,vn,vr] 26)).alloc (.cells #[.int .i64 4, .int .i64 b, .int .i64 f, .slice at_ d.length q] 49)):=AX w _ _;(have l:O (dX i ⟨4,b,f,d⟩=if dG b 5 7 then(if f≠0\/¬d.length=3 then 1 else 0)else 3):=by show _=_;simp[dX]);by_cases s:b<5
 ·(have HV:O (dX i ⟨4,b,f,d⟩=3):=by show _=_;have :¬5<=b:=oM;rw[l.o];simp[dG,this]);have x:decide (b<5)=true:=aQ s;clear l
  go_enter Tryz.func208,Tryz.ntmps208
  go_wp2_with fail;refine(gO 3 _).mono ?_;rintro e k ⟨rfl,j⟩;go_wp2_with fail;exact⟨rfl,rV,g.trans (j.mono g.size)⟩
 have x:decide (b<5)=false:=aJ s;by_cases v:7<b
 ·(have HV:O (dX i ⟨4,b,f,d⟩=3):=by show _=_;have :¬b<=7:=oM;rw[l.o];simp[dG,this]);have y:decide (7<b)=true:=aQ v;clear l
  go_enter Tryz.func208,Tryz.ntmps208
  go_wp2_with fail;refine(gO 3 _).mono ?_;rintro e k ⟨rfl,j⟩;go_wp2_with fail;exact⟨rfl,rV,g.trans (j.mono g.size)⟩
 have y:decide (7<b)=false:=aJ v;(have m:O (dX i ⟨4,b,f,d⟩=if f≠0\/¬d.length=3 then 1 else 0):=by show _=_;have A:5<=b:=oM;have B:b<=7:=oM;rw[l.o];simp[dG,A,B]);clear l;cases r:(f != 0)
 ·(have n:f=0:=by simpa using r);by_cases p:d.length=3
  ·(have HV:O (dX i ⟨4,b,f,d⟩=0):=by show _=_;rw[m.o];simp[n,p]);(have z:((d.length:Int) != 3)=false:=by rw[p];rfl);clear m n p
   go_enter Tryz.func208,Tryz.ntmps208
   go_wp2_with fail;refine(iW 3 _).mono ?_;rintro e k ⟨rfl,rfl⟩;go_wp2_with fail;refine(iW 1 _).mono ?_;rintro e k ⟨rfl,rfl⟩;go_wp2_with fail;exact⟨rfl, .tuple #[],by simp[results,Tryz.results208],rV,g⟩
  (have HV:O (dX i ⟨4,b,f,d⟩=1):=by show _=_;rw[m.o];simp[p]);(have z:((d.length:Int) != 3)=true:=by simp;omega);clear m n p
  go_enter Tryz.func208,Tryz.ntmps208
  go_wp2_with fail;refine(iW 3 _).mono ?_;rintro e k ⟨rfl,rfl⟩;go_wp2_with fail;refine(gO 1 _).mono ?_;rintro e k ⟨rfl,j⟩;go_wp2_with fail;exact⟨rfl,rV,g.trans (j.mono g.size)⟩
 (have n:¬f=0:=by simpa using r);(have HV:O (dX i ⟨4,b,f,d⟩=1):=by show _=_;rw[m.o];simp[n]);clear m n
 go_enter Tryz.func208,Tryz.ntmps208
 go_wp2_with fail;refine(iW 3 _).mono ?_;rintro e k ⟨rfl,rfl⟩;go_wp2_with fail;refine(gO 1 _).mono ?_;rintro e k ⟨rfl,j⟩;go_wp2_with fail;exact⟨rfl,rV,g.trans (j.mono g.size)⟩
theorem Ow(k:List Int)(va vn vr:Value)(kind d f:Int)(b:List dL)(at_:Option Addr)(l:Nat)(w:World)(h1:¬kind=1)(g:¬kind=2)(i:¬kind=3)(j:¬kind=4):
 Calls Tryz.prog 208 #[eN va vn vr,nR ⟨kind,d,f,b⟩ (.slice at_ b.length l)] w fun e p=>e=WT (dX k ⟨kind,d,f,b⟩)/\Below w.heap.size w p:=by
 have m:Below w.heap.size w ((w.alloc (.cells #[va,vn,vr] 26)).alloc (.cells #[.int .i64 kind, .int .i64 d, .int .i64 f, .slice at_ b.length l] 49)):=AX w _ _;(have HV:O (dX k ⟨kind,d,f,b⟩=7):=by show _=_;simp[dX,h1,g,i,j]);(have q:(kind==1)=false:=by simpa using h1);(have r:(kind==2)=false:=by simpa using g);(have s:(kind==3)=false:=by simpa using i);(have v:(kind==4)=false:=by simpa using j);clear h1 g i j
 go_enter Tryz.func208,Tryz.ntmps208
 go_wp2_with fail;refine(gO 7 _).mono ?_;rintro e x ⟨rfl,n⟩;go_wp2_with fail;exact⟨rfl,rV,m.trans (n.mono m.size)⟩
theorem aBP(b:List Int)(va vn vr:Value)(x:cI)(v:Value)(w:World)(m:dM w va b)(r:∃k l,v=.slice k x.p.length l):
 Calls Tryz.prog 208 #[eN va vn vr,nR x v] w fun e s=>e=WT (dX b x)/\Below w.heap.size w s:=by
 obtain⟨d,g,i,j⟩:=x;obtain⟨at_,f,rfl⟩:=r;obtain⟨k,l,rfl,m⟩:=m;by_cases h:d=1\/d=2
 ·exact Ox b k l vn vr d g i j at_ f w m h
 by_cases n:d=3
 ·subst n;exact aIP b _ vn vr g i j at_ f w
 by_cases q:d=4
 ·subst q;exact aIQ b _ vn vr g i j at_ f w
 exact Ow b _ vn vr d g i j at_ f w (fun e=>h (.inl e)) (fun e=>h (.inr e)) n q
structure Bd (w:World) (X:Nat) (R:Nat) (bs:List Bool):Prop where
 box:w.heap[X]?=some (.cells #[.slice (some ⟨R,0,none⟩) bs.length bs.length] 57 (0,0))
 row:w.heap[R]?=some (.cells (bs.map Value.bool).toArray 4 (0,0))
theorem Bd.c0{w:World}{X R:Nat}{b:List Bool}(h:Bd w X R b):w.cell? ⟨X,0,none⟩=some (.slice (some ⟨R,0,none⟩) b.length b.length):=cH h.box
theorem Bd.at{w:World}{X R:Nat}{b:List Bool}(h:Bd w X R b)(i:Nat)(d:i<b.length):w.cell? ⟨R,i,none⟩=some (.bool (b.getD i false)):=by rw[cD h.row];simp[List.getD_eq_getElem?_getD,d]
theorem Bd.u{w w':World}{X R:Nat}{b:List Bool}(h:Bd w X R b)(d:Below w.heap.size w w'):Bd w' X R b:=
 ⟨(d.block _ (bP h.box)).trans h.box,(d.block _ (bP h.row)).trans h.row⟩
theorem Wk(X R:Nat)(d:List Bool)(t:dL)(w:World)(b:Bd w X R d)(ht:t.var<d.length):
 Calls Tryz.prog 223 #[iA t, .pointer (some ⟨X,0,none⟩)] w fun e l=>e=.returned (.bool (cC d t))/\Below w.heap.size w l:=by
 have p:=b.c0;have n:=bP b.box;have m:=bP b.row;have f:∀o,Below w.heap.size w (w.alloc o):=fun o=>(aH _ _).alloc (aE _) o;unfold cC;by_cases h:t.var<0
 ·have g:decide (t.var<0)=true:=aQ h
  go_enter Tryz.func223,Tryz.ntmps223
  go_wp2;go_ret;exact⟨by rw[g];rfl,f _⟩
 have g:decide (t.var<0)=false:=aJ h;obtain⟨k,i⟩:∃k:Nat,t.var=k:=⟨t.var.toNat,oM⟩;have j:k<d.length:=oM;have q:=b.at k j;obtain⟨s,r⟩:=t;simp only at i ht h g;subst i;clear h ht b
 go_enter Tryz.func223,Tryz.ntmps223
 go_wp2_with fail;go_ret;exact⟨by rw[g];simp[j],f _⟩
theorem aM2:CG 223:=jQ Tryz.func223 kR rfl
def Dh(n:Nat)(x:cI):Prop:=(x.kind=4->x.p.length=3)/\(∀t,t∈x.p->t.var<n)/\x.p.length<=9223372036854775807
theorem aK5{n:Nat}{x:cI}(h:Dh n x)(i:Nat)(b:i<x.p.length):(cA x.p i).var<n:=by refine h.2.1 _ ?_;unfold cA;rw[aC,aD b];exact dY b
theorem rI{w:World}{ao:Option Addr}{l:List dL}(h:OJ w ao l)(n:Nat)(e:n<l.length):∃b d,ao=some ⟨b,d,none⟩/\∀i,i<l.length->IQ w b (d+i*2) (cA l i):=by
 rcases h with h|⟨b,d,f,g⟩
 ·rw[h]at e;exact absurd e sI
 exact⟨b,d,f,g⟩
theorem aMP(X R:Nat)(f:List Bool)(x:cI)(v:Value)(w:World)(H:Bd w X R f)(hT:fT w v x.p)(B:Dh f.length x):
 Calls Tryz.prog 224 #[nR x v, .func (.func 223) #[] #[.pointer (some ⟨X,0,none⟩)]] w fun e A=>∃u,e=.returned u/\(∀y,fT y v x.p->fT y u (mC f x))/\Below w.heap.size w A:=by
 have he:=aM2;unfold CG at he;have J:∀o,Below w.heap.size w (w.alloc o):=fun o=>(aH _ _).alloc (aE _) o;obtain⟨l,n,q,d⟩:=x;obtain⟨W,j,rfl,M,r⟩:=hT;have r:OJ w W d:=r;have HT:O (OJ w W d):=r;have M:d.length<=j:=M;cases Y:(l==1)
 ·(have s:¬l=1:=by simpa using Y);cases Z:(l==4)
  ·(have z:¬l=4:=by simpa using Z);(have HV:O (mC f ⟨l,n,q,d⟩=[]):=by show _=_;simp[mC,s,z]);clear s z r
   go_enter Tryz.func224,Tryz.ntmps224
   go_wp2_with fail;go_ret;exact⟨_,rfl,by rw[HV.o];exact fun _ _=>⟨none,0,rfl,aE _, .inl rfl⟩,J _⟩
  (have z:l=4:=by simpa using Z);have P:d.length=3:=B.1 z;obtain⟨b,g,rfl,E⟩:=rI r 0 oM;obtain⟨G,T⟩:=E 0 oM;obtain⟨U,V⟩:=E 1 oM;have ac:(cA d 0).var<f.length:=aK5 B 0 (show 0<d.length by omega);have ad:(cA d 1).var<f.length:=aK5 B 1 (show 1<d.length by omega);simp only[Nat.zero_mul,Nat.one_mul,Nat.add_zero]at G T U V;have ah:b<w.heap.size:=jE w _ G;have S:O (∀y,Below w.heap.size w y->Calls Tryz.prog 223 #[iA (cA d 0), .pointer (some ⟨X,0,none⟩)] y fun e A=>e=.returned (.bool (cC f (cA d 0)))/\Below y.heap.size y A):=fun y k=>Wk X R f _ y (H.u k) ac;have a6:O (∀y,Below w.heap.size w y->Calls Tryz.prog 223 #[iA (cA d 1), .pointer (some ⟨X,0,none⟩)] y fun e A=>e=.returned (.bool (cC f (cA d 1)))/\Below y.heap.size y A):=fun y k=>Wk X R f _ y (H.u k) ad;(have F:O (mC f ⟨l,n,q,d⟩=if cC f (cA d 0)=true/\cC f (cA d 1)=true then d.drop 2 else []):=by show _=_;simp[mC,z]);have HC:O (∀i,i<d.length->IQ w b (g+i*2) (cA d i)):=E;subst z;have Q:O (d.length=3):=P;have ai:3<=j:=oM;have I:=aR w (.cells #[.int .i64 4, .int .i64 n, .int .i64 q, .slice (some ⟨b,g,none⟩) 3 j] 49);have D:=J (.cells #[.int .i64 4, .int .i64 n, .int .i64 q, .slice (some ⟨b,g,none⟩) 3 j] 49);rw[show d.length=3 from P];clear E r HT H B M P s;generalize a7:cA d 0=t0 at *;generalize a8:cA d 1=t1 at *;clear a7 a8
  go_enter Tryz.func224,Tryz.ntmps224
  go_wp2_with fail;refine Calls.mono (S.o _ D) ?_;rintro e w1 ⟨rfl,K⟩;have C:=(K.block _ (bP I)).trans I;have m:=D.trans (K.mono D.size);have b0:=aB m G;have b1:=aB m T;have b2:=aB m U;have b3:=aB m V;(have d0:w1.cell? ⟨w.heap.size,3,none⟩=some (.slice (some ⟨b,g,none⟩) 3 j):=cH C);clear K I D S;cases N:cC f t0
  ·(have HV:O (mC f ⟨4,n,q,d⟩=[]):=by show _=_;rw[F.o,N];simp);go_wp2_with fail;go_ret;exact⟨_,rfl,by rw[HV.o];exact fun _ _=>⟨none,0,rfl,aE _, .inl rfl⟩,m⟩
  go_wp2_with fail;refine Calls.mono (a6.o _ m) ?_;rintro e w2 ⟨rfl,L⟩;have a9:=(L.block _ (bP C)).trans C;have a5:=m.trans (L.mono m.size);(have d2:w2.cell? ⟨w.heap.size,3,none⟩=some (.slice (some ⟨b,g,none⟩) 3 j):=cH a9);clear L C d0 b0 b1 b2 b3;cases a4:cC f t1
  ·(have HV:O (mC f ⟨4,n,q,d⟩=[]):=by show _=_;rw[F.o,N,a4];simp);go_wp2_with fail;go_ret;exact⟨_,rfl,by rw[HV.o];exact fun _ _=>⟨none,0,rfl,aE _, .inl rfl⟩,a5⟩
  (have HV:O (mC f ⟨4,n,q,d⟩=d.drop 2):=by show _=_;rw[F.o,N,a4];simp);go_wp2_with fail;go_ret;refine⟨_,rfl,?_,a5⟩;rw[HV.o];show∀y,fT y (.slice (some ⟨b,g,none⟩) 3 j) d->fT y (.slice (some ⟨b,g+4,none⟩) 1 (j-2)) (d.drop 2);intro y k;(have ab:(d.drop 2).length=1:=by rw[tT,Q.o]);refine⟨some ⟨b,g+4,none⟩,j-2,by rw[ab],oM, .inr ⟨b,g+4,rfl,fun i hi=>?_⟩⟩;obtain rfl:i=0:=oM;obtain⟨af,ag,hv,_,k⟩:=k;injection hv with e1 e2 e3;subst e1;obtain⟨b',ae,aa,k⟩:=rI k 2 (by rw[Q.o];omega);(obtain⟨rfl,rfl⟩:b=b'/\g=ae:=by simpa using aa);have h2:=k 2 (by rw[Q.o];omega);(have hd:cA (d.drop 2) 0=cA d 2:=by simp[cA,List.getD_eq_getElem?_getD]);rw[hd];exact h2
 (have s:l=1:=by simpa using Y);(have HV:O (mC f ⟨l,n,q,d⟩=d):=by show _=_;simp[mC,s]);clear s r
 go_enter Tryz.func224,Tryz.ntmps224
 go_wp2_with fail;go_ret;exact⟨_,rfl,by rw[HV.o];exact fun _ h=>h,J _⟩
theorem aNE(R:Nat)(b:List Bool)(n p:Nat)(w:World)(m:b.length=n)(z:n<=9223372036854775807)(g:∀i,i<n->w.cell? ⟨R,i,none⟩=some (.bool (b.getD i false))):
 Calls Tryz.prog 232 #[.slice (some ⟨R,0,none⟩) n p, .bool false] w fun e s=>∃r:Int,e=.returned (.int .i64 r)/\decide (0<=r)= !(b.all id)/\∃k,s=w.drewN k:=by
 have HN:O (b.length=n):=m;clear m
 go_enter Tryz.func232,Tryz.ntmps232
 go_wp2_with fail;go_loopw [8] (fun i wr=>∃k:Nat,k<=n/\i=.int .i64 k/\b.all id=(b.drop k).all id/\∃q,wr=w.drewN q) (fun i _=>n-(intOf i).toNat);case atStart=>exact⟨0,bG _,rfl,rfl,0,rfl⟩
 case round=>
  obtain⟨k,y,rfl,j,q,rfl⟩:=hrel;have d:O (b.all id=(b.drop k).all id):=j;clear j;by_cases l:k<n
  ·have v:=g k l;have f:O (b.all id=(b.getD k false&&(b.drop (k+1)).all id)):=d.o.trans (EA _ _ _ k (by rw[HN.o];exact l));clear g d;generalize b.getD k false=x at *;cases x
   ·have HV:O (b.all id=false):=f.o;go_wp2_with fail;go_ret;exact⟨k,rfl,by rw[HV.o];simp,_,rfl⟩
   (have HV:O (b.all id=(b.drop (k+1)).all id):=by show _=_;rw[f.o];rfl);clear f;go_wp2_with fail;go_roundw;(case rel=>exact⟨k+1,oM,gN,HV.o,_,rfl⟩);case measure=>exact mI
  (have HV:O (b.all id=true):=by show _=_;rw[d.o,bD (by rw[HN.o];omega)];rfl);clear g;go_wp2_with fail;go_ret;exact⟨-1,rfl,rV,_,rfl⟩
theorem aBQ(R:Nat)(b:List Bool)(n d:Nat)(w:World)(j:b.length=n)(g:n<=9223372036854775807)(f:∀i,i<n->w.cell? ⟨R,i,none⟩=some (.bool (b.getD i false))):
 Calls Tryz.prog 225 #[.slice (some ⟨R,0,none⟩) n d, .bool false] w fun e l=>e=.returned (.bool (!(b.all id)))/\∃k,l=w.drewN k:=by
 go_enter Tryz.func225,Tryz.ntmps225
 go_wp2_with fail;refine(aNE R b n d w j g f).mono ?_;rintro e p ⟨r,rfl,m,k,rfl⟩;go_wp2_with fail;go_ret;exact⟨rfl,_,rfl⟩
def VQ(r:bB):Prop:=0<=r.vars/\r.vars<=8/\r.body.length<=4/\∀i,i<r.body.length->Dh r.vars.toNat (cJ r.body i)
structure aEQ (w:World) (rb:Obj) (X R:Nat) (bs:List Bool) (wr:World):Prop where
 j:Below w.heap.size w wr
 box:wr.heap[w.heap.size]?=some rb
 bd:Bd wr X R bs
 r0:w.heap.size<R
 r1:R<X
theorem aEQ.u{w wr f:World}{e:Obj}{X R:Nat}{d:List Bool}(h:aEQ w e X R d wr)(b:Below wr.heap.size wr f):aEQ w e X R d f:=
 ⟨h.j.trans (b.mono h.j.size),(b.block _ (bP h.box)).trans h.box,h.bd.u b,h.r0,h.r1⟩
theorem aEQ.set{w wr:World}{e:Obj}{X R:Nat}{b:List Bool}(h:aEQ w e X R b wr)(k:Nat):aEQ w e X R (b.set k true) (wr.setCell ⟨R,k,none⟩ (.bool true)):=by
 have d:=h.r0;have f:=h.r1;refine⟨h.j.setCell (p:=⟨R,k,none⟩) (wR d) _,?_,⟨?_,?_⟩,d,f⟩
 ·rw[gE _ _ _ _ (show¬w.heap.size=R by omega)];exact h.box
 ·rw[gE _ _ _ _ (show¬X=R by omega),kL];exact h.bd.box
 rw[bV h.bd.row];simp[List.map_set]
theorem TU(n:Nat):madeCells #[Value.bool false] n=((List.replicate n false).map Value.bool).toArray:=by
 apply Array.ext
 ·simp[size_madeCells]
 intro i b d;simp[madeCells,Nat.mod_one]
theorem Bg(body:List cI)(n k:Nat)(h:k<n)(b:List Bool):iJ body (n-k) b=iJ body (n-(k+1)) (bE body b):=by obtain⟨m,d⟩:∃m,n-k=m+1:=⟨n-k-1,oM⟩;rw[d,show n-(k+1)=m by omega];rfl
theorem GY{α β:Type}(f:β->α->β)(d:α)(l:List α)(k:Nat)(h:k<l.length)(b:β):(l.drop k).foldl f b=(l.drop (k+1)).foldl f (f b (l.getD k d)):=by rw[dB h,List.foldl_cons,aC,aD h];rfl
theorem aMR{b:List Bool}{x:cI}{t:dL}(h:t∈mC b x):t∈x.p:=by
 unfold mC at h;split at h
 ·exact h
 split at h
 ·exact qA h
 simp at h
theorem aMQ(b:List Bool)(x:cI):(mC b x).length<=x.p.length:=by
 unfold mC;split
 ·exact aE _
 split
 ·simp
 simp
theorem rK{l:List dL}{i:Nat}(h:i<l.length):cA l i∈l:=by unfold cA;rw[aC,aD h];exact dY h
theorem vH{w:World}{ao:Option Addr}{l:List cI}(h:IP w ao l)(n:Nat)(e:n<l.length):∃b d,ao=some ⟨b,d,none⟩/\XY w b (d+n*4) (cJ l n):=by
 rcases h with h|⟨b,d,f,g⟩
 ·rw[h]at e;exact absurd e sI
 exact⟨b,d,f,g n e⟩
theorem aJG(r:bB)(C vb:Value)(w:World)(hL:pI w vb r.body)(hG:VQ r):
 Calls Tryz.prog 209 #[lP r C vb] w fun e w'=>e=.returned (.bool (uC r))/\Below w.heap.size w w':=by
 obtain⟨A,ts,y,d,ag⟩:=r;obtain⟨h0,h8,h4,hG⟩:=hG;obtain⟨f,aq⟩:∃f:Nat,ag=f:=⟨ag.toNat,by simp only at h0;omega⟩;subst aq;simp only[Int.toNat_natCast]at *;obtain⟨n,s,rfl,hL⟩:=hL;have aF:=run_make_row' (P:=Tryz.prog) 57 4 (.bool false) 1 Tryz.underlying57 kR rfl .i64 .i64 f oM oM;have az:∀(fn:Fn)(first a5:Array Value)(w:World),(Instr.makeFunc fn first a5).run Tryz.prog w=.ok (.func fn first a5) w:=fun _ _ _ _=>rfl;(have af:aEQ w (.cells #[.int .i64 A,C, .int .i64 y, .slice n d.length s, .int .i64 f] 40) (w.heap.size+1+1) (w.heap.size+1) (List.replicate f false) (((w.alloc (.cells #[.int .i64 A,C, .int .i64 y, .slice n d.length s, .int .i64 f] 40)).alloc (.cells (madeCells #[Value.bool false] f) 4)).alloc (.cells #[.slice (some ⟨w.heap.size+1,0,none⟩) f f] 57)):=by have e1:=aR w (.cells #[.int .i64 A,C, .int .i64 y, .slice n d.length s, .int .i64 f] 40);have e2:=aR (w.alloc (.cells #[.int .i64 A,C, .int .i64 y, .slice n d.length s, .int .i64 f] 40)) (.cells (madeCells #[Value.bool false] f) 4);have e3:=aR ((w.alloc (.cells #[.int .i64 A,C, .int .i64 y, .slice n d.length s, .int .i64 f] 40)).alloc (.cells (madeCells #[Value.bool false] f) 4)) (.cells #[.slice (some ⟨w.heap.size+1,0,none⟩) f f] 57);(have s1:(w.alloc (.cells #[.int .i64 A,C, .int .i64 y, .slice n d.length s, .int .i64 f] 40)).heap.size=w.heap.size+1:=by simp);(have s2:((w.alloc (.cells #[.int .i64 A,C, .int .i64 y, .slice n d.length s, .int .i64 f] 40)).alloc (.cells (madeCells #[Value.bool false] f) 4)).heap.size=w.heap.size+1+1:=by simp);rw[s1]at e2;rw[s2]at e3;have B:∀(u:World)(o:Obj),Below u.heap.size u (u.alloc o):=fun u o=>(aH _ _).alloc (aE _) o;have b2:=B (w.alloc (.cells #[.int .i64 A,C, .int .i64 y, .slice n d.length s, .int .i64 f] 40)) (.cells (madeCells #[Value.bool false] f) 4);have L:=B ((w.alloc (.cells #[.int .i64 A,C, .int .i64 y, .slice n d.length s, .int .i64 f] 40)).alloc (.cells (madeCells #[Value.bool false] f) 4)) (.cells #[.slice (some ⟨w.heap.size+1,0,none⟩) f f] 57);have b1:=B w (.cells #[.int .i64 A,C, .int .i64 y, .slice n d.length s, .int .i64 f] 40);have a4:=b1.trans (b2.mono b1.size);refine⟨a4.trans (L.mono a4.size),(L.block _ (by rw[s2];omega)).trans ((b2.block _ (by rw[s1];omega)).trans e1),⟨by simpa using e3,?_⟩,oM,oM⟩;rw[<-TU];exact(L.block _ (by rw[s2];omega)).trans e2);have HS:O (uC ⟨A,ts,y,d,f⟩=(iJ d d.length (List.replicate f false)).all id):=rfl;have ac:(List.replicate f false).length=f:=by simp
 go_enter Tryz.func209,Tryz.ntmps209
 go_wp2_with fail;generalize ((w.alloc (.cells #[.int .i64 A,C, .int .i64 y, .slice n d.length s, .int .i64 f] 40)).alloc (.cells (madeCells #[Value.bool false] f) 4)).alloc (.cells #[.slice (some ⟨w.heap.size+1,0,none⟩) f f] 57)=w0 at *;generalize w.heap.size+1+1=X at *;generalize hR:w.heap.size+1=R at *;clear hR;generalize List.replicate f false=M at *;generalize ad:Obj.cells #[.int .i64 A,C, .int .i64 y, .slice n d.length s, .int .i64 f] 40=rb at *;have ah:O _:=ad;clear ad;go_loopw [16] (fun i wr=>∃(k:Nat)(D:List Bool),k<=d.length/\i=.int .i64 k/\aEQ w rb X R D wr/\D.length=f/\iJ d (d.length-k) D=iJ d d.length M) (fun i _=>d.length-(intOf i).toNat);case atStart=>exact⟨0,M,bG _,rfl,af,ac,rfl⟩
 case round=>
  obtain⟨k,G,hk,rfl,g,V,ae⟩:=hrel;have HR:O _:=ae;clear ae af ac;(have aj:wr.cell? ⟨w.heap.size,3,none⟩=some (.slice n d.length s):=by rw[cD (g.box.trans (congrArg some ah.o.symm))];rfl);by_cases an:k<d.length
  ·go_wp2_with fail;go_loopw [21] (fun i wq=>∃(j:Nat)(D:List Bool),j<=d.length/\i=.int .i64 j/\aEQ w rb X R D wq/\D.length=f/\(d.drop j).foldl eT D=bE d G) (fun i _=>d.length-(intOf i).toNat);case atStart=>exact⟨0,G,bG _,rfl,g,V,rfl⟩
   case round=>
    clear g aj V;obtain⟨j,l,hj,rfl,g,W,a9⟩:=hrel;have a0:O _:=a9;clear a9;by_cases a2:j<d.length
    ·obtain⟨b,aS,rfl,p0,p1,p2,v,p3,hT⟩:=vH hL j a2;have HT:O (fT w v (cJ d j).p):=hT;obtain⟨at_,ct,rfl,_,_⟩:=hT;have q0:=aB g.j p0;have q1:=aB g.j p1;have q2:=aB g.j p2;have q3:=aB g.j p3;have T:=hG j a2;rw[<-W]at T;have a3:O ((d.drop (j+1)).foldl eT (eT l (cJ d j))=bE d G):=(GY eT ⟨0,0,0,[]⟩ d j a2 l).symm.trans a0.o;have S:Below wr.heap.size wr (wr.alloc (.cells #[.int .i64 (cJ d j).kind, .int .i64 (cJ d j).op, .int .i64 (cJ d j).z, .slice at_ (cJ d j).p.length ct] 49)):=(aH _ _).alloc (aE _) _;have N:=g.u S;clear p0 p1 p2 p3 S g a0;generalize hx:cJ d j=x at *;clear hx;go_wp2_with fail;refine Calls.mono (aMP X R l x (.slice at_ x.p.length ct) _ N.bd (dS HT.o N.j) T) ?_;rintro e w2 ⟨u,rfl,hu,a7⟩;have a6:=N.u a7;have I:=hu w HT.o;(have hv:∀i,i<(mC l x).length->(cA (mC l x) i).var<f:=fun i hi=>by have :=T.2.1 _ (aMR (rK hi));rw[W]at this;exact this);have aI:(mC l x).length<=9223372036854775807:=bH (aMQ l x) T.2.2;have ai:O ((d.drop (j+1)).foldl eT (gY l (mC l x))=bE d G):=a3.o;clear hu N a7 q0 q1 q2 q3 HT a3;generalize mC l x=q at *;obtain⟨ao,cp,rfl,_,I⟩:=I;go_wp2_with fail;go_loopw [29] (fun i wz=>∃(m:Nat)(D:List Bool),m<=q.length/\i=.int .i64 m/\aEQ w rb X R D wz/\D.length=f/\gY D (q.drop m)=gY l q) (fun i _=>q.length-(intOf i).toNat);case atStart=>exact⟨0,l,bG _,rfl,a6,W,rfl⟩
     case round=>
      clear a6;obtain⟨m,F,hm,rfl,g,Y,a8⟩:=hrel;have Z:O _:=a8;clear a8;by_cases U:m<q.length
      ·obtain⟨L,aT,rfl,hc⟩:=rI I m U;obtain⟨r0,r1⟩:=hc m U;have s0:=aB g.j r0;have s1:=aB g.j r1;have ar:=hv m U;have K:O (gY (kC F (cA q m)) (q.drop (m+1))=gY l q):=(GY kC ⟨0,0⟩ q m U F).symm.trans Z.o;clear Z r0 r1 hc I hv;generalize al:cA q m=t0 at *;clear al;obtain⟨H,nn⟩:=t0;have S:Below wr.heap.size wr (wr.alloc (.cells #[.int .i64 H, .int .i64 nn] 147)):=(aH _ _).alloc (aE _) _;have Q:=g.u S;have au:=bP g.bd.row;have av:=bP g.bd.box;by_cases h5:0<=H
       ·have g5:decide (0<=H)=true:=aQ h5;obtain⟨E,rfl⟩:∃E:Nat,H=E:=⟨H.toNat,oM⟩;(have ay:E<f:=by simp only at ar;omega);have a1:=Q.bd.c0;rw[Y]at a1;have aw:=Q.bd.at E oM;have ax:=cM Q.bd.row E;have ak:=(g.set E).u ((aH _ _).alloc (aE _) (.cells #[.int .i64 E, .int .i64 nn] 147));(have HV:O (gY (F.set E true) (q.drop (m+1))=gY l q):=by show _=_;rw[<-K.o];simp[kC]);(have ap:(F.set E true).length=f:=by rw[kL];exact Y);clear K;go_wp2_with fail;go_roundw;(case rel=>exact⟨m+1,_,oM,gN,ak,ap,HV.o⟩);case measure=>exact mI
       have g5:decide (0<=H)=false:=aJ h5;(have HV:O (gY F (q.drop (m+1))=gY l q):=by show _=_;rw[<-K.o];simp[kC,h5]);clear K;go_wp2_with fail;go_roundw;(case rel=>exact⟨m+1,_,oM,gN,Q,Y,HV.o⟩);case measure=>exact mI
      (have J:gY F (q.drop m)=F:=by rw[bD oM];rfl);(have HV:O ((d.drop (j+1)).foldl eT F=bE d G):=by show _=_;rw[<-ai.o,<-Z.o,J]);clear I hv J;go_wp2_with fail;go_roundw;(case rel=>exact⟨j+1,_,oM,gN,g,Y,HV.o⟩);case measure=>exact mI
    (have J:(d.drop j).foldl eT l=l:=by rw[bD oM];rfl);(have HV:O (iJ d (d.length-(k+1)) l=iJ d d.length M):=by show _=_;rw[<-HR.o,Bg d _ k an,<-a0.o,J]);clear J;go_wp2_with fail;go_roundw;(case rel=>exact⟨k+1,_,oM,gN,g,W,HV.o⟩);case measure=>exact mI
  have aa:k=d.length:=oM;(have HV:O (G=iJ d d.length M):=by show _=_;have :=HR.o;rw[aa,wS]at this;exact this);have a1:=g.bd.c0;rw[V]at a1;clear aa;go_wp2_with fail;refine Calls.mono (aBQ R G f f _ V oM (fun i hi=>g.bd.at i oM)) ?_;rintro e w2 ⟨rfl,q,rfl⟩;have am:=g.j;go_wp2_with fail;go_ret;exact⟨by rw[HS.o,<-HV.o];simp,oH am _⟩
end Go.Proofs.YthenjegmigeieaaGreat
namespace Go.Proofs.YthenjegmigeieaaGreat
open Go.RowKit Go.Shelf
attribute [local go_sem] Oper.semAt_some
abbrev HP(n:Nat):={p:Int×Int//0<=p.1/\p.1<(n:Int)/\(p.2=0\/p.2=1)}
theorem JA(r:bB)(x:cI):lH r x=0\/lH r x=1:=by
 unfold lH;split
 ·exact .inr rfl
 exact .inl rfl
def GO(n:Nat)(r:bB)(x:cI):Option (HP n):=if h:pL x=true/\0<=x.z/\x.z<(n:Int)then some ⟨(x.z,lH r x),h.2.1,h.2.2,JA r x⟩else none
def nB(n:Nat)(r:bB)(l:List cI):List (HP n):=l.filterMap (GO n r)
theorem DH(n:Nat)(r:bB)(l:List cI)(x:cI):nB n r (l++[x])=nB n r l++(GO n r x).toList:=by unfold nB;rw[List.filterMap_append,pA,List.filterMap_nil];cases GO n r x<;>rfl
theorem Cg(n:Nat)(r:bB)(l:List cI):(nB n r l).length<=l.length:=yN _ _
def PF(n:Nat)(l:List cI):Prop:=∀x,x∈l->pL x=true->0<=x.z/\x.z<(n:Int)
theorem zR{n:Nat}{r:bB}{x:cI}(h:pL x=true)(h0:0<=x.z)(h1:x.z<(n:Int)):GO n r x=some ⟨(x.z,lH r x),h0,h1,JA r x⟩:=by unfold GO;rw[dif_pos ⟨h,h0,h1⟩]
theorem KF{n:Nat}{r:bB}{x:cI}(h:¬pL x=true):GO n r x=none:=by unfold GO;rw[dif_neg (fun k=>h k.1)]
theorem PL{n:Nat}{r:bB}:∀{l:List cI},PF n l->(nB n r l).map (fun p=>((r.z.toNat,p.1.1.toNat,p.1.2):fA))=(l.filter pL).map fun x=>(r.z.toNat,x.z.toNat,lH r x)
 |[],_=>rfl
 |x::l,h=>by
  have d:=PL (r:=r) (l:=l) (fun y f=>h y (bO _ f));unfold nB at d ⊢;by_cases b:pL x=true
  ·have e:=h x dC b;rw[pA,zR b e.1 e.2,lU,if_pos b,lF,lF,d]
  rw[pA,KF b,lU,if_neg b,d]
def HK(b RB:Nat)(W W':World):Prop:=Below b W W'/\∀o:Obj,o.isCells=true->W.heap[RB]?=some o->W'.heap[RB]?=some o
theorem HK.refl(b RB:Nat)(W:World):HK b RB W W:=⟨aH _ _,fun _ _ h=>h⟩
theorem HK.trans{b RB:Nat}{A B C:World}(h:HK b RB A B)(k:HK b RB B C):HK b RB A C:=⟨h.1.trans k.1,fun o d e=>k.2 o d (h.2 o d e)⟩
theorem HK.put{f RB:Nat}{w:World}(j:f<=w.heap.size)(W:World)(l:Nat)(o o':Obj)(i:w.heap.size<=l)(h:W.heap[l]?=some o)(h1:o.isCells=false)(g:o.isWalk=false):HK f RB W (W.putObj l o'):=by
 refine⟨belowK_b j W l o o' i h h1 g,fun q e b=>?_⟩;by_cases d:RB=l
 ·subst d;rw[h]at b;cases b;rw[h1]at e;cases e
 rw[World.putObj_heap_other d];exact b
theorem HK.alloc{d RB:Nat}{W:World}(e:d<=W.heap.size)(o:Obj):HK d RB W (W.alloc o):=
 ⟨(aH _ _).alloc e o,fun _ _ b=>((aH W.heap.size W).alloc (aE _) o).block RB (aG.mp b).1 |>.trans b⟩
abbrev WY{n:Nat}(p:HP n):Array Value:=#[.int .i64 p.1.1, .int .i64 p.1.2]
theorem aM8(F:Fence)(n:Nat)(ac:F.fn 204)(ag:F.round=none)(hn:1<=n)(l RB:Nat)(m:World)(f:Nat)(r:bB)(vt:Value)(U:Option Addr)(cb:Nat)(hL:IP m U r.body)(ai:r.body.length<=9223372036854775807)(hG:PF f r.body)(J Jx:List (HP f)->World->Prop)(W:World)
 (a4:∀s A B,J s A->A.grownBy B none->J s B) (ad:Below m.heap.size m W)
 (hY:∀D x W1,J D W1->D.length<r.body.length->YieldAt F (n-1) Tryz.prog l (WY x) W1 fun e E=>
  (e=.returned (.bool true)/\J (D++[x]) E/\HK m.heap.size RB W1 E)\/(e=.returned (.bool false)/\Jx (D++[x]) E))
 (q:W.heap[RB]?=some (.cells #[.int .i64 r.z,vt, .int .i64 r.x, .slice U r.body.length cb, .int .i64 r.vars] 40)) (h0:J [] W):
 CallsIn F n Tryz.prog 204 #[.func (.yield l) #[] #[], .pointer (some ⟨RB,0,none⟩)] W fun e E=>(∃v,e=.returned v)/\
  ((∃ys,ys=nB f r r.body/\J ys E)\/(∃D,(∃k,D=nB f r (r.body.take k))/\Jx D E)):=by
 refine NW Tryz.func204 rfl ac ?_ ag;simp only[Tryz.ntmps204,List.size_toArray,List.length_cons,List.length_nil,Nat.reduceAdd,Nat.reduceSub,Array.replicate_succ,Array.replicate_zero,List.push_toArray,List.append_toArray,List.nil_append,List.cons_append];(have c3:W.cell? ⟨RB,3,none⟩=some (.slice U r.body.length cb):=cH q);have HL:O (IP m U r.body):=hL;have Z:O _:=hY;have a8:O _:=hG;have a9:O _:=a4;have HR:O _:=q;clear hL hY a4 q hG;gi_wp2;gi_loopw [9] (fun i wr=>∃k:Nat,k<=r.body.length/\i=.int .i64 k/\J (nB f r (r.body.take k)) wr/\HK m.heap.size RB W wr) (fun i _=>r.body.length-(intOf i).toNat);case atStart=>exact⟨0,bG _,rfl,h0,HK.refl _ _ _⟩
 case round=>
  clear c3 h0;obtain⟨k,hk,rfl,a5,V⟩:=hrel;have C:Below m.heap.size m wr:=ad.trans V.1;have ah:O _:=C;have a6:=V.2 _ rfl HR.o;have S:O _:=V;have a0:O _:=a5;(have c2:wr.cell? ⟨RB,2,none⟩=some (.int .i64 r.x):=cH a6);clear V a5;by_cases w:k<r.body.length
  ·obtain⟨b,al,rfl,p0,p1,p2,v,p3,hT⟩:=vH HL.o k w;obtain⟨at_,ct,rfl,_,_⟩:=hT;have q0:=aB C p0;have q1:=aB C p1;have q2:=aB C p2;have q3:=aB C p3;have af:m.heap.size<=wr.heap.size:=C.size;have T:O (r.body.take (k+1)=r.body.take k++[cJ r.body k]):=by
    show _=_;rw[eI]
    congr 1
    unfold cJ;rw[aC,aD w];rfl
   (have Y:O ((nB f r (r.body.take k)).length<r.body.length):=by show _<_;have :=Cg f r (r.body.take k);rw[cW]at this;omega);have X:O (pL (cJ r.body k)=true->0<=(cJ r.body k).z/\(cJ r.body k).z<(f:Int)):=a8.o _ (by unfold cJ;rw[aC,aD w];exact dY w);clear p0 p1 p2 p3 C;generalize cJ r.body k=x at *;have e2:(wr.alloc (.cells #[.int .i64 x.kind, .int .i64 x.op, .int .i64 x.z, .slice at_ x.p.length ct] 49)).cell? ⟨RB,2,none⟩=some (.int .i64 r.x):=aB ((aH _ _).alloc (aE _) _) c2;have R:O (J (nB f r (r.body.take k)) (wr.alloc (.cells #[.int .i64 x.kind, .int .i64 x.op, .int .i64 x.z, .slice at_ x.p.length ct] 49))):=a9.o _ _ _ a0.o (World.grownBy_alloc _ _ none);have Q:O (HK m.heap.size RB wr (wr.alloc (.cells #[.int .i64 x.kind, .int .i64 x.op, .int .i64 x.z, .slice at_ x.p.length ct] 49))):=HK.alloc af _;obtain⟨I,op,y,ts⟩:=x;dsimp only at *;by_cases G:I=1
   ·subst G;(have j:pL ⟨1,op,y,ts⟩=true:=by simp[pL]);by_cases H:r.x=0
    ·(have ae:(r.x==0)=true:=by simp[H]);have d:=X.o j;(have g:O (nB f r (r.body.take (k+1))=nB f r (r.body.take k)++[⟨(y,0),d.1,d.2, .inl rfl⟩]):=by show _=_;rw[T.o,DH,zR j d.1 d.2];simp[lH,H]);clear j H;obtain⟨fn,a7,a1,a2,P,q⟩:=Z.o _ ⟨(y,0),d.1,d.2, .inl rfl⟩ _ R.o Y.o;dsimp only[WY]at P;gi_wp2;refine q.mono ?_;rintro e W3 (⟨rfl,L,N⟩|⟨rfl,M⟩)
     ·gi_wp2;go_roundw;(case rel=>exact⟨k+1,w,by simp,by rw[g.o];exact L,HK.trans S.o (HK.trans Q.o N)⟩);case measure=>exact mI
     gi_wp2;refine dF (sA rfl _ _ _) rfl ?_;exact⟨⟨_,rfl⟩, .inr ⟨_,⟨k+1,g.o.symm⟩,M⟩⟩
    (have ae:(r.x==0)=false:=by simp[H]);have d:=X.o j;(have g:O (nB f r (r.body.take (k+1))=nB f r (r.body.take k)++[⟨(y,1),d.1,d.2, .inr rfl⟩]):=by show _=_;rw[T.o,DH,zR j d.1 d.2];simp[lH,H]);clear j H;obtain⟨fn,a7,a1,a2,P,q⟩:=Z.o _ ⟨(y,1),d.1,d.2, .inr rfl⟩ _ R.o Y.o;dsimp only[WY]at P;gi_wp2;refine q.mono ?_;rintro e W3 (⟨rfl,L,N⟩|⟨rfl,M⟩)
    ·gi_wp2;go_roundw;(case rel=>exact⟨k+1,w,by simp,by rw[g.o];exact L,HK.trans S.o (HK.trans Q.o N)⟩);case measure=>exact mI
    gi_wp2;refine dF (sA rfl _ _ _) rfl ?_;exact⟨⟨_,rfl⟩, .inr ⟨_,⟨k+1,g.o.symm⟩,M⟩⟩
   (have a3:(I==1)=false:=by simp[G]);by_cases K:I=2
   ·subst K;(have j:pL ⟨2,op,y,ts⟩=true:=by simp[pL]);clear G a3;have d:=X.o j;(have g:O (nB f r (r.body.take (k+1))=nB f r (r.body.take k)++[⟨(y,1),d.1,d.2, .inr rfl⟩]):=by show _=_;rw[T.o,DH,zR j d.1 d.2];simp[lH]);clear j;obtain⟨fn,a7,a1,a2,P,q⟩:=Z.o _ ⟨(y,1),d.1,d.2, .inr rfl⟩ _ R.o Y.o;dsimp only[WY]at P;gi_wp2;refine q.mono ?_;rintro e W3 (⟨rfl,L,N⟩|⟨rfl,M⟩)
    ·gi_wp2;go_roundw;(case rel=>exact⟨k+1,w,by simp,by rw[g.o];exact L,HK.trans S.o (HK.trans Q.o N)⟩);case measure=>exact mI
    gi_wp2;refine dF (sA rfl _ _ _) rfl ?_;exact⟨⟨_,rfl⟩, .inr ⟨_,⟨k+1,g.o.symm⟩,M⟩⟩
   (have aa:(I==2)=false:=by simp[K]);(have g:O (nB f r (r.body.take (k+1))=nB f r (r.body.take k)):=by show _=_;rw[T.o,DH,KF (by simp[pL,G,K])];simp);(have aj:(I != 1)=true:=by simp[G]);(have ak:(I != 2)=true:=by simp[K]);clear G K a3 aa;gi_wp2;go_roundw;(case rel=>exact⟨k+1,w,by simp,by rw[g.o];exact R.o,HK.trans S.o Q.o⟩);case measure=>exact mI
  obtain rfl:k=r.body.length:=oM;clear c2 a6;gi_wp2;go_end0;have h9:=a0.o;rw[lA]at h9;exact⟨⟨_,rfl⟩, .inl ⟨_,rfl,h9⟩⟩
theorem aFN(F:Fence)(n:Nat)(g:F.fn 168)(i:F.round=none)(r:bB)(at_ ab:Option Addr)(d cb:Nat)(w:World):
 CallsIn F n Tryz.prog 168 #[lP r (.slice at_ r.p.length d) (.slice ab r.body.length cb)] w fun e j=>e=.returned (.func (.func 204) #[] #[.pointer (some ⟨w.heap.size,0,none⟩)])/\
  j=w.alloc (.cells #[.int .i64 r.z, .slice at_ r.p.length d, .int .i64 r.x, .slice ab r.body.length cb, .int .i64 r.vars] 40):=by
 have k:∀(f:Fn)(first b:Array Value)(w:World),(Instr.makeFunc f first b).run Tryz.prog w=.ok (.func f first b) w:=fun _ _ _ _=>rfl;refine NW Tryz.func168 rfl g ?_ i;simp only[Tryz.ntmps168,List.size_toArray,List.length_cons,List.length_nil,Nat.reduceAdd,Nat.reduceSub,Array.replicate_succ,Array.replicate_zero,List.push_toArray,List.append_toArray,List.nil_append,List.cons_append];gi_wp2;go_ret;exact⟨rfl,rfl⟩
theorem Ap(F:Fence)(n:Nat)(v:F.fn 204)(K:F.round=none)(I:1<=n)(RB:Nat)(d:World)(b:Nat)(r:bB)(m:Value)(f:Option Addr)(cb:Nat)(D:IP d f r.body)(H:r.body.length<=9223372036854775807)(y:PF b r.body)(w:World)
 (j:Below d.heap.size d w) (g:w.heap[RB]?=some (.cells #[.int .i64 r.z,m, .int .i64 r.x, .slice f r.body.length cb, .int .i64 r.vars] 40)):
 SeqStopsK F n Tryz.prog 204 #[.pointer (some ⟨RB,0,none⟩)] (fun x:HP b=>WY x) (HK d.heap.size RB) (fun N=>N=nB b r r.body) (fun M=>∃k,M=nB b r (r.body.take k)) r.body.length w:=fun l J p W i C _ E q=>
 aM8 F n v K I l RB d b r m f cb D H y J p W (fun s A B L G=>C s A B none L G (fun _ e=>by cases e)) (j.trans (i.mono j.size)) E ((i.block RB (aG.mp g).1).trans g) q
end Go.Proofs.YthenjegmigeieaaGreat
namespace Go.Proofs.YthenjegmigeieaaGreat
open Go.RowKit Go.Shelf
def yF(l:List Int):Array Value:=(l.map (Value.int .i64)).toArray
theorem EB{w:World}{b:Nat}{l:List Int}(h:w.heap[b]?=some (.cells (yF l) 3)){i:Nat}(d:i<l.length):w.cell? ⟨b,i,none⟩=some (.int .i64 (l.getD i 0)):=by rw[cD h];unfold yF;simp[d]
theorem Jq{w:World}{b:Nat}{l:List Int}(h:w.heap[b]?=some (.cells (yF l) 3))(i:Nat)(v:Int):(w.setCell ⟨b,i,none⟩ (.int .i64 v)).heap[b]?=some (.cells (yF (l.set i v)) 3):=by rw[bV h];unfold yF;simp[List.map_set]
theorem cL{w:World}{b c i:Nat}{v:Value}(h:¬c=b):(w.setCell ⟨b,i,none⟩ v).heap[c]?=w.heap[c]?:=gE _ _ _ _ h
def CJ(B:Nat)(w:World):List Deferred->Prop
 |[]=>True
 |d::ds=>(∃D,B<=D/\d={target:=.collected D,args:=#[]}/\w.heap[D]?=some (.deferred (some []))/\∀b,b∈ds->b≠d)/\CJ B w ds
theorem CJ.keep{B:Nat}{w w':World}:∀{b:List Deferred},CJ B w b->(∀D,B<=D->{target:=.collected D,args:=#[]}∈b->w.heap[D]?=some (.deferred (some []))->w'.heap[D]?=some (.deferred (some [])))->CJ B w' b
 |[],_,_=>trivial
 |_::_,⟨⟨D,hB,hd,hD,hn⟩,h⟩,hk=>⟨⟨D,hB,hd,hk D hB (hd▸dC) hD,hn⟩,h.keep fun d e g f=>hk d e (bO _ g) f⟩
theorem CJ.mem{B:Nat}{w:World}:∀{e:List Deferred},CJ B w e->∀D,{target:=.collected D,args:=#[]}∈e->w.heap[D]?=some (.deferred (some []))
 |d::e,⟨⟨D0,hB,hd,hD,hn⟩,h⟩,D,b=>by
  rcases eQ.mp b with b|b
  ·rw[hd]at b;injection b with f _;injection f with f;rw[f];exact hD
  exact h.mem D b
theorem QF{F:Fence}{n:Nat}{P:Program}{i:Func}{tmps:Array Value}{R:Ending->World->Prop}{v:Value}{B:Nat}(j:∀w,(results i tmps).run P w=.ok v w):
 ∀(b:List Deferred)(w:World),CJ B w b->(∀f,Below B w f->R (.returned v) f)->LeavesInM F n P i tmps R b .returning w
 |[],w,_,g=>⟨v,j w,g w (aH _ _)⟩
 |d::b,w,⟨⟨D,hB,hd,hD,hn⟩,h⟩,g=>by subst hd;refine⟨by simp, .inl ⟨D,_,rfl,run_takeDeferred hD,?_⟩⟩;have x:=(aG.mp hD).1;have m:Below B w (w.putObj D (.deferred none)):=(aH B w).grown (grownBy_putObj' w D (.deferred none)) oM (fun k e=>by cases e;exact hB);refine QF j b _ (h.keep fun r s q l=>?_) (fun f p=>g f (m.trans p));rw[World.putObj_heap_other (fun e=>hn _ q (by rw[e]))];exact l
theorem Lp{l:List Int}{e:fA}{K:Int}(h:∀i:Nat,l.getD i 0<=K)(b:e.2.2<=1)(i:Nat):(aY l e).getD i 0<=K+1:=by
 unfold aY;split
 ·rw[DO];split
  ·have :=h e.2.1;omega
  have :=h i;omega
 have :=h i;omega
theorem BH:∀(E:List fA){l:List Int}{K:Int},(∀i:Nat,l.getD i 0<=K)->(∀e,e∈E->e.2.2<=1)->∀i:Nat,(aO E l).getD i 0<=K+E.length
 |[],l,K,h,_,i=>by have :=h i;simpa[aO]using this
 |e::E,l,K,h,he,i=>by have f:=BH E (l:=aY l e) (K:=K+1) (Lp h (he e dC)) (fun b d=>he b (bO _ d)) i;show(aO E (aY l e)).getD i 0<=_;rw[zW];omega
theorem rM(E:List fA)(e:fA)(l:List Int):aO (E++[e]) l=aY (aO E l) e:=by unfold aO;rw[qV];rfl
theorem BG(E:List fA)(e:fA)(l:List Int)(k:e.1<l.length):
 decide (aO (E++[e]) l≠l)=(decide (aO E l≠l)||decide ((aO E l).getD e.1 0<(aO E l).getD e.2.1 0+e.2.2)):=by
 rw[rM];by_cases b:(aO E l).getD e.1 0<(aO E l).getD e.2.1 0+e.2.2
 ·have d:=pR E l;have f:=LO (aO E l) e;(have m:aY (aO E l) e≠l:=fun g=>by rw[g]at f;have i:=oJ.anti d f;(have j:(aY (aO E l) e).getD e.1 0=(aO E l).getD e.2.1 0+e.2.2:=by unfold aY;rw[if_pos b,DO,if_pos ⟨rfl,by rw[sG];exact k⟩]);rw[g]at j;have n:l.getD e.1 0=(aO E l).getD e.1 0:=congrArg (fun x:List Int=>x.getD e.1 0) i;omega);rw[aQ m,aQ b,BD]
 (have d:aY (aO E l) e=aO E l:=by unfold aY;rw[if_neg b]);rw[d,aJ b,Bool.or_false]
end Go.Proofs.YthenjegmigeieaaGreat
