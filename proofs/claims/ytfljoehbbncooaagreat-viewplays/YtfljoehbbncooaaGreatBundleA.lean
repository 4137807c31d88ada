/- Own texts, one behind the other (part 1). -/
import Derived.Test.YtfljoehbbncooaaGreatRows
import Derived.RowKit3
import Derived.Below
import Derived.Deep.RegionHeld3
import Derived.Lib.Builder
import Derived.Lib.BufferMore
import Derived.ChangeShapes
import Derived.Lib.OthersKept
import Derived.Lib.LazyBuf
import Derived.Laws.AppendOwnNone
import Derived.Deep.QuietTactic
import Derived.Carry
import Derived.WalkSmall
import Derived.OwnWalkIn
import Derived.ProofKit
import Derived.WalkKit
import Derived.ChangeAlike
import Derived.ChangeOld
import Derived.WalkLawsBesides
import Derived.OpenShut
import Derived.Lib.AppendZeros
import Derived.WalkSpells
import Derived.BigQuiet
import Derived.Shelf.Strings.Builder1
import Derived.Shelf.Small.Strs
import Derived.Shelf.LaysM
import Derived.Shelf.Strconv.Clone
import Derived.Shelf.Strings.Search1
import Derived.Shelf.Strings.Prefix
import Derived.Ground.Names2Prog
import Derived.Ground.SlgnProg
import Derived.Ground.SlsfProg
import Derived.Test.YtfljoehbbncooaaGreatProg
import Derived.LoopN
import Derived.Lib.IndexBytes
import Derived.Defers
import Derived.Recover
import Derived.RegionTactic
import Derived.Lib.AppendStr
import Derived.Laws.Externs
import Derived.Lib.UnsafeStr
set_option maxRecDepth 100000
set_option maxHeartbeats 8000000

namespace Go.Proofs.YtfljoehbbncooaaGreat
open Go.RowKit
def O(p:Prop):Prop:=p
theorem O.o{p:Prop}(h:O p):p:=h
theorem cH{w:World}{b o:Nat}{c:Array Value}{t:TypeId}{v:Value}(h:w.heap[b]?=some (.cells c t))(e:c[o]?=some v:=by rfl):w.cell? ⟨b,o,none⟩=some v:=by rw[Lib.cell_of_heap h];exact e
abbrev aF:=@decide_eq_false
abbrev aG:=@Below.refl
abbrev aH:=@Nat.le_refl
abbrev aI:=@List.getD_eq_getElem?_getD
abbrev aK:=@Array.getElem?_eq_some_iff
abbrev aM:=@List.getElem?_eq_getElem
abbrev aP:=@decide_eq_true
abbrev aV:=@List.length_append
abbrev aY:=@List.length_map
abbrev bA:=@heap_alloc_new
abbrev bD:=@Lib.heap_setCell_same
abbrev bG:=@List.drop_of_length_le
abbrev bL:=@Nat.zero_le
abbrev bM:=@Lib.frozen_of_heap
abbrev bP:=@Nat.le_trans
abbrev bY:=@List.mem_cons_of_mem
abbrev cJ:=@List.mem_map
abbrev cM:=@Lib.cell_of_heap
abbrev cP:=@List.mem_singleton
abbrev cW:=@List.mem_append
abbrev dA:=@List.drop_eq_getElem_cons
abbrev dC:=@List.map_append
abbrev dK:=@List.getElem?_eq_none
abbrev dL:=@List.mem_cons_self
abbrev dM:=@List.take_of_length_le
abbrev dP:=@bodyPost_ret
abbrev dQ:=@List.eq_nil_of_length_eq_zero
abbrev dS:=@Nat.lt_of_lt_of_le
abbrev dV:=@List.length_take
abbrev dW:=@List.getElem?_map
abbrev eA:=@List.mem_cons
abbrev eI:=@Bool.and_eq_true
abbrev eP:=@Nat.zero_add
abbrev eS:=@World.ownsRow_nil
abbrev eX:=@List.mem_append_left
abbrev fA:=@List.all_eq_true
abbrev fG:=@List.getElem_mem
abbrev fJ:=@of_decide_eq_true
abbrev fM:=@List.append_assoc
abbrev fU:=@List.getElem?_set
abbrev fW:=@World.frozen?_setCell
abbrev fZ:=@Array.getElem?_toList
abbrev gE:=@List.mem_append_right
abbrev gH:=@List.getElem?_eq_some_iff
abbrev gQ:=@List.take_add_one
abbrev gT:=@beq_eq_false_iff_ne
abbrev iD:=@wpList_append_own
abbrev iG:=@Below.heap_setCell
abbrev iK:=@Array.getElem?_push
abbrev iL:=@List.flatten_append
abbrev iM:=@wpAnyH_take
abbrev iS:=@List.length_set
abbrev iU:=@List.drop_zero
abbrev iZ:=@List.append_nil
abbrev jA:=@List.getElem?_take
abbrev jN:=@List.map_cons
abbrev jO:=@Array.getElem?_eq_getElem
abbrev jR:=@World.block_lt_of_cell?
abbrev jW:=@List.any_eq_true
abbrev jX:=@List.mem_flatMap
abbrev jY:=@info_parts
abbrev kE:=@List.length_singleton
abbrev kG:=@List.mem_filter
abbrev kP:=@List.ext_getElem?
abbrev kS:=@List.getElem?_append_right
abbrev lB:=@List.getElem?_append_left
abbrev lC:=@Int.toNat_natCast
abbrev lH:=@wpOps_cons
abbrev lL:=@List.mem_range
abbrev lP:=@Nat.lt_or_ge
abbrev lQ:=@results_tmp2
abbrev lW:=@List.mem_filterMap
abbrev mB:=@List.mem_of_getElem?
abbrev mC:=@List.mem_of_mem_take
abbrev mQ:=@World.ownsRow_made
abbrev nE:=@List.take_succ_eq_append_getElem
abbrev nF:=@wp_loop_rounds
abbrev nI:=@List.length_filter_le
abbrev nJ:=@List.length_cons
abbrev nK:=@List.take_length
abbrev nL:=@Option.bind_some
abbrev nN:=@List.filter_append
abbrev nP:=@List.pairwise_cons
abbrev nQ:=@beq_iff_eq
abbrev nU:=@Option.map_some
abbrev nW:=@List.mem_map_of_mem
abbrev oJ:=@List.length_eq_zero_iff
abbrev qA:=@Option.getD_some
abbrev qB:=@World.size_alloc
abbrev qG:=@List.flatten_cons
abbrev qH:=@List.nodup_append
abbrev qI:=@World.cell?_of_block
abbrev qJ:=@Bool.true_and
abbrev qS:=@Nat.add_sub_cancel
abbrev qY:=@List.nodup_cons
abbrev qZ:=@List.filterMap_cons
abbrev rA:=@List.filter_cons
abbrev rB:=@List.take_append_drop
abbrev rE:=@Bool.false_or
abbrev rL:=@List.foldl_append
abbrev rN:=@List.getElem?_replicate
abbrev sA:=@Array.getElem?_append_left
abbrev sB:=@List.perm_ext_iff_of_nodup
abbrev sK:=@List.Nodup.length_le_of_subset
abbrev sL:=@Bool.eq_iff_iff
abbrev tC:=@Nat.le_succ
abbrev tN:=@List.flatMap_append
abbrev tO:=@List.getElem_of_mem
abbrev tT:=@List.any_eq_false
abbrev uN:=@List.nil_append
abbrev uT:=@List.pairwise_singleton
abbrev uU:=@Array.getD_eq_getD_getElem?
abbrev uV:=@List.mem_of_mem_drop
abbrev uW:=@List.perm_middle
abbrev vL:=@List.pairwise_map
abbrev vM:=@Array.length_toList
abbrev wK:=@Nat.le_of_lt
abbrev wN:=@List.pairwise_iff_getElem
abbrev xJ:=@List.length_drop
abbrev yA:=@List.pairwise_append
abbrev yB:=@List.map_set
abbrev yC:=@results_none
abbrev yG:=@Nat.add_sub_cancel_left
abbrev yQ:=@Bool.or_eq_true
abbrev yR:=@Nat.not_lt_zero
abbrev zC:=@Array.getElem?_eq_none
abbrev zT:=@List.mem_flatten
abbrev zY:=@Array.getElem?_modify
abbrev BL:=@decide_eq_true_eq
abbrev BM:=@List.Pairwise.imp_of_mem
abbrev BQ:=@Nat.add_zero
abbrev BR:=@Nat.zero_mul
abbrev CN:=@Int.le_refl
abbrev CR:=@List.getElem?_range
abbrev CS:=@List.getElem?_cons_succ
abbrev DC:=@Nat.succ_le_succ
abbrev DD:=@Calls.quiet_of
abbrev EG:=@Bool.or_true
abbrev EH:=@Nat.sub_self
abbrev EI:=@Nat.succ_pos
abbrev EJ:=@wpAnyH_ready
abbrev FT:=@Nat.min_eq_left
abbrev FU:=@List.Perm.append_left
abbrev FW:=@List.mem_iff_getElem?
abbrev FX:=@List.all_cons
abbrev FY:=@Nat.add_assoc
abbrev FZ:=@wp_append_own
abbrev JL:=@List.ext_getElem
abbrev JS:=@Int.le_trans
abbrev JT:=@List.take_succ_cons
abbrev JW:=@World.grownBy_alloc
abbrev JX:=@wp_region_held_drew
abbrev KU:=@Array.getElem?_replicate
abbrev KV:=@List.length_filterMap_le
abbrev MQ:=@Lib.alloc_old
abbrev MR:=@List.any_append
abbrev MS:=@beq_false_of_ne
abbrev MT:=@List.not_all_eq_any_not
abbrev OH:=@Nat.add_mul
abbrev PI:=@wpList_append_own_none
abbrev PJ:=@List.length_range
abbrev PK:=@Nat.le_succ_of_le
abbrev PL:=@World.drewN_drewN
abbrev QF:=@Array.getElem?_mapIdx
abbrev QG:=@Lib.run_eql_slice_nil
abbrev QH:=@List.countP_le_length
abbrev QI:=@ownsRow_setCell_below
abbrev SU:=@Nat.succ_lt_succ
abbrev TK:=@Lib.byteCells_length
abbrev TM:=@Lib.cell?_alloc_some
abbrev TN:=@List.mem_iff_getElem
abbrev TO:=@And.intro
abbrev YJ:=@trodAll_cons_mk
abbrev YO:=@Int.toNat_of_nonneg
abbrev YP:=@List.filter_eq_self
abbrev YQ:=@List.length_pos_iff
abbrev Ah:=@List.setIfInBounds_toArray
abbrev Dk:=@List.getElem?_drop
abbrev Dm:=@Nat.eq_zero_or_pos
abbrev Dp:=@World.ownsMap_made
abbrev Dq:=@Bool.and_false
abbrev Dv:=@List.drop_drop
abbrev Dw:=@Nat.mul_le_mul
abbrev Dx:=@List.mem_or_eq_of_mem_set
abbrev Dy:=@World.cell?_setCell_other
abbrev Jv:=@List.flatMap_cons
abbrev Jw:=@Lib.run_append_nil_zeros
abbrev Jy:=@List.mem_of_mem_eraseIdx
abbrev Nh:=@Bool.or_false
abbrev Px:=@callsIn_of_wp
abbrev Sx:=@List.cons_append
abbrev Sy:=@Nat.le_add_right
abbrev Sz:=@Nat.lt_succ_self
abbrev Tb:=@run_storeVar_row
end Go.Proofs.YtfljoehbbncooaaGreat

namespace Go.Proofs.YtfljoehbbncooaaGreat
def kH(n:Int):Bool:=decide (97<=n)&&decide (n<=122)
def kW(n:Int):Bool:=decide (65<=n)&&decide (n<=90)
def eK(n:Int):Bool:=decide (48<=n)&&decide (n<=57)
def fD(n:Int):Bool:=kH n||kW n||eK n
def tV(n:Int):Bool:=n != 10
def bB(p:Int->Bool):List UInt8->Nat
 |[]=>0
 |c::r=>if p (c.toNat:Int)then bB p r+1 else 0
theorem Lg(p:Int->Bool)(l:List UInt8):bB p l<=l.length:=by
 induction l with
 |nil=>exact aH 0
 |cons c r b=>unfold bB;split<;>simp <;>omega
theorem CC(l:List UInt8)(k:Nat)(h:k<l.length):l.drop k=l[k]::l.drop (k+1):=dA h
theorem pH(p:Int->Bool)(l:List UInt8)(k:Nat)(h:k<l.length)(b:p (l[k].toNat:Int)=true):bB p (l.drop k)=bB p (l.drop (k+1))+1:=by rw[CC l k h,bB,if_pos b]
theorem FI(p:Int->Bool)(l:List UInt8)(k:Nat)(h:k<l.length)(b:p (l[k].toNat:Int)=false):bB p (l.drop k)=0:=by rw[CC l k h,bB,if_neg (by simp[b])]
theorem DH(p:Int->Bool)(l:List UInt8)(k:Nat)(h:l.length<=k):bB p (l.drop k)=0:=by rw[bG h,bB]
def kK:Bool->List UInt8->Nat
 |_,[]=>0
 |true,c::r=>if(c.toNat:Int)=10 then kK false r+1 else kK true r+1
 |false,c::r=>if(c.toNat:Int)=37 then kK true r+1 else if(c.toNat:Int)=32\/(c.toNat:Int)=9\/(c.toNat:Int)=10 then kK false r+1 else 0
def oZ(c:UInt8):Bool:=[40,41,44,46,60,61,43,45,42].contains c
def gJ(l:List UInt8):Nat:=
 if [58,45].isPrefixOf l||[60,61].isPrefixOf l||[33,61].isPrefixOf l then 2 else
 match l with
 |[]=>0
 |c::_=>if oZ c then 1 else 0
def pA(l:List UInt8):Int:=
 match l with
 |[]=>4
 |c::_=>if kH c.toNat then 1 else if kW c.toNat then 2 else if eK c.toNat then 3 else 4
def fC(l:List UInt8):Nat:=
 match l with
 |[]=>0
 |c::_=>if kH c.toNat||kW c.toNat then bB fD l else if eK c.toNat then bB eK l else gJ l
def nA(l:List UInt8):Int:=
 match l with
 |[]=>0
 |c::_=>
  if kH c.toNat||kW c.toNat then(if bB fD l>12 then 2 else 0)
  else if eK c.toNat then(if bB eK l>7 then 2 else if(c.toNat:Int)=48/\bB eK l>1 then 1 else 0)
  else if gJ l=0 then 1 else 0
structure gK where
 kind:Int
 at_:Int
 text:List UInt8
def sW(L:List UInt8)(p:Nat):gK:={kind:=pA (L.drop p),at_:=p,text:=(L.drop p).take (fC (L.drop p))}
def pI(L:List UInt8):Nat->Nat->List gK->List gK×Nat×Int
 |0,_,b=>(b,0,0)
 |f+1,p,b=>
  if L.length<=p then(b,0,0)
  else if nA (L.drop p)=0 then pI L f (p+fC (L.drop p)+kK false (L.drop (p+fC (L.drop p)))) (b++[sW L p])
  else([],p,nA (L.drop p))
def lG(L:List UInt8):List gK×Nat×Int:=
 if 5000<L.length then([],0,2)else pI L L.length (kK false L) []
theorem RW(L:List UInt8)(f p:Nat)(b:List gK)(h:L.length<=p):pI L f p b=(b,0,0):=by
 cases f with
 |zero=>rfl
 |succ f=>rw[pI,if_pos h]
theorem Pj(L:List UInt8)(f p:Nat)(b:List gK)(h:p<L.length)(d:L.length<=p+f)(c:¬nA (L.drop p)=0):pI L f p b=([],p,nA (L.drop p)):=by
 cases f with
 |zero=>omega
 |succ f=>rw[pI,if_neg (by omega),if_neg c]
theorem RX(L:List UInt8)(f p:Nat)(b:List gK)(h:p<L.length)(c:nA (L.drop p)=0):
 pI L (f+1) p b=pI L f (p+fC (L.drop p)+kK false (L.drop (p+fC (L.drop p)))) (b++[sW L p]):=by
 rw[pI,if_neg (by omega),if_pos c]
theorem RU{p:Int->Bool}{c:UInt8}{r:List UInt8}(h:p c.toNat=true):1<=bB p (c::r):=by rw[bB,if_pos h];omega
theorem Hh(l:List UInt8)(h:l≠[])(i:nA l=0):1<=fC l:=by
 match l,h with
 |c::r,_=>
  have b:nA (c::r)=if kH c.toNat||kW c.toNat then(if bB fD (c::r)>12 then 2 else 0)
   else if eK c.toNat then(if bB eK (c::r)>7 then 2 else if(c.toNat:Int)=48/\bB eK (c::r)>1 then 1 else 0)
   else if gJ (c::r)=0 then 1 else 0:=rfl
  have f:fC (c::r)=if kH c.toNat||kW c.toNat then bB fD (c::r)else if eK c.toNat then bB eK (c::r)else gJ (c::r):=rfl;rw[i]at b;rw[f];by_cases d:(kH c.toNat||kW c.toNat)=true
  ·rw[if_pos d];exact RU (by unfold fD;rw[d];rfl)
  rw[if_neg d]at b ⊢;by_cases e:eK c.toNat=true
  ·rw[if_pos e];exact RU e
  rw[if_neg e]at b ⊢;by_cases g:gJ (c::r)=0
  ·rw[if_pos g]at b;exact absurd b (by decide)
  omega
theorem ZP(l:List UInt8):gJ l<=l.length:=by
 unfold gJ;split
 ·rename_i h;simp only[Bool.or_eq_true]at h;(rcases h with(h|h)|h);all_goals (have b:=(List.isPrefixOf_iff_prefix.1 h).length_le;simpa using b)
 split
 ·simp
 split<;>simp
theorem WB(l:List UInt8):fC l<=l.length:=by
 match l with
 |[]=>exact aH 0
 |c::r=>
  have b:fC (c::r)=if kH c.toNat||kW c.toNat then bB fD (c::r)else if eK c.toNat then bB eK (c::r)else gJ (c::r):=rfl;rw[b];split
  ·exact Lg _ _
  split
  ·exact Lg _ _
  exact ZP _
theorem XT(b:Bool)(l:List UInt8):kK b l<=l.length:=by
 induction l generalizing b with
 |nil=>cases b<;>simp[kK]
 |cons c r d=>
  have e:=d true;have f:=d false;cases b
  ·simp only[kK,List.length_cons];split
   ·omega
   split<;>omega
  simp only[kK,List.length_cons];split<;>omega
theorem aKQ(l:List UInt8):kK true l=bB tV l+kK false (l.drop (bB tV l)):=by
 induction l with
 |nil=>rfl
 |cons c r e=>
  by_cases h:(c.toNat:Int)=10
  ·(have b:bB tV (c::r)=0:=by simp[bB,tV,h]);(have d:¬((c.toNat:Int)=37):=by omega);rw[b,iU];simp only[kK,if_pos h,if_neg d,if_pos (show(c.toNat:Int)=32\/(c.toNat:Int)=9\/(c.toNat:Int)=10 from .inr (.inr h))];omega
  (have b:bB tV (c::r)=bB tV r+1:=by simp[bB,tV,h]);rw[b,List.drop_succ_cons];simp only[kK,if_neg h];omega
end Go.Proofs.YtfljoehbbncooaaGreat
namespace Go.Proofs.YtfljoehbbncooaaGreat
open Go.RowKit
theorem tL(n:Int)(w:World):Calls Tryz.prog 289 #[.int .u8 n] w fun e c=>e=.returned (.bool (kH n))/\c=w:=by
 by_cases h:97<=n
 ·go_enter Tryz.func289,Tryz.ntmps289
  go_wp2;go_ret;exact⟨by simp[kH,h],rfl⟩
 have b:decide (97<=n)=false:=by simpa using h
 go_enter Tryz.func289,Tryz.ntmps289
 go_wp2;go_ret;exact⟨by simp only[kH,b,Bool.false_and];rfl,rfl⟩
theorem tK(n:Int)(w:World):Calls Tryz.prog 291 #[.int .u8 n] w fun e c=>e=.returned (.bool (kW n))/\c=w:=by
 by_cases h:65<=n
 ·go_enter Tryz.func291,Tryz.ntmps291
  go_wp2;go_ret;exact⟨by simp[kW,h],rfl⟩
 have b:decide (65<=n)=false:=by simpa using h
 go_enter Tryz.func291,Tryz.ntmps291
 go_wp2;go_ret;exact⟨by simp only[kW,b,Bool.false_and];rfl,rfl⟩
theorem pP(n:Int)(w:World):Calls Tryz.prog 292 #[.int .u8 n] w fun e c=>e=.returned (.bool (eK n))/\c=w:=by
 by_cases h:48<=n
 ·go_enter Tryz.func292,Tryz.ntmps292
  go_wp2;go_ret;exact⟨by simp[eK,h],rfl⟩
 have b:decide (48<=n)=false:=by simpa using h
 go_enter Tryz.func292,Tryz.ntmps292
 go_wp2;go_ret;exact⟨by simp only[eK,b,Bool.false_and];rfl,rfl⟩
theorem bBK(n:Int)(w:World):Calls Tryz.prog 288 #[.int .u8 n] w fun e b=>e=.returned (.bool (tV n))/\b=w:=by
 go_enter Tryz.func288,Tryz.ntmps288
 go_wp2;go_ret;exact⟨by simp[tV],rfl⟩
theorem aD1(n:Int)(w:World):Calls Tryz.prog 295 #[.int .u8 n] w fun e b=>e=.returned (.bool (fD n))/\b=w:=by
 unfold fD;cases c:kH n
 ·cases d:kW n
  ·go_enter Tryz.func295,Tryz.ntmps295
   go_wp2_with(first|(go_at_call 289;refine(tL _ _).mono ?_;rintro e b ⟨rfl,rfl⟩)|(go_at_call 291;refine(tK _ _).mono ?_;rintro e b ⟨rfl,rfl⟩)|(go_at_call 292;refine(pP _ _).mono ?_;rintro e b ⟨rfl,rfl⟩));go_ret;exact⟨by simp,rfl⟩
  go_enter Tryz.func295,Tryz.ntmps295
  go_wp2_with(first|(go_at_call 289;refine(tL _ _).mono ?_;rintro e b ⟨rfl,rfl⟩)|(go_at_call 291;refine(tK _ _).mono ?_;rintro e b ⟨rfl,rfl⟩)|(go_at_call 292;refine(pP _ _).mono ?_;rintro e b ⟨rfl,rfl⟩));go_ret;exact⟨by simp,rfl⟩
 go_enter Tryz.func295,Tryz.ntmps295
 go_wp2_with(first|(go_at_call 289;refine(tL _ _).mono ?_;rintro e b ⟨rfl,rfl⟩)|(go_at_call 291;refine(tK _ _).mono ?_;rintro e b ⟨rfl,rfl⟩)|(go_at_call 292;refine(pP _ _).mono ?_;rintro e b ⟨rfl,rfl⟩));go_ret;exact⟨by simp,rfl⟩
theorem DN{k:IntKind}{a b:Int}(h:a=b):Ending.returned (.int k a)=.returned (.int k b):=by rw[h]
def bJ9(g:Nat)(p:Int->Bool):Prop:=∀(n:Int)(w:World),Calls Tryz.prog g #[.int .u8 n] w fun e b=>e=.returned (.bool (p n))/\b=w
def GE(g:Nat):Prop:=∀(a:Array Value)(w:World),(callFunc g a).run Tryz.prog w=.ok (.enter g a) w
theorem SP(g:Nat)(p:Int->Bool)(hg:bJ9 g p)(r:GE g)(s:ByteArray)(b:Nat)(w:World)(x:s.size<=maxLen)(q:b<=s.size):
 Calls Tryz.prog 287 #[.string s, .int .i64 b, .func (.func g) #[] #[]] w fun e l=>e=.returned (.int .i64 ((b+bB p (s.data.toList.drop b):Nat):Int))/\l=w:=by
 unfold maxLen at x
 go_enter Tryz.func287,Tryz.ntmps287
 go_wp2;go_loop [1] (fun i=>∃k:Nat,k<=s.size/\i=.int .i64 k/\b+bB p (s.data.toList.drop b)=k+bB p (s.data.toList.drop k)) (fun i=>s.size-(intOf i).toNat);case atStart=>exact⟨b,q,rfl,rfl⟩
 case round=>
  obtain⟨k,C,rfl,f⟩:=hrel;have HK:O (b+bB p (s.data.toList.drop b)=k+bB p (s.data.toList.drop k)):=f;clear f;by_cases u:k<s.size
  ·go_wp2_with fail;rw[r,Oper.upon_enter];refine(hg _ _).mono ?_;rintro e l ⟨rfl,rfl⟩;(have j:k<s.data.toList.length:=by simpa using u);cases d:p (s[k].toNat:Int)
   ·have c:O (bB p (s.data.toList.drop k)=0):=FI p s.data.toList k j d;clear d;go_wp2;go_ret;exact⟨DN (by have m:=HK.o;have n:=c.o;omega),rfl⟩
   have c:O (bB p (s.data.toList.drop k)=bB p (s.data.toList.drop (k+1))+1):=pH p s.data.toList k j d;clear d;go_wp2;go_round;(case rel=>exact⟨k+1,by omega,by go_num,by rw[HK.o,c.o];omega⟩);case measure=>simp[intOf];omega
  have c:O (bB p (s.data.toList.drop k)=0):=DH p s.data.toList k (by simp;omega);go_wp2;go_ret;exact⟨DN (by have m:=HK.o;have n:=c.o;omega),rfl⟩
theorem oQ{f:FuncId}{b:Func}{c:Code}(g:Tryz.prog.funcs[f]?=some b)(i:(b.name== "runtime.NumGoroutine")=false)(e:b.body=some c):GE f:=by intro a w;(have d:b.name≠ "runtime.NumGoroutine" :=by simpa using i);simp[callFunc,g,d,e]
theorem aWF:GE 288:=oQ Tryz.func288 (by kernel_rfl) rfl
theorem XX:GE 292:=oQ Tryz.func292 (by kernel_rfl) rfl
theorem aEB:GE 295:=oQ Tryz.func295 (by kernel_rfl) rfl
theorem kZ (a:Act) (v:Value):a.eval (.const v)=v:=rfl
theorem AO (a:Act) (f:FuncId):a.eval (.func f)=.func (.func f) #[] #[]:=rfl
theorem oM{P:Prop}(h:P:=by omega):P:=h
theorem kR{P:Prop}(h:P:=by kernel_rfl):P:=h
theorem dE{P:Prop}(h:P:=by decide):P:=h
theorem sI{P:Prop}(h:P:=by simp):P:=h
theorem sO{P:Prop}(h:P:=by simp;omega):P:=h
theorem rF{P:Prop}(h:P:=by rfl):P:=h
theorem tR{P:Prop}(h:P:=by intro t ht;cases ht;exact rfl):P:=h
theorem gN{P:Prop}(h:P:=by go_num):P:=h
theorem rV{P:Prop}(h:P:=by rw[HV.o];rfl):P:=h
theorem mI{P:Prop}(h:P:=by simp[intOf];omega):P:=h
end Go.Proofs.YtfljoehbbncooaaGreat
namespace Go.Proofs
open Go.Shelf
def Tryz.lays170_ren:Go.Shelf.Ren:=⟨fun |170=>260|n=>n,fun |70=>297|3=>3|0=>0|72=>300|37=>298|5=>5|n=>n,fun |n=>n⟩
theorem Tryz.lays170:Go.Proofs.Lays.n170 Tryz.prog Tryz.lays170_ren:={
 mixed:=by kernel_rfl
 f170:=Tryz.func260.trans (congrArg some (by kernel_rfl))
 t0:=Tryz.underlying0
 a0:=Tryz.isAgg0
 z0:=Tryz.sizeOf0
 v0:=Tryz.zeroValue0
 t3:=Tryz.underlying3
 a3:=Tryz.isAgg3
 z3:=Tryz.sizeOf3
 v3:=Tryz.zeroValue3
 t37:=Tryz.underlying298
 a37:=Tryz.isAgg298
 z37:=Tryz.sizeOf298
 v37:=Tryz.zeroValue298
 t70:=Tryz.underlying297
 a70:=Tryz.isAgg297
 z70:=Tryz.sizeOf297
 v70:=Tryz.zeroValue297
 t72:=Tryz.underlying300
 a72:=Tryz.isAgg300
 z72:=Tryz.sizeOf300
 v72:=Tryz.zeroValue300}
open Go.RowKit in
theorem Tryz.Builder_Len(B b:Nat)(bs:List Value)(w:World)(h:Lib.IsBuilder 300 5 B b bs w):
 Calls Tryz.prog 260 #[.pointer (some ⟨b,0,none⟩)] w fun e w'=>e=.returned (.int .i64 bs.length)∧w'=w:=Any.Builder_Len Tryz.lays170 B b bs w h
def Tryz.lays169_ren:Go.Shelf.Ren:=⟨fun |169=>261|n=>n,fun |70=>297|9=>9|0=>0|72=>300|37=>298|127=>319|3=>3|5=>5|n=>n,fun |n=>n⟩
theorem Tryz.lays169:Go.Proofs.Lays.n169 Tryz.prog Tryz.lays169_ren:={
 mixed:=by kernel_rfl
 f169:=Tryz.func261.trans (congrArg some (by kernel_rfl))
 t0:=Tryz.underlying0
 a0:=Tryz.isAgg0
 z0:=Tryz.sizeOf0
 v0:=Tryz.zeroValue0
 t3:=Tryz.underlying3
 a3:=Tryz.isAgg3
 z3:=Tryz.sizeOf3
 v3:=Tryz.zeroValue3
 t9:=Tryz.underlying9
 a9:=Tryz.isAgg9
 z9:=Tryz.sizeOf9
 v9:=Tryz.zeroValue9
 t37:=Tryz.underlying298
 a37:=Tryz.isAgg298
 z37:=Tryz.sizeOf298
 v37:=Tryz.zeroValue298
 t70:=Tryz.underlying297
 a70:=Tryz.isAgg297
 z70:=Tryz.sizeOf297
 v70:=Tryz.zeroValue297
 t72:=Tryz.underlying300
 a72:=Tryz.isAgg300
 z72:=Tryz.sizeOf300
 v72:=Tryz.zeroValue300
 t127:=Tryz.underlying319
 a127:=Tryz.isAgg319
 z127:=Tryz.sizeOf319
 v127:=Tryz.zeroValue319}
theorem Tryz.Builder_Extra_169:Builder.Extra Tryz.prog Tryz.lays169_ren:={
 sizeBuilder:=by kernel_rfl
 liesBuilder:=by kernel_rfl
 t5:=Tryz.underlying5
 a5:=Tryz.isAgg5
 z5:=Tryz.sizeOf5
 v5:=Tryz.zeroValue5
 infoByte:=by kernel_rfl
 cellsByte:=by kernel_rfl
 sizeByte:=by kernel_rfl
 neB5:=by decide}
open Go.RowKit in
theorem Tryz.Builder_String(B b:Nat)(l:List UInt8)(w:World)(h:Lib.IsBuilder 300 5 B b (Lib.byteCells l) w)(h0:l≠[]):
 Calls Tryz.prog 261 #[.pointer (some ⟨b,0,none⟩)] w fun e w'=>e=.returned (.string ⟨l.toArray⟩)∧Below B w w':=Any.Builder_String Tryz.lays169 Tryz.Builder_Extra_169 B b l w h h0
open Go.RowKit in
theorem Tryz.Builder_String_empty(B b:Nat)(w:World)(h:Lib.IsBuilder 300 5 B b [] w)(hBw:B≤w.heap.size):
 Calls Tryz.prog 261 #[.pointer (some ⟨b,0,none⟩)] w fun e w'=>e=.returned (.string ⟨#[]⟩)∧Below B w w':=Any.Builder_String_empty Tryz.lays169 Tryz.Builder_Extra_169 B b w h hBw
open Go.RowKit in
theorem Tryz.Builder_String_any(B b:Nat)(l:List UInt8)(w:World)(h:Lib.IsBuilder 300 5 B b (Lib.byteCells l) w)(hBw:B≤w.heap.size):
 Calls Tryz.prog 261 #[.pointer (some ⟨b,0,none⟩)] w fun e w'=>e=.returned (.string ⟨l.toArray⟩)∧Below B w w':=Any.Builder_String_any Tryz.lays169 Tryz.Builder_Extra_169 B b l w h hBw
def Tryz.lays137_ren:Go.Shelf.Ren:=⟨fun |137=>300|217=>303|266=>304|n=>n,fun |9=>9|5=>5|3=>3|n=>n,fun |n=>n⟩
theorem Tryz.lays137:Go.Proofs.Lays.n137 Tryz.prog Tryz.lays137_ren:={
 mixed:=by kernel_rfl
 f137:=Tryz.func300.trans (congrArg some (by kernel_rfl))
 f217:=Tryz.func303.trans (congrArg some (by kernel_rfl))
 f266:=Tryz.func304.trans (congrArg some (by kernel_rfl))
 t3:=Tryz.underlying3
 a3:=Tryz.isAgg3
 z3:=Tryz.sizeOf3
 v3:=Tryz.zeroValue3
 t5:=Tryz.underlying5
 a5:=Tryz.isAgg5
 z5:=Tryz.sizeOf5
 v5:=Tryz.zeroValue5
 t9:=Tryz.underlying9
 a9:=Tryz.isAgg9
 z9:=Tryz.sizeOf9
 v9:=Tryz.zeroValue9}
open Go.RowKit in
theorem Tryz.strings_IndexByte(s:ByteArray)(c:Int)(w:World):
 Calls Tryz.prog 300 #[.string s, .int .u8 c] w fun e w'=>e=.returned (.int .i64 (Lib.indexByte s.data.toList c.toNat.toUInt8))∧w'=w:=Any.strings_IndexByte Tryz.lays137 s c w
def Tryz.laysM316_ren:Go.Shelf.Ren:=⟨fun |316=>301|n=>n,fun |9=>9|3=>3|4=>4|37=>298|0=>0|127=>319|5=>5|n=>n,fun |n=>n⟩
theorem Tryz.laysM316:Go.Proofs.LaysM.n316 Tryz.prog Tryz.laysM316_ren:={
 mixed:=by kernel_rfl
 f316:=Tryz.func301.trans (congrArg some (by kernel_rfl))
 t0:=Tryz.underlying0
 a0:=Tryz.isAgg0
 z0:=Tryz.sizeOf0
 v0:=Tryz.zeroValue0
 t3:=Tryz.underlying3
 a3:=Tryz.isAgg3
 z3:=Tryz.sizeOf3
 v3:=Tryz.zeroValue3
 t4:=Tryz.underlying4
 a4:=Tryz.isAgg4
 z4:=Tryz.sizeOf4
 v4:=Tryz.zeroValue4
 t9:=Tryz.underlying9
 a9:=Tryz.isAgg9
 z9:=Tryz.sizeOf9
 v9:=Tryz.zeroValue9
 t37:=Tryz.underlying298
 a37:=Tryz.isAgg298
 z37:=Tryz.sizeOf298
 v37:=Tryz.zeroValue298
 t127:=Tryz.underlying319
 a127:=Tryz.isAgg319
 z127:=Tryz.sizeOf319
 v127:=Tryz.zeroValue319
 t5:=Tryz.underlying5
 a5:=Tryz.isAgg5
 z5:=Tryz.sizeOf5
 v5:=Tryz.zeroValue5
 i0:=by kernel_rfl
 i3:=by kernel_rfl
 i4:=by kernel_rfl
 i5:=by kernel_rfl
 i9:=by kernel_rfl
 i37:=by kernel_rfl
 i127:=by kernel_rfl}
open Go.RowKit in
theorem Tryz.stringslite_Clone(s:ByteArray)(w:World)(hlim:s.size≤281474976710656):
 Calls Tryz.prog 301 #[.string s] w fun e w'=>e=.returned (.string s)∧Below w.heap.size w w':=Any.stringslite_Clone Tryz.laysM316 s w hlim
def Tryz.lays217_ren:Go.Shelf.Ren:=⟨fun |217=>303|266=>304|n=>n,fun |9=>9|5=>5|3=>3|n=>n,fun |n=>n⟩
theorem Tryz.lays217:Go.Proofs.Lays.n217 Tryz.prog Tryz.lays217_ren:={
 mixed:=by kernel_rfl
 f217:=Tryz.func303.trans (congrArg some (by kernel_rfl))
 f266:=Tryz.func304.trans (congrArg some (by kernel_rfl))
 t3:=Tryz.underlying3
 a3:=Tryz.isAgg3
 z3:=Tryz.sizeOf3
 v3:=Tryz.zeroValue3
 t5:=Tryz.underlying5
 a5:=Tryz.isAgg5
 z5:=Tryz.sizeOf5
 v5:=Tryz.zeroValue5
 t9:=Tryz.underlying9
 a9:=Tryz.isAgg9
 z9:=Tryz.sizeOf9
 v9:=Tryz.zeroValue9}
open Go.RowKit Go.Lib in
theorem Tryz.stringslite_IndexByte(s:ByteArray)(c:Int)(w:World):
 Calls Tryz.prog 303 #[.string s, .int .u8 c] w fun e w'=>e=.returned (.int .i64 (Lib.indexByte s.data.toList c.toNat.toUInt8))∧w'=w:=Any.stringslite_IndexByte Tryz.lays217 s c w
def Tryz.lays206_ren:Go.Shelf.Ren:=⟨fun |206=>302|n=>n,fun |9=>9|4=>4|3=>3|n=>n,fun |n=>n⟩
theorem Tryz.lays206:Go.Proofs.Lays.n206 Tryz.prog Tryz.lays206_ren:={
 mixed:=by kernel_rfl
 f206:=Tryz.func302.trans (congrArg some (by kernel_rfl))
 t3:=Tryz.underlying3
 a3:=Tryz.isAgg3
 z3:=Tryz.sizeOf3
 v3:=Tryz.zeroValue3
 t4:=Tryz.underlying4
 a4:=Tryz.isAgg4
 z4:=Tryz.sizeOf4
 v4:=Tryz.zeroValue4
 t9:=Tryz.underlying9
 a9:=Tryz.isAgg9
 z9:=Tryz.sizeOf9
 v9:=Tryz.zeroValue9}
open Go.RowKit Go.Lib in
theorem Tryz.stringslite_HasPrefix(s p:ByteArray)(w:World):
 Calls Tryz.prog 302 #[.string s, .string p] w fun e w'=>e=.returned (.bool (Lib.hasPrefix s.data.toList p.data.toList))∧w'=w:=Any.stringslite_HasPrefix Tryz.lays206 s p w
def Tryz.lays99_ren:Go.Shelf.Ren:=⟨fun |99=>299|206=>302|n=>n,fun |9=>9|4=>4|3=>3|n=>n,fun |n=>n⟩
theorem Tryz.lays99:Go.Proofs.Lays.n99 Tryz.prog Tryz.lays99_ren:={
 mixed:=by kernel_rfl
 f99:=Tryz.func299.trans (congrArg some (by kernel_rfl))
 f206:=Tryz.func302.trans (congrArg some (by kernel_rfl))
 t3:=Tryz.underlying3
 a3:=Tryz.isAgg3
 z3:=Tryz.sizeOf3
 v3:=Tryz.zeroValue3
 t4:=Tryz.underlying4
 a4:=Tryz.isAgg4
 z4:=Tryz.sizeOf4
 v4:=Tryz.zeroValue4
 t9:=Tryz.underlying9
 a9:=Tryz.isAgg9
 z9:=Tryz.sizeOf9
 v9:=Tryz.zeroValue9}
open Go.RowKit Go.Lib in
theorem Tryz.strings_HasPrefix(s p:ByteArray)(w:World):
 Calls Tryz.prog 299 #[.string s, .string p] w fun e w'=>e=.returned (.bool (Lib.hasPrefix s.data.toList p.data.toList))∧w'=w:=Any.strings_HasPrefix Tryz.lays99 s p w
end Go.Proofs
namespace Go.Proofs.YtfljoehbbncooaaGreat
open Go.RowKit
theorem aV6(s:ByteArray)(w:World)(d:s.size<=281474976710656):
 Calls Tryz.prog 298 #[.string s] w fun e b=>e=.returned (.string s)/\Below w.heap.size w b:=by
 go_enter Tryz.func298,Tryz.ntmps298
 go_wp2_with(go_at_call 301;refine(Tryz.stringslite_Clone _ _ d).mono ?_;rintro e b ⟨rfl,c⟩);go_ret;exact⟨rfl,c⟩
theorem aD3{W w1:World}(c:Below W.heap.size W w1):(∀b o,b<W.heap.size->w1.cell? ⟨b,o,none⟩=W.cell? ⟨b,o,none⟩)/\(∀b o,b<W.heap.size->w1.frozen? ⟨b,o,none⟩=W.frozen? ⟨b,o,none⟩):=
 ⟨fun b o h=>c.cell (p:=⟨b,o,none⟩) h,fun b o h=>c.frozen (p:=⟨b,o,none⟩) h⟩
abbrev Dd:Obj:=.cells #[.int .i64 0, .int .i64 0, .string {data:=#[]}] 286
theorem KQ{w w1:World}(d:Below (w.alloc Dd).heap.size (w.alloc Dd) w1):
 (w1.cell? ⟨w.heap.size,0,none⟩=some (.int .i64 0)/\w1.cell? ⟨w.heap.size,1,none⟩=some (.int .i64 0)/\w1.cell? ⟨w.heap.size,2,none⟩=some (.string {data:=#[]}))/\
 w1.frozen? ⟨w.heap.size,0,none⟩=false/\w1.frozen? ⟨w.heap.size,1,none⟩=false/\w1.frozen? ⟨w.heap.size,2,none⟩=false:=by
 obtain⟨b,c⟩:=aD3 d;(have h:w.heap.size<(w.alloc Dd).heap.size:=by simp);refine⟨⟨?_,?_,?_⟩,?_,?_,?_⟩
 ·rw[b _ _ h];simp[go_sem]
 ·rw[b _ _ h];simp[go_sem]
 ·rw[b _ _ h];simp[go_sem]
 ·rw[c _ _ h];simp[go_sem]
 ·rw[c _ _ h];simp[go_sem]
 rw[c _ _ h];simp[go_sem]
theorem CH{w w1:World}(c:Below (w.alloc Dd).heap.size (w.alloc Dd) w1)(x y z:Value):
 Below w.heap.size w (((w1.setCell ⟨w.heap.size,0,none⟩ x).setCell ⟨w.heap.size,1,none⟩ y).setCell ⟨w.heap.size,2,none⟩ z):=by
 have b:Below w.heap.size w w1:=((aG _ _).alloc (aH _) _).trans (c.mono sI);exact((b.setCell (p:=⟨w.heap.size,0,none⟩) (aH _) _).setCell (p:=⟨w.heap.size,1,none⟩) (aH _) _).setCell (p:=⟨w.heap.size,2,none⟩) (aH _) _
theorem Tj(s:ByteArray)(a b k:Int)(w:World)(q:s.size<=281474976710656)(m:0<=a)(n:a<=b)(p:b<=s.size):
 Calls Tryz.prog 296 #[.string s, .int .i64 a, .int .i64 b, .int .i64 k] w fun e g=>e=.returned (.agg #[.int .i64 k, .int .i64 a, .string (s.extract a.toNat b.toNat)])/\Below w.heap.size w g:=by
 go_enter Tryz.func296,Tryz.ntmps296
 go_wp2_with fail;refine(aV6 _ _ sO).mono ?_;rintro e r ⟨rfl,c⟩;obtain⟨⟨c0,d,f⟩,i,j,l⟩:=KQ c;go_wp2;refine dP (v:=.agg #[.int .i64 k, .int .i64 a, .string (s.extract a.toNat b.toNat)]) (by simp[results,Tryz.results296,go_sem,c0,d,f]) rfl ⟨rfl,?_⟩;exact CH c _ _ _
theorem YF(p:Int->Bool)(s:ByteArray)(a:Nat)(h:a<=s.size):a+bB p (s.data.toList.drop a)<=s.size:=by have b:=Lg p (s.data.toList.drop a);(have c:(s.data.toList.drop a).length=s.size-a:=by simp);omega
theorem KP(s:ByteArray)(a n:Nat):s.extract ((a:Nat):Int).toNat ((a:Int)+(n:Int)).toNat=s.extract a (a+n):=by rw[lC,show((a:Int)+(n:Int)).toNat=a+n from by omega]
abbrev Zc(a c:Int):Ending:=.panicked [{v:=.iface 323 (.agg #[.int .i64 a, .int .i64 c]),recovered:=false}]
theorem aTW(s:ByteArray)(b:Nat)(k:Int)(w:World)(i:s.size<=281474976710656)(c:b<=s.size)(g:12<bB fD (s.data.toList.drop b)):
 Calls Tryz.prog 290 #[.string s, .int .i64 b, .int .i64 k] w fun e d=>e=Zc b 2/\Below w.heap.size w d:=by
 go_enter Tryz.func290,Tryz.ntmps290
 go_wp2_with fail;refine(SP 295 fD aD1 aEB s b _ (by unfold maxLen;omega) c).mono ?_;rintro e j ⟨rfl,rfl⟩;have f:=YF fD s b c;go_wp2_with fail;exact⟨rfl,rfl,(aG _ _).alloc (aH _) _⟩
theorem aOL(s:ByteArray)(b:Nat)(k:Int)(w:World)(j:s.size<=281474976710656)(c:b<=s.size)(u:bB fD (s.data.toList.drop b)<=12):
 Calls Tryz.prog 290 #[.string s, .int .i64 b, .int .i64 k] w fun e l=>e=.returned (.agg #[.int .i64 k, .int .i64 b, .string (s.extract b (b+bB fD (s.data.toList.drop b)))])/\Below w.heap.size w l:=by
 go_enter Tryz.func290,Tryz.ntmps290
 go_wp2_with fail;refine(SP 295 fD aD1 aEB s b _ (by unfold maxLen;omega) c).mono ?_;rintro e m ⟨rfl,rfl⟩;have r:=YF fD s b c;go_wp2_with fail;refine(Tj s _ _ k _ j oM oM oM).mono ?_;rintro e m ⟨f,d⟩;rw[KP]at f;subst f;obtain⟨⟨c0,g,i⟩,n,p,q⟩:=KQ d;go_wp2;exact dP (v:=.agg #[.int .i64 k, .int .i64 b, .string (s.extract b (b+bB fD (s.data.toList.drop b)))]) (by simp[results,Tryz.results290,go_sem,c0,g,i]) rfl ⟨rfl,CH d _ _ _⟩
theorem aMN(s:ByteArray)(b:Nat)(w:World)(i:s.size<=281474976710656)(d:b<s.size)(g:7<bB eK (s.data.toList.drop b)):
 Calls Tryz.prog 293 #[.string s, .int .i64 b] w fun e c=>e=Zc b 2/\Below w.heap.size w c:=by
 go_enter Tryz.func293,Tryz.ntmps293
 go_wp2_with fail;refine(SP 292 eK pP XX s b _ (by unfold maxLen;omega) oM).mono ?_;rintro e j ⟨rfl,rfl⟩;have f:=YF eK s b oM;go_wp2_with fail;exact⟨rfl,rfl,(aG _ _).alloc (aH _) _⟩
theorem aMM(s:ByteArray)(b:Nat)(w:World)(j:s.size<=281474976710656)(d:b<s.size)(i:bB eK (s.data.toList.drop b)<=7)(g:1<bB eK (s.data.toList.drop b))(h0:((s[b].toNat:Int)==48)=true):
 Calls Tryz.prog 293 #[.string s, .int .i64 b] w fun e c=>e=Zc b 1/\Below w.heap.size w c:=by
 go_enter Tryz.func293,Tryz.ntmps293
 go_wp2_with fail;refine(SP 292 eK pP XX s b _ (by unfold maxLen;omega) oM).mono ?_;rintro e k ⟨rfl,rfl⟩;have f:=YF eK s b oM;go_wp2_with fail;exact⟨rfl,rfl,(aG _ _).alloc (aH _) _⟩
theorem aRN(s:ByteArray)(b:Nat)(w:World)(l:s.size<=281474976710656)(u:b<s.size)(C:bB eK (s.data.toList.drop b)<=7)(i:((s[b].toNat:Int)==48)=false\/bB eK (s.data.toList.drop b)<=1):
 Calls Tryz.prog 293 #[.string s, .int .i64 b] w fun e q=>e=.returned (.agg #[.int .i64 3, .int .i64 b, .string (s.extract b (b+bB eK (s.data.toList.drop b)))])/\Below w.heap.size w q:=by
 have x:=YF eK s b oM;rcases Bool.eq_false_or_eq_true ((s[b].toNat:Int)==48)with k|k
 ·(have r:bB eK (s.data.toList.drop b)<=1:=by rcases i with h|h;rw[k]at h;cases h;exact h);clear i
  go_enter Tryz.func293,Tryz.ntmps293
  go_wp2_with fail;refine(SP 292 eK pP XX s b _ (by unfold maxLen;omega) oM).mono ?_;rintro e j ⟨rfl,rfl⟩;go_wp2_with fail;refine(Tj s _ _ 3 _ l oM oM oM).mono ?_;rintro e j ⟨d,c⟩;rw[KP]at d;subst d;obtain⟨⟨c0,f,g⟩,m,n,p⟩:=KQ c;go_wp2;exact dP (v:=.agg #[.int .i64 3, .int .i64 b, .string (s.extract b (b+bB eK (s.data.toList.drop b)))]) (by simp[results,Tryz.results293,go_sem,c0,f,g]) rfl ⟨rfl,CH c _ _ _⟩
 clear i
 go_enter Tryz.func293,Tryz.ntmps293
 go_wp2_with fail;refine(SP 292 eK pP XX s b _ (by unfold maxLen;omega) oM).mono ?_;rintro e j ⟨rfl,rfl⟩;go_wp2_with fail;refine(Tj s _ _ 3 _ l oM oM oM).mono ?_;rintro e j ⟨d,c⟩;rw[KP]at d;subst d;obtain⟨⟨c0,f,g⟩,m,n,p⟩:=KQ c;go_wp2;exact dP (v:=.agg #[.int .i64 3, .int .i64 b, .string (s.extract b (b+bB eK (s.data.toList.drop b)))]) (by simp[results,Tryz.results293,go_sem,c0,f,g]) rfl ⟨rfl,CH c _ _ _⟩
theorem aAM:∀n:Fin 256,oZ (UInt8.ofNat n.val)=decide (0<=Lib.indexByte [40,41,44,46,60,61,43,45,42] (UInt8.ofNat n.val)):=by decide+kernel
theorem aSC(x:UInt8):oZ x=decide (0<=Lib.indexByte [40,41,44,46,60,61,43,45,42] x):=by have h:=aAM ⟨x.toNat,x.toNat_lt⟩;simpa using h
theorem XH(t:ByteArray)(w:World)(ht:0<t.size):
 Calls Tryz.prog 297 #[.string t] w fun e b=>e=.returned (.int .i64 (gJ t.data.toList))/\b=w:=by
 have s:∀w:World,(Instr.index 335 (.agg #[.string {data:=#[58,45]}, .string {data:=#[60,61]}, .string {data:=#[33,61]}]) (.int .i64 0)).run Tryz.prog w=.ok (.string {data:=#[58,45]}) w:=fun _=>kR;have u:∀w:World,(Instr.index 335 (.agg #[.string {data:=#[58,45]}, .string {data:=#[60,61]}, .string {data:=#[33,61]}]) (.int .i64 1)).run Tryz.prog w=.ok (.string {data:=#[60,61]}) w:=fun _=>kR;have x:∀w:World,(Instr.index 335 (.agg #[.string {data:=#[58,45]}, .string {data:=#[60,61]}, .string {data:=#[33,61]}]) (.int .i64 2)).run Tryz.prog w=.ok (.string {data:=#[33,61]}) w:=fun _=>kR;(have i:t.data.toList=t[0]::t.data.toList.drop 1:=by have h:=CC t.data.toList 0 (by simpa using ht);rw[iU]at h;exact h);(have k:((t[0].toNat:Int).toNat.toUInt8)=t[0]:=by simp[Nat.toUInt8]);have f:=aSC t[0];cases l:Lib.hasPrefix t.data.toList [58,45]
 ·cases m:Lib.hasPrefix t.data.toList [60,61]
  ·cases n:Lib.hasPrefix t.data.toList [33,61]
   ·(have d:O (gJ t.data.toList=if oZ t[0] then 1 else 0):=by(have q:gJ t.data.toList=if [58,45].isPrefixOf t.data.toList||[60,61].isPrefixOf t.data.toList||[33,61].isPrefixOf t.data.toList then 2 else match t.data.toList with |[]=>0|c::_=>if oZ c then 1 else 0:=rfl);rw[Lib.hasPrefix]at l m n;rw[l,m,n]at q;rw[i]at q;rw[i];exact q);clear i;cases g:oZ t[0]
    ·rw[g]at f;(have r:Lib.indexByte [40,41,44,46,60,61,43,45,42] t[0]<0:=by simpa using f.symm);(have p:O (gJ t.data.toList=0):=by have :=d.o;rw[g]at this;exact this);clear d f g
     go_enter Tryz.func297,Tryz.ntmps297
     go_wp2;refine nF 4 ?_;rw[rounds_succ];go_wp2_with(go_at_call 299;refine(Tryz.strings_HasPrefix _ _ _).mono ?_;rintro e b ⟨rfl,rfl⟩);rw[rounds_succ];go_wp2_with(go_at_call 299;refine(Tryz.strings_HasPrefix _ _ _).mono ?_;rintro e b ⟨rfl,rfl⟩);rw[rounds_succ];go_wp2_with(go_at_call 299;refine(Tryz.strings_HasPrefix _ _ _).mono ?_;rintro e b ⟨rfl,rfl⟩);rw[rounds_succ];go_wp2_with fail;refine(Tryz.strings_IndexByte _ _ _).mono ?_;rintro e b ⟨j,rfl⟩;rw[k]at j;subst j;go_wp2;go_ret;exact⟨DN (by rw[p.o];rfl),rfl⟩
    rw[g]at f;(have r:0<=Lib.indexByte [40,41,44,46,60,61,43,45,42] t[0]:=by simpa using f.symm);(have p:O (gJ t.data.toList=1):=by have :=d.o;rw[g]at this;exact this);clear d f g
    go_enter Tryz.func297,Tryz.ntmps297
    go_wp2;refine nF 4 ?_;rw[rounds_succ];go_wp2_with(go_at_call 299;refine(Tryz.strings_HasPrefix _ _ _).mono ?_;rintro e b ⟨rfl,rfl⟩);rw[rounds_succ];go_wp2_with(go_at_call 299;refine(Tryz.strings_HasPrefix _ _ _).mono ?_;rintro e b ⟨rfl,rfl⟩);rw[rounds_succ];go_wp2_with(go_at_call 299;refine(Tryz.strings_HasPrefix _ _ _).mono ?_;rintro e b ⟨rfl,rfl⟩);rw[rounds_succ];go_wp2_with fail;refine(Tryz.strings_IndexByte _ _ _).mono ?_;rintro e b ⟨j,rfl⟩;rw[k]at j;subst j;go_wp2;go_ret;exact⟨DN (by rw[p.o];rfl),rfl⟩
   (have d:O (gJ t.data.toList=2):=by rw[Lib.hasPrefix]at n;simp[O,gJ,n]);clear i f k
   go_enter Tryz.func297,Tryz.ntmps297
   go_wp2;refine nF 4 ?_;rw[rounds_succ];go_wp2_with(go_at_call 299;refine(Tryz.strings_HasPrefix _ _ _).mono ?_;rintro e b ⟨rfl,rfl⟩);rw[rounds_succ];go_wp2_with(go_at_call 299;refine(Tryz.strings_HasPrefix _ _ _).mono ?_;rintro e b ⟨rfl,rfl⟩);rw[rounds_succ];go_wp2_with(go_at_call 299;refine(Tryz.strings_HasPrefix _ _ _).mono ?_;rintro e b ⟨rfl,rfl⟩);go_ret;exact⟨DN (by rw[d.o];rfl),rfl⟩
  (have d:O (gJ t.data.toList=2):=by rw[Lib.hasPrefix]at m;simp[O,gJ,m]);clear i f k
  go_enter Tryz.func297,Tryz.ntmps297
  go_wp2;refine nF 4 ?_;rw[rounds_succ];go_wp2_with(go_at_call 299;refine(Tryz.strings_HasPrefix _ _ _).mono ?_;rintro e b ⟨rfl,rfl⟩);rw[rounds_succ];go_wp2_with(go_at_call 299;refine(Tryz.strings_HasPrefix _ _ _).mono ?_;rintro e b ⟨rfl,rfl⟩);go_ret;exact⟨DN (by rw[d.o];rfl),rfl⟩
 (have d:O (gJ t.data.toList=2):=by rw[Lib.hasPrefix]at l;simp[O,gJ,l]);clear i f k
 go_enter Tryz.func297,Tryz.ntmps297
 go_wp2;refine nF 4 ?_;rw[rounds_succ];go_wp2_with(go_at_call 299;refine(Tryz.strings_HasPrefix _ _ _).mono ?_;rintro e b ⟨rfl,rfl⟩);go_ret;exact⟨DN (by rw[d.o];rfl),rfl⟩
theorem bFC(s:ByteArray)(b:Nat)(w:World)(_hs:s.size<=281474976710656)(i:b<s.size)(d:gJ (s.data.toList.drop b)=0):
 Calls Tryz.prog 294 #[.string s, .int .i64 b] w fun e g=>e=Zc b 1/\Below w.heap.size w g:=by
 have f:O (gJ (s.data.toList.drop b)=0):=d;clear d
 go_enter Tryz.func294,Tryz.ntmps294
 go_wp2_with fail;refine(XH _ _ sO).mono ?_;rintro e j ⟨c,rfl⟩;rw[Lib.extract_to_end,f.o]at c;subst c;go_wp2_with fail;exact⟨rfl,rfl,(aG _ _).alloc (aH _) _⟩
theorem bB0(s:ByteArray)(b:Nat)(w:World)(k:s.size<=281474976710656)(C:b<s.size)(F:0<gJ (s.data.toList.drop b)):
 Calls Tryz.prog 294 #[.string s, .int .i64 b] w fun e l=>e=.returned (.agg #[.int .i64 4, .int .i64 b, .string (s.extract b (b+gJ (s.data.toList.drop b)))])/\Below w.heap.size w l:=by
 (have E:b+gJ (s.data.toList.drop b)<=s.size:=by have u:=ZP (s.data.toList.drop b);(have x:(s.data.toList.drop b).length=s.size-b:=by simp);omega);generalize d:gJ (s.data.toList.drop b)=n at *;have g:O (gJ (s.data.toList.drop b)=n):=d;clear d;have D:((n:Int)==0)=false:=by simp;omega
 go_enter Tryz.func294,Tryz.ntmps294
 go_wp2_with fail;refine(XH _ _ sO).mono ?_;rintro e m ⟨c,rfl⟩;rw[Lib.extract_to_end,g.o]at c;subst c;go_wp2_with fail;refine(Tj s _ _ 4 _ k oM oM oM).mono ?_;rintro e m ⟨c,f⟩;rw[KP]at c;subst c;obtain⟨⟨c0,i,j⟩,p,q,r⟩:=KQ f;go_wp2;exact dP (v:=.agg #[.int .i64 4, .int .i64 b, .string (s.extract b (b+n))]) (by simp[results,Tryz.results294,go_sem,c0,i,j]) rfl ⟨rfl,CH f _ _ _⟩
theorem CJ(s:ByteArray)(a:Nat)(h:a<s.size):s.data.toList.drop a=s[a]::s.data.toList.drop (a+1):=CC s.data.toList a (by simpa using h)
theorem Hz(s:ByteArray)(a n:Nat):s.extract a (a+n)=⟨((s.data.toList.drop a).take n).toArray⟩:=by rw[Lib.extract_eq,yG]
abbrev aIO(t:gK):Value:=.agg #[.int .i64 t.kind, .int .i64 t.at_, .string ⟨t.text.toArray⟩]
theorem SF(c:UInt8)(r:List UInt8):nA (c::r)=if kH c.toNat||kW c.toNat then(if bB fD (c::r)>12 then 2 else 0)
 else if eK c.toNat then(if bB eK (c::r)>7 then 2 else if(c.toNat:Int)=48/\bB eK (c::r)>1 then 1 else 0)
 else if gJ (c::r)=0 then 1 else 0:=rfl
theorem OA(c:UInt8)(r:List UInt8):pA (c::r)=if kH c.toNat then 1 else if kW c.toNat then 2 else if eK c.toNat then 3 else 4:=rfl
theorem SK(c:UInt8)(r:List UInt8):fC (c::r)=if kH c.toNat||kW c.toNat then bB fD (c::r)else if eK c.toNat then bB eK (c::r)else gJ (c::r):=rfl
theorem MF{w w1:World}(b:Below (w.alloc Dd).heap.size (w.alloc Dd) w1):Below w.heap.size w w1:=
 ((aG _ _).alloc (aH _) _).trans (b.mono sI)
theorem aSL(s:ByteArray)(b:Nat)(w:World)(j:s.size<=281474976710656)(m:b<s.size)(i:¬nA (s.data.toList.drop b)=0):
 Calls Tryz.prog 286 #[.string s, .int .i64 b] w fun e d=>e=Zc b (nA (s.data.toList.drop b))/\Below w.heap.size w d:=by
 have r:=CJ s b m
 have c:nA (s.data.toList.drop b)=if kH s[b].toNat||kW s[b].toNat then(if bB fD (s.data.toList.drop b)>12 then 2 else 0)
  else if eK s[b].toNat then(if bB eK (s.data.toList.drop b)>7 then 2 else if(s[b].toNat:Int)=48/\bB eK (s.data.toList.drop b)>1 then 1 else 0)
  else if gJ (s.data.toList.drop b)=0 then 1 else 0:=by
  rw[r];exact SF _ _
 clear r;cases l:kH (s[b].toNat:Int)
 ·cases p:kW (s[b].toNat:Int)
  ·cases q:eK (s[b].toNat:Int)
   ·rw[l,p,q]at c;simp only[Bool.or_self,Bool.false_eq_true,if_false]at c;have f:gJ (s.data.toList.drop b)=0:=by
     by_cases h:gJ (s.data.toList.drop b)=0
     ·exact h
     rw[if_neg h]at c;exact absurd c i
    rw[if_pos f]at c;rw[c];have k:O (gJ (s.data.toList.drop b)=0):=f;clear c i f
    go_enter Tryz.func286,Tryz.ntmps286
    go_wp2_with(first|(go_at_call 289;refine(tL _ _).mono ?_;rintro e d ⟨rfl,rfl⟩)|(go_at_call 291;refine(tK _ _).mono ?_;rintro e d ⟨rfl,rfl⟩)|(go_at_call 292;refine(pP _ _).mono ?_;rintro e d ⟨rfl,rfl⟩)|(go_at_call 294;refine(bFC s b _ j m k.o).mono ?_;rintro e n ⟨rfl,g⟩));exact⟨rfl,rfl,MF g⟩
   rw[l,p,q]at c;simp only[Bool.or_self,Bool.false_eq_true,if_false,if_true]at c;by_cases h:bB eK (s.data.toList.drop b)>7
   ·rw[if_pos h]at c;rw[c];clear c i
    go_enter Tryz.func286,Tryz.ntmps286
    go_wp2_with(first|(go_at_call 289;refine(tL _ _).mono ?_;rintro e d ⟨rfl,rfl⟩)|(go_at_call 291;refine(tK _ _).mono ?_;rintro e d ⟨rfl,rfl⟩)|(go_at_call 292;refine(pP _ _).mono ?_;rintro e d ⟨rfl,rfl⟩)|(go_at_call 293;refine(aMN s b _ j m h).mono ?_;rintro e n ⟨rfl,g⟩));exact⟨rfl,rfl,MF g⟩
   rw[if_neg h]at c;have f:(s[b].toNat:Int)=48/\bB eK (s.data.toList.drop b)>1:=by
    by_cases h:(s[b].toNat:Int)=48/\bB eK (s.data.toList.drop b)>1
    ·exact h
    rw[if_neg h]at c;exact absurd c i
   rw[if_pos f]at c;rw[c];have k:O ((s[b].toNat:Int)=48/\bB eK (s.data.toList.drop b)>1):=f;clear c i f
   go_enter Tryz.func286,Tryz.ntmps286
   go_wp2_with(first|(go_at_call 289;refine(tL _ _).mono ?_;rintro e d ⟨rfl,rfl⟩)|(go_at_call 291;refine(tK _ _).mono ?_;rintro e d ⟨rfl,rfl⟩)|(go_at_call 292;refine(pP _ _).mono ?_;rintro e d ⟨rfl,rfl⟩)|(go_at_call 293;refine(aMM s b _ j m oM k.o.2 (nQ.2 k.o.1)).mono ?_;rintro e n ⟨rfl,g⟩));exact⟨rfl,rfl,MF g⟩
  rw[l,p]at c;simp only[Bool.or_true,if_true]at c;have f:12<bB fD (s.data.toList.drop b):=by
   by_cases h:bB fD (s.data.toList.drop b)>12
   ·exact h
   rw[if_neg h]at c;exact absurd c i
  rw[if_pos f]at c;rw[c];clear c i
  go_enter Tryz.func286,Tryz.ntmps286
  go_wp2_with(first|(go_at_call 289;refine(tL _ _).mono ?_;rintro e d ⟨rfl,rfl⟩)|(go_at_call 291;refine(tK _ _).mono ?_;rintro e d ⟨rfl,rfl⟩)|(go_at_call 292;refine(pP _ _).mono ?_;rintro e d ⟨rfl,rfl⟩)|(go_at_call 290;refine(aTW s b 2 _ j oM f).mono ?_;rintro e n ⟨rfl,g⟩));exact⟨rfl,rfl,MF g⟩
 rw[l]at c;simp only[Bool.true_or,if_true]at c;have f:12<bB fD (s.data.toList.drop b):=by
  by_cases h:bB fD (s.data.toList.drop b)>12
  ·exact h
  rw[if_neg h]at c;exact absurd c i
 rw[if_pos f]at c;rw[c];clear c i
 go_enter Tryz.func286,Tryz.ntmps286
 go_wp2_with(first|(go_at_call 289;refine(tL _ _).mono ?_;rintro e d ⟨rfl,rfl⟩)|(go_at_call 291;refine(tK _ _).mono ?_;rintro e d ⟨rfl,rfl⟩)|(go_at_call 292;refine(pP _ _).mono ?_;rintro e d ⟨rfl,rfl⟩)|(go_at_call 290;refine(aTW s b 1 _ j oM f).mono ?_;rintro e n ⟨rfl,g⟩));exact⟨rfl,rfl,MF g⟩
theorem bE5{k b a:Int}{s:ByteArray}{n c:Nat}{p:Nat}(d:k=b)(f:n=c)(l:List UInt8)(e:l=s.data.toList.drop p):
 Ending.returned (.agg #[.int .i64 k, .int .i64 a, .string (s.extract p (p+n))])=.returned (.agg #[.int .i64 b, .int .i64 a, .string ⟨(l.take c).toArray⟩]):=by
 subst d f e;rw[Hz]
theorem aNO(s:ByteArray)(b:Nat)(w:World)(u:s.size<=281474976710656)(F:b<s.size)(I:nA (s.data.toList.drop b)=0):
 Calls Tryz.prog 286 #[.string s, .int .i64 b] w fun e g=>e=.returned (aIO (sW s.data.toList b))/\Below w.heap.size w g:=by
 have r:=CJ s b F
 have c:nA (s.data.toList.drop b)=if kH s[b].toNat||kW s[b].toNat then(if bB fD (s.data.toList.drop b)>12 then 2 else 0)
  else if eK s[b].toNat then(if bB eK (s.data.toList.drop b)>7 then 2 else if(s[b].toNat:Int)=48/\bB eK (s.data.toList.drop b)>1 then 1 else 0)
  else if gJ (s.data.toList.drop b)=0 then 1 else 0:=by
  rw[r];exact SF _ _
 (have d:pA (s.data.toList.drop b)=if kH s[b].toNat then 1 else if kW s[b].toNat then 2 else if eK s[b].toNat then 3 else 4:=by rw[r];exact OA _ _);(have f:fC (s.data.toList.drop b)=if kH s[b].toNat||kW s[b].toNat then bB fD (s.data.toList.drop b)else if eK s[b].toNat then bB eK (s.data.toList.drop b)else gJ (s.data.toList.drop b):=by rw[r];exact SK _ _);(rw[I]at c;clear r I;have HV:O (∀(k:Int)(n:Nat),k=pA (s.data.toList.drop b)->n=fC (s.data.toList.drop b)->Ending.returned (.agg #[.int .i64 k, .int .i64 b, .string (s.extract b (b+n))])=.returned (aIO (sW s.data.toList b))):=by intro k n L j;exact bE5 L j _ rfl);generalize aIO (sW s.data.toList b)=V at *;cases q:kH (s[b].toNat:Int)
 ·cases E:kW (s[b].toNat:Int)
  ·cases H:eK (s[b].toNat:Int)
   ·rw[q,E,H]at c d f;simp only[Bool.or_self,Bool.false_eq_true,if_false]at c d f;have j:0<gJ (s.data.toList.drop b):=by
     by_cases h:gJ (s.data.toList.drop b)=0
     ·rw[if_pos h]at c;exact absurd c dE
     omega
    have l:O (_=_):=HV.o 4 (gJ (s.data.toList.drop b)) d.symm f.symm;clear c d f HV
    go_enter Tryz.func286,Tryz.ntmps286
    go_wp2_with(first|(go_at_call 289;refine(tL _ _).mono ?_;rintro e g ⟨rfl,rfl⟩)|(go_at_call 291;refine(tK _ _).mono ?_;rintro e g ⟨rfl,rfl⟩)|(go_at_call 292;refine(pP _ _).mono ?_;rintro e g ⟨rfl,rfl⟩)|(go_at_call 294;refine(bB0 s b _ u F j).mono ?_;rintro e G ⟨rfl,i⟩;obtain⟨⟨c0,m,p⟩,x,C,D⟩:=KQ i));exact dP (v:=.agg #[.int .i64 4, .int .i64 b, .string (s.extract b (b+gJ (s.data.toList.drop b)))]) (by simp[results,Tryz.results286,go_sem,c0,m,p]) rfl ⟨l.o,CH i _ _ _⟩
   rw[q,E,H]at c d f;simp only[Bool.or_self,Bool.false_eq_true,if_false,if_true]at c d f;have M:bB eK (s.data.toList.drop b)<=7:=by
    by_cases h:bB eK (s.data.toList.drop b)>7
    ·rw[if_pos h]at c;exact absurd c dE
    omega
   have j:((s[b].toNat:Int)==48)=false\/bB eK (s.data.toList.drop b)<=1:=by
    rw[if_neg oM]at c;by_cases h:(s[b].toNat:Int)=48/\bB eK (s.data.toList.drop b)>1
    ·rw[if_pos h]at c;exact absurd c dE
    by_cases K:(s[b].toNat:Int)=48
    ·exact .inr oM
    exact .inl (gT.2 K)
   have J:O (((s[b].toNat:Int)==48)=false\/bB eK (s.data.toList.drop b)<=1):=j;have l:O (_=_):=HV.o 3 (bB eK (s.data.toList.drop b)) d.symm f.symm;clear c d f HV j
   go_enter Tryz.func286,Tryz.ntmps286
   go_wp2_with(first|(go_at_call 289;refine(tL _ _).mono ?_;rintro e g ⟨rfl,rfl⟩)|(go_at_call 291;refine(tK _ _).mono ?_;rintro e g ⟨rfl,rfl⟩)|(go_at_call 292;refine(pP _ _).mono ?_;rintro e g ⟨rfl,rfl⟩)|(go_at_call 293;refine(aRN s b _ u F M J.o).mono ?_;rintro e G ⟨rfl,i⟩;obtain⟨⟨c0,m,p⟩,x,C,D⟩:=KQ i));exact dP (v:=.agg #[.int .i64 3, .int .i64 b, .string (s.extract b (b+bB eK (s.data.toList.drop b)))]) (by simp[results,Tryz.results286,go_sem,c0,m,p]) rfl ⟨l.o,CH i _ _ _⟩
  rw[q,E]at c d f;simp only[Bool.or_true,Bool.false_eq_true,if_false,if_true]at c d f;have j:bB fD (s.data.toList.drop b)<=12:=by
   by_cases h:bB fD (s.data.toList.drop b)>12
   ·rw[if_pos h]at c;exact absurd c dE
   omega
  have l:O (_=_):=HV.o 2 (bB fD (s.data.toList.drop b)) d.symm f.symm;clear c d f HV
  go_enter Tryz.func286,Tryz.ntmps286
  go_wp2_with(first|(go_at_call 289;refine(tL _ _).mono ?_;rintro e g ⟨rfl,rfl⟩)|(go_at_call 291;refine(tK _ _).mono ?_;rintro e g ⟨rfl,rfl⟩)|(go_at_call 292;refine(pP _ _).mono ?_;rintro e g ⟨rfl,rfl⟩)|(go_at_call 290;refine(aOL s b 2 _ u oM j).mono ?_;rintro e G ⟨rfl,i⟩;obtain⟨⟨c0,m,p⟩,x,C,D⟩:=KQ i));exact dP (v:=.agg #[.int .i64 2, .int .i64 b, .string (s.extract b (b+bB fD (s.data.toList.drop b)))]) (by simp[results,Tryz.results286,go_sem,c0,m,p]) rfl ⟨l.o,CH i _ _ _⟩
 rw[q]at c d f;simp only[Bool.true_or,if_true]at c d f;have j:bB fD (s.data.toList.drop b)<=12:=by
  by_cases h:bB fD (s.data.toList.drop b)>12
  ·rw[if_pos h]at c;exact absurd c dE
  omega
 have l:O (_=_):=HV.o 1 (bB fD (s.data.toList.drop b)) d.symm f.symm;clear c d f HV
 go_enter Tryz.func286,Tryz.ntmps286
 go_wp2_with(first|(go_at_call 289;refine(tL _ _).mono ?_;rintro e g ⟨rfl,rfl⟩)|(go_at_call 291;refine(tK _ _).mono ?_;rintro e g ⟨rfl,rfl⟩)|(go_at_call 292;refine(pP _ _).mono ?_;rintro e g ⟨rfl,rfl⟩)|(go_at_call 290;refine(aOL s b 1 _ u oM j).mono ?_;rintro e G ⟨rfl,i⟩;obtain⟨⟨c0,m,p⟩,x,C,D⟩:=KQ i));exact dP (v:=.agg #[.int .i64 1, .int .i64 b, .string (s.extract b (b+bB fD (s.data.toList.drop b)))]) (by simp[results,Tryz.results286,go_sem,c0,m,p]) rfl ⟨l.o,CH i _ _ _⟩
theorem aXV(s:ByteArray)(k:Nat)(h:k<s.size)(b:(s[k].toNat:Int)=32\/(s[k].toNat:Int)=9\/(s[k].toNat:Int)=10):
 kK false (s.data.toList.drop k)=kK false (s.data.toList.drop (k+1))+1:=by
 rw[CJ s k h,kK,if_neg oM,if_pos b]
theorem bBX(s:ByteArray)(k:Nat)(h:k<s.size)(h1:¬(s[k].toNat:Int)=37)(b:¬((s[k].toNat:Int)=32\/(s[k].toNat:Int)=9\/(s[k].toNat:Int)=10)):
 kK false (s.data.toList.drop k)=0:=by
 rw[CJ s k h,kK,if_neg h1,if_neg b]
theorem bFA(b:Bool)(s:ByteArray)(k:Nat)(h:s.size<=k):kK b (s.data.toList.drop k)=0:=by rw[bG (by simpa using h)];cases b<;>rfl
theorem bFB(s:ByteArray)(k:Nat)(h:k<s.size)(h1:(s[k].toNat:Int)=37):
 kK false (s.data.toList.drop k)=bB tV (s.data.toList.drop k)+kK false (s.data.toList.drop (k+bB tV (s.data.toList.drop k)))/\1<=bB tV (s.data.toList.drop k):=by
 (have c:bB tV (s.data.toList.drop k)=bB tV (s.data.toList.drop (k+1))+1:=by rw[CJ s k h,bB,if_pos (by rw[tV,h1];rfl)]);refine⟨?_,oM⟩;(have b:kK false (s.data.toList.drop k)=kK true (s.data.toList.drop (k+1))+1:=by rw[CJ s k h,kK,if_pos h1]);rw[b,aKQ,Dv,c,show k+(bB tV (s.data.toList.drop (k+1))+1)=k+1+bB tV (s.data.toList.drop (k+1))from by omega];omega
theorem aAK(b:Bool)(s:ByteArray)(a:Nat)(h:a<=s.size):a+kK b (s.data.toList.drop a)<=s.size:=by have c:=XT b (s.data.toList.drop a);(have d:(s.data.toList.drop a).length=s.size-a:=by simp);omega
theorem aNL(s:ByteArray)(b:Nat)(w:World)(J:s.size<=281474976710656)(E:b<=s.size):
 Calls Tryz.prog 285 #[.string s, .int .i64 b] w fun e C=>e=.returned (.int .i64 ((b+kK false (s.data.toList.drop b):Nat):Int))/\C=w:=by
 go_enter Tryz.func285,Tryz.ntmps285
 go_wp2;go_loop [1] (fun i=>∃k:Nat,k<=s.size/\i=.int .i64 k/\b+kK false (s.data.toList.drop b)=k+kK false (s.data.toList.drop k)) (fun i=>s.size-(intOf i).toNat);case atStart=>exact⟨b,E,rfl,rfl⟩
 case round=>
  obtain⟨k,q,rfl,r⟩:=hrel;have HK:O (b+kK false (s.data.toList.drop b)=k+kK false (s.data.toList.drop k)):=r;clear r;by_cases n:k<s.size
  ·by_cases c:(s[k].toNat:Int)=32\/(s[k].toNat:Int)=9\/(s[k].toNat:Int)=10
   ·have d:O (kK false (s.data.toList.drop k)=kK false (s.data.toList.drop (k+1))+1):=aXV s k n c;(have p:O (b+kK false (s.data.toList.drop b)=(k+1)+kK false (s.data.toList.drop (k+1))):=by have l:=HK.o;have m:=d.o;show _=_;omega);clear d HK;by_cases g:(s[k].toNat:Int)=32
    ·have u:((s[k].toNat:Int)==32)=true:=nQ.2 g;clear g c;go_wp2;go_round;(case rel=>exact⟨k+1,oM,gN,p.o⟩);case measure=>exact mI
    have u:((s[k].toNat:Int)==32)=false:=gT.2 g;by_cases j:(s[k].toNat:Int)=9
    ·have x:((s[k].toNat:Int)==9)=true:=nQ.2 j;clear g j c;go_wp2;go_round;(case rel=>exact⟨k+1,oM,gN,p.o⟩);case measure=>exact mI
    have x:((s[k].toNat:Int)==9)=false:=gT.2 j;have G:((s[k].toNat:Int)==10)=true:=nQ.2 oM;clear g j c;go_wp2;go_round;(case rel=>exact⟨k+1,oM,gN,p.o⟩);case measure=>exact mI
   have u:((s[k].toNat:Int)==32)=false:=gT.2 oM;have x:((s[k].toNat:Int)==9)=false:=gT.2 oM;have G:((s[k].toNat:Int)==10)=false:=gT.2 oM;by_cases f:(s[k].toNat:Int)=37
   ·obtain⟨l,m⟩:=bFB s k n f;have F:=YF tV s k q;(have D:O (b+kK false (s.data.toList.drop b)=(k+bB tV (s.data.toList.drop k))+kK false (s.data.toList.drop (k+bB tV (s.data.toList.drop k)))):=by have I:=HK.o;show _=_;omega);have H:((s[k].toNat:Int)==37)=true:=nQ.2 f;clear l HK c f;go_wp2_with(go_at_call 287;refine(SP 288 tV bBK aWF s k _ (by unfold maxLen;omega) q).mono ?_;rintro e C ⟨rfl,rfl⟩);go_round;(case rel=>exact⟨k+bB tV (s.data.toList.drop k),F,gN,D.o⟩);case measure=>exact mI
   have d:O (kK false (s.data.toList.drop k)=0):=bBX s k n f c;have H:((s[k].toNat:Int)==37)=false:=gT.2 f;clear c f;go_wp2;go_ret;exact⟨DN (by have l:=HK.o;have m:=d.o;omega),rfl⟩
  have d:O (kK false (s.data.toList.drop k)=0):=bFA false s k oM;go_wp2;go_ret;exact⟨DN (by have l:=HK.o;have m:=d.o;omega),rfl⟩
theorem aQB(c b:Addr)(w:World):
 CallsD Tryz.prog 284 #[.pointer (some c), .pointer (some b)] .returning w fun e f g=>e=.returned (.tuple #[])/\f=.returning/\g=w:=by
 refine callsD_of_wpS Tryz.func284 rfl fun j i d=>?_;apply wpS_seq;apply wpS_region;simp[wpOpsS,go_sem,recoverD,d,Tryz.ntmps284,Exit.thenS];refine wpS_of_wp ?_;rw[show(#[Value.pointer (some c),Value.pointer (some b)]++((Array.replicate 6 undef).setIfInBounds 1 Value.nilIface).setIfInBounds 0 Value.nilIface)=#[.pointer (some c), .pointer (some b), .nilIface, .nilIface,undef,undef,undef,undef] from rfl];go_wp2;refine⟨rfl, .returning,?_, .tuple #[],?_,rfl,rfl,rfl⟩
 ·rw[<-d]
 simp[results,Tryz.results284]
theorem Sg(d b B:Nat)(r i j:Value)(a c:Int)(g:List PanicEntry)(w:World)
 (n:w.cell? ⟨d,0,none⟩=some r) (E:w.frozen? ⟨d,0,none⟩=false) (l:w.cell? ⟨b,0,none⟩=some i) (m:w.cell? ⟨b,1,none⟩=some j)
 (C:w.frozen? ⟨b,0,none⟩=false) (D:w.frozen? ⟨b,1,none⟩=false) (k:B<=d) (F:d<b):
 CallsD Tryz.prog 284 #[.pointer (some ⟨d,0,none⟩), .pointer (some ⟨b,0,none⟩)] (.panicking ({v:=.iface 323 (.agg #[.int .i64 a, .int .i64 c]),recovered:=false}::g)) w fun e s f=>
  e=.returned (.tuple #[])/\s=.panicking ({v:=.iface 323 (.agg #[.int .i64 a, .int .i64 c]),recovered:=true}::g)/\
  f.cell? ⟨d,0,none⟩=some (.slice none 0 0)/\f.cell? ⟨b,0,none⟩=some (.int .i64 a)/\f.cell? ⟨b,1,none⟩=some (.int .i64 c)/\Below B w f:=by
 have I:∀w:World,(Instr.typeAssert (.iface 323 (.agg #[.int .i64 a, .int .i64 c])) 20 323 false).run Tryz.prog w=.ok (.agg #[.int .i64 a, .int .i64 c]) w:=fun _=>kR;refine callsD_of_wpS Tryz.func284 rfl fun x u q=>?_;apply wpS_seq;apply wpS_region;simp[wpOpsS,go_sem,recoverD,q,Tryz.ntmps284,Exit.thenS];refine wpS_of_wp ?_
 rw[show(#[Value.pointer (some {block:=d,off:=0}),Value.pointer (some {block:=b,off:=0})]++
  ((Array.replicate 6 undef).setIfInBounds 1
   (Value.iface 323 (Value.agg #[Value.int IntKind.i64 a,Value.int IntKind.i64 c]))).setIfInBounds
   0 (Value.iface 323 (Value.agg #[Value.int IntKind.i64 a,Value.int IntKind.i64 c])))=#[Value.pointer (some {block:=d,off:=0}),Value.pointer (some {block:=b,off:=0}),(Value.iface 323 (Value.agg #[Value.int IntKind.i64 a,Value.int IntKind.i64 c])),(Value.iface 323 (Value.agg #[Value.int IntKind.i64 a,Value.int IntKind.i64 c])),undef,undef,undef,undef] from rfl]
 go_wp2;go_region;have G:¬d=b:=oM;have H:¬b=d:=oM;refine⟨rfl,_,rfl, .tuple #[],?_,rfl,rfl,?_,?_,?_,?_⟩
 ·simp[results,Tryz.results284]
 ·simp[go_sem,n]
 ·simp[go_sem,l]
 ·simp[go_sem,m]
 exact((((aG _ _).setCell (p:=⟨d,0,none⟩) k _).setCell (p:=⟨b,0,none⟩) (show B<=b by omega) _).setCell (p:=⟨b,1,none⟩) (show B<=b by omega) _).drew
def xY (t : gK) : List Value := [.int .i64 t.kind, .int .i64 t.at_, .string ⟨t.text.toArray⟩]
def sX (l : List gK) : List Value := l.flatMap xY
theorem ZR (l : List gK) (t : gK) : sX (l ++ [t]) = sX l ++ xY t := by simp [sX]
theorem Sf (l : List gK) : (sX l).length = l.length * 3 := by
  induction l with
  | nil => rfl
  | cons t r b => simp only [sX, List.flatMap_cons, List.length_append] at b ⊢; rw [b]; simp [xY]; omega
theorem bO {w w' : World} {base : Nat} {e : TypeId} {size : Nat} {v : Value} {n : Nat} {xs : List Value} (h : w.ownsRow base e size v n xs) (i : Below w.heap.size w w') : w'.ownsRow base e size v n xs := by
  obtain ⟨f, b⟩ := h
  refine ⟨f, ?_⟩
  rcases b with b | ⟨g, cap, d, l, j, c, r⟩
  · exact .inl b
  · refine .inr ⟨g, cap, d, l, j, ?_, r⟩
    have k : g < w.heap.size := by
      rcases lP g w.heap.size with h | h
      · exact h
      · rw [zC h] at c; cases c
    rw [i.block g k]; exact c
theorem bR {w : World} {base : Nat} {e : TypeId} {size : Nat} {v : Value} {n : Nat} {xs : List Value} (h : w.ownsRow base e size v n xs) : ∃ c cap, v = .slice c n cap := by
  rcases h.2 with ⟨b, d⟩ | ⟨g, cap, f, b, _⟩
  · exact ⟨none, 0, by rw [b, d]⟩
  · exact ⟨_, _, b⟩
structure FG (N : Nat) (w wr : World) (v : Value) (acc : List gK) : Prop where
  cl : wr.cell? ⟨N, 0, none⟩ = some v
  own : wr.ownsRow (N + 2) 286 3 v acc.length (sX acc)
  fl : wr.frozen? ⟨N, 0, none⟩ = false
  g0 : wr.cell? ⟨N + 1, 0, none⟩ = some (.int .i64 0)
  g1 : wr.cell? ⟨N + 1, 1, none⟩ = some (.int .i64 0)
  f0 : wr.frozen? ⟨N + 1, 0, none⟩ = false
  f1 : wr.frozen? ⟨N + 1, 1, none⟩ = false
  d : Below N w wr
  size : N + 2 <= wr.heap.size
theorem FG.z {N : Nat} {w wr w1 : World} {v : Value} {j : List gK} (h : FG N w wr v j) (c : Below wr.heap.size wr w1) : FG N w w1 v j := by
  have l := h.size
  have k : N < wr.heap.size := by omega
  have e : N + 1 < wr.heap.size := by omega
  obtain ⟨f, g⟩ := (⟨fun b o i => c.cell (p := ⟨b, o, none⟩) i, fun b o i => c.frozen (p := ⟨b, o, none⟩) i⟩ : (∀ b o, b < wr.heap.size -> w1.cell? ⟨b, o, none⟩ = wr.cell? ⟨b, o, none⟩) /\ (∀ b o, b < wr.heap.size -> w1.frozen? ⟨b, o, none⟩ = wr.frozen? ⟨b, o, none⟩))
  exact { cl := by rw [f _ _ k]; exact h.cl
          own := bO h.own c
          fl := by rw [g _ _ k]; exact h.fl
          g0 := by rw [f _ _ e]; exact h.g0
          g1 := by rw [f _ _ e]; exact h.g1
          f0 := by rw [g _ _ e]; exact h.f0
          f1 := by rw [g _ _ e]; exact h.f1
          d := h.d.trans (c.mono (by omega))
          size := by have := c.size; omega }
theorem FG.alloc {N : Nat} {w wr : World} {v : Value} {b : List gK} (h : FG N w wr v b) (o : Obj) : FG N w (wr.alloc o) v b :=
  h.z ((aG _ _).alloc (aH _) _)
theorem FG.grown {N : Nat} {w wr w1 : World} {v g : Value} {j acc' : List gK} (h : FG N w wr v j) (hg : wr.grownBy w1 v.ownBlock)
    (m : w1.ownsRow (N + 2) 286 3 g acc'.length (sX acc')) : FG N w (w1.setCell ⟨N, 0, none⟩ g) g acc' := by
  have n := h.size
  have l : ∀ k, k < N + 2 -> some k ≠ v.ownBlock := fun k b e => by
    have := (h.own.lt k e.symm).1
    omega
  have i : ∀ k, k < N + 2 -> w1.heap[k]? = wr.heap[k]? := fun k b => hg.block k (by omega) (l k b)
  have c : ∀ k o, k < N + 2 -> w1.cell? ⟨k, o, none⟩ = wr.cell? ⟨k, o, none⟩ := fun k o b => qI (a := ⟨k, o, none⟩) (i k b)
  have f : ∀ k o, k < N + 2 -> w1.frozen? ⟨k, o, none⟩ = wr.frozen? ⟨k, o, none⟩ := fun k o b => World.frozen?_of_block (a := ⟨k, o, none⟩) (i k b)
  have c0 : w1.cell? ⟨N, 0, none⟩ = some v := by rw [c _ _ (by omega)]; exact h.cl
  exact { cl := by simp [go_sem, c0]
          own := QI m (by simp) _
          fl := by simp [go_sem, f N 0 (by omega), h.fl]
          g0 := by simp [go_sem, c (N + 1) 0 (by omega), h.g0]
          g1 := by simp [go_sem, c (N + 1) 1 (by omega), h.g1]
          f0 := by simp [go_sem, f (N + 1) 0 (by omega), h.f0]
          f1 := by simp [go_sem, f (N + 1) 1 (by omega), h.f1]
          d := (h.d.grown hg (by omega) (fun k b => by have := (h.own.lt k b).1; omega)).setCell (p := ⟨N, 0, none⟩) (aH _) _
          size := by have := hg.size; simp; omega }
theorem FG.after {N : Nat} {w w1 b : World} {v : Value} {f : List gK} {o1 o2 : Obj} (h : FG N w w1 v f) (hg : ((w1.alloc o1).alloc o2).grownBy b v.ownBlock) :
    b.cell? ⟨N, 0, none⟩ = some v /\ b.frozen? ⟨N, 0, none⟩ = false /\ (∀ o, b.cell? ⟨w1.heap.size, o, none⟩ = ((w1.alloc o1).alloc o2).cell? ⟨w1.heap.size, o, none⟩) := by
  have c := (h.alloc o1).alloc o2
  have k := h.size
  have l : ((w1.alloc o1).alloc o2).heap.size = w1.heap.size + 2 := by simp
  have i : some N ≠ v.ownBlock := fun e => by have := (h.own.lt N e.symm).1; omega
  have j : some w1.heap.size ≠ v.ownBlock := fun e => by have := (h.own.lt _ e.symm).2; omega
  have d := hg.block N (by omega) i
  have g := hg.block w1.heap.size (by omega) j
  refine ⟨?_, ?_, fun o => qI (a := ⟨w1.heap.size, o, none⟩) g⟩
  · rw [qI (a := ⟨N, 0, none⟩) d]; exact c.cl
  · rw [World.frozen?_of_block (a := ⟨N, 0, none⟩) d]; exact c.fl
theorem aH1 {w : World} {base base' : Nat} {e : TypeId} {size : Nat} {v : Value} {n : Nat} {xs : List Value} (h : w.ownsRow base e size v n xs) (i : base' <= base) : w.ownsRow base' e size v n xs := by
  obtain ⟨d, b⟩ := h
  refine ⟨d, ?_⟩
  rcases b with b | ⟨g, cap, c, f, j, r⟩
  · exact .inl b
  · exact .inr ⟨g, cap, c, f, by omega, r⟩
theorem FG.start (w : World) : FG w.heap.size w ((w.alloc (.cells #[.slice none 0 0] 287)).alloc (.cells #[.int .i64 0, .int .i64 0] 323)) (.slice none 0 0) [] where
  cl := by simp [go_sem, World.cell?_alloc_past]
  own := eS _ _ _ _
  fl := by simp [go_sem]
  g0 := by simp [go_sem]
  g1 := by simp [go_sem]
  f0 := by simp [go_sem]
  f1 := by simp [go_sem]
  d := ((aG _ _).alloc (aH _) _).alloc (by simp) _
  size := by simp
def Hb(L:List UInt8)(w:World)(e:Ending)(w':World):Prop:=
 ∃v,e=.returned (.tuple #[v, .agg #[.int .i64 ((lG L).2.1:Nat), .int .i64 (lG L).2.2]])/\w'.ownsRow w.heap.size 286 3 v (lG L).1.length (sX (lG L).1)/\Below w.heap.size w w'
theorem aAI{w w1:World}{v:Value}{i:List gK}(h:FG w.heap.size w w1 v i)(L:List UInt8)(p:Nat)(c:Int)(b:lG L=([],p,c))(tmps:Array Value)
 (j:tmps[2]?=some (.pointer (some ⟨w.heap.size,0,none⟩))) (k:tmps[3]?=some (.pointer (some ⟨w.heap.size+1,0,none⟩))):
 Leaves Tryz.prog Tryz.f281 tmps (Hb L w) [{target:=.fn (.func 284) #[.pointer (some ⟨w.heap.size,0,none⟩), .pointer (some ⟨w.heap.size+1,0,none⟩)],args:=#[]}]
  (.panicking [{v:=.iface 323 (.agg #[.int .i64 p, .int .i64 c]),recovered:=false}]) w1:=by
 refine leaves_cons (f:=284) (args:=#[.pointer (some ⟨w.heap.size,0,none⟩), .pointer (some ⟨w.heap.size+1,0,none⟩)]) sI (by simp[go_sem]) ?_;refine(Sg w.heap.size (w.heap.size+1) w.heap.size _ _ _ p c [] w1 h.cl h.fl h.g0 h.g1 h.f0 h.f1 (aH _) oM).mono ?_;rintro e s g ⟨rfl,rfl,n,q,r,l⟩;(have m:(results Tryz.f281 tmps).run Tryz.prog g=.ok (.tuple #[.slice none 0 0, .agg #[.int .i64 p, .int .i64 c]]) g:=by simp[results,Tryz.results281,go_sem,j,k,n,q,r]);refine⟨_,m, .slice none 0 0,?_,?_,h.d.trans l⟩
 ·rw[b]
 rw[b];exact eS _ _ _ _
theorem aXS{w wr:World}{v:Value}{b:List gK}(h:FG w.heap.size w wr v b)(L:List UInt8)(c:lG L=(b,0,0))(tmps:Array Value)
 (j:tmps[2]?=some (.pointer (some ⟨w.heap.size,0,none⟩))) (k:tmps[3]?=some (.pointer (some ⟨w.heap.size+1,0,none⟩))):
 Leaves Tryz.prog Tryz.f281 tmps (Hb L w) [{target:=.fn (.func 284) #[.pointer (some ⟨w.heap.size,0,none⟩), .pointer (some ⟨w.heap.size+1,0,none⟩)],args:=#[]}]
  .returning (((wr.setCell ⟨w.heap.size,0,none⟩ v).setCell ⟨w.heap.size+1,0,none⟩ (.int .i64 0)).setCell ⟨w.heap.size+1,1,none⟩ (.int .i64 0)):=by
 refine leaves_cons (f:=284) (args:=#[.pointer (some ⟨w.heap.size,0,none⟩), .pointer (some ⟨w.heap.size+1,0,none⟩)]) sI (by simp[go_sem]) ?_;refine(aQB _ _ _).mono ?_;rintro e m n ⟨rfl,rfl,rfl⟩;have c0:=h.cl;have g:=h.g0;have i:=h.g1
 have l:(results Tryz.f281 tmps).run Tryz.prog (((wr.setCell ⟨w.heap.size,0,none⟩ v).setCell ⟨w.heap.size+1,0,none⟩ (.int .i64 0)).setCell ⟨w.heap.size+1,1,none⟩ (.int .i64 0))=
  .ok (.tuple #[v, .agg #[.int .i64 0, .int .i64 0]]) (((wr.setCell ⟨w.heap.size,0,none⟩ v).setCell ⟨w.heap.size+1,0,none⟩ (.int .i64 0)).setCell ⟨w.heap.size+1,1,none⟩ (.int .i64 0)):=by
  simp[results,Tryz.results281,go_sem,j,k,c0,g,i]
 refine⟨_,l,v,?_,?_,?_⟩
 ·rw[c];rfl
 ·rw[c];exact aH1 (QI (QI (QI h.own sI _) sI _) sI _) oM
 exact((h.d.setCell (p:=⟨w.heap.size,0,none⟩) (aH _) _).setCell (p:=⟨w.heap.size+1,0,none⟩) (tC _) _).setCell (p:=⟨w.heap.size+1,1,none⟩) (tC _) _
theorem aXT(s:ByteArray)(w:World)(c:5000<s.size):Calls Tryz.prog 281 #[.string s] w (Hb s.data.toList w):=by
 have d:∀(b:Fn)(first cap:Array Value)(w:World),(Instr.makeFunc b first cap).run Tryz.prog w=.ok (.func b first cap) w:=fun _ _ _ _=>rfl
 go_enter_defers Tryz.func281,Tryz.ntmps281
 go_wp2_with fail;refine aAI (FG.start w) s.data.toList 0 2 ?_ _ rfl rfl;unfold lG;rw[if_pos (by simpa using c)]
theorem bB1(s:ByteArray)(p n:Nat)(w:World)(c:s.size<=281474976710656)(b:p+n<=s.size):
 Calls Tryz.prog 285 #[.string s, .int .i64 ((p:Int)+(n:Int))] w fun e d=>e=.returned (.int .i64 ((p+n+kK false (s.data.toList.drop (p+n)):Nat):Int))/\d=w:=by
 have h:=aNL s (p+n) w c b;rw[show((p+n:Nat):Int)=(p:Int)+(n:Int)from by omega]at h;exact h
theorem aY6:(Tryz.prog.info? 286).map (fun i=>(i.zero,i.size,i.bytes))=some (some (.agg #[.int .i64 0, .int .i64 0, .string ⟨#[]⟩]),3,32):=kR
theorem aSA(s:ByteArray)(w:World)(Y:s.size<=5000):Calls Tryz.prog 281 #[.string s] w (Hb s.data.toList w):=by
 obtain⟨Z,F,L,M,N⟩:=jY aY6;have a3:∀(D:Fn)(first cap:Array Value)(w:World),(Instr.makeFunc D first cap).run Tryz.prog w=.ok (.func D first cap) w:=fun _ _ _ _=>rfl;have H:=aAK false s 0 oM;rw[iU]at H;have J:=FG.start w
 go_enter_defers Tryz.func281,Tryz.ntmps281
 go_wp2_with fail;refine(aNL s 0 _ oM oM).mono ?_;rintro e n ⟨g,rfl⟩;rw[iU]at g;subst g;go_wp2_with fail
 go_loopw [4] (fun i wr=>∃(f p:Nat)(d:List gK)(v:Value),p<=s.size/\s.size<=p+f/\d.length<=p/\i=.int .i64 p/\pI s.data.toList f p d=lG s.data.toList/\FG w.heap.size w wr v d)
  (fun i _=>s.size-(intOf i).toNat)
 case atStart=>
  refine⟨s.size,kK false s.data.toList,[], .slice none 0 0,oM,oM,bL _,?_,?_,J⟩
  ·go_num
  unfold lG;rw[if_neg (by simpa using Y)];rfl
 case round=>
  obtain⟨f,p,d,v,hp,W,a2,rfl,G,b⟩:=hrel;have m:O (pI s.data.toList f p d=lG s.data.toList):=G;clear G J;obtain⟨Q,cap,rfl⟩:=bR b.own;by_cases l:p<s.size
  ·by_cases g:nA (s.data.toList.drop p)=0
   ·go_wp2_with fail;refine(aNO s p _ oM l g).mono ?_;rintro e n ⟨rfl,q⟩;have k:=b.z q;have hz:=k.size;have c0:∀o,(n.alloc o).cell? ⟨w.heap.size,0,none⟩=some (.slice Q d.length cap):=fun o=>(k.alloc o).cl;have V:=WB (s.data.toList.drop p);have X:=Hh (s.data.toList.drop p) (by rw[CJ s p l];simp) g;(have S:(s.data.toList.drop p).length=s.size-p:=by simp);obtain⟨f,rfl⟩:∃R,f=R+1:=⟨f-1,oM⟩
    have C:O (pI s.data.toList f (p+fC (s.data.toList.drop p)+kK false (s.data.toList.drop (p+fC (s.data.toList.drop p)))) (d++[sW s.data.toList p])=lG s.data.toList):=
     (RX _ _ _ _ (by simpa using l) g).symm.trans m.o
    (have E:(sW s.data.toList p).text.length=fC (s.data.toList.drop p):=by simp only[sW,List.length_take];omega);have I:=aAK false s (p+fC (s.data.toList.drop p)) oM;generalize sW s.data.toList p=T at *;rw[<-E]at C I V X;clear E m H S;go_wp2_with(at_builtin;refine iD _ rfl (.tmp 21) (.tmp 23) 287 rfl (w.heap.size+2) 286 Z _ 3 32 Tryz.underlying287 F L M N rfl dE _ _ _ rfl ((k.alloc _).alloc _).own ⟨n.heap.size+1,0,none⟩ 1 1 (xY T) rfl rfl ?c1 ?c2 ?c3 ?c4 ?c5 ?_)
    case c1=>
     intro j u c
     match j,c with
     |0,c=>simp[xY]at c;subst c;simp[Addr.add,go_sem]
     |1,c=>simp[xY]at c;subst c;simp[Addr.add,go_sem]
     |2,c=>simp[xY]at c;subst c;simp[Addr.add,go_sem]
    (case c2=>intro u K;simp[xY]at K;rcases K with rfl|rfl|rfl<;>rfl);(case c3=>unfold maxLen;omega);(case c4=>omega);(case c5=>simp;omega);intro v' w2 x r _;obtain⟨a0,a1,rfl⟩:=bR x;obtain⟨k1,k2,P⟩:=k.after r;have k4:=P 2;simp[go_sem,World.cell?_alloc_past]at k4;have U:=((k.alloc _).alloc _).grown r (acc':=d++[T]) (by rw[ZR,aV];exact x);clear r x P k b c0 F L M N;go_wp2_with fail;refine(bB1 s p T.text.length _ oM oM).mono ?_;rintro e w3 ⟨rfl,rfl⟩;go_wp2;go_roundw;(case rel=>exact⟨f,_,d++[T],_,I,oM,by rw[aV];simp;omega,gN,C.o,U⟩);case measure=>exact mI
   go_wp2_with fail;refine(aSL s p _ oM l g).mono ?_;rintro e n ⟨rfl,q⟩;go_wp2_with fail;refine aAI (b.z q) s.data.toList p _ ?_ _ rfl rfl;exact m.o.symm.trans (Pj _ _ _ _ (by simpa using l) (by simpa using W) g)
  have c0:=b.cl;have c1:=b.g0;have c2:=b.g1;have fl:=b.fl;have f0:=b.f0;have f1:=b.f1;go_wp2_with fail;exact aXS b s.data.toList (m.o.symm.trans (RW _ _ _ _ sO)) _ rfl rfl
theorem bBW(s:ByteArray)(w:World):Calls Tryz.prog 281 #[.string s] w (Hb s.data.toList w):=by
 by_cases h:5000<s.size
 ·exact aXT s w h
 exact aSA s w oM
theorem aCU{w:World}{base:Nat}{e:TypeId}{size:Nat}{v:Value}{n:Nat}{xs:List Value}(h:w.ownsRow base e size v n xs)(k:Nat):(w.drewN k).ownsRow base e size v n xs:=h
def aTA(L:List UInt8)(w:World)(e:Ending)(w':World):Prop:=
 ∃b cap,e=.returned (.tuple #[.slice b (lG L).1.length cap, .int .i64 ((lG L).2.1:Nat), .int .i64 (lG L).2.2])/\w'.ownsRow w.heap.size 286 3 (.slice b (lG L).1.length cap) (lG L).1.length (sX (lG L).1)/\Below w.heap.size w w'
theorem aZU(s:ByteArray)(w:World):Calls Tryz.prog 274 #[.string s] w (aTA s.data.toList w):=by
 go_enter Tryz.func274,Tryz.ntmps274
 go_wp2_with fail;refine(bBW s _).mono ?_;rintro e f ⟨v,rfl,d,c⟩;obtain⟨b,cap,rfl⟩:=bR d;have i:∀o,(f.alloc o).ownsRow w.heap.size 286 3 (.slice b (lG s.data.toList).1.length cap) (lG s.data.toList).1.length (sX (lG s.data.toList).1):=fun o=>d.alloc o;have j:=c.size;have g:∀o,Below w.heap.size w (f.alloc o):=fun o=>c.alloc j o;go_wp2;go_quiet(fail);go_wp2;go_ret3;exact⟨b,cap,rfl,aCU (i _) _,below_drewN (g _) _⟩


theorem My(c:UInt8)(r:List UInt8):
 (fC (c::r)=0/\nA (c::r)=1)\/
 (1<=fC (c::r)/\(pA (c::r)=1\/pA (c::r)=2)/\12<fC (c::r)/\nA (c::r)=2)\/
 (1<=fC (c::r)/\(pA (c::r)=1\/pA (c::r)=2)/\fC (c::r)<=12/\nA (c::r)=0)\/
 (1<=fC (c::r)/\pA (c::r)=3/\7<fC (c::r)/\nA (c::r)=2)\/
 (1<=fC (c::r)/\pA (c::r)=3/\1<fC (c::r)/\fC (c::r)<=7/\(c.toNat:Int)=48/\nA (c::r)=1)\/
 (1<=fC (c::r)/\pA (c::r)=3/\fC (c::r)<=1/\nA (c::r)=0)\/
 (1<=fC (c::r)/\pA (c::r)=3/\1<fC (c::r)/\fC (c::r)<=7/\¬(c.toNat:Int)=48/\nA (c::r)=0)\/
 (1<=fC (c::r)/\pA (c::r)=4/\nA (c::r)=0):=by
 rw[SK,OA,SF];have j:(kH c.toNat||kW c.toNat)=true->1<=bB fD (c::r):=fun h=>RU (by unfold fD;rw[h];rfl);have m:eK c.toNat=true->1<=bB eK (c::r):=fun h=>RU h;cases f:kH c.toNat
 ·cases k:kW c.toNat
  ·cases l:eK c.toNat
   ·simp only[Bool.or_self,Bool.false_eq_true,if_false];by_cases h:gJ (c::r)=0
    ·exact .inl ⟨h,by rw[if_pos h]⟩
    exact .inr (.inr (.inr (.inr (.inr (.inr (.inr ⟨oM,trivial,by rw[if_neg h]⟩))))))
   have e:=m l;simp only[Bool.or_self,Bool.false_eq_true,if_false,if_true];by_cases h:bB eK (c::r)>7
   ·exact .inr (.inr (.inr (.inl ⟨e,trivial,h,by rw[if_pos h]⟩)))
   by_cases b:bB eK (c::r)>1
   ·by_cases d:(c.toNat:Int)=48
    ·exact .inr (.inr (.inr (.inr (.inl ⟨e,trivial,b,oM,d,by rw[if_neg h,if_pos ⟨d,b⟩]⟩))))
    exact .inr (.inr (.inr (.inr (.inr (.inr (.inl ⟨e,trivial,b,oM,d,by rw[if_neg h,if_neg (fun x=>d x.1)]⟩))))))
   exact .inr (.inr (.inr (.inr (.inr (.inl ⟨e,trivial,oM,by rw[if_neg h,if_neg (fun x=>b x.2)]⟩)))))
  have i:=j (by rw[f,k];rfl);simp only[Bool.or_true,Bool.false_eq_true,if_false,if_true];by_cases h:bB fD (c::r)>12
  ·exact .inr (.inl ⟨i, .inr trivial,h,by rw[if_pos h]⟩)
  exact .inr (.inr (.inl ⟨i, .inr trivial,oM,by rw[if_neg h]⟩))
 have g:=j (by rw[f];rfl);simp only[Bool.true_or,if_true];by_cases h:bB fD (c::r)>12
 ·exact .inr (.inl ⟨g, .inl trivial,h,by rw[if_pos h]⟩)
 exact .inr (.inr (.inl ⟨g, .inl trivial,oM,by rw[if_neg h]⟩))
theorem mF{a b:Bool}(h:a=b):Ending.returned (.bool a)=.returned (.bool b):=by rw[h]
def aZ2(w:World)(b off:Nat)(t:gK):Prop:=
 w.cell? ⟨b,off,none⟩=some (.int .i64 t.kind)/\w.cell? ⟨b,off+1,none⟩=some (.int .i64 t.at_)/\w.cell? ⟨b,off+2,none⟩=some (.string ⟨t.text.toArray⟩)
def zS(l:List gK)(i:Nat):gK:=l.getD i ⟨0,0,[]⟩
theorem aHI:∀(l:List gK)(i j:Nat),i<l.length->j<3->(sX l)[i*3+j]?=(xY (zS l i))[j]?:=by
 intro l
 induction l with
 |nil=>intro i j h;exact absurd h sI
 |cons t r f=>
  intro i j b c;(have e:sX (t::r)=xY t++sX r:=by simp[sX]);have d:(xY t).length=3:=rfl;rw[e]
  cases i with
  |zero=>rw[BR,eP,lB oM];rfl
  |succ i=>
   rw[kS oM,d,show(i+1)*3+j-3=i*3+j from by omega,f i j (by simpa using b) c];rfl
def Xm(w:World)(ao:Option Addr)(l:List gK):Prop:=
 l=[]\/∃b c,ao=some ⟨b,c,none⟩/\∀i,i<l.length->aZ2 w b (c+i*3) (zS l i)
theorem aSM{w:World}{base n:Nat}{ao:Option Addr}{cap:Nat}{l:List gK}(h:w.ownsRow base 286 3 (.slice ao n cap) n (sX l)):Xm w ao l:=by
 rcases h.2 with⟨e,f⟩|⟨g,u,x,e,D,C,r⟩
 ·left;have m:=h.1;rw[f,Sf]at m;exact dQ oM
 right;(have s:ao=some ⟨g,0,none⟩:=by injection e);subst s;refine⟨g,0,rfl,fun i p=>?_⟩;have c:=h.cells (g:=g) rfl;have d:∀j,j<3->(sX l)[i*3+j]?=(xY (zS l i))[j]?:=fun j q=>aHI l i j p q;(have b:∀k,((⟨g,0,none⟩:Addr).add k)=⟨g,0+k,none⟩:=fun _=>by simp[Addr.add];exact fun h=>h.symm);refine⟨?_,?_,?_⟩
 ·have :=c (i*3+0) _ ((d 0 oM).trans rfl);rw[b]at this;simpa using this
 ·have :=c (i*3+1) _ ((d 1 oM).trans rfl);rw[b]at this;simpa[Nat.add_assoc]using this
 have :=c (i*3+2) _ ((d 2 oM).trans rfl);rw[b]at this;simpa[Nat.add_assoc]using this
def JB(k:Int)(t:List UInt8):Bool:=((lG t).2.2==0)&&(((lG t).1.length:Int)==1)&&((zS (lG t).1 0).kind==k)&&((zS (lG t).1 0).text==t)
def oP(k:Int)(t:List UInt8):Bool:=decide (t≠[]/\t.length<=5000/\nA t=0/\pA t=k/\fC t=t.length)
theorem bBY(c:UInt8)(r:List UInt8)(d:nA (c::r)=0):kK false (c::r)=0:=by
 have h:=My c r;have e:¬((c.toNat:Int)=37\/(c.toNat:Int)=32\/(c.toNat:Int)=9\/(c.toNat:Int)=10):=by
  intro b;(have f:kH c.toNat=false:=by unfold kH;rcases b with h|h|h|h<;>rw[h]<;>rfl);(have g:kW c.toNat=false:=by unfold kW;rcases b with h|h|h|h<;>rw[h]<;>rfl);(have i:eK c.toNat=false:=by unfold eK;rcases b with h|h|h|h<;>rw[h]<;>rfl);have j:gJ (c::r)=0:=by
   have l:c.toNat=37\/c.toNat=32\/c.toNat=9\/c.toNat=10:=oM;have k:c=37\/c=32\/c=9\/c=10:=by
    rcases l with h|h|h|h
    ·exact .inl (UInt8.toNat_inj.1 h)
    ·exact .inr (.inl (UInt8.toNat_inj.1 h))
    ·exact .inr (.inr (.inl (UInt8.toNat_inj.1 h)))
    exact .inr (.inr (.inr (UInt8.toNat_inj.1 h)))
   rcases k with rfl|rfl|rfl|rfl<;>simp[gJ,oZ,List.isPrefixOf]
  rw[SF,f,g,i]at d;simp[j]at d
 rw[kK,if_neg (fun h=>e (.inl h)),if_neg (fun h=>e (.inr h))]
theorem aRE(k:Int)(t:List UInt8)(h:oP k t=true):lG t=([{kind:=k,at_:=0,text:=t}],0,0):=by
 have h:=fJ h;obtain⟨d,i,b,e,f⟩:=h
 match t,d with
 |c::r,_=>
  unfold lG;rw[if_neg oM,bBY c r b];have g:(c::r).length=r.length+1:=rfl;rw[g,pI,if_neg sI,iU,if_pos b,RW _ _ _ _ oM];simp only[List.nil_append,sW,List.drop_zero,e,f];rw[nK];rfl
theorem Xz(k:Int)(t:List UInt8)(h:oP k t=true):JB k t=true:=by unfold JB;rw[aRE k t h];simp[zS]
theorem aNJ(L:List UInt8):∀(f p:Nat)(b:List gK),(pI L f p b).2.2=0->∃r,(pI L f p b).1=b++r:=by
 intro f
 induction f with
 |zero=>intro p b _;exact⟨[],by simp[pI]⟩
 |succ f g=>
  intro p b h;rw[pI]at h ⊢;split
  ·exact⟨[],by simp⟩
  rename_i d;rw[if_neg d]at h;split
  ·rename_i c;rw[if_pos c]at h;obtain⟨r,e⟩:=g _ _ h;exact⟨sW L p::r,by rw[e];simp⟩
  rename_i c;rw[if_neg c]at h;exact absurd h c
theorem Zm(k:Int)(t:List UInt8)(h:JB k t=true):oP k t=true:=by
 unfold JB at h;simp only[Bool.and_eq_true,beq_iff_eq]at h;obtain⟨⟨⟨c,i⟩,d⟩,e⟩:=h;have w:t.length<=5000:=by
  by_cases b:5000<t.length
  ·exfalso;rw[lG,if_pos b]at c;exact absurd c dE
  omega
 (have D:lG t=pI t t.length (kK false t) []:=by rw[lG,if_neg oM]);have H:=XT false t;rw[D]at c i d e;generalize G:kK false t=p at *;have g:p<t.length:=by
  rcases lP p t.length with b|b
  ·exact b
  exfalso;rw[RW _ _ _ _ b]at i;exact absurd i dE
 have j:nA (t.drop p)=0:=by
  by_cases b:nA (t.drop p)=0
  ·exact b
  exfalso;rw[Pj _ _ _ _ g oM b]at c;exact b c
 obtain⟨f,u⟩:∃f,t.length=f+1:=⟨t.length-1,oM⟩;rw[u,RX _ _ _ _ g j]at c d e;obtain⟨r,C⟩:=aNJ t _ _ _ c;rw[C]at d e;have m:(sW t p).kind=k:=d;have n:(sW t p).text=t:=e;have q:(t.drop p).take (fC (t.drop p))=t:=n;have l:=congrArg List.length q;rw[dV,xJ]at l;have E:p=0:=oM;subst E;rw[iU]at l j;(have s:pA t=k:=by have :=m;rw[sW,iU]at this;exact this);have F:=WB t;refine aP ⟨?_,w,j,s,oM⟩;intro x;rw[x]at g;exact absurd g sI
theorem aZ7(k:Int)(t:List UInt8):JB k t=oP k t:=by rw[sL];exact⟨Zm k t,Xz k t⟩
end Go.Proofs.YtfljoehbbncooaaGreat
namespace Go.Proofs.YtfljoehbbncooaaGreat
structure gZ where
 var:List UInt8
 n:Int
structure jJ where
 kind:Int
 at_:Int
 op:Int
 name:List UInt8
 v:List gZ
structure lZ where
 at_:Int
 name:List UInt8
 v:List gZ
 h:Int
 body:List jJ
def GP(s:List UInt8):Int:=
 if s==[99,111,117,110,116] then 1 else if s==[115,117,109] then 2 else if s==[108,101,97,115,116] then 3 else if s==[109,111,115,116] then 4 else 0
def GR(s:List UInt8):Bool:=(s==[110,111,116])||(GP s != 0)
def qQ(s:List UInt8):Bool:=oP 1 s&& !GR s
def dT(n a b:Int):Bool:=decide (a<=n)&&decide (n<=b)
def CF(t:gZ):Bool:=if t.var.isEmpty then dT t.n (-9999999) 9999999 else(t.n==0)&&oP 2 t.var
def rO(l:List gZ):Bool:=l.all CF
def GQ(f:Int)(b body:Nat):Bool:=(f==0)||(dT f 1 4&&decide (0<b)&&decide (0<body))
def CZ(l:jJ):Bool:=
 rO l.v&&(if l.kind=1\/l.kind=2 then(l.op==0)&&qQ l.name
  else if l.kind=3 then dT l.op 1 4&&l.name.isEmpty&&((l.v.length:Int)==2)
  else if l.kind=4 then dT l.op 5 7&&l.name.isEmpty&&((l.v.length:Int)==3)else false)
def DZ(l:List jJ):Bool:=l.all CZ
def tF(r:lZ):Bool:=qQ r.name&&rO r.v&&GQ r.h r.v.length r.body.length&&DZ r.body
def zG(l:List jJ):Bool:=l.any fun x=>decide (3<x.v.length)
def pO(r:lZ):Bool:=decide (4<r.body.length)||decide (3<r.v.length)||zG r.body
def kX(l:List lZ):Bool:=decide (12<l.length)||l.any pO
def kM(l:List lZ):Int:=if kX l then 2 else if l.all tF then 0 else 1
def yW(l:List gZ)(i:Nat):gZ:=l.getD i ⟨[],0⟩
def DJ(l:List jJ)(i:Nat):jJ:=l.getD i ⟨0,0,0,[],[]⟩
def xA(l:List lZ)(i:Nat):lZ:=l.getD i ⟨0,[],[],0,[]⟩
theorem JD{α:Type}(p:α->Bool)(l:List α)(d:α)(k:Nat)(h:k<l.length):(l.drop k).all p=(p (l.getD k d)&&(l.drop (k+1)).all p):=by rw[dA h,FX,aI,aM h];rfl
theorem aK8{α:Type}(p:α->Bool)(l:List α)(d:α)(k:Nat)(h:k<l.length):(l.drop k).any p=(p (l.getD k d)||(l.drop (k+1)).any p):=by rw[dA h,List.any_cons,aI,aM h];rfl
end Go.Proofs.YtfljoehbbncooaaGreat
namespace Go.Proofs.YtfljoehbbncooaaGreat
open Go.RowKit
def RT(w:World)(b off:Nat)(t:gZ):Prop:=
 w.cell? ⟨b,off,none⟩=some (.string ⟨t.var.toArray⟩)/\w.cell? ⟨b,off+1,none⟩=some (.int .i64 t.n)
def aG8(w:World)(ao:Option Addr)(l:List gZ):Prop:=
 l=[]\/∃b c,ao=some ⟨b,c,none⟩/\∀i,i<l.length->RT w b (c+i*2) (yW l i)
def VZ(w:World)(v:Value)(l:List gZ):Prop:=∃b cap,v=.slice b l.length cap/\aG8 w b l
def yT(w:World)(b off:Nat)(x:jJ):Prop:=
 w.cell? ⟨b,off,none⟩=some (.int .i64 x.kind)/\w.cell? ⟨b,off+1,none⟩=some (.int .i64 x.at_)/\w.cell? ⟨b,off+2,none⟩=some (.int .i64 x.op)/\w.cell? ⟨b,off+3,none⟩=some (.string ⟨x.name.toArray⟩)/\
  ∃v,w.cell? ⟨b,off+4,none⟩=some v/\VZ w v x.v
def aO3(w:World)(ao:Option Addr)(l:List jJ):Prop:=
 l=[]\/∃b c,ao=some ⟨b,c,none⟩/\∀i,i<l.length->yT w b (c+i*5) (DJ l i)
def aJJ(w:World)(v:Value)(l:List jJ):Prop:=∃b cap,v=.slice b l.length cap/\aO3 w b l
def wA(w:World)(b off:Nat)(r:lZ):Prop:=
 w.cell? ⟨b,off,none⟩=some (.int .i64 r.at_)/\w.cell? ⟨b,off+1,none⟩=some (.string ⟨r.name.toArray⟩)/\(∃v,w.cell? ⟨b,off+2,none⟩=some v/\VZ w v r.v)/\w.cell? ⟨b,off+3,none⟩=some (.int .i64 r.h)/\
  ∃v,w.cell? ⟨b,off+4,none⟩=some v/\aJJ w v r.body
def aGZ(w:World)(ao:Option Addr)(l:List lZ):Prop:=
 l=[]\/∃b c,ao=some ⟨b,c,none⟩/\∀i,i<l.length->wA w b (c+i*5) (xA l i)
def Ky(w:World)(v:Value)(l:List lZ):Prop:=∃b cap,v=.slice b l.length cap/\aGZ w b l
theorem aB{w w':World}(c:Below w.heap.size w w'){b o:Nat}{v:Value}(h:w.cell? ⟨b,o,none⟩=some v):w'.cell? ⟨b,o,none⟩=some v:=
 (c.cell (p:=⟨b,o,none⟩) (jR w _ h)).trans h
theorem aC2{w w':World}{ao:Option Addr}{l:List gZ}(h:aG8 w ao l)(c:Below w.heap.size w w'):aG8 w' ao l:=by
 rcases h with h|⟨b,f,rfl,d⟩
 ·exact .inl h
 exact .inr ⟨b,f,rfl,fun i e=>⟨aB c (d i e).1,aB c (d i e).2⟩⟩
theorem zR{w w':World}{v:Value}{l:List gZ}(h:VZ w v l)(c:Below w.heap.size w w'):VZ w' v l:=by obtain⟨b,cap,rfl,h⟩:=h;exact⟨b,cap,rfl,aC2 h c⟩
theorem aMF{w w':World}{b off:Nat}{x:jJ}(h:yT w b off x)(c:Below w.heap.size w w'):yT w' b off x:=by obtain⟨d,e,f,g,v,i,j⟩:=h;exact⟨aB c d,aB c e,aB c f,aB c g,v,aB c i,zR j c⟩
theorem aHW{w w':World}{ao:Option Addr}{l:List jJ}(h:aO3 w ao l)(c:Below w.heap.size w w'):aO3 w' ao l:=by
 rcases h with h|⟨b,f,rfl,d⟩
 ·exact .inl h
 exact .inr ⟨b,f,rfl,fun i e=>aMF (d i e) c⟩
theorem xW{w w':World}{v:Value}{l:List jJ}(h:aJJ w v l)(c:Below w.heap.size w w'):aJJ w' v l:=by obtain⟨b,cap,rfl,h⟩:=h;exact⟨b,cap,rfl,aHW h c⟩
theorem aIH{w w':World}{b off:Nat}{x:lZ}(h:wA w b off x)(c:Below w.heap.size w w'):wA w' b off x:=by obtain⟨d,e,⟨v,f,g⟩,i,u,j,k⟩:=h;exact⟨aB c d,aB c e,⟨v,aB c f,zR g c⟩,aB c i,u,aB c j,xW k c⟩
theorem aCW{w w':World}{ao:Option Addr}{l:List lZ}(h:aGZ w ao l)(c:Below w.heap.size w w'):aGZ w' ao l:=by
 rcases h with h|⟨b,f,rfl,d⟩
 ·exact .inl h
 exact .inr ⟨b,f,rfl,fun i e=>aIH (d i e) c⟩
theorem FP{w w':World}{v:Value}{l:List lZ}(h:Ky w v l)(c:Below w.heap.size w w'):Ky w' v l:=by obtain⟨b,cap,rfl,h⟩:=h;exact⟨b,cap,rfl,aCW h c⟩
abbrev bFF(t:gZ):Value:=.agg #[.string ⟨t.var.toArray⟩, .int .i64 t.n]
abbrev bH6(x:jJ)(v:Value):Value:=.agg #[.int .i64 x.kind, .int .i64 x.at_, .int .i64 x.op, .string ⟨x.name.toArray⟩,v]
abbrev aTT(r:lZ)(v u:Value):Value:=.agg #[.int .i64 r.at_, .string ⟨r.name.toArray⟩,v, .int .i64 r.h,u]
abbrev QD(t:gK):Obj:=.cells #[.int .i64 t.kind, .int .i64 t.at_, .string ⟨t.text.toArray⟩] 286
theorem aTC{w w1:World}{t:gK}(c:Below (w.alloc (QD t)).heap.size (w.alloc (QD t)) w1):
 w1.cell? ⟨w.heap.size,0,none⟩=some (.int .i64 t.kind)/\w1.cell? ⟨w.heap.size,1,none⟩=some (.int .i64 t.at_)/\w1.cell? ⟨w.heap.size,2,none⟩=some (.string ⟨t.text.toArray⟩):=by
 obtain⟨b,d⟩:=aD3 c;(have h:w.heap.size<(w.alloc (QD t)).heap.size:=by simp);refine⟨?_,?_,?_⟩
 ·rw[b _ _ h];simp[go_sem]
 ·rw[b _ _ h];simp[go_sem]
 rw[b _ _ h];simp[go_sem]
theorem mE{w w1:World}{o:Obj}(b:Below (w.alloc o).heap.size (w.alloc o) w1):Below w.heap.size w w1:=
 ((aG _ _).alloc (aH _) _).trans (b.mono sI)
theorem aVU(t:gK)(w:World):
 Calls Tryz.prog 257 #[aIO t] w fun e E=>e=.returned (.bool (JB t.kind t.text))/\Below w.heap.size w E:=by
 have HV:O (JB t.kind t.text=(((lG t.text).2.2==0)&&(((lG t.text).1.length:Int)==1)&&((zS (lG t.text).1 0).kind==t.kind)&&((zS (lG t.text).1 0).text==t.text))):=rfl;generalize JB t.kind t.text=V at *;have g:=fun w=>aZU ⟨t.text.toArray⟩ w;have r:(⟨t.text.toArray⟩:ByteArray).data.toList=t.text:=List.toList_toArray;rw[r]at g;unfold aTA at g;generalize lG t.text=X at *;have l:O (_):=g;clear g r
 go_enter Tryz.func257,Tryz.ntmps257
 go_wp2_with fail;refine(l.o _).mono ?_;rintro e F ⟨u,cap,rfl,s,k⟩;obtain⟨c0,G,H⟩:=aTC k;have q:0<X.1.length->∃b f,u=some ⟨b,f,none⟩/\aZ2 F b f (zS X.1 0):=fun j=>by
  rcases aSM s with h|⟨b,f,rfl,C⟩
  ·rw[h]at j;exact absurd j sI
  exact⟨b,f,rfl,by simpa using C 0 j⟩
 have d:=mE k;clear s k l;generalize zS X.1 0=x at *;cases m:(X.2.2==0)
 ·(have c:O (V=false):=by show _=_;rw[HV.o,m];rfl);clear HV;go_wp2_with fail;go_quiet(fail);go_wp2;go_ret;exact⟨mF c.o.symm,below_drewN d _⟩
 cases i:((X.1.length:Int)==1)
 ·(have c:O (V=false):=by show _=_;rw[HV.o,i];simp);clear HV;go_wp2_with fail;go_quiet(fail);go_wp2;go_ret;exact⟨mF c.o.symm,below_drewN d _⟩
 (have D:0<X.1.length:=by have :=nQ.1 i;omega);obtain⟨b,f,rfl,I,J,K⟩:=q D;clear q;cases n:(x.kind==t.kind)
 ·(have c:O (V=false):=by show _=_;rw[HV.o,n];simp);clear HV;go_wp2_with fail;go_quiet(fail);go_wp2;go_ret;exact⟨mF c.o.symm,below_drewN d _⟩
 cases p:(x.text==t.text)
 ·(have c:O (V=false):=by show _=_;rw[HV.o,p];simp);clear HV;go_wp2_with fail;go_quiet(fail);go_wp2;go_ret;exact⟨mF c.o.symm,below_drewN d _⟩
 (have c:O (V=true):=by show _=_;rw[HV.o,m,i,n,p];rfl);clear HV;go_wp2_with fail;go_quiet(fail);go_wp2;go_ret;exact⟨mF c.o.symm,below_drewN d _⟩
theorem aI4:(Tryz.prog.info? 300).map (·.size)=some 2:=by kernel_rfl
theorem aY7:liesAt Tryz.prog Tryz.prog.depth 300 (2/Tryz.prog.cellsOf 300) 0 300 1=true:=by kernel_rfl
theorem aSZ:(Tryz.prog.info? 5).map (fun i=>(i.zero,i.size,i.bytes))=some (some (.int .u8 0),1,1):=by kernel_rfl
theorem aQF(b:Nat)(w:World)(h0:w.cell? ⟨b,0,none⟩=some (.pointer (some ⟨b,0,none⟩))):
 Calls Tryz.prog 275 #[.pointer (some ⟨b,0,none⟩)] w fun e d=>e=.returned (.tuple #[])/\d=w:=by
 obtain⟨j,c,_⟩:=Option.map_eq_some_iff.1 aI4
 go_enter Tryz.func275,Tryz.ntmps275
 go_wp2;rw[Lib.run_neq_ptr_same w _ Tryz.underlying297 c];go_wp2;go_end0;exact⟨rfl,rfl⟩
theorem aLD(b:Nat)(w:World)(h0:w.cell? ⟨b,0,none⟩=some (.pointer none))(d:w.shape? b=some (300,2))(i:w.frozen? ⟨b,0,none⟩=false):
 Calls Tryz.prog 275 #[.pointer (some ⟨b,0,none⟩)] w fun e g=>e=.returned (.tuple #[])/\g=w.setCell ⟨b,0,none⟩ (.pointer (some ⟨b,0,none⟩)):=by
 obtain⟨j,c,f⟩:=Option.map_eq_some_iff.1 aI4
 go_enter Tryz.func275,Tryz.ntmps275
 go_wp2;rw[Lib.run_to_unsafe w ⟨b,0,none⟩ Tryz.underlying297 Tryz.underlying326 c (by rw[f];decide) d (Nat.zero_lt_succ 1)];simp only[Result.andThen];rw[Oper.upon_value];go_wp2;rw[run_callFunc_extern Tryz.func282 (by kernel_rfl) (by kernel_rfl) (by kernel_rfl) (e:=Extern.AbiNoEscape.same) (by kernel_rfl)];rw[Lib.run_noEscape];simp only[Result.andThen];rw[Oper.upon_value];go_wp2;rw[Lib.run_from_unsafe w ⟨b,0,none⟩ Tryz.underlying326 Tryz.underlying297 c d aY7];simp only[Result.andThen];rw[Oper.upon_value];go_wp2;go_end0;exact⟨rfl,rfl⟩
theorem aD6(B b:Nat)(d:List Value)(w:World)(h:Lib.IsBuilder 300 5 B b d w):
 Calls Tryz.prog 275 #[.pointer (some ⟨b,0,none⟩)] w fun e c=>e=.returned (.tuple #[])/\(Lib.BuilderAt 300 5 B b (.pointer (some ⟨b,0,none⟩)) d c/\Below B w c/\Lib.OthersKept 5 (some b) w c):=by
 rcases h with h|h
 ·refine(aLD b w h.cell0 h.shape h.frozen0).mono ?_;rintro e c ⟨rfl,rfl⟩;exact⟨rfl,h.used _,(aG B w).setCell (p:=⟨b,0,none⟩) h.1 _,(Lib.OthersKept.refl 5 (some b) w).setCell ⟨b,0,none⟩ rfl _⟩
 refine(aQF b w h.cell0).mono ?_;rintro e c ⟨rfl,rfl⟩;exact⟨rfl,h,aG B _,Lib.OthersKept.refl _ _ _⟩
theorem aMR{w:World}{B:Nat}{v:Value}{n:Nat}{xs:List Value}(h:w.ownsRow B 5 1 v n xs):∀g,v.ownBlock=some g->∃c e,w.heap[g]?=some (.cells c 5 e):=by
 intro g b;rcases h.2 with⟨rfl,_⟩|⟨i,cap,d,rfl,_,f,_⟩
 ·simp[Value.ownBlock]at b
 simp[Value.ownBlock]at b;subst b;exact⟨d,_,f⟩
theorem aC8(B b:Nat)(d:List Value)(c:Int)(w:World)(h:Lib.IsBuilder 300 5 B b d w)(a1:d.length+1<=140737488355328)(a0:B<=w.heap.size):
 Calls Tryz.prog 258 #[.pointer (some ⟨b,0,none⟩), .int .u8 c] w fun e C=>e=.returned .nilIface/\(Lib.BuilderAt 300 5 B b (.pointer (some ⟨b,0,none⟩)) (d++[.int .u8 c]) C/\Below B w C/\Lib.OthersKept 5 (some b) w C):=by
 obtain⟨R,H,N,P,Q⟩:=jY aSZ
 go_enter Tryz.func258,Tryz.ntmps258
 go_wp2_with(go_at_call 275;refine(aD6 B b d _ h).mono ?_);rintro e f ⟨rfl,G,l,J⟩;obtain⟨s,v,n,r,D⟩:=G;(have c0:f.cell? ⟨b,0,none⟩=some (.pointer (some ⟨b,0,none⟩)):=cH n);(have U:f.cell? ⟨b,1,none⟩=some v:=cH n);go_wp2_with(at_builtin;refine iD _ rfl _ _ 298 rfl B 5 R (.int .u8 0) 1 1 Tryz.underlying298 H N P Q rfl (by decide) _ _ _ rfl (r.alloc _) ⟨f.heap.size,0,none⟩ 1 1 [.int .u8 c] rfl rfl ?c1 ?c2 ?c3 ?c4 ?c5 ?_)
 case c1=>
  intro j u q
  match j,q with
  |0,q=>simp at q;subst q;simp[Addr.add]
 (case c2=>intro u F;simp at F;subst F;rfl);(case c3=>unfold maxLen;omega);(case c4=>omega);(case c5=>have :=l.size;simp;omega);intro S i E x _;have L:b<f.heap.size:=Lib.BuilderAt.lt (T:=300) (e:=5) ⟨s,v,n,r,D⟩;(have m:i.heap[b]?=some (.cells #[.pointer (some ⟨b,0,none⟩),v] 300 (0,0)):=by rw[x.block b (by simp;omega) (fun e=>D e.symm),MQ f _ b L];exact n);(have W:i.cell? ⟨b,0,none⟩=some (.pointer (some ⟨b,0,none⟩)):=cH m);(have X:i.cell? ⟨b,1,none⟩=some v:=cH m);have Y:i.frozen? ⟨b,1,none⟩=false:=bM m 1;obtain⟨g,cap,rfl⟩:∃g cap,S=.slice (some ⟨g,0,none⟩) (d.length+1) cap:=by
  rcases E.2 with⟨_,Z⟩|⟨g,cap,V,M,_⟩
  ·omega
  exact⟨g,cap,M⟩
 have K:Lib.OthersKept 5 (some b) w i:=(J.alloc _).grown x (aMR (r.alloc _));go_wp2;go_ret;refine⟨rfl,?_,?_,?_⟩
 ·exact Lib.BuilderAt.put (T:=300) (e:=5) s m (bs':=d++[.int .u8 c]) (by simpa using E) (by decide)
 ·exact((l.alloc (by have :=l.size;omega) _).grown x (by have :=l.size;simp;omega) (fun k I=>(r.lt k I).1)).setCell (p:=⟨b,1,none⟩) s _
 exact K.setCell ⟨b,1,none⟩ rfl _
theorem TH(B b:Nat)(c:List Value)(s:ByteArray)(w:World)(h:Lib.IsBuilder 300 5 B b c w)(Y:c.length+s.size<=140737488355328)(X:B<=w.heap.size):
 Calls Tryz.prog 259 #[.pointer (some ⟨b,0,none⟩), .string s] w fun e r=>e=.returned (.tuple #[.int .i64 s.size, .nilIface])/\(Lib.BuilderAt 300 5 B b (.pointer (some ⟨b,0,none⟩)) (c++Lib.strCells s) r/\Below B w r/\Lib.OthersKept 5 (some b) w r):=by
 obtain⟨P,G,L,M,N⟩:=jY aSZ
 go_enter Tryz.func259,Tryz.ntmps259
 go_wp2_with(go_at_call 275;refine(aD6 B b c _ h).mono ?_);rintro e u ⟨rfl,F,m,I⟩;obtain⟨l,v,i,j,C⟩:=F;(have c0:u.cell? ⟨b,0,none⟩=some (.pointer (some ⟨b,0,none⟩)):=cH i);(have R:u.cell? ⟨b,1,none⟩=some v:=cH i);go_wp2_with(at_builtin;refine Lib.wpList_append_own_string _ rfl _ _ 298 9 rfl B 5 P Tryz.underlying298 Tryz.underlying9 G L M N _ _ _ rfl j s rfl ?c3 ?c4 ?c5 ?_);(case c3=>unfold maxLen;omega);(case c4=>omega);(case c5=>have :=m.size;omega);intro Q d D n _;have K:b<u.heap.size:=Lib.BuilderAt.lt (T:=300) (e:=5) ⟨l,v,i,j,C⟩;(have f:d.heap[b]?=some (.cells #[.pointer (some ⟨b,0,none⟩),v] 300 (0,0)):=by rw[n.block b K (fun e=>C e.symm)];exact i);(have U:d.cell? ⟨b,0,none⟩=some (.pointer (some ⟨b,0,none⟩)):=cH f);(have V:d.cell? ⟨b,1,none⟩=some v:=cH f);have W:d.frozen? ⟨b,1,none⟩=false:=bM f 1;obtain⟨x,E,cap,rfl⟩:∃x E cap,Q=.slice x E cap:=by
  rcases D.2 with⟨q,_⟩|⟨g,cap,S,q,_⟩
  ·exact⟨_,_,_,q⟩
  exact⟨_,_,_,q⟩
 have J:Lib.OthersKept 5 (some b) w d:=I.grown n (aMR j);go_wp2;go_ret2;refine⟨rfl,?_,?_,?_⟩
 ·exact Lib.BuilderAt.put (T:=300) (e:=5) l f (bs':=c++Lib.strCells s) (by simpa[Lib.strCells_length]using D) (by decide)
 ·exact(m.grown n (by have :=m.size;omega) (fun k H=>(j.lt k H).1)).setCell (p:=⟨b,1,none⟩) l _
 exact J.setCell ⟨b,1,none⟩ rfl _
def rU(l:List gK):Nat->List UInt8
 |0=>[]
 |k+1=>(if k=0 then [] else rU l k++[32])++(zS l k).text
def wL(l:List gK)(k:Nat):Bool:=(l.take k).all fun t=>oP t.kind t.text
def CD(l:List gK):List UInt8×Int:=
 if wL l l.length then(if 5000<(rU l l.length).length then([],2)else(rU l l.length,0))else([],1)
theorem WA(l:List gK)(k:Nat)(h:k<l.length):wL l (k+1)=(wL l k&&oP (zS l k).kind (zS l k).text):=by unfold wL;rw[nE h,List.all_append];(have e:zS l k=l[k]:=by rw[zS,aI,aM h];rfl);rw[e];simp
theorem aG9(l:List gK)(k:Nat)(h:k<l.length)(b:oP (zS l k).kind (zS l k).text=false):wL l l.length=false:=by(have e:zS l k=l[k]:=by rw[zS,aI,aM h];rfl);rw[e]at b;unfold wL;rw[nK];rw[<-Bool.not_eq_true]at b ⊢;intro c;exact b (fA.1 c _ (fG h))
theorem KK(k:Int)(t:List UInt8)(h:oP k t=true):t.length<=12:=by
 have h:=fJ h;obtain⟨q,u,w,x,C⟩:=h
 match t,q with
 |c::r,_=>
  rcases My c r with⟨b,d⟩|⟨b,e,g,d⟩|⟨b,e,g,d⟩|⟨b,e,g,d⟩|⟨b,e,g,n,p,d⟩|⟨b,e,g,d⟩|⟨b,e,g,n,p,d⟩|⟨b,e,d⟩
  ·omega
  ·omega
  ·omega
  ·omega
  ·omega
  ·omega
  ·omega
  have l:=SK c r;have f:=OA c r;rw[e]at f;cases i:kH c.toNat
  ·cases j:kW c.toNat
   ·cases m:eK c.toNat
    ·rw[i,j,m]at l;simp only[Bool.or_self,Bool.false_eq_true,if_false]at l;have s:gJ (c::r)<=2:=by
      unfold gJ;split
      ·omega
      dsimp only;split<;>omega
     omega
    rw[i,j,m]at f;simp at f
   rw[i,j]at f;simp at f
  rw[i]at f;simp at f
theorem aB8(l:List gK):∀k,k<=l.length->wL l k=true->(rU l k).length<=13*k:=by
 intro k
 induction k with
 |zero=>intro _ _;exact aH 0
 |succ k c=>
  intro f b;rw[WA l k oM,eI]at b;have d:=c oM b.1;have e:=KK _ _ b.2;rw[rU];split
  ·simp;omega
  simp;omega
theorem aCE{N:Nat}{b:List Value}{w w':World}(h:Lib.IsBuilder 300 5 N N b w)(c:Below w.heap.size w w'):Lib.IsBuilder 300 5 N N b w':=by
 (have d:∀p,Lib.BuilderAt 300 5 N N p b w->Lib.BuilderAt 300 5 N N p b w':=fun p h=>by have j:=h.lt;obtain⟨e,v,f,g,i⟩:=h;exact⟨e,v,by rw[c.block N j];exact f,bO g c,i⟩);rcases h with h|h
 ·exact .inl (d _ h)
 exact .inr (d _ h)
theorem aQA{N:Nat}{b:List Value}{w:World}(h:Lib.IsBuilder 300 5 N N b w):N<w.heap.size:=by
 rcases h with h|h
 ·exact h.lt
 exact h.lt
theorem bBC{N T:Nat}{t:gK}{w w':World}(d:Lib.OthersKept 5 (some N) w w')(f:¬T=N)(h:w.heap[T]?=some (QD t)):w'.heap[T]?=some (QD t):=by refine d T _ h (fun e=>f (Option.some.inj e)) ?_;intro c g e;injection e with _ b _;exact absurd b dE
theorem aUC(l:List gK)(w:World)(n b off cap:Nat)(hn:l.length=n)(ac:n<=4398046511104)
 (G:∀i,i<n->aZ2 w b (off+i*3) (zS l i)):
 Calls Tryz.prog 242 #[.slice (some ⟨b,off,none⟩) n cap] w fun e N=>e=.returned (.tuple #[.string ⟨(CD l).1.toArray⟩, .int .i64 (CD l).2])/\Below w.heap.size w N:=by
 have s:O (l.length=n):=hn;clear hn
 go_enter Tryz.func242,Tryz.ntmps242
 go_wp2_with fail;go_loopw [9] (fun i wr=>∃k:Nat,k<=n/\i=.int .i64 k/\wL l k=true/\Lib.IsBuilder 300 5 w.heap.size w.heap.size (Lib.byteCells (rU l k)) wr/\Below w.heap.size w wr) (fun i _=>n-(intOf i).toNat);case atStart=>exact⟨0,bL _,rfl,rfl,Lib.fresh_isBuilder 300 5 w,(aG _ _).alloc (aH _) _⟩
 case round=>
  obtain⟨k,hk,rfl,Z,d,c⟩:=hrel;have E:O (wL l k=true):=Z;clear Z;have a9:=aQA d;have ab:=aB8 l k (by rw[s.o];exact hk) E.o;by_cases M:k<n
  ·obtain⟨F,T,V⟩:=G k M;have L:b<w.heap.size:=jR w _ F;have S:wr.cell? ⟨b,off+k*3,none⟩=some (.int .i64 (zS l k).kind):=(c.cell (p:=⟨b,_,none⟩) L).trans F;have U:wr.cell? ⟨b,off+k*3+1,none⟩=some (.int .i64 (zS l k).at_):=(c.cell (p:=⟨b,_,none⟩) L).trans T;have W:wr.cell? ⟨b,off+k*3+2,none⟩=some (.string ⟨(zS l k).text.toArray⟩):=(c.cell (p:=⟨b,_,none⟩) L).trans V;clear F T V G;go_wp2_with fail;refine(aVU (zS l k) _).mono ?_;rintro e D ⟨he,q⟩;rw[aZ7]at he;subst he;have H:Below wr.heap.size wr D:=mE q;have u:Below w.heap.size w D:=c.trans (H.mono oM);cases m:oP (zS l k).kind (zS l k).text
   ·(have f:O (CD l=([],1)):=by show _=_;unfold CD;rw[if_neg (by rw[aG9 l k (by rw[s.o];exact M) m];simp)]);clear m q S U W;go_wp2_with fail;go_ret2;refine⟨?_,u⟩;rw[f.o];rfl
   (have R:O (wL l (k+1)=true):=by show _=_;rw[WA l k (by rw[s.o];exact M),E.o,m];rfl);(have a8:=KK _ _ m;have C:=aCE d H;have K:D.heap[wr.heap.size]?=some (QD (zS l k)):=by rw[q.block wr.heap.size sI];exact bA wr _);obtain⟨x0,x1,x2⟩:=aTC q;have a6:w.heap.size<=D.heap.size:=u.size;clear m q S U W d H;by_cases aa:0<k
   ·(have g:O (Lib.byteCells (rU l k)++[.int .u8 32]++Lib.strCells ⟨(zS l k).text.toArray⟩=Lib.byteCells (rU l (k+1))):=by show _=_;rw[rU,if_neg oM,Lib.byteCells_append,Lib.byteCells_append];rfl);go_wp2_with fail;refine(aC8 w.heap.size w.heap.size _ 32 _ C (by rw[TK];omega) a6).mono ?_;rintro e P ⟨rfl,Y,x,a4⟩;have a3:=bBC a4 oM K;(have d2:P.cell? ⟨wr.heap.size,2,none⟩=some (.string ⟨(zS l k).text.toArray⟩):=cH a3);(have a7:w.heap.size<=P.heap.size:=by have :=x.size;omega);clear a4 K a3 C x0 x1 x2;go_wp2_with fail;refine(TH w.heap.size w.heap.size _ _ _ (.inr Y) (by show _+(zS l k).text.toArray.size<=_;simp[Lib.byteCells_length];omega) a7).mono ?_;rintro e w3 ⟨rfl,j,I,_⟩;rw[g.o]at j;have J:=(u.trans x).trans I;clear Y d2 g;go_wp2;go_roundw;(case rel=>exact⟨k+1,oM,gN,R.o, .inr j,J⟩);case measure=>exact mI
   (have hd:decide ((0:Int)<(k:Int))=false:=by simp;omega);(have g:O (Lib.byteCells (rU l k)++Lib.strCells ⟨(zS l k).text.toArray⟩=Lib.byteCells (rU l (k+1))):=by show _=_;have e0:k=0:=oM;rw[e0,rU,rU,if_pos rfl];rfl);go_wp2_with fail;refine(TH w.heap.size w.heap.size _ _ _ C (by show _+(zS l k).text.toArray.size<=_;simp[Lib.byteCells_length];omega) a6).mono ?_;rintro e w3 ⟨rfl,j,I,_⟩;rw[g.o]at j;have J:=u.trans I;clear C g x0 x1 x2 K;go_wp2;go_roundw;(case rel=>exact⟨k+1,oM,gN,R.o, .inr j,J⟩);case measure=>exact mI
  have a5:k=n:=oM;(have r:O (k=l.length):=by show _=_;rw[s.o];exact a5);clear a5;(have Q:O (wL l l.length=true):=by have :=E.o;rw[r.o]at this;exact this);clear G;by_cases X:5000<(rU l k).length
  ·(have f:O (CD l=([],2)):=by show _=_;unfold CD;rw[if_pos Q.o,if_pos (by rw[<-r.o];exact X)]);go_wp2_with(go_at_call 260;refine(Tryz.Builder_Len _ _ _ _ d).mono ?_;rintro e N ⟨rfl,rfl⟩;rw[TK]);go_ret2;refine⟨?_,c⟩;rw[f.o];rfl
  (have f:O (CD l=(rU l k,0)):=by show _=_;unfold CD;rw[if_pos Q.o,if_neg (by rw[<-r.o];exact X),r.o]);go_wp2_with(first|(go_at_call 260;refine(Tryz.Builder_Len _ _ _ _ d).mono ?_;rintro e N ⟨rfl,rfl⟩;rw[TK])|(go_at_call 261;refine(Tryz.Builder_String_any _ _ _ _ d oM).mono ?_;rintro e P ⟨rfl,x⟩));go_ret2;refine⟨?_,c.trans x⟩;rw[f.o];rfl
theorem aUB(w:World)(ao:Option Addr)(cap:Nat):
 Calls Tryz.prog 242 #[.slice ao 0 cap] w fun e c=>e=.returned (.tuple #[.string ⟨#[]⟩, .int .i64 0])/\Below w.heap.size w c:=by
 have b:Lib.IsBuilder 300 5 w.heap.size w.heap.size (Lib.byteCells []) (w.alloc (.cells #[.pointer none, .slice none 0 0] 300)):=Lib.fresh_isBuilder 300 5 w;have d:Below w.heap.size w (w.alloc (.cells #[.pointer none, .slice none 0 0] 300)):=(aG _ _).alloc (aH _) _
 go_enter Tryz.func242,Tryz.ntmps242
 go_wp2_with fail;refine nF 1 ?_;rw[rounds_succ];go_wp2_with(first|(go_at_call 260;refine(Tryz.Builder_Len _ _ _ _ b).mono ?_;rintro e c ⟨rfl,rfl⟩;rw[TK])|(go_at_call 261;refine(Tryz.Builder_String_any _ _ _ _ b sI).mono ?_;rintro e g ⟨rfl,f⟩));go_ret2;exact⟨rfl,d.trans f⟩
theorem aZI(l:List gK)(w:World)(ao:Option Addr)(cap:Nat)(d:l.length<=4398046511104)(c:Xm w ao l):
 Calls Tryz.prog 242 #[.slice ao l.length cap] w fun e g=>e=.returned (.tuple #[.string ⟨(CD l).1.toArray⟩, .int .i64 (CD l).2])/\Below w.heap.size w g:=by
 rcases c with rfl|⟨b,f,rfl,c⟩
 ·exact aUB w ao cap
 exact aUC l w l.length b f cap rfl d c
theorem aQU(s:List UInt8)(w:World):Calls Tryz.prog 243 #[.string ⟨s.toArray⟩] w fun e b=>e=.returned (.int .i64 (GP s))/\b=w:=by
 unfold GP;cases c:(s==[99,111,117,110,116])
 ·cases d:(s==[115,117,109])
  ·cases f:(s==[108,101,97,115,116])
   ·cases g:(s==[109,111,115,116])
    ·go_enter Tryz.func243,Tryz.ntmps243
     go_wp2;go_ret;exact⟨rfl,rfl⟩
    go_enter Tryz.func243,Tryz.ntmps243
    go_wp2;go_ret;exact⟨rfl,rfl⟩
   go_enter Tryz.func243,Tryz.ntmps243
   go_wp2;go_ret;exact⟨rfl,rfl⟩
  go_enter Tryz.func243,Tryz.ntmps243
  go_wp2;go_ret;exact⟨rfl,rfl⟩
 go_enter Tryz.func243,Tryz.ntmps243
 go_wp2;go_ret;exact⟨rfl,rfl⟩
theorem aRF(s:List UInt8)(w:World):Calls Tryz.prog 230 #[.string ⟨s.toArray⟩] w fun e b=>e=.returned (.bool (GR s))/\b=w:=by
 unfold GR;cases c:(s==[110,111,116])
 ·go_enter Tryz.func230,Tryz.ntmps230
  go_wp2_with(go_at_call 243;refine(aQU _ _).mono ?_;rintro e b ⟨rfl,rfl⟩);go_ret;exact⟨rfl,rfl⟩
 go_enter Tryz.func230,Tryz.ntmps230
 go_wp2;go_ret;exact⟨rfl,rfl⟩
theorem Cg(n:Int)(w:World):Calls Tryz.prog 232 #[.int .i64 n] w fun e b=>e=.returned (.bool (dT n 1 4))/\b=w:=by
 unfold dT;by_cases h:1<=n
 ·go_enter Tryz.func232,Tryz.ntmps232
  go_wp2;go_ret;exact⟨by simp[h],rfl⟩
 have c:decide (1<=n)=false:=by simpa using h
 go_enter Tryz.func232,Tryz.ntmps232
 go_wp2;go_ret;exact⟨rfl,rfl⟩
theorem Cd(n:Int)(w:World):Calls Tryz.prog 233 #[.int .i64 n] w fun e b=>e=.returned (.bool (dT n 5 7))/\b=w:=by
 unfold dT;by_cases h:5<=n
 ·go_enter Tryz.func233,Tryz.ntmps233
  go_wp2;go_ret;exact⟨by simp[h],rfl⟩
 have c:decide (5<=n)=false:=by simpa using h
 go_enter Tryz.func233,Tryz.ntmps233
 go_wp2;go_ret;exact⟨rfl,rfl⟩
theorem bBB(k:Int)(s:List UInt8):((CD [⟨k,0,s⟩]).2==0)=oP k s:=by
 (have b:wL [⟨k,0,s⟩] 1=oP k s:=by simp[wL]);(have c:rU [⟨k,0,s⟩] 1=s:=by simp[rU,zS]);unfold CD;rw[kE,b,c];cases h:oP k s
 ·rfl
 have :=KK k s h;rw[if_pos rfl,if_neg oM];rfl
theorem WY(s:List UInt8)(k:Int)(w:World):Calls Tryz.prog 229 #[.string ⟨s.toArray⟩, .int .i64 k] w fun e j=>e=.returned (.bool (oP k s))/\Below w.heap.size w j:=by
 have b:=bBB k s;(have c:Xm (w.alloc (.cells #[.int .i64 k, .int .i64 0, .string ⟨s.toArray⟩] 286)) (some ⟨w.heap.size,0,none⟩) [⟨k,0,s⟩]:=by refine .inr ⟨w.heap.size,0,rfl,fun i g=>?_⟩;(have :i=0:=by simpa using g);subst this;exact⟨by simp[go_sem,zS],by simp[go_sem,zS],by simp[go_sem,zS]⟩);have d:O (_):=aZI [⟨k,0,s⟩] _ _ 1 sI c;rw[<-b];generalize CD [⟨k,0,s⟩]=J at *;clear c b
 go_enter Tryz.func229,Tryz.ntmps229
 go_wp2_with fail;refine Calls.mono d.o ?_;rintro e l ⟨rfl,f⟩;go_wp2;go_ret;exact⟨rfl,mE f⟩
theorem Cf(s:List UInt8)(w:World):Calls Tryz.prog 207 #[.string ⟨s.toArray⟩] w fun e f=>e=.returned (.bool (qQ s))/\Below w.heap.size w f:=by
 unfold qQ;cases d:oP 1 s
 ·go_enter Tryz.func207,Tryz.ntmps207
  go_wp2_with fail;refine(WY s 1 w).mono ?_;rintro e g ⟨b,c⟩;rw[d]at b;subst b;go_wp2;go_ret;exact⟨rfl,c⟩
 go_enter Tryz.func207,Tryz.ntmps207
 go_wp2_with fail;refine(WY s 1 w).mono ?_;rintro e g ⟨b,c⟩;rw[d]at b;subst b;go_wp2_with(go_at_call 230;refine(aRF _ _).mono ?_;rintro e f ⟨rfl,rfl⟩);go_ret;exact⟨rfl,c⟩
theorem TE(t:gZ)(w:World):Calls Tryz.prog 231 #[bFF t] w fun e c=>e=.returned (.bool (CF t))/\Below w.heap.size w c:=by
 unfold CF;cases d:t.var.isEmpty
 ·cases f:(t.n==0)
  ·go_enter Tryz.func231,Tryz.ntmps231
   go_wp2;go_ret;exact⟨rfl,(aG _ _).alloc (aH _) _⟩
  go_enter Tryz.func231,Tryz.ntmps231
  go_wp2_with fail;refine(WY t.var 2 _).mono ?_;rintro e i ⟨rfl,b⟩;go_wp2;go_ret;exact⟨rfl,mE b⟩
 unfold dT;by_cases h: -9999999<=t.n
 ·go_enter Tryz.func231,Tryz.ntmps231
  go_wp2;go_ret;exact⟨by simp,(aG _ _).alloc (aH _) _⟩
 have g:decide (-9999999<=t.n)=false:=by simpa using h
 go_enter Tryz.func231,Tryz.ntmps231
 go_wp2;go_ret;exact⟨rfl,(aG _ _).alloc (aH _) _⟩
theorem Db(w:World)(ao:Option Addr)(cap:Nat):Calls Tryz.prog 208 #[.slice ao 0 cap] w fun e b=>e=.returned (.bool true)/\Below w.heap.size w b:=by
 go_enter Tryz.func208,Tryz.ntmps208
 go_wp2_with fail;refine nF 1 ?_;rw[rounds_succ];go_wp2_with fail;go_ret;exact⟨rfl,aG _ _⟩
theorem Dc(l:List gZ)(w:World)(n b off cap:Nat)(F:l.length=n)(L:n<=140737488355328)(r:∀i,i<n->RT w b (off+i*2) (yW l i)):
 Calls Tryz.prog 208 #[.slice (some ⟨b,off,none⟩) n cap] w fun e G=>e=.returned (.bool (rO l))/\Below w.heap.size w G:=by
 have u:O (l.length=n):=F;clear F
 go_enter Tryz.func208,Tryz.ntmps208
 go_wp2_with fail;go_loopw [7] (fun i wr=>∃k:Nat,k<=n/\i=.int .i64 k/\rO l=(l.drop k).all CF/\Below w.heap.size w wr) (fun i _=>n-(intOf i).toNat);case atStart=>exact⟨0,bL _,rfl,rfl,aG _ _⟩
 case round=>
  obtain⟨k,K,rfl,C,c⟩:=hrel;have j:O (rO l=(l.drop k).all CF):=C;clear C;by_cases E:k<n
  ·obtain⟨q,x⟩:=r k E;have D:b<w.heap.size:=jR w _ q;have I:=(c.cell (p:=⟨b,off+k*2,none⟩) D).trans q;have J:=(c.cell (p:=⟨b,off+k*2+1,none⟩) D).trans x;have m:O (rO l=(CF (yW l k)&&(l.drop (k+1)).all CF)):=j.o.trans (JD _ _ _ k (by rw[u.o];exact E));clear q x r j;generalize yW l k=t at *;cases d:CF t
   ·(have HV:O (rO l=false):=by show _=_;rw[m.o,d];rfl);go_wp2_with fail;refine(TE t _).mono ?_;rintro e H ⟨f,g⟩;rw[d]at f;subst f;have s:=c.trans ((mE g).mono c.size);go_wp2_with fail;go_ret;exact⟨mF HV.o.symm,s⟩
   (have HV:O (rO l=(l.drop (k+1)).all CF):=by show _=_;rw[m.o,d];rfl);go_wp2_with fail;refine(TE t _).mono ?_;rintro e H ⟨f,g⟩;rw[d]at f;subst f;have s:=c.trans ((mE g).mono c.size);clear g d m;go_wp2_with fail;go_roundw;(case rel=>exact⟨k+1,oM,gN,HV.o,s⟩);case measure=>exact mI
  (have HV:O (rO l=true):=by show _=_;rw[j.o,bG (by rw[u.o];omega)];rfl);clear r;go_wp2_with fail;go_ret;exact⟨mF HV.o.symm,c⟩
theorem OE(l:List gZ)(v:Value)(w:World)(f:l.length<=140737488355328)(c:VZ w v l):
 Calls Tryz.prog 208 #[v] w fun e i=>e=.returned (.bool (rO l))/\Below w.heap.size w i:=by
 obtain⟨d,cap,rfl,c⟩:=c;rcases c with rfl|⟨b,g,rfl,c⟩
 ·exact Db w d cap
 exact Dc l w l.length b g cap rfl f c
abbrev XC(x:jJ)(v:Value):Obj:=.cells #[.int .i64 x.kind, .int .i64 x.at_, .int .i64 x.op, .string ⟨x.name.toArray⟩,v] 252
abbrev IG(r:lZ)(v u:Value):Obj:=.cells #[.int .i64 r.at_, .string ⟨r.name.toArray⟩,v, .int .i64 r.h,u] 197
theorem ML{w w1:World}{x:jJ}{v:Value}(c:Below (w.alloc (XC x v)).heap.size (w.alloc (XC x v)) w1):
 w1.cell? ⟨w.heap.size,0,none⟩=some (.int .i64 x.kind)/\w1.cell? ⟨w.heap.size,1,none⟩=some (.int .i64 x.at_)/\w1.cell? ⟨w.heap.size,2,none⟩=some (.int .i64 x.op)/\
 w1.cell? ⟨w.heap.size,3,none⟩=some (.string ⟨x.name.toArray⟩)/\w1.cell? ⟨w.heap.size,4,none⟩=some v:=by
 obtain⟨b,d⟩:=aD3 c;(have h:w.heap.size<(w.alloc (XC x v)).heap.size:=by simp);refine⟨?_,?_,?_,?_,?_⟩
 ·rw[b _ _ h];simp[go_sem]
 ·rw[b _ _ h];simp[go_sem]
 ·rw[b _ _ h];simp[go_sem]
 ·rw[b _ _ h];simp[go_sem]
 rw[b _ _ h];simp[go_sem]
theorem bE9{w w1:World}{r:lZ}{v u:Value}(c:Below (w.alloc (IG r v u)).heap.size (w.alloc (IG r v u)) w1):
 w1.cell? ⟨w.heap.size,0,none⟩=some (.int .i64 r.at_)/\w1.cell? ⟨w.heap.size,1,none⟩=some (.string ⟨r.name.toArray⟩)/\w1.cell? ⟨w.heap.size,2,none⟩=some v/\
 w1.cell? ⟨w.heap.size,3,none⟩=some (.int .i64 r.h)/\w1.cell? ⟨w.heap.size,4,none⟩=some u:=by
 obtain⟨b,d⟩:=aD3 c;(have h:w.heap.size<(w.alloc (IG r v u)).heap.size:=by simp);refine⟨?_,?_,?_,?_,?_⟩
 ·rw[b _ _ h];simp[go_sem]
 ·rw[b _ _ h];simp[go_sem]
 ·rw[b _ _ h];simp[go_sem]
 ·rw[b _ _ h];simp[go_sem]
 rw[b _ _ h];simp[go_sem]
theorem nG(w:World)(o:Obj):Below w.heap.size w (w.alloc o):=(aG _ _).alloc (aH _) _
theorem Zw(x:jJ)(v:Value)(w:World)(I:x.v.length<=140737488355328)(G:VZ w v x.v):
 Calls Tryz.prog 210 #[bH6 x v] w fun e q=>e=.returned (.bool (CZ x))/\Below w.heap.size w q:=by
 have g:O (_):=OE x.v v (w.alloc (XC x v)) I (zR G (nG _ _));obtain⟨M,cap,rfl,_⟩:=G
 have HV:O (CZ x=(rO x.v&&(if x.kind=1\/x.kind=2 then(x.op==0)&&qQ x.name
  else if x.kind=3 then dT x.op 1 4&&x.name.isEmpty&&((x.v.length:Int)==2)
  else if x.kind=4 then dT x.op 5 7&&x.name.isEmpty&&((x.v.length:Int)==3)else false))):=rfl
 generalize CZ x=V at *;cases f:rO x.v
 ·(have d:O (V=false):=by show _=_;rw[HV.o,f];rfl);clear HV
  go_enter Tryz.func210,Tryz.ntmps210
  go_wp2_with fail;refine Calls.mono g.o ?_;rintro e i ⟨c,b⟩;rw[f]at c;subst c;go_wp2_with fail;go_ret;exact⟨mF d.o.symm,mE b⟩
 rw[f,qJ]at HV;by_cases p:x.kind=1\/x.kind=2
 ·rw[if_pos p]at HV;cases n:(x.op==0)
  ·(have d:O (V=false):=by show _=_;rw[HV.o,n];rfl);clear HV;rcases p with C|D
   ·have E:(x.kind==1)=true:=nQ.2 C;clear C
    go_enter Tryz.func210,Tryz.ntmps210
    go_wp2_with fail;refine Calls.mono g.o ?_;rintro e i ⟨c,b⟩;rw[f]at c;subst c;obtain⟨c0,j,k,l,m⟩:=ML b;go_wp2_with fail;go_ret;exact⟨mF d.o.symm,mE b⟩
   have E:(x.kind==1)=false:=gT.2 oM;have H:(x.kind==2)=true:=nQ.2 D;clear D
   go_enter Tryz.func210,Tryz.ntmps210
   go_wp2_with fail;refine Calls.mono g.o ?_;rintro e i ⟨c,b⟩;rw[f]at c;subst c;obtain⟨c0,j,k,l,m⟩:=ML b;go_wp2_with fail;go_ret;exact⟨mF d.o.symm,mE b⟩
  (have d:O (V=qQ x.name):=by show _=_;rw[HV.o,n];rfl);clear HV;rcases p with C|D
  ·have E:(x.kind==1)=true:=nQ.2 C;clear C
   go_enter Tryz.func210,Tryz.ntmps210
   go_wp2_with fail;refine Calls.mono g.o ?_;rintro e i ⟨c,b⟩;rw[f]at c;subst c;obtain⟨c0,j,k,l,m⟩:=ML b;go_wp2_with fail;refine(Cf x.name _).mono ?_;rintro e L ⟨rfl,F⟩;go_wp2_with fail;go_ret;exact⟨mF d.o.symm,(mE b).trans (F.mono (mE b).size)⟩
  have E:(x.kind==1)=false:=gT.2 oM;have H:(x.kind==2)=true:=nQ.2 D;clear D
  go_enter Tryz.func210,Tryz.ntmps210
  go_wp2_with fail;refine Calls.mono g.o ?_;rintro e i ⟨c,b⟩;rw[f]at c;subst c;obtain⟨c0,j,k,l,m⟩:=ML b;go_wp2_with fail;refine(Cf x.name _).mono ?_;rintro e L ⟨rfl,F⟩;go_wp2_with fail;go_ret;exact⟨mF d.o.symm,(mE b).trans (F.mono (mE b).size)⟩
 rw[if_neg p]at HV;have E:(x.kind==1)=false:=gT.2 (fun h=>p (.inl h));have H:(x.kind==2)=false:=gT.2 (fun h=>p (.inr h));clear p;by_cases r:x.kind=3
 ·rw[if_pos r]at HV;have J:(x.kind==3)=true:=nQ.2 r;clear r;cases n:dT x.op 1 4
  ·(have d:O (V=false):=by show _=_;rw[HV.o,n];rfl);clear HV
   go_enter Tryz.func210,Tryz.ntmps210
   go_wp2_with fail;refine Calls.mono g.o ?_;rintro e i ⟨c,b⟩;rw[f]at c;subst c;obtain⟨c0,j,k,l,m⟩:=ML b;go_wp2_with(go_at_call 232;refine(Cg _ _).mono ?_;rintro e q ⟨rfl,rfl⟩);go_ret;exact⟨mF d.o.symm,mE b⟩
  cases u:x.name.isEmpty
  ·(have d:O (V=false):=by show _=_;rw[HV.o,u];simp);clear HV
   go_enter Tryz.func210,Tryz.ntmps210
   go_wp2_with fail;refine Calls.mono g.o ?_;rintro e i ⟨c,b⟩;rw[f]at c;subst c;obtain⟨c0,j,k,l,m⟩:=ML b;go_wp2_with(go_at_call 232;refine(Cg _ _).mono ?_;rintro e q ⟨rfl,rfl⟩);go_ret;exact⟨mF d.o.symm,mE b⟩
  (have d:O (V=((x.v.length:Int)==2)):=by show _=_;rw[HV.o,n,u];rfl);clear HV
  go_enter Tryz.func210,Tryz.ntmps210
  go_wp2_with fail;refine Calls.mono g.o ?_;rintro e i ⟨c,b⟩;rw[f]at c;subst c;obtain⟨c0,j,k,l,m⟩:=ML b;go_wp2_with(go_at_call 232;refine(Cg _ _).mono ?_;rintro e q ⟨rfl,rfl⟩);go_ret;exact⟨mF d.o.symm,mE b⟩
 rw[if_neg r]at HV;have J:(x.kind==3)=false:=gT.2 r;clear r;by_cases s:x.kind=4
 ·rw[if_pos s]at HV;have K:(x.kind==4)=true:=nQ.2 s;clear s;cases n:dT x.op 5 7
  ·(have d:O (V=false):=by show _=_;rw[HV.o,n];rfl);clear HV
   go_enter Tryz.func210,Tryz.ntmps210
   go_wp2_with fail;refine Calls.mono g.o ?_;rintro e i ⟨c,b⟩;rw[f]at c;subst c;obtain⟨c0,j,k,l,m⟩:=ML b;go_wp2_with(go_at_call 233;refine(Cd _ _).mono ?_;rintro e q ⟨rfl,rfl⟩);go_ret;exact⟨mF d.o.symm,mE b⟩
  cases u:x.name.isEmpty
  ·(have d:O (V=false):=by show _=_;rw[HV.o,u];simp);clear HV
   go_enter Tryz.func210,Tryz.ntmps210
   go_wp2_with fail;refine Calls.mono g.o ?_;rintro e i ⟨c,b⟩;rw[f]at c;subst c;obtain⟨c0,j,k,l,m⟩:=ML b;go_wp2_with(go_at_call 233;refine(Cd _ _).mono ?_;rintro e q ⟨rfl,rfl⟩);go_ret;exact⟨mF d.o.symm,mE b⟩
  (have d:O (V=((x.v.length:Int)==3)):=by show _=_;rw[HV.o,n,u];rfl);clear HV
  go_enter Tryz.func210,Tryz.ntmps210
  go_wp2_with fail;refine Calls.mono g.o ?_;rintro e i ⟨c,b⟩;rw[f]at c;subst c;obtain⟨c0,j,k,l,m⟩:=ML b;go_wp2_with(go_at_call 233;refine(Cd _ _).mono ?_;rintro e q ⟨rfl,rfl⟩);go_ret;exact⟨mF d.o.symm,mE b⟩
 rw[if_neg s]at HV;have K:(x.kind==4)=false:=gT.2 s;have d:O (V=false):=HV.o;clear s HV
 go_enter Tryz.func210,Tryz.ntmps210
 go_wp2_with fail;refine Calls.mono g.o ?_;rintro e i ⟨c,b⟩;rw[f]at c;subst c;obtain⟨c0,j,k,l,m⟩:=ML b;go_wp2_with fail;go_ret;exact⟨mF d.o.symm,mE b⟩
theorem Sm(r:lZ)(ao i:Option Addr)(j cb:Nat)(w:World):
 Calls Tryz.prog 209 #[aTT r (.slice ao r.v.length j) (.slice i r.body.length cb)] w fun e k=>e=.returned (.bool (GQ r.h r.v.length r.body.length))/\Below w.heap.size w k:=by
 have HV:O (GQ r.h r.v.length r.body.length=((r.h==0)||(decide (1<=r.h)&&decide (r.h<=4)&&decide (0<r.v.length)&&decide (0<r.body.length)))):=rfl;generalize GQ r.h r.v.length r.body.length=V at *;cases c:(r.h==0)
 ·cases d:decide (1<=r.h)
  ·(have b:O (V=false):=by show _=_;rw[HV.o,c,d];rfl);clear HV
   go_enter Tryz.func209,Tryz.ntmps209
   go_wp2;go_ret;exact⟨mF b.o.symm,nG _ _⟩
  cases f:decide (r.h<=4)
  ·(have b:O (V=false):=by show _=_;rw[HV.o,c,d,f];rfl);clear HV
   go_enter Tryz.func209,Tryz.ntmps209
   go_wp2;go_ret;exact⟨mF b.o.symm,nG _ _⟩
  cases g:decide (0<r.v.length)
  ·(have b:O (V=false):=by show _=_;rw[HV.o,c,d,f,g];rfl);clear HV
   go_enter Tryz.func209,Tryz.ntmps209
   go_wp2;go_ret;exact⟨mF b.o.symm,nG _ _⟩
  (have b:O (V=decide (0<r.body.length)):=by show _=_;rw[HV.o,c,d,f,g];rfl);clear HV
  go_enter Tryz.func209,Tryz.ntmps209
  go_wp2;go_ret;exact⟨mF (by rw[b.o]),nG _ _⟩
 (have b:O (V=true):=by show _=_;rw[HV.o,c];rfl);clear HV
 go_enter Tryz.func209,Tryz.ntmps209
 go_wp2;go_ret;exact⟨mF b.o.symm,nG _ _⟩
def bJ2(l:List jJ):Prop:=∀i,i<l.length->(DJ l i).v.length<=140737488355328
theorem Sq(r:lZ)(v u:Value)(w:World)(a7:r.v.length<=140737488355328)(ad:r.body.length<=140737488355328)(a8:bJ2 r.body)(W:VZ w v r.v)(X:aJJ w u r.body):
 Calls Tryz.prog 187 #[aTT r v u] w fun e w'=>e=.returned (.bool (tF r))/\Below w.heap.size w w':=by
 have M:=zR W (nG w (IG r v u));have P:=xW X (nG w (IG r v u));obtain⟨ao,ca,rfl,_⟩:=W;obtain⟨bo,cb,rfl,_⟩:=X;have HV:O (tF r=(qQ r.name&&rO r.v&&GQ r.h r.v.length r.body.length&&DZ r.body)):=rfl;generalize tF r=V at *
 go_enter Tryz.func187,Tryz.ntmps187
 go_wp2_with fail;refine(Cf r.name _).mono ?_;rintro e w1 ⟨c,p⟩;have I:Below w.heap.size w w1:=mE p;obtain⟨c0,S,T,U,F⟩:=bE9 p;have N:=zR M p;have Q:=xW P p;cases l:qQ r.name
 ·(have d:O (V=false):=by show _=_;rw[HV.o,l];rfl);rw[l]at c;subst c;clear HV M P N Q;go_wp2_with fail;go_ret;exact⟨mF d.o.symm,I⟩
 rw[l]at c;subst c;go_wp2_with fail;refine(OE r.v _ _ a7 N).mono ?_;rintro e w2 ⟨c,f⟩;have J:=I.trans (f.mono I.size);have Y:=xW Q f;have c0:=aB f c0;have S:=aB f S;have T:=aB f T;have U:=aB f U;have F:=aB f F;clear M P N Q;cases m:rO r.v
 ·(have d:O (V=false):=by show _=_;rw[HV.o,m];simp);rw[m]at c;subst c;go_wp2_with fail;go_ret;exact⟨mF d.o.symm,J⟩
 rw[m]at c;subst c;go_wp2_with fail;refine(Sm r ao bo ca cb _).mono ?_;rintro e w3 ⟨c,G⟩;have q:=J.trans (G.mono J.size);have R:=xW Y G;have F:=aB G F;cases n:GQ r.h r.v.length r.body.length
 ·(have d:O (V=false):=by show _=_;rw[HV.o,n];simp);rw[n]at c;subst c;go_wp2_with fail;go_ret;exact⟨mF d.o.symm,q⟩
 rw[n]at c;subst c;(have L:O (V=DZ r.body):=by show _=_;rw[HV.o,l,m,n];rfl);clear HV l m n p f G Y I J;go_wp2_with fail;go_loopw [23] (fun i wr=>∃k:Nat,k<=r.body.length/\i=.int .i64 k/\DZ r.body=(r.body.drop k).all CZ/\Below w3.heap.size w3 wr) (fun i _=>r.body.length-(intOf i).toNat);case atStart=>exact⟨0,bL _,rfl,rfl,aG _ _⟩
 case round=>
  obtain⟨k,hk,rfl,a5,j⟩:=hrel;have D:O (DZ r.body=(r.body.drop k).all CZ):=a5;clear a5;by_cases C:k<r.body.length
  ·obtain⟨aa,ac,hv,hL⟩:=xW R j;rcases hL with h|⟨b,ae,rfl,hc⟩
   ·rw[h]at C;exact absurd C sI
   injection hv with e1 _ e3;subst e1 e3;obtain⟨a0,a1,a2,a3,v4,a4,Z⟩:=hc k C;have E:O (DZ r.body=(CZ (DJ r.body k)&&(r.body.drop (k+1)).all CZ)):=D.o.trans (JD _ _ _ k C);have a6:=a8 k C;clear hc D R;generalize DJ r.body k=x at *;have K:O (_):=Zw x v4 (wr.alloc (XC x v4)) a6 (zR Z (nG _ _));obtain⟨a9,ab,rfl,_⟩:=Z;cases g:CZ x
   ·(have d:O (V=false):=by show _=_;rw[L.o,E.o,g];rfl);clear E L;go_wp2_with fail;refine Calls.mono K.o ?_;rintro e w4 ⟨c,H⟩;rw[g]at c;subst c;have s:=q.trans ((j.trans ((mE H).mono j.size)).mono q.size);go_wp2_with fail;go_ret;exact⟨mF d.o.symm,s⟩
   (have HN:O (DZ r.body=(r.body.drop (k+1)).all CZ):=by show _=_;rw[E.o,g];rfl);clear E;go_wp2_with fail;refine Calls.mono K.o ?_;rintro e w4 ⟨c,H⟩;rw[g]at c;subst c;have s:=j.trans ((mE H).mono j.size);clear H K g a0 a1 a2 a3 a4;go_wp2_with fail;go_roundw;(case rel=>exact⟨k+1,oM,gN,HN.o,s⟩);case measure=>exact mI
  (have d:O (V=true):=by show _=_;rw[L.o,D.o,bG oM];rfl);have s:=q.trans (j.mono q.size);clear R D;go_wp2_with fail;go_ret;exact⟨mF d.o.symm,s⟩
abbrev aTU(v:Value):Value:=.agg #[v]
theorem aNP(l:List lZ)(v:Value)(w:World)(Z:Ky w v l):
 Calls Tryz.prog 186 #[aTU v] w fun e w'=>e=.returned (.bool (kX l))/\Below w.heap.size w w':=by
 have n:=FP Z (nG w (.cells #[v] 200));have f:=nG w (.cells #[v] 200);obtain⟨ao,ca,rfl,_⟩:=Z;by_cases W:12<l.length
 ·have c:O (kX l=true):=by show _=_;unfold kX;rw[aP W];rfl
  go_enter Tryz.func186,Tryz.ntmps186
  go_wp2_with fail;go_ret;exact⟨mF c.o.symm,f⟩
 have HV:O (kX l=l.any pO):=by show _=_;unfold kX;rw[aF W];rfl
 go_enter Tryz.func186,Tryz.ntmps186
 go_wp2_with fail;generalize (w.alloc (.cells #[.slice ao l.length ca] 200))=L at *;go_loopw [14] (fun i wr=>∃k:Nat,k<=l.length/\i=.int .i64 k/\kX l=(l.drop k).any pO/\Below L.heap.size L wr) (fun i _=>l.length-(intOf i).toNat);case atStart=>exact⟨0,bL _,rfl,HV.o,aG _ _⟩
 case round=>
  obtain⟨k,hk,rfl,u,q⟩:=hrel;have D:O (kX l=(l.drop k).any pO):=u;clear u HV;by_cases J:k<l.length
  ·obtain⟨aa,ac,R,hR⟩:=FP n q;rcases hR with h|⟨b,ae,rfl,C⟩
   ·rw[h]at J;exact absurd J sI
   injection R with N _ P;subst N P;obtain⟨a0,a1,⟨S,a2,Q⟩,a3,T,a4,H⟩:=C k J;have d:O (kX l=(pO (xA l k)||(l.drop (k+1)).any pO)):=D.o.trans (aK8 _ _ _ k J);clear C D;generalize xA l k=r at *;have s:=xW H (nG wr (IG r S T));have I:Below w.heap.size w (wr.alloc (IG r S T)):=(f.trans (q.mono f.size)).trans ((nG wr _).mono (f.trans (q.mono f.size)).size);have a5:Below L.heap.size L (wr.alloc (IG r S T)):=q.trans ((nG wr _).mono q.size);obtain⟨a6,a8,rfl,_⟩:=Q;obtain⟨a7,a9,rfl,_⟩:=H;by_cases Y:4<r.body.length;rotate_left
   ·have g1:decide ((4:Int)<(r.body.length:Int))=false:=aF oM;by_cases X:3<r.v.length;rotate_left
    ·have g2:decide ((3:Int)<(r.v.length:Int))=false:=aF oM;(have G:O (pO r=zG r.body):=by show _=_;unfold pO;rw[aF Y,aF X];rfl);go_wp2_with fail;generalize (wr.alloc (IG r (.slice a6 r.v.length a8) (.slice a7 r.body.length a9)))=w1 at *;go_loopw [31] (fun i wq=>∃j:Nat,j<=r.body.length/\i=.int .i64 j/\zG r.body=(r.body.drop j).any (fun x=>decide (3<x.v.length))/\Below w1.heap.size w1 wq) (fun i _=>r.body.length-(intOf i).toNat);case atStart=>exact⟨0,bL _,rfl,rfl,aG _ _⟩
     case round=>
      obtain⟨j,hj,rfl,u,p⟩:=hrel;have E:O (zG r.body=(r.body.drop j).any (fun x=>decide (3<x.v.length))):=u;clear u;by_cases K:j<r.body.length
      ·obtain⟨ab,ad,R,H⟩:=xW s p;rcases H with h|⟨b2,af,rfl,C⟩
       ·rw[h]at K;exact absurd K sI
       injection R with N _ P;subst N P;obtain⟨q0,q1,q2,q3,u4,q4,Q⟩:=C j K;have F:O (zG r.body=(decide (3<(DJ r.body j).v.length)||(r.body.drop (j+1)).any (fun x=>decide (3<x.v.length)))):=E.o.trans (aK8 _ _ _ j K);clear C E s n;generalize DJ r.body j=x at *;obtain⟨U,V,rfl,_⟩:=Q;by_cases hx:3<x.v.length;rotate_left
       ·have g:decide ((3:Int)<(x.v.length:Int))=false:=aF oM;(have M:O (zG r.body=(r.body.drop (j+1)).any (fun x=>decide (3<x.v.length))):=by show _=_;rw[F.o,aF hx];rfl);have m:=p.trans ((nG _ (XC x (.slice U x.v.length V))).mono p.size);clear F;go_wp2_with fail;go_roundw;(case rel=>exact⟨j+1,oM,gN,M.o,m⟩);case measure=>exact mI
       have g:decide ((3:Int)<(x.v.length:Int))=true:=aP oM;(have c:O (kX l=true):=by show _=_;rw[d.o,G.o,F.o,aP hx];rfl);have m:=I.trans ((p.trans ((nG _ (XC x (.slice U x.v.length V))).mono p.size)).mono I.size);clear F d G;go_wp2_with fail;go_ret;exact⟨mF c.o.symm,m⟩
      (have M:O (kX l=(l.drop (k+1)).any pO):=by show _=_;rw[d.o,G.o,E.o,bG oM];rfl);have m:=a5.trans (p.mono a5.size);clear E d G s n;go_wp2_with fail;go_roundw;(case rel=>exact⟨k+1,oM,gN,M.o,m⟩);case measure=>exact mI
    have g2:decide ((3:Int)<(r.v.length:Int))=true:=aP oM;(have c:O (kX l=true):=by show _=_;rw[d.o];unfold pO;rw[aP X];simp);clear d n s;go_wp2_with fail;go_ret;exact⟨mF c.o.symm,I⟩
   have g1:decide ((4:Int)<(r.body.length:Int))=true:=aP oM;(have c:O (kX l=true):=by show _=_;rw[d.o];unfold pO;rw[aP Y];simp);clear d n s;go_wp2_with fail;go_ret;exact⟨mF c.o.symm,I⟩
  (have c:O (kX l=false):=by show _=_;rw[D.o,bG oM];rfl);have m:=f.trans (q.mono f.size);clear n D;go_wp2_with fail;go_ret;exact⟨mF c.o.symm,m⟩
theorem aNF{r:lZ}(h:pO r=false):r.v.length<=3/\r.body.length<=4/\bJ2 r.body:=by unfold pO at h;simp only[Bool.or_eq_false_iff,decide_eq_false_iff_not]at h;refine⟨oM,oM,fun i c=>?_⟩;have b:=h.2;unfold zG at b;rw[tT]at b;(have e:DJ r.body i=r.body[i]:=by rw[DJ,aI,aM c];rfl);have :=b _ (fG c);rw[e];simp at this;omega
theorem aT2(l:List lZ)(v:Value)(w:World)(K:Ky w v l):
 Calls Tryz.prog 153 #[aTU v] w fun e w'=>e=.returned (.int .i64 (kM l))/\Below w.heap.size w w':=by
 have D:=FP K (nG w (.cells #[v] 200));have F:=nG w (.cells #[v] 200);have I:O (_):=aNP l v (w.alloc (.cells #[v] 200)) D;obtain⟨ao,ca,rfl,_⟩:=K
 go_enter Tryz.func153,Tryz.ntmps153
 go_wp2_with fail;refine Calls.mono I.o ?_;rintro e H ⟨d,u⟩;have m:=F.trans (u.mono F.size);have E:=FP D u;have c0:H.cell? ⟨w.heap.size,0,none⟩=some (.slice ao l.length ca):=aB u (by simp[go_sem]);clear I D u F;cases c:kX l
 ·rw[c]at d;subst d;(have ab:l.length<=12:=by unfold kX at c;simp only[Bool.or_eq_false_iff,decide_eq_false_iff_not]at c;omega);(have M:∀k,k<l.length->pO (xA l k)=false:=fun k G=>by unfold kX at c;simp only[Bool.or_eq_false_iff]at c;(have e:xA l k=l[k]:=by rw[xA,aI,aM G];rfl);rw[e];have :=tT.1 c.2 _ (fG G);simpa using this);have T:O (∀k,k<l.length->pO (xA l k)=false):=M;(have HV:O (kM l=if l.all tF then 0 else 1):=by show _=_;unfold kM;rw[c];rfl);clear M c;go_wp2_with fail;go_loopw [10] (fun i wr=>∃k:Nat,k<=l.length/\i=.int .i64 k/\l.all tF=(l.drop k).all tF/\Below H.heap.size H wr) (fun i _=>l.length-(intOf i).toNat);case atStart=>exact⟨0,bL _,rfl,rfl,aG _ _⟩
  case round=>
   obtain⟨k,G,rfl,P,f⟩:=hrel;have q:O (l.all tF=(l.drop k).all tF):=P;clear P;by_cases p:k<l.length
   ·obtain⟨a5,a8,hv,hR⟩:=FP E f;rcases hR with h|⟨b,ac,rfl,Q⟩
    ·rw[h]at p;exact absurd p sI
    injection hv with e1 _ e3;subst e1 e3;obtain⟨V,W,⟨R,X,N⟩,Y,S,Z,L⟩:=Q k p;have s:O (l.all tF=(tF (xA l k)&&(l.drop (k+1)).all tF)):=q.o.trans (JD _ _ _ k p);obtain⟨f1,f2,J⟩:=aNF (T.o k p);clear Q q E;generalize xA l k=r at *;have C:O (_):=Sq r R S (wr.alloc (IG r R S)) oM oM J (zR N (nG _ _)) (xW L (nG _ _));obtain⟨a6,a9,rfl,_⟩:=N;obtain⟨a7,aa,rfl,_⟩:=L;clear J;cases g:tF r
    ·(have j:O (kM l=1):=by show _=_;rw[HV.o,s.o,g];rfl);clear s HV;go_wp2_with fail;refine Calls.mono C.o ?_;rintro e w4 ⟨d,x⟩;rw[g]at d;subst d;have n:=m.trans ((f.trans ((mE x).mono f.size)).mono m.size);go_wp2_with fail;go_ret;exact⟨DN j.o.symm,n⟩
    (have U:O (l.all tF=(l.drop (k+1)).all tF):=by show _=_;rw[s.o,g];rfl);clear s;go_wp2_with fail;refine Calls.mono C.o ?_;rintro e w4 ⟨d,x⟩;rw[g]at d;subst d;have n:=f.trans ((mE x).mono f.size);clear x C g V W X Y Z;go_wp2_with fail;go_roundw;(case rel=>exact⟨k+1,oM,gN,U.o,n⟩);case measure=>exact mI
   (have j:O (kM l=0):=by show _=_;rw[HV.o,q.o,bG oM];rfl);have n:=m.trans (f.mono m.size);clear E q HV;go_wp2_with fail;go_ret;exact⟨DN j.o.symm,n⟩
 rw[c]at d;subst d;(have j:O (kM l=2):=by show _=_;unfold kM;rw[c];rfl);go_wp2_with fail;go_ret;exact⟨DN j.o.symm,m⟩
end Go.Proofs.YtfljoehbbncooaaGreat
namespace Go.Proofs.YtfljoehbbncooaaGreat
structure aQ where
 g:Int
 args:List Int
def fX(a b:Int):Int:=if a<b then -1 else if b<a then 1 else 0
def fP:List Int->List Int->Int
 |[],[]=>0
 |[],_::_=> -1
 |_::_,[]=>1
 |a::x,b::y=>if fX a b=0 then fP x y else fX a b
def eU(f g:aQ):Int:=if fX f.g g.g=0 then fP f.args g.args else fX f.g g.g
theorem mR{a b:Int}:fX a b=0↔a=b:=by
 unfold fX;split
 ·constructor
  ·intro h;exact absurd h (by decide)
  intro h;omega
 split
 ·constructor
  ·intro h;exact absurd h (by decide)
  intro h;omega
 constructor
 ·intro _;omega
 intro _;rfl
theorem AZ{a b:Int}:fX a b<0↔a<b:=by
 unfold fX;split
 ·constructor
  ·intro _;assumption
  intro _;decide
 split
 ·constructor
  ·intro h;exact absurd h (by decide)
  intro h;omega
 constructor
 ·intro h;exact absurd h (by decide)
 intro h;omega
theorem BS(a b:Int):fX b a= -fX a b:=by
 unfold fX;by_cases c:a<b
 ·rw[if_pos c,if_neg (by omega),if_pos c];rfl
 by_cases d:b<a
 ·rw[if_pos d,if_neg c,if_pos d]
 rw[if_neg d,if_neg c,if_neg c,if_neg d];rfl
theorem EX(a:Int):fX a a=0:=mR.mpr rfl
theorem zM:∀{x y:List Int},fP x y=0↔x=y:=by
 intro x
 induction x with
 |nil=>
  intro y
  cases y with
  |nil=>simp[fP]
  |cons b y=>simp[fP]
 |cons a x d=>
  intro y
  cases y with
  |nil=>simp[fP]
  |cons b y=>
   simp only[fP];split
   ·rename_i h;rw[mR]at h;rw[d,h];simp
   rename_i h;constructor
   ·intro c;exact absurd c h
   intro c;injection c with c _;exact absurd (mR.mpr c) h
theorem EY:∀(x y:List Int),fP y x= -fP x y:=by
 intro x
 induction x with
 |nil=>
  intro y
  cases y with
  |nil=>rfl
  |cons b y=>rfl
 |cons a x c=>
  intro y
  cases y with
  |nil=>rfl
  |cons b y=>
   simp only[fP];by_cases h:fX a b=0
   ·rw[if_pos h,if_pos (by rw[BS,h];rfl)];exact c y
   rw[if_neg h,if_neg (by rw[BS];omega)];exact BS a b
theorem ON:∀{x y z:List Int},fP x y<0->fP y z<0->fP x z<0:=by
 intro x
 induction x with
 |nil=>
  intro y z e d
  cases y with
  |nil=>exact absurd e (by decide)
  |cons b y=>
   cases z with
   |nil=>exact absurd (show(1:Int)<0 from d) (by decide)
   |cons c z=>show(-1:Int)<0;decide
 |cons a x i=>
  intro y z e d
  cases y with
  |nil=>exact absurd (show(1:Int)<0 from e) (by decide)
  |cons b y=>
   cases z with
   |nil=>exact absurd (show(1:Int)<0 from d) (by decide)
   |cons c z=>
    simp only[fP]at e d ⊢;by_cases g:fX a b=0
    ·rw[if_pos g]at e;rw[mR]at g;subst g;by_cases f:fX a c=0
     ·rw[if_pos f]at d ⊢;exact i e d
     rw[if_neg f]at d ⊢;exact d
    rw[if_neg g,AZ]at e;by_cases f:fX b c=0
    ·rw[mR]at f;subst f;rw[if_neg g,AZ];exact e
    rw[if_neg f,AZ]at d;rw[if_neg (by rw[mR];omega),AZ];omega
theorem uP{f g:aQ}:eU f g=0↔f=g:=by
 obtain⟨p,x⟩:=f;obtain⟨q,y⟩:=g;unfold eU;simp only;by_cases h:fX p q=0
 ·rw[if_pos h,zM];rw[mR]at h;subst h;simp
 rw[if_neg h];constructor
 ·intro b;exact absurd b h
 intro b;injection b with b _;exact absurd (mR.mpr b) h
theorem zD(f:aQ):eU f f=0:=uP.mpr rfl
theorem IX(f g:aQ):eU g f= -eU f g:=by
 unfold eU;by_cases h:fX f.g g.g=0
 ·rw[if_pos h,if_pos (by rw[BS,h];rfl)];exact EY _ _
 rw[if_neg h,if_neg (by rw[BS];omega)];exact BS _ _
theorem vV{f g h:aQ}(h1:eU f g<0)(b:eU g h<0):eU f h<0:=by
 obtain⟨p,x⟩:=f;obtain⟨q,y⟩:=g;obtain⟨r,z⟩:=h;unfold eU at h1 b ⊢;simp only at h1 b ⊢;by_cases d:fX p q=0
 ·rw[if_pos d]at h1;rw[mR]at d;subst d;by_cases c:fX p r=0
  ·rw[if_pos c]at b ⊢;exact ON h1 b
  rw[if_neg c]at b ⊢;exact b
 rw[if_neg d,AZ]at h1;by_cases c:fX q r=0
 ·rw[mR]at c;subst c;rw[if_neg d,AZ];exact h1
 rw[if_neg c,AZ]at b;rw[if_neg (by rw[mR];omega),AZ];omega
def CO(f g:aQ):Prop:=eU f g<0
theorem CO.trans{f g h:aQ}(h1:CO f g)(b:CO g h):CO f h:=vV h1 b
theorem CO.irrefl(f:aQ):¬CO f f:=by unfold CO;rw[zD];decide
theorem LP(f g:aQ):CO f g\/f=g\/CO g f:=by unfold CO;rw[IX f g,<-uP];omega
def dD(l:List aQ):Prop:=l.Pairwise CO
def AW(s l:List aQ):Prop:=dD s/\∀x,x∈s↔x∈l
theorem GI:∀{s t:List aQ},dD s->dD t->(∀x,x∈s↔x∈t)->s=t:=by
 intro s
 induction s with
 |nil=>
  intro t _ _ h
  cases t with
  |nil=>rfl
  |cons b t=>exact absurd ((h b).mpr (by simp)) (by simp)
 |cons a s k=>
  intro t j ht h
  cases t with
  |nil=>exact absurd ((h a).mp (by simp)) (by simp)
  |cons b t=>
   have f:=nP.mp j;have g:=nP.mp ht;have i:a=b:=by
    rcases eA.mp ((h a).mp (by simp))with c|c
    ·exact c
    rcases eA.mp ((h b).mpr (by simp))with e|e
    ·exact e.symm
    exact absurd ((g.1 a c).trans (f.1 b e)) (CO.irrefl b)
   subst i;rw[k f.2 g.2 (fun x=>?_)];constructor
   ·intro d;rcases eA.mp ((h x).mp (by simp[d]))with c|c
    ·subst c;exact absurd (f.1 x d) (CO.irrefl x)
    exact c
   intro d;rcases eA.mp ((h x).mpr (by simp[d]))with c|c
   ·subst c;exact absurd (g.1 x d) (CO.irrefl x)
   exact c
def oU(f:aQ):List aQ->List aQ
 |[]=>[f]
 |a::r=>if eU f a<0 then f::a::r else if eU f a=0 then a::r else a::oU f r
theorem Vv(f x:aQ):∀(l:List aQ),x∈oU f l↔x=f\/x∈l:=by
 intro l
 induction l with
 |nil=>simp[oU]
 |cons a r b=>
  simp only[oU];split
  ·simp
  split
  ·rename_i h;rw[uP]at h;subst h;constructor
   ·intro h;exact .inr h
   rintro(h|h)
   ·simp[h]
   exact h
  rw[eA,b,eA];constructor
  ·rintro(h|h|h)
   ·exact .inr (.inl h)
   ·exact .inl h
   exact .inr (.inr h)
  rintro(h|h|h)
  ·exact .inr (.inl h)
  ·exact .inl h
  exact .inr (.inr h)
theorem aVC(f:aQ):∀{l:List aQ},dD l->dD (oU f l):=by
 intro l
 induction l with
 |nil=>intro _;exact uT _ _
 |cons a r i=>
  intro h;have e:=nP.mp h;simp only[oU];split
  ·rename_i d;refine nP.mpr ⟨fun x b=>?_,h⟩;rcases eA.mp b with rfl|b
   ·exact d
   exact CO.trans d (e.1 x b)
  split
  ·exact h
  rename_i d g;refine nP.mpr ⟨fun x b=>?_,i e.2⟩;rcases(Vv f x r).mp b with rfl|b
  ·rcases LP a x with c|c|c
   ·exact c
   ·subst c;exact absurd (zD a) g
   exact absurd c d
  exact e.1 x b
def eZ:List aQ->List aQ
 |[]=>[]
 |a::r=>oU a (eZ r)
theorem kU:∀(l:List aQ),AW (eZ l) l:=by
 intro l
 induction l with
 |nil=>exact⟨List.Pairwise.nil,fun x=>Iff.rfl⟩
 |cons a r b=>
  refine⟨aVC a b.1,fun x=>?_⟩;show x∈oU a (eZ r)↔_;rw[Vv,b.2,eA]
theorem IW{s l:List aQ}(h:AW s l):s=eZ l:=GI h.1 (kU l).1 fun x=>(h.2 x).trans ((kU l).2 x).symm
theorem lM{l:List aQ}{x:aQ}:x∈eZ l↔x∈l:=(kU l).2 x
theorem UL{l m:List aQ}(h:∀x,x∈l↔x∈m):eZ l=eZ m:=IW ⟨(kU l).1,fun x=>lM.trans (h x)⟩
def mJ(l:List aQ)(f:aQ):Bool:=l.any fun x=>eU x f==0
theorem qD{l:List aQ}{f:aQ}:mJ l f=true↔f∈l:=by
 unfold mJ;rw[jW];constructor
 ·rintro⟨x,c,h⟩;have b:x=f:=uP.mp (by simpa using h);rw[<-b];exact c
 intro h;exact⟨f,h,by simp[zD]⟩
def eM(l m:List aQ):List aQ:=eZ (l.filter fun x=> !mJ m x)
def jS(l m:List aQ):List aQ:=eZ (l++m)
end Go.Proofs.YtfljoehbbncooaaGreat
