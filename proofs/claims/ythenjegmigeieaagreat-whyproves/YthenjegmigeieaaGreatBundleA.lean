/- Own texts, one behind the other (part 1). -/
import Derived.Test.YthenjegmigeieaaGreatRows
import Derived.RowKit3
import Derived.Below
import Derived.Deep.RegionHeld3
import Derived.Lib.Builder
import Derived.Lib.BufferMore
import Derived.ChangeShapes
import Derived.Lib.OthersKept
import Derived.Lib.LazyBuf
import Derived.Laws.AppendOwnNone
import Derived.Deep.QuietTactic
import Derived.Carry
import Derived.WalkSmall
import Derived.OwnWalkIn
import Derived.ProofKit
import Derived.WalkKit
import Derived.ChangeAlike
import Derived.ChangeOld
import Derived.WalkLawsBesides
import Derived.OpenShut
import Derived.WalkSpells
import Derived.BigQuiet
import Derived.Shelf.Strings.Builder1
import Derived.Shelf.Small.Strs
import Derived.Shelf.LaysM
import Derived.Shelf.Strconv.Clone
import Derived.Shelf.Strings.Search1
import Derived.Shelf.Strings.Prefix
import Derived.Ground.SlsfProg
import Derived.Test.YthenjegmigeieaaGreatProg
import Derived.LoopN
import Derived.Lib.IndexBytes
import Derived.Defers
import Derived.Recover
import Derived.RegionTactic
set_option maxRecDepth 100000
set_option maxHeartbeats 8000000

namespace Go.Proofs.YthenjegmigeieaaGreat
open Go.RowKit
def O(p:Prop):Prop:=p
theorem O.o{p:Prop}(h:O p):p:=h
theorem cH{w:World}{b o:Nat}{d:Array Value}{t:TypeId}{v:Value}(h:w.heap[b]?=some (.cells d t))(e:d[o]?=some v:=by rfl):w.cell? ⟨b,o,none⟩=some v:=by rw[Lib.cell_of_heap h];exact e
abbrev aC:=@List.getD_eq_getElem?_getD
abbrev aD:=@List.getElem?_eq_getElem
abbrev aE:=@Nat.le_refl
abbrev aG:=@Array.getElem?_eq_some_iff
abbrev aH:=@Below.refl
abbrev aJ:=@decide_eq_false
abbrev aP:=@List.length_map
abbrev aQ:=@decide_eq_true
abbrev aR:=@heap_alloc_new
abbrev bA:=@List.length_append
abbrev bD:=@List.drop_of_length_le
abbrev bG:=@Nat.zero_le
abbrev bH:=@Nat.le_trans
abbrev bO:=@List.mem_cons_of_mem
abbrev bV:=@Lib.heap_setCell_same
abbrev cB:=@List.map_append
abbrev cD:=@Lib.cell_of_heap
abbrev cM:=@Lib.frozen_of_heap
abbrev cQ:=@List.mem_singleton
abbrev cR:=@List.mem_map
abbrev cW:=@List.length_take
abbrev cY:=@List.getElem?_map
abbrev cZ:=@List.getElem?_eq_none
abbrev dB:=@List.drop_eq_getElem_cons
abbrev dC:=@List.mem_cons_self
abbrev dF:=@bodyPost_ret
abbrev dP:=@List.mem_append
abbrev dQ:=@Nat.lt_of_lt_of_le
abbrev dU:=@List.take_of_length_le
abbrev dV:=@Nat.zero_add
abbrev dY:=@List.getElem_mem
abbrev eB:=@List.eq_nil_of_length_eq_zero
abbrev eD:=@World.ownsRow_nil
abbrev eF:=@Bool.and_eq_true
abbrev eI:=@List.take_add_one
abbrev eL:=@of_decide_eq_true
abbrev eP:=@List.getElem?_eq_some_iff
abbrev eQ:=@List.mem_cons
abbrev eX:=@List.all_eq_true
abbrev fH:=@Array.getElem?_toList
abbrev fJ:=@Int.toNat_natCast
abbrev fM:=@results_tmp2
abbrev fR:=@beq_eq_false_iff_ne
abbrev fS:=@List.getElem?_set
abbrev fX:=@wpList_append_own
abbrev fZ:=@List.flatten_append
abbrev gE:=@Below.heap_setCell
abbrev gJ:=@List.drop_zero
abbrev gS:=@List.getElem?_take
abbrev gT:=@List.mem_filterMap
abbrev iE:=@Array.getElem?_push
abbrev iG:=@Array.getElem?_eq_getElem
abbrev iN:=@List.mem_of_getElem?
abbrev iO:=@wpOps_cons
abbrev iP:=@List.append_assoc
abbrev iT:=@info_parts
abbrev jE:=@World.block_lt_of_cell?
abbrev jG:=@List.mem_of_mem_take
abbrev jH:=@wpAnyH_take
abbrev jM:=@List.append_nil
abbrev jP:=@List.getElem?_append_right
abbrev jU:=@List.ext_getElem?
abbrev jV:=@List.mem_range
abbrev jW:=@Nat.lt_or_ge
abbrev kI:=@List.any_eq_true
abbrev kJ:=@List.mem_flatMap
abbrev kL:=@List.length_set
abbrev lA:=@List.take_length
abbrev lC:=@List.filter_append
abbrev lE:=@Option.map_some
abbrev lF:=@List.map_cons
abbrev lQ:=@World.cell?_of_block
abbrev lU:=@List.filter_cons
abbrev lW:=@List.pairwise_cons
abbrev lX:=@Nat.le_succ
abbrev lY:=@World.ownsRow_made
abbrev mB:=@List.length_eq_zero_iff
abbrev mG:=@wp_loop_rounds
abbrev mH:=@List.getElem_of_mem
abbrev mK:=@And.intro
abbrev mL:=@List.getElem?_append_left
abbrev mN:=@beq_iff_eq
abbrev mX:=@List.mem_filter
abbrev nL:=@List.take_append_drop
abbrev nW:=@List.Nodup.length_le_of_subset
abbrev nX:=@List.getElem?_range
abbrev nZ:=@Nat.not_lt_zero
abbrev oA:=@Option.getD_some
abbrev pA:=@List.filterMap_cons
abbrev pO:=@List.getElem?_replicate
abbrev qA:=@List.mem_of_mem_drop
abbrev qB:=@List.nil_append
abbrev qN:=@List.take_append_of_le_length
abbrev qV:=@List.foldl_append
abbrev qZ:=@List.length_singleton
abbrev rZ:=@List.pairwise_singleton
abbrev sA:=@results_none
abbrev sB:=@Array.getD_eq_getD_getElem?
abbrev sL:=@Array.getElem?_append_left
abbrev sP:=@List.mem_map_of_mem
abbrev tO:=@Array.getElem?_modify
abbrev tP:=@Lib.run_eql_slice_nil
abbrev tT:=@List.length_drop
abbrev uN:=@List.pairwise_append
abbrev uO:=@Calls.quiet_of
abbrev uS:=@Nat.add_sub_cancel_left
abbrev uZ:=@Bool.or_eq_true
abbrev vA:=@Nat.min_eq_left
abbrev wR:=@Nat.le_of_lt
abbrev wS:=@Nat.sub_self
abbrev wT:=@List.mem_flatten
abbrev wU:=@wp_append_own
abbrev wZ:=@List.length_filter_le
abbrev xL:=@List.pairwise_iff_getElem
abbrev yK:=@List.flatten_cons
abbrev yL:=@List.pairwise_map
abbrev yM:=@List.Pairwise.imp_of_mem
abbrev yN:=@List.length_filterMap_le
abbrev yP:=@List.map_set
abbrev yR:=@Nat.succ_pos
abbrev zL:=@Int.le_refl
abbrev zO:=@Array.length_toList
abbrev zW:=@List.length_cons
abbrev zX:=@Nat.succ_le_succ
abbrev AO:=@Array.getElem?_eq_none
abbrev BB:=@wpList_append_own_none
abbrev BC:=@Nat.add_sub_cancel
abbrev BD:=@Bool.or_true
abbrev BE:=@Nat.add_zero
abbrev CC:=@Bool.eq_iff_iff
abbrev CD:=@List.dropLast_eq_take
abbrev CE:=@World.drewN_drewN
abbrev CF:=@decide_eq_true_eq
abbrev DA:=@List.perm_ext_iff_of_nodup
abbrev EI:=@List.ext_getElem
abbrev EP:=@Int.le_trans
abbrev EQ:=@Nat.zero_mul
abbrev ER:=@callsIn_wide
abbrev ES:=@List.flatMap_append
abbrev FL:=@Array.getElem?_replicate
abbrev IF:=@Bool.true_and
abbrev IG:=@List.map_take
abbrev II:=@Nat.add_assoc
abbrev IJ:=@trodAll_cons_mk
abbrev IK:=@of_decide_eq_false
abbrev IL:=@List.findIdx?_eq_some_iff_getElem
abbrev JK:=@List.take_succ_eq_append_getElem
abbrev KN:=@List.length_range
abbrev KO:=@Nat.le_succ_of_le
abbrev LK:=@Array.getElem?_mapIdx
abbrev LM:=@List.countP_le_length
abbrev LN:=@ownsRow_setCell_below
abbrev NG:=@Nat.succ_lt_succ
abbrev NT:=@Lib.byteCells_length
abbrev NU:=@Lib.cell?_alloc_some
abbrev NV:=@List.mem_iff_getElem
abbrev NW:=@callsIn_of_wp
abbrev QO:=@Nat.add_mul
abbrev QP:=@Nat.mul_one
abbrev RM:=@List.take_succ_cons
abbrev SU:=@List.map_map
abbrev SV:=@List.setIfInBounds_toArray
abbrev SW:=@Nat.mod_two_eq_zero_or_one
abbrev UA:=@List.getElem?_drop
abbrev UC:=@Nat.eq_zero_or_pos
abbrev UD:=@Nat.mul_le_mul
abbrev UE:=@List.findIdx?_eq_none_iff
abbrev XO:=@List.any_eq_false
abbrev XP:=@List.getElem_take
abbrev XQ:=@List.nodup_append
abbrev XR:=@World.cells?_some
abbrev XS:=@List.mem_of_mem_eraseIdx
abbrev ZE:=@Bool.false_or
abbrev Dc:=@List.cons_append
abbrev Dd:=@List.map_reverse
abbrev Df:=@Option.bind_some
abbrev Dg:=@run_storeVar_row
end Go.Proofs.YthenjegmigeieaaGreat

namespace Go.Proofs.YthenjegmigeieaaGreat
def iS(n:Int):Bool:=decide (97<=n)&&decide (n<=122)
def iY(n:Int):Bool:=decide (65<=n)&&decide (n<=90)
def dO(n:Int):Bool:=decide (48<=n)&&decide (n<=57)
def eH(n:Int):Bool:=iS n||iY n||dO n
def qX(n:Int):Bool:=n != 10
def aL(p:Int->Bool):List UInt8->Nat
 |[]=>0
 |c::r=>if p (c.toNat:Int)then aL p r+1 else 0
theorem YE(p:Int->Bool)(l:List UInt8):aL p l<=l.length:=by
 induction l with
 |nil=>exact aE 0
 |cons c r b=>unfold aL;split<;>simp <;>omega
theorem yZ(l:List UInt8)(k:Nat)(h:k<l.length):l.drop k=l[k]::l.drop (k+1):=dB h
theorem nC(p:Int->Bool)(l:List UInt8)(k:Nat)(h:k<l.length)(b:p (l[k].toNat:Int)=true):aL p (l.drop k)=aL p (l.drop (k+1))+1:=by rw[yZ l k h,aL,if_pos b]
theorem BX(p:Int->Bool)(l:List UInt8)(k:Nat)(h:k<l.length)(b:p (l[k].toNat:Int)=false):aL p (l.drop k)=0:=by rw[yZ l k h,aL,if_neg (by simp[b])]
theorem AC(p:Int->Bool)(l:List UInt8)(k:Nat)(h:l.length<=k):aL p (l.drop k)=0:=by rw[bD h,aL]
def iV:Bool->List UInt8->Nat
 |_,[]=>0
 |true,c::r=>if(c.toNat:Int)=10 then iV false r+1 else iV true r+1
 |false,c::r=>if(c.toNat:Int)=37 then iV true r+1 else if(c.toNat:Int)=32\/(c.toNat:Int)=9\/(c.toNat:Int)=10 then iV false r+1 else 0
def mR(c:UInt8):Bool:=[40,41,44,46,60,61,43,45,42].contains c
def fB(l:List UInt8):Nat:=
 if [58,45].isPrefixOf l||[60,61].isPrefixOf l||[33,61].isPrefixOf l then 2 else
 match l with
 |[]=>0
 |c::_=>if mR c then 1 else 0
def mS(l:List UInt8):Int:=
 match l with
 |[]=>4
 |c::_=>if iS c.toNat then 1 else if iY c.toNat then 2 else if dO c.toNat then 3 else 4
def eG(l:List UInt8):Nat:=
 match l with
 |[]=>0
 |c::_=>if iS c.toNat||iY c.toNat then aL eH l else if dO c.toNat then aL dO l else fB l
def kP(l:List UInt8):Int:=
 match l with
 |[]=>0
 |c::_=>
  if iS c.toNat||iY c.toNat then(if aL eH l>12 then 2 else 0)
  else if dO c.toNat then(if aL dO l>7 then 2 else if(c.toNat:Int)=48/\aL dO l>1 then 1 else 0)
  else if fB l=0 then 1 else 0
structure fD where
 kind:Int
 at_:Int
 text:List UInt8
def qH(L:List UInt8)(p:Nat):fD:={kind:=mS (L.drop p),at_:=p,text:=(L.drop p).take (eG (L.drop p))}
def nD(L:List UInt8):Nat->Nat->List fD->List fD×Nat×Int
 |0,_,b=>(b,0,0)
 |f+1,p,b=>
  if L.length<=p then(b,0,0)
  else if kP (L.drop p)=0 then nD L f (p+eG (L.drop p)+iV false (L.drop (p+eG (L.drop p)))) (b++[qH L p])
  else([],p,kP (L.drop p))
def jF(L:List UInt8):List fD×Nat×Int:=
 if 5000<L.length then([],0,2)else nD L L.length (iV false L) []
theorem MJ(L:List UInt8)(f p:Nat)(b:List fD)(h:L.length<=p):nD L f p b=(b,0,0):=by
 cases f with
 |zero=>rfl
 |succ f=>rw[nD,if_pos h]
theorem Ad(L:List UInt8)(f p:Nat)(b:List fD)(h:p<L.length)(e:L.length<=p+f)(d:¬kP (L.drop p)=0):nD L f p b=([],p,kP (L.drop p)):=by
 cases f with
 |zero=>omega
 |succ f=>rw[nD,if_neg (by omega),if_neg d]
theorem MK(L:List UInt8)(f p:Nat)(b:List fD)(h:p<L.length)(d:kP (L.drop p)=0):
 nD L (f+1) p b=nD L f (p+eG (L.drop p)+iV false (L.drop (p+eG (L.drop p)))) (b++[qH L p]):=by
 rw[nD,if_neg (by omega),if_pos d]
theorem MI{p:Int->Bool}{c:UInt8}{r:List UInt8}(h:p c.toNat=true):1<=aL p (c::r):=by rw[aL,if_pos h];omega
theorem WD(l:List UInt8)(h:l≠[])(i:kP l=0):1<=eG l:=by
 match l,h with
 |c::r,_=>
  have b:kP (c::r)=if iS c.toNat||iY c.toNat then(if aL eH (c::r)>12 then 2 else 0)
   else if dO c.toNat then(if aL dO (c::r)>7 then 2 else if(c.toNat:Int)=48/\aL dO (c::r)>1 then 1 else 0)
   else if fB (c::r)=0 then 1 else 0:=rfl
  have f:eG (c::r)=if iS c.toNat||iY c.toNat then aL eH (c::r)else if dO c.toNat then aL dO (c::r)else fB (c::r):=rfl;rw[i]at b;rw[f];by_cases d:(iS c.toNat||iY c.toNat)=true
  ·rw[if_pos d];exact MI (by unfold eH;rw[d];rfl)
  rw[if_neg d]at b ⊢;by_cases e:dO c.toNat=true
  ·rw[if_pos e];exact MI e
  rw[if_neg e]at b ⊢;by_cases g:fB (c::r)=0
  ·rw[if_pos g]at b;exact absurd b (by decide)
  omega
theorem SJ(l:List UInt8):fB l<=l.length:=by
 unfold fB;split
 ·rename_i h;simp only[Bool.or_eq_true]at h;(rcases h with(h|h)|h);all_goals (have b:=(List.isPrefixOf_iff_prefix.1 h).length_le;simpa using b)
 split
 ·simp
 split<;>simp
theorem PO(l:List UInt8):eG l<=l.length:=by
 match l with
 |[]=>exact aE 0
 |c::r=>
  have b:eG (c::r)=if iS c.toNat||iY c.toNat then aL eH (c::r)else if dO c.toNat then aL dO (c::r)else fB (c::r):=rfl;rw[b];split
  ·exact YE _ _
  split
  ·exact YE _ _
  exact SJ _
theorem QY(b:Bool)(l:List UInt8):iV b l<=l.length:=by
 induction l generalizing b with
 |nil=>cases b<;>simp[iV]
 |cons c r d=>
  have e:=d true;have f:=d false;cases b
  ·simp only[iV,List.length_cons];split
   ·omega
   split<;>omega
  simp only[iV,List.length_cons];split<;>omega
theorem aEV(l:List UInt8):iV true l=aL qX l+iV false (l.drop (aL qX l)):=by
 induction l with
 |nil=>rfl
 |cons c r e=>
  by_cases h:(c.toNat:Int)=10
  ·(have b:aL qX (c::r)=0:=by simp[aL,qX,h]);(have d:¬((c.toNat:Int)=37):=by omega);rw[b,gJ];simp only[iV,if_pos h,if_neg d,if_pos (show(c.toNat:Int)=32\/(c.toNat:Int)=9\/(c.toNat:Int)=10 from .inr (.inr h))];omega
  (have b:aL qX (c::r)=aL qX r+1:=by simp[aL,qX,h]);rw[b,List.drop_succ_cons];simp only[iV,if_neg h];omega
end Go.Proofs.YthenjegmigeieaaGreat
namespace Go.Proofs.YthenjegmigeieaaGreat
open Go.RowKit
theorem qR(n:Int)(w:World):Calls Tryz.prog 254 #[.int .u8 n] w fun e d=>e=.returned (.bool (iS n))/\d=w:=by
 by_cases h:97<=n
 ·go_enter Tryz.func254,Tryz.ntmps254
  go_wp2;go_ret;exact⟨by simp[iS,h],rfl⟩
 have b:decide (97<=n)=false:=by simpa using h
 go_enter Tryz.func254,Tryz.ntmps254
 go_wp2;go_ret;exact⟨by simp only[iS,b,Bool.false_and];rfl,rfl⟩
theorem qQ(n:Int)(w:World):Calls Tryz.prog 256 #[.int .u8 n] w fun e d=>e=.returned (.bool (iY n))/\d=w:=by
 by_cases h:65<=n
 ·go_enter Tryz.func256,Tryz.ntmps256
  go_wp2;go_ret;exact⟨by simp[iY,h],rfl⟩
 have b:decide (65<=n)=false:=by simpa using h
 go_enter Tryz.func256,Tryz.ntmps256
 go_wp2;go_ret;exact⟨by simp only[iY,b,Bool.false_and];rfl,rfl⟩
theorem nJ(n:Int)(w:World):Calls Tryz.prog 257 #[.int .u8 n] w fun e d=>e=.returned (.bool (dO n))/\d=w:=by
 by_cases h:48<=n
 ·go_enter Tryz.func257,Tryz.ntmps257
  go_wp2;go_ret;exact⟨by simp[dO,h],rfl⟩
 have b:decide (48<=n)=false:=by simpa using h
 go_enter Tryz.func257,Tryz.ntmps257
 go_wp2;go_ret;exact⟨by simp only[dO,b,Bool.false_and];rfl,rfl⟩
theorem aQA(n:Int)(w:World):Calls Tryz.prog 253 #[.int .u8 n] w fun e b=>e=.returned (.bool (qX n))/\b=w:=by
 go_enter Tryz.func253,Tryz.ntmps253
 go_wp2;go_ret;exact⟨by simp[qX],rfl⟩
theorem Vf(n:Int)(w:World):Calls Tryz.prog 260 #[.int .u8 n] w fun e b=>e=.returned (.bool (eH n))/\b=w:=by
 unfold eH;cases d:iS n
 ·cases f:iY n
  ·go_enter Tryz.func260,Tryz.ntmps260
   go_wp2_with(first|(go_at_call 254;refine(qR _ _).mono ?_;rintro e b ⟨rfl,rfl⟩)|(go_at_call 256;refine(qQ _ _).mono ?_;rintro e b ⟨rfl,rfl⟩)|(go_at_call 257;refine(nJ _ _).mono ?_;rintro e b ⟨rfl,rfl⟩));go_ret;exact⟨by simp,rfl⟩
  go_enter Tryz.func260,Tryz.ntmps260
  go_wp2_with(first|(go_at_call 254;refine(qR _ _).mono ?_;rintro e b ⟨rfl,rfl⟩)|(go_at_call 256;refine(qQ _ _).mono ?_;rintro e b ⟨rfl,rfl⟩)|(go_at_call 257;refine(nJ _ _).mono ?_;rintro e b ⟨rfl,rfl⟩));go_ret;exact⟨by simp,rfl⟩
 go_enter Tryz.func260,Tryz.ntmps260
 go_wp2_with(first|(go_at_call 254;refine(qR _ _).mono ?_;rintro e b ⟨rfl,rfl⟩)|(go_at_call 256;refine(qQ _ _).mono ?_;rintro e b ⟨rfl,rfl⟩)|(go_at_call 257;refine(nJ _ _).mono ?_;rintro e b ⟨rfl,rfl⟩));go_ret;exact⟨by simp,rfl⟩
theorem AH{k:IntKind}{a b:Int}(h:a=b):Ending.returned (.int k a)=.returned (.int k b):=by rw[h]
def aVB(g:Nat)(p:Int->Bool):Prop:=∀(n:Int)(w:World),Calls Tryz.prog g #[.int .u8 n] w fun e b=>e=.returned (.bool (p n))/\b=w
def CG(g:Nat):Prop:=∀(a:Array Value)(w:World),(callFunc g a).run Tryz.prog w=.ok (.enter g a) w
theorem MZ(g:Nat)(p:Int->Bool)(hg:aVB g p)(v:CG g)(s:ByteArray)(b:Nat)(w:World)(y:s.size<=maxLen)(r:b<=s.size):
 Calls Tryz.prog 252 #[.string s, .int .i64 b, .func (.func g) #[] #[]] w fun e m=>e=.returned (.int .i64 ((b+aL p (s.data.toList.drop b):Nat):Int))/\m=w:=by
 unfold maxLen at y
 go_enter Tryz.func252,Tryz.ntmps252
 go_wp2;go_loop [1] (fun i=>∃k:Nat,k<=s.size/\i=.int .i64 k/\b+aL p (s.data.toList.drop b)=k+aL p (s.data.toList.drop k)) (fun i=>s.size-(intOf i).toNat);case atStart=>exact⟨b,r,rfl,rfl⟩
 case round=>
  obtain⟨k,z,rfl,j⟩:=hrel;have HK:O (b+aL p (s.data.toList.drop b)=k+aL p (s.data.toList.drop k)):=j;clear j;by_cases x:k<s.size
  ·go_wp2_with fail;rw[v,Oper.upon_enter];refine(hg _ _).mono ?_;rintro e m ⟨rfl,rfl⟩;(have l:k<s.data.toList.length:=by simpa using x);cases f:p (s[k].toNat:Int)
   ·have d:O (aL p (s.data.toList.drop k)=0):=BX p s.data.toList k l f;clear f;go_wp2;go_ret;exact⟨AH (by have n:=HK.o;have q:=d.o;omega),rfl⟩
   have d:O (aL p (s.data.toList.drop k)=aL p (s.data.toList.drop (k+1))+1):=nC p s.data.toList k l f;clear f;go_wp2;go_round;(case rel=>exact⟨k+1,by omega,by go_num,by rw[HK.o,d.o];omega⟩);case measure=>simp[intOf];omega
  have d:O (aL p (s.data.toList.drop k)=0):=AC p s.data.toList k (by simp;omega);go_wp2;go_ret;exact⟨AH (by have n:=HK.o;have q:=d.o;omega),rfl⟩
theorem jQ{f:FuncId}{b:Func}{c:Code}(g:Tryz.prog.funcs[f]?=some b)(i:(b.name== "runtime.NumGoroutine")=false)(e:b.body=some c):CG f:=by intro a w;(have d:b.name≠ "runtime.NumGoroutine" :=by simpa using i);simp[callFunc,g,d,e]
theorem aM3:CG 253:=jQ Tryz.func253 (by kernel_rfl) rfl
theorem RF:CG 257:=jQ Tryz.func257 (by kernel_rfl) rfl
theorem Vv:CG 260:=jQ Tryz.func260 (by kernel_rfl) rfl
theorem qM (a:Act) (v:Value):a.eval (.const v)=v:=rfl
theorem IM (a:Act) (f:FuncId):a.eval (.func f)=.func (.func f) #[] #[]:=rfl
theorem oM{P:Prop}(h:P:=by omega):P:=h
theorem kR{P:Prop}(h:P:=by kernel_rfl):P:=h
theorem dE{P:Prop}(h:P:=by decide):P:=h
theorem sI{P:Prop}(h:P:=by simp):P:=h
theorem sO{P:Prop}(h:P:=by simp;omega):P:=h
theorem rF{P:Prop}(h:P:=by rfl):P:=h
theorem tR{P:Prop}(h:P:=by intro t ht;cases ht;exact rfl):P:=h
theorem gN{P:Prop}(h:P:=by go_num):P:=h
theorem rV{P:Prop}(h:P:=by rw[HV.o];rfl):P:=h
theorem mI{P:Prop}(h:P:=by simp[intOf];omega):P:=h
end Go.Proofs.YthenjegmigeieaaGreat
namespace Go.Proofs
open Go.Shelf
def Tryz.lays170_ren:Go.Shelf.Ren:=⟨fun |170=>243|n=>n,fun |70=>273|3=>3|0=>0|72=>276|37=>274|5=>5|n=>n,fun |n=>n⟩
theorem Tryz.lays170:Go.Proofs.Lays.n170 Tryz.prog Tryz.lays170_ren:={
 mixed:=by kernel_rfl
 f170:=Tryz.func243.trans (congrArg some (by kernel_rfl))
 t0:=Tryz.underlying0
 a0:=Tryz.isAgg0
 z0:=Tryz.sizeOf0
 v0:=Tryz.zeroValue0
 t3:=Tryz.underlying3
 a3:=Tryz.isAgg3
 z3:=Tryz.sizeOf3
 v3:=Tryz.zeroValue3
 t37:=Tryz.underlying274
 a37:=Tryz.isAgg274
 z37:=Tryz.sizeOf274
 v37:=Tryz.zeroValue274
 t70:=Tryz.underlying273
 a70:=Tryz.isAgg273
 z70:=Tryz.sizeOf273
 v70:=Tryz.zeroValue273
 t72:=Tryz.underlying276
 a72:=Tryz.isAgg276
 z72:=Tryz.sizeOf276
 v72:=Tryz.zeroValue276}
open Go.RowKit in
theorem Tryz.Builder_Len(B b:Nat)(bs:List Value)(w:World)(h:Lib.IsBuilder 276 5 B b bs w):
 Calls Tryz.prog 243 #[.pointer (some ⟨b,0,none⟩)] w fun e w'=>e=.returned (.int .i64 bs.length)∧w'=w:=Any.Builder_Len Tryz.lays170 B b bs w h
def Tryz.lays169_ren:Go.Shelf.Ren:=⟨fun |169=>244|n=>n,fun |70=>273|9=>9|0=>0|72=>276|37=>274|127=>287|3=>3|5=>5|n=>n,fun |n=>n⟩
theorem Tryz.lays169:Go.Proofs.Lays.n169 Tryz.prog Tryz.lays169_ren:={
 mixed:=by kernel_rfl
 f169:=Tryz.func244.trans (congrArg some (by kernel_rfl))
 t0:=Tryz.underlying0
 a0:=Tryz.isAgg0
 z0:=Tryz.sizeOf0
 v0:=Tryz.zeroValue0
 t3:=Tryz.underlying3
 a3:=Tryz.isAgg3
 z3:=Tryz.sizeOf3
 v3:=Tryz.zeroValue3
 t9:=Tryz.underlying9
 a9:=Tryz.isAgg9
 z9:=Tryz.sizeOf9
 v9:=Tryz.zeroValue9
 t37:=Tryz.underlying274
 a37:=Tryz.isAgg274
 z37:=Tryz.sizeOf274
 v37:=Tryz.zeroValue274
 t70:=Tryz.underlying273
 a70:=Tryz.isAgg273
 z70:=Tryz.sizeOf273
 v70:=Tryz.zeroValue273
 t72:=Tryz.underlying276
 a72:=Tryz.isAgg276
 z72:=Tryz.sizeOf276
 v72:=Tryz.zeroValue276
 t127:=Tryz.underlying287
 a127:=Tryz.isAgg287
 z127:=Tryz.sizeOf287
 v127:=Tryz.zeroValue287}
theorem Tryz.Builder_Extra_169:Builder.Extra Tryz.prog Tryz.lays169_ren:={
 sizeBuilder:=by kernel_rfl
 liesBuilder:=by kernel_rfl
 t5:=Tryz.underlying5
 a5:=Tryz.isAgg5
 z5:=Tryz.sizeOf5
 v5:=Tryz.zeroValue5
 infoByte:=by kernel_rfl
 cellsByte:=by kernel_rfl
 sizeByte:=by kernel_rfl
 neB5:=by decide}
open Go.RowKit in
theorem Tryz.Builder_String(B b:Nat)(l:List UInt8)(w:World)(h:Lib.IsBuilder 276 5 B b (Lib.byteCells l) w)(h0:l≠[]):
 Calls Tryz.prog 244 #[.pointer (some ⟨b,0,none⟩)] w fun e w'=>e=.returned (.string ⟨l.toArray⟩)∧Below B w w':=Any.Builder_String Tryz.lays169 Tryz.Builder_Extra_169 B b l w h h0
open Go.RowKit in
theorem Tryz.Builder_String_empty(B b:Nat)(w:World)(h:Lib.IsBuilder 276 5 B b [] w)(hBw:B≤w.heap.size):
 Calls Tryz.prog 244 #[.pointer (some ⟨b,0,none⟩)] w fun e w'=>e=.returned (.string ⟨#[]⟩)∧Below B w w':=Any.Builder_String_empty Tryz.lays169 Tryz.Builder_Extra_169 B b w h hBw
open Go.RowKit in
theorem Tryz.Builder_String_any(B b:Nat)(l:List UInt8)(w:World)(h:Lib.IsBuilder 276 5 B b (Lib.byteCells l) w)(hBw:B≤w.heap.size):
 Calls Tryz.prog 244 #[.pointer (some ⟨b,0,none⟩)] w fun e w'=>e=.returned (.string ⟨l.toArray⟩)∧Below B w w':=Any.Builder_String_any Tryz.lays169 Tryz.Builder_Extra_169 B b l w h hBw
def Tryz.lays137_ren:Go.Shelf.Ren:=⟨fun |137=>265|217=>268|266=>269|n=>n,fun |9=>9|5=>5|3=>3|n=>n,fun |n=>n⟩
theorem Tryz.lays137:Go.Proofs.Lays.n137 Tryz.prog Tryz.lays137_ren:={
 mixed:=by kernel_rfl
 f137:=Tryz.func265.trans (congrArg some (by kernel_rfl))
 f217:=Tryz.func268.trans (congrArg some (by kernel_rfl))
 f266:=Tryz.func269.trans (congrArg some (by kernel_rfl))
 t3:=Tryz.underlying3
 a3:=Tryz.isAgg3
 z3:=Tryz.sizeOf3
 v3:=Tryz.zeroValue3
 t5:=Tryz.underlying5
 a5:=Tryz.isAgg5
 z5:=Tryz.sizeOf5
 v5:=Tryz.zeroValue5
 t9:=Tryz.underlying9
 a9:=Tryz.isAgg9
 z9:=Tryz.sizeOf9
 v9:=Tryz.zeroValue9}
open Go.RowKit in
theorem Tryz.strings_IndexByte(s:ByteArray)(c:Int)(w:World):
 Calls Tryz.prog 265 #[.string s, .int .u8 c] w fun e w'=>e=.returned (.int .i64 (Lib.indexByte s.data.toList c.toNat.toUInt8))∧w'=w:=Any.strings_IndexByte Tryz.lays137 s c w
def Tryz.laysM316_ren:Go.Shelf.Ren:=⟨fun |316=>266|n=>n,fun |9=>9|3=>3|4=>4|37=>274|0=>0|127=>287|5=>5|n=>n,fun |n=>n⟩
theorem Tryz.laysM316:Go.Proofs.LaysM.n316 Tryz.prog Tryz.laysM316_ren:={
 mixed:=by kernel_rfl
 f316:=Tryz.func266.trans (congrArg some (by kernel_rfl))
 t0:=Tryz.underlying0
 a0:=Tryz.isAgg0
 z0:=Tryz.sizeOf0
 v0:=Tryz.zeroValue0
 t3:=Tryz.underlying3
 a3:=Tryz.isAgg3
 z3:=Tryz.sizeOf3
 v3:=Tryz.zeroValue3
 t4:=Tryz.underlying4
 a4:=Tryz.isAgg4
 z4:=Tryz.sizeOf4
 v4:=Tryz.zeroValue4
 t9:=Tryz.underlying9
 a9:=Tryz.isAgg9
 z9:=Tryz.sizeOf9
 v9:=Tryz.zeroValue9
 t37:=Tryz.underlying274
 a37:=Tryz.isAgg274
 z37:=Tryz.sizeOf274
 v37:=Tryz.zeroValue274
 t127:=Tryz.underlying287
 a127:=Tryz.isAgg287
 z127:=Tryz.sizeOf287
 v127:=Tryz.zeroValue287
 t5:=Tryz.underlying5
 a5:=Tryz.isAgg5
 z5:=Tryz.sizeOf5
 v5:=Tryz.zeroValue5
 i0:=by kernel_rfl
 i3:=by kernel_rfl
 i4:=by kernel_rfl
 i5:=by kernel_rfl
 i9:=by kernel_rfl
 i37:=by kernel_rfl
 i127:=by kernel_rfl}
open Go.RowKit in
theorem Tryz.stringslite_Clone(s:ByteArray)(w:World)(hlim:s.size≤281474976710656):
 Calls Tryz.prog 266 #[.string s] w fun e w'=>e=.returned (.string s)∧Below w.heap.size w w':=Any.stringslite_Clone Tryz.laysM316 s w hlim
def Tryz.lays217_ren:Go.Shelf.Ren:=⟨fun |217=>268|266=>269|n=>n,fun |9=>9|5=>5|3=>3|n=>n,fun |n=>n⟩
theorem Tryz.lays217:Go.Proofs.Lays.n217 Tryz.prog Tryz.lays217_ren:={
 mixed:=by kernel_rfl
 f217:=Tryz.func268.trans (congrArg some (by kernel_rfl))
 f266:=Tryz.func269.trans (congrArg some (by kernel_rfl))
 t3:=Tryz.underlying3
 a3:=Tryz.isAgg3
 z3:=Tryz.sizeOf3
 v3:=Tryz.zeroValue3
 t5:=Tryz.underlying5
 a5:=Tryz.isAgg5
 z5:=Tryz.sizeOf5
 v5:=Tryz.zeroValue5
 t9:=Tryz.underlying9
 a9:=Tryz.isAgg9
 z9:=Tryz.sizeOf9
 v9:=Tryz.zeroValue9}
open Go.RowKit Go.Lib in
theorem Tryz.stringslite_IndexByte(s:ByteArray)(c:Int)(w:World):
 Calls Tryz.prog 268 #[.string s, .int .u8 c] w fun e w'=>e=.returned (.int .i64 (Lib.indexByte s.data.toList c.toNat.toUInt8))∧w'=w:=Any.stringslite_IndexByte Tryz.lays217 s c w
def Tryz.lays206_ren:Go.Shelf.Ren:=⟨fun |206=>267|n=>n,fun |9=>9|4=>4|3=>3|n=>n,fun |n=>n⟩
theorem Tryz.lays206:Go.Proofs.Lays.n206 Tryz.prog Tryz.lays206_ren:={
 mixed:=by kernel_rfl
 f206:=Tryz.func267.trans (congrArg some (by kernel_rfl))
 t3:=Tryz.underlying3
 a3:=Tryz.isAgg3
 z3:=Tryz.sizeOf3
 v3:=Tryz.zeroValue3
 t4:=Tryz.underlying4
 a4:=Tryz.isAgg4
 z4:=Tryz.sizeOf4
 v4:=Tryz.zeroValue4
 t9:=Tryz.underlying9
 a9:=Tryz.isAgg9
 z9:=Tryz.sizeOf9
 v9:=Tryz.zeroValue9}
open Go.RowKit Go.Lib in
theorem Tryz.stringslite_HasPrefix(s p:ByteArray)(w:World):
 Calls Tryz.prog 267 #[.string s, .string p] w fun e w'=>e=.returned (.bool (Lib.hasPrefix s.data.toList p.data.toList))∧w'=w:=Any.stringslite_HasPrefix Tryz.lays206 s p w
def Tryz.lays99_ren:Go.Shelf.Ren:=⟨fun |99=>264|206=>267|n=>n,fun |9=>9|4=>4|3=>3|n=>n,fun |n=>n⟩
theorem Tryz.lays99:Go.Proofs.Lays.n99 Tryz.prog Tryz.lays99_ren:={
 mixed:=by kernel_rfl
 f99:=Tryz.func264.trans (congrArg some (by kernel_rfl))
 f206:=Tryz.func267.trans (congrArg some (by kernel_rfl))
 t3:=Tryz.underlying3
 a3:=Tryz.isAgg3
 z3:=Tryz.sizeOf3
 v3:=Tryz.zeroValue3
 t4:=Tryz.underlying4
 a4:=Tryz.isAgg4
 z4:=Tryz.sizeOf4
 v4:=Tryz.zeroValue4
 t9:=Tryz.underlying9
 a9:=Tryz.isAgg9
 z9:=Tryz.sizeOf9
 v9:=Tryz.zeroValue9}
open Go.RowKit Go.Lib in
theorem Tryz.strings_HasPrefix(s p:ByteArray)(w:World):
 Calls Tryz.prog 264 #[.string s, .string p] w fun e w'=>e=.returned (.bool (Lib.hasPrefix s.data.toList p.data.toList))∧w'=w:=Any.strings_HasPrefix Tryz.lays99 s p w
end Go.Proofs
namespace Go.Proofs.YthenjegmigeieaaGreat
open Go.RowKit
theorem aMV(s:ByteArray)(w:World)(f:s.size<=281474976710656):
 Calls Tryz.prog 263 #[.string s] w fun e b=>e=.returned (.string s)/\Below w.heap.size w b:=by
 go_enter Tryz.func263,Tryz.ntmps263
 go_wp2_with(go_at_call 266;refine(Tryz.stringslite_Clone _ _ f).mono ?_;rintro e b ⟨rfl,d⟩);go_ret;exact⟨rfl,d⟩
theorem Vg{W d:World}(e:Below W.heap.size W d):(∀b o,b<W.heap.size->d.cell? ⟨b,o,none⟩=W.cell? ⟨b,o,none⟩)/\(∀b o,b<W.heap.size->d.frozen? ⟨b,o,none⟩=W.frozen? ⟨b,o,none⟩):=
 ⟨fun b o h=>e.cell (p:=⟨b,o,none⟩) h,fun b o h=>e.frozen (p:=⟨b,o,none⟩) h⟩
abbrev TY:Obj:=.cells #[.int .i64 0, .int .i64 0, .string {data:=#[]}] 271
theorem FI{w b:World}(f:Below (w.alloc TY).heap.size (w.alloc TY) b):
 (b.cell? ⟨w.heap.size,0,none⟩=some (.int .i64 0)/\b.cell? ⟨w.heap.size,1,none⟩=some (.int .i64 0)/\b.cell? ⟨w.heap.size,2,none⟩=some (.string {data:=#[]}))/\
 b.frozen? ⟨w.heap.size,0,none⟩=false/\b.frozen? ⟨w.heap.size,1,none⟩=false/\b.frozen? ⟨w.heap.size,2,none⟩=false:=by
 obtain⟨d,e⟩:=Vg f;(have h:w.heap.size<(w.alloc TY).heap.size:=by simp);refine⟨⟨?_,?_,?_⟩,?_,?_,?_⟩
 ·rw[d _ _ h];simp[go_sem]
 ·rw[d _ _ h];simp[go_sem]
 ·rw[d _ _ h];simp[go_sem]
 ·rw[e _ _ h];simp[go_sem]
 ·rw[e _ _ h];simp[go_sem]
 rw[e _ _ h];simp[go_sem]
theorem zE{w b:World}(e:Below (w.alloc TY).heap.size (w.alloc TY) b)(x y z:Value):
 Below w.heap.size w (((b.setCell ⟨w.heap.size,0,none⟩ x).setCell ⟨w.heap.size,1,none⟩ y).setCell ⟨w.heap.size,2,none⟩ z):=by
 have d:Below w.heap.size w b:=((aH _ _).alloc (aE _) _).trans (e.mono sI);exact((d.setCell (p:=⟨w.heap.size,0,none⟩) (aE _) _).setCell (p:=⟨w.heap.size,1,none⟩) (aE _) _).setCell (p:=⟨w.heap.size,2,none⟩) (aE _) _
theorem Dm(s:ByteArray)(a b k:Int)(w:World)(r:s.size<=281474976710656)(n:0<=a)(p:a<=b)(q:b<=s.size):
 Calls Tryz.prog 261 #[.string s, .int .i64 a, .int .i64 b, .int .i64 k] w fun e i=>e=.returned (.agg #[.int .i64 k, .int .i64 a, .string (s.extract a.toNat b.toNat)])/\Below w.heap.size w i:=by
 go_enter Tryz.func261,Tryz.ntmps261
 go_wp2_with fail;refine(aMV _ _ sO).mono ?_;rintro e x ⟨rfl,d⟩;obtain⟨⟨c0,f,g⟩,j,l,m⟩:=FI d;go_wp2;refine dF (v:=.agg #[.int .i64 k, .int .i64 a, .string (s.extract a.toNat b.toNat)]) (by simp[results,Tryz.results261,go_sem,c0,f,g]) rfl ⟨rfl,?_⟩;exact zE d _ _ _
theorem RI(p:Int->Bool)(s:ByteArray)(a:Nat)(h:a<=s.size):a+aL p (s.data.toList.drop a)<=s.size:=by have b:=YE p (s.data.toList.drop a);(have d:(s.data.toList.drop a).length=s.size-a:=by simp);omega
theorem FG(s:ByteArray)(a n:Nat):s.extract ((a:Nat):Int).toNat ((a:Int)+(n:Int)).toNat=s.extract a (a+n):=by rw[fJ,show((a:Int)+(n:Int)).toNat=a+n from by omega]
abbrev Jd(a c:Int):Ending:=.panicked [{v:=.iface 289 (.agg #[.int .i64 a, .int .i64 c]),recovered:=false}]
theorem aLE(s:ByteArray)(b:Nat)(k:Int)(w:World)(j:s.size<=281474976710656)(d:b<=s.size)(i:12<aL eH (s.data.toList.drop b)):
 Calls Tryz.prog 255 #[.string s, .int .i64 b, .int .i64 k] w fun e f=>e=Jd b 2/\Below w.heap.size w f:=by
 go_enter Tryz.func255,Tryz.ntmps255
 go_wp2_with fail;refine(MZ 260 eH Vf Vv s b _ (by unfold maxLen;omega) d).mono ?_;rintro e l ⟨rfl,rfl⟩;have g:=RI eH s b d;go_wp2_with fail;exact⟨rfl,rfl,(aH _ _).alloc (aE _) _⟩
theorem aHC(s:ByteArray)(b:Nat)(k:Int)(w:World)(l:s.size<=281474976710656)(d:b<=s.size)(y:aL eH (s.data.toList.drop b)<=12):
 Calls Tryz.prog 255 #[.string s, .int .i64 b, .int .i64 k] w fun e m=>e=.returned (.agg #[.int .i64 k, .int .i64 b, .string (s.extract b (b+aL eH (s.data.toList.drop b)))])/\Below w.heap.size w m:=by
 go_enter Tryz.func255,Tryz.ntmps255
 go_wp2_with fail;refine(MZ 260 eH Vf Vv s b _ (by unfold maxLen;omega) d).mono ?_;rintro e n ⟨rfl,rfl⟩;have x:=RI eH s b d;go_wp2_with fail;refine(Dm s _ _ k _ l oM oM oM).mono ?_;rintro e n ⟨g,f⟩;rw[FG]at g;subst g;obtain⟨⟨c0,i,j⟩,p,q,r⟩:=FI f;go_wp2;exact dF (v:=.agg #[.int .i64 k, .int .i64 b, .string (s.extract b (b+aL eH (s.data.toList.drop b)))]) (by simp[results,Tryz.results255,go_sem,c0,i,j]) rfl ⟨rfl,zE f _ _ _⟩
theorem aF6(s:ByteArray)(b:Nat)(w:World)(j:s.size<=281474976710656)(f:b<s.size)(i:7<aL dO (s.data.toList.drop b)):
 Calls Tryz.prog 258 #[.string s, .int .i64 b] w fun e d=>e=Jd b 2/\Below w.heap.size w d:=by
 go_enter Tryz.func258,Tryz.ntmps258
 go_wp2_with fail;refine(MZ 257 dO nJ RF s b _ (by unfold maxLen;omega) oM).mono ?_;rintro e k ⟨rfl,rfl⟩;have g:=RI dO s b oM;go_wp2_with fail;exact⟨rfl,rfl,(aH _ _).alloc (aE _) _⟩
theorem aF5(s:ByteArray)(b:Nat)(w:World)(k:s.size<=281474976710656)(f:b<s.size)(j:aL dO (s.data.toList.drop b)<=7)(i:1<aL dO (s.data.toList.drop b))(h0:((s[b].toNat:Int)==48)=true):
 Calls Tryz.prog 258 #[.string s, .int .i64 b] w fun e d=>e=Jd b 1/\Below w.heap.size w d:=by
 go_enter Tryz.func258,Tryz.ntmps258
 go_wp2_with fail;refine(MZ 257 dO nJ RF s b _ (by unfold maxLen;omega) oM).mono ?_;rintro e l ⟨rfl,rfl⟩;have g:=RI dO s b oM;go_wp2_with fail;exact⟨rfl,rfl,(aH _ _).alloc (aE _) _⟩
theorem aJT(s:ByteArray)(b:Nat)(w:World)(m:s.size<=281474976710656)(y:b<s.size)(A:aL dO (s.data.toList.drop b)<=7)(j:((s[b].toNat:Int)==48)=false\/aL dO (s.data.toList.drop b)<=1):
 Calls Tryz.prog 258 #[.string s, .int .i64 b] w fun e r=>e=.returned (.agg #[.int .i64 3, .int .i64 b, .string (s.extract b (b+aL dO (s.data.toList.drop b)))])/\Below w.heap.size w r:=by
 have z:=RI dO s b oM;rcases Bool.eq_false_or_eq_true ((s[b].toNat:Int)==48)with l|l
 ·(have x:aL dO (s.data.toList.drop b)<=1:=by rcases j with h|h;rw[l]at h;cases h;exact h);clear j
  go_enter Tryz.func258,Tryz.ntmps258
  go_wp2_with fail;refine(MZ 257 dO nJ RF s b _ (by unfold maxLen;omega) oM).mono ?_;rintro e k ⟨rfl,rfl⟩;go_wp2_with fail;refine(Dm s _ _ 3 _ m oM oM oM).mono ?_;rintro e k ⟨f,d⟩;rw[FG]at f;subst f;obtain⟨⟨c0,g,i⟩,n,p,q⟩:=FI d;go_wp2;exact dF (v:=.agg #[.int .i64 3, .int .i64 b, .string (s.extract b (b+aL dO (s.data.toList.drop b)))]) (by simp[results,Tryz.results258,go_sem,c0,g,i]) rfl ⟨rfl,zE d _ _ _⟩
 clear j
 go_enter Tryz.func258,Tryz.ntmps258
 go_wp2_with fail;refine(MZ 257 dO nJ RF s b _ (by unfold maxLen;omega) oM).mono ?_;rintro e k ⟨rfl,rfl⟩;go_wp2_with fail;refine(Dm s _ _ 3 _ m oM oM oM).mono ?_;rintro e k ⟨f,d⟩;rw[FG]at f;subst f;obtain⟨⟨c0,g,i⟩,n,p,q⟩:=FI d;go_wp2;exact dF (v:=.agg #[.int .i64 3, .int .i64 b, .string (s.extract b (b+aL dO (s.data.toList.drop b)))]) (by simp[results,Tryz.results258,go_sem,c0,g,i]) rfl ⟨rfl,zE d _ _ _⟩
theorem Lb:∀n:Fin 256,mR (UInt8.ofNat n.val)=decide (0<=Lib.indexByte [40,41,44,46,60,61,43,45,42] (UInt8.ofNat n.val)):=by decide+kernel
theorem aKF(x:UInt8):mR x=decide (0<=Lib.indexByte [40,41,44,46,60,61,43,45,42] x):=by have h:=Lb ⟨x.toNat,x.toNat_lt⟩;simpa using h
theorem QK(t:ByteArray)(w:World)(ht:0<t.size):
 Calls Tryz.prog 262 #[.string t] w fun e b=>e=.returned (.int .i64 (fB t.data.toList))/\b=w:=by
 have s:∀w:World,(Instr.index 300 (.agg #[.string {data:=#[58,45]}, .string {data:=#[60,61]}, .string {data:=#[33,61]}]) (.int .i64 0)).run Tryz.prog w=.ok (.string {data:=#[58,45]}) w:=fun _=>kR;have v:∀w:World,(Instr.index 300 (.agg #[.string {data:=#[58,45]}, .string {data:=#[60,61]}, .string {data:=#[33,61]}]) (.int .i64 1)).run Tryz.prog w=.ok (.string {data:=#[60,61]}) w:=fun _=>kR;have x:∀w:World,(Instr.index 300 (.agg #[.string {data:=#[58,45]}, .string {data:=#[60,61]}, .string {data:=#[33,61]}]) (.int .i64 2)).run Tryz.prog w=.ok (.string {data:=#[33,61]}) w:=fun _=>kR;(have i:t.data.toList=t[0]::t.data.toList.drop 1:=by have h:=yZ t.data.toList 0 (by simpa using ht);rw[gJ]at h;exact h);(have k:((t[0].toNat:Int).toNat.toUInt8)=t[0]:=by simp[Nat.toUInt8]);have f:=aKF t[0];cases l:Lib.hasPrefix t.data.toList [58,45]
 ·cases m:Lib.hasPrefix t.data.toList [60,61]
  ·cases n:Lib.hasPrefix t.data.toList [33,61]
   ·(have d:O (fB t.data.toList=if mR t[0] then 1 else 0):=by(have q:fB t.data.toList=if [58,45].isPrefixOf t.data.toList||[60,61].isPrefixOf t.data.toList||[33,61].isPrefixOf t.data.toList then 2 else match t.data.toList with |[]=>0|c::_=>if mR c then 1 else 0:=rfl);rw[Lib.hasPrefix]at l m n;rw[l,m,n]at q;rw[i]at q;rw[i];exact q);clear i;cases g:mR t[0]
    ·rw[g]at f;(have r:Lib.indexByte [40,41,44,46,60,61,43,45,42] t[0]<0:=by simpa using f.symm);(have p:O (fB t.data.toList=0):=by have :=d.o;rw[g]at this;exact this);clear d f g
     go_enter Tryz.func262,Tryz.ntmps262
     go_wp2;refine mG 4 ?_;rw[rounds_succ];go_wp2_with(go_at_call 264;refine(Tryz.strings_HasPrefix _ _ _).mono ?_;rintro e b ⟨rfl,rfl⟩);rw[rounds_succ];go_wp2_with(go_at_call 264;refine(Tryz.strings_HasPrefix _ _ _).mono ?_;rintro e b ⟨rfl,rfl⟩);rw[rounds_succ];go_wp2_with(go_at_call 264;refine(Tryz.strings_HasPrefix _ _ _).mono ?_;rintro e b ⟨rfl,rfl⟩);rw[rounds_succ];go_wp2_with fail;refine(Tryz.strings_IndexByte _ _ _).mono ?_;rintro e b ⟨j,rfl⟩;rw[k]at j;subst j;go_wp2;go_ret;exact⟨AH (by rw[p.o];rfl),rfl⟩
    rw[g]at f;(have r:0<=Lib.indexByte [40,41,44,46,60,61,43,45,42] t[0]:=by simpa using f.symm);(have p:O (fB t.data.toList=1):=by have :=d.o;rw[g]at this;exact this);clear d f g
    go_enter Tryz.func262,Tryz.ntmps262
    go_wp2;refine mG 4 ?_;rw[rounds_succ];go_wp2_with(go_at_call 264;refine(Tryz.strings_HasPrefix _ _ _).mono ?_;rintro e b ⟨rfl,rfl⟩);rw[rounds_succ];go_wp2_with(go_at_call 264;refine(Tryz.strings_HasPrefix _ _ _).mono ?_;rintro e b ⟨rfl,rfl⟩);rw[rounds_succ];go_wp2_with(go_at_call 264;refine(Tryz.strings_HasPrefix _ _ _).mono ?_;rintro e b ⟨rfl,rfl⟩);rw[rounds_succ];go_wp2_with fail;refine(Tryz.strings_IndexByte _ _ _).mono ?_;rintro e b ⟨j,rfl⟩;rw[k]at j;subst j;go_wp2;go_ret;exact⟨AH (by rw[p.o];rfl),rfl⟩
   (have d:O (fB t.data.toList=2):=by rw[Lib.hasPrefix]at n;simp[O,fB,n]);clear i f k
   go_enter Tryz.func262,Tryz.ntmps262
   go_wp2;refine mG 4 ?_;rw[rounds_succ];go_wp2_with(go_at_call 264;refine(Tryz.strings_HasPrefix _ _ _).mono ?_;rintro e b ⟨rfl,rfl⟩);rw[rounds_succ];go_wp2_with(go_at_call 264;refine(Tryz.strings_HasPrefix _ _ _).mono ?_;rintro e b ⟨rfl,rfl⟩);rw[rounds_succ];go_wp2_with(go_at_call 264;refine(Tryz.strings_HasPrefix _ _ _).mono ?_;rintro e b ⟨rfl,rfl⟩);go_ret;exact⟨AH (by rw[d.o];rfl),rfl⟩
  (have d:O (fB t.data.toList=2):=by rw[Lib.hasPrefix]at m;simp[O,fB,m]);clear i f k
  go_enter Tryz.func262,Tryz.ntmps262
  go_wp2;refine mG 4 ?_;rw[rounds_succ];go_wp2_with(go_at_call 264;refine(Tryz.strings_HasPrefix _ _ _).mono ?_;rintro e b ⟨rfl,rfl⟩);rw[rounds_succ];go_wp2_with(go_at_call 264;refine(Tryz.strings_HasPrefix _ _ _).mono ?_;rintro e b ⟨rfl,rfl⟩);go_ret;exact⟨AH (by rw[d.o];rfl),rfl⟩
 (have d:O (fB t.data.toList=2):=by rw[Lib.hasPrefix]at l;simp[O,fB,l]);clear i f k
 go_enter Tryz.func262,Tryz.ntmps262
 go_wp2;refine mG 4 ?_;rw[rounds_succ];go_wp2_with(go_at_call 264;refine(Tryz.strings_HasPrefix _ _ _).mono ?_;rintro e b ⟨rfl,rfl⟩);go_ret;exact⟨AH (by rw[d.o];rfl),rfl⟩
theorem aSJ(s:ByteArray)(b:Nat)(w:World)(_hs:s.size<=281474976710656)(i:b<s.size)(f:fB (s.data.toList.drop b)=0):
 Calls Tryz.prog 259 #[.string s, .int .i64 b] w fun e g=>e=Jd b 1/\Below w.heap.size w g:=by
 have HN:O (fB (s.data.toList.drop b)=0):=f;clear f
 go_enter Tryz.func259,Tryz.ntmps259
 go_wp2_with fail;refine(QK _ _ sO).mono ?_;rintro e j ⟨d,rfl⟩;rw[Lib.extract_to_end,HN.o]at d;subst d;go_wp2_with fail;exact⟨rfl,rfl,(aH _ _).alloc (aE _) _⟩
theorem aQM(s:ByteArray)(b:Nat)(w:World)(l:s.size<=281474976710656)(A:b<s.size)(D:0<fB (s.data.toList.drop b)):
 Calls Tryz.prog 259 #[.string s, .int .i64 b] w fun e m=>e=.returned (.agg #[.int .i64 4, .int .i64 b, .string (s.extract b (b+fB (s.data.toList.drop b)))])/\Below w.heap.size w m:=by
 (have C:b+fB (s.data.toList.drop b)<=s.size:=by have y:=SJ (s.data.toList.drop b);(have z:(s.data.toList.drop b).length=s.size-b:=by simp);omega);generalize f:fB (s.data.toList.drop b)=n at *;have i:O (fB (s.data.toList.drop b)=n):=f;clear f;have B:((n:Int)==0)=false:=by simp;omega
 go_enter Tryz.func259,Tryz.ntmps259
 go_wp2_with fail;refine(QK _ _ sO).mono ?_;rintro e p ⟨d,rfl⟩;rw[Lib.extract_to_end,i.o]at d;subst d;go_wp2_with fail;refine(Dm s _ _ 4 _ l oM oM oM).mono ?_;rintro e p ⟨d,g⟩;rw[FG]at d;subst d;obtain⟨⟨c0,j,k⟩,q,r,x⟩:=FI g;go_wp2;exact dF (v:=.agg #[.int .i64 4, .int .i64 b, .string (s.extract b (b+n))]) (by simp[results,Tryz.results259,go_sem,c0,j,k]) rfl ⟨rfl,zE g _ _ _⟩
theorem zF(s:ByteArray)(a:Nat)(h:a<s.size):s.data.toList.drop a=s[a]::s.data.toList.drop (a+1):=yZ s.data.toList a (by simpa using h)
theorem WO(s:ByteArray)(a n:Nat):s.extract a (a+n)=⟨((s.data.toList.drop a).take n).toArray⟩:=by rw[Lib.extract_eq,uS]
abbrev aCQ(t:fD):Value:=.agg #[.int .i64 t.kind, .int .i64 t.at_, .string ⟨t.text.toArray⟩]
theorem MT(c:UInt8)(r:List UInt8):kP (c::r)=if iS c.toNat||iY c.toNat then(if aL eH (c::r)>12 then 2 else 0)
 else if dO c.toNat then(if aL dO (c::r)>7 then 2 else if(c.toNat:Int)=48/\aL dO (c::r)>1 then 1 else 0)
 else if fB (c::r)=0 then 1 else 0:=rfl
theorem JH(c:UInt8)(r:List UInt8):mS (c::r)=if iS c.toNat then 1 else if iY c.toNat then 2 else if dO c.toNat then 3 else 4:=rfl
theorem MW(c:UInt8)(r:List UInt8):eG (c::r)=if iS c.toNat||iY c.toNat then aL eH (c::r)else if dO c.toNat then aL dO (c::r)else fB (c::r):=rfl
theorem GT{w b:World}(d:Below (w.alloc TY).heap.size (w.alloc TY) b):Below w.heap.size w b:=
 ((aH _ _).alloc (aE _) _).trans (d.mono sI)
theorem aKK(s:ByteArray)(b:Nat)(w:World)(k:s.size<=281474976710656)(m:b<s.size)(j:¬kP (s.data.toList.drop b)=0):
 Calls Tryz.prog 251 #[.string s, .int .i64 b] w fun e f=>e=Jd b (kP (s.data.toList.drop b))/\Below w.heap.size w f:=by
 have r:=zF s b m
 have d:kP (s.data.toList.drop b)=if iS s[b].toNat||iY s[b].toNat then(if aL eH (s.data.toList.drop b)>12 then 2 else 0)
  else if dO s[b].toNat then(if aL dO (s.data.toList.drop b)>7 then 2 else if(s[b].toNat:Int)=48/\aL dO (s.data.toList.drop b)>1 then 1 else 0)
  else if fB (s.data.toList.drop b)=0 then 1 else 0:=by
  rw[r];exact MT _ _
 clear r;cases l:iS (s[b].toNat:Int)
 ·cases p:iY (s[b].toNat:Int)
  ·cases q:dO (s[b].toNat:Int)
   ·rw[l,p,q]at d;simp only[Bool.or_self,Bool.false_eq_true,if_false]at d;have g:fB (s.data.toList.drop b)=0:=by
     by_cases h:fB (s.data.toList.drop b)=0
     ·exact h
     rw[if_neg h]at d;exact absurd d j
    rw[if_pos g]at d;rw[d];have HN:O (fB (s.data.toList.drop b)=0):=g;clear d j g
    go_enter Tryz.func251,Tryz.ntmps251
    go_wp2_with(first|(go_at_call 254;refine(qR _ _).mono ?_;rintro e f ⟨rfl,rfl⟩)|(go_at_call 256;refine(qQ _ _).mono ?_;rintro e f ⟨rfl,rfl⟩)|(go_at_call 257;refine(nJ _ _).mono ?_;rintro e f ⟨rfl,rfl⟩)|(go_at_call 259;refine(aSJ s b _ k m HN.o).mono ?_;rintro e n ⟨rfl,i⟩));exact⟨rfl,rfl,GT i⟩
   rw[l,p,q]at d;simp only[Bool.or_self,Bool.false_eq_true,if_false,if_true]at d;by_cases h:aL dO (s.data.toList.drop b)>7
   ·rw[if_pos h]at d;rw[d];clear d j
    go_enter Tryz.func251,Tryz.ntmps251
    go_wp2_with(first|(go_at_call 254;refine(qR _ _).mono ?_;rintro e f ⟨rfl,rfl⟩)|(go_at_call 256;refine(qQ _ _).mono ?_;rintro e f ⟨rfl,rfl⟩)|(go_at_call 257;refine(nJ _ _).mono ?_;rintro e f ⟨rfl,rfl⟩)|(go_at_call 258;refine(aF6 s b _ k m h).mono ?_;rintro e n ⟨rfl,i⟩));exact⟨rfl,rfl,GT i⟩
   rw[if_neg h]at d;have g:(s[b].toNat:Int)=48/\aL dO (s.data.toList.drop b)>1:=by
    by_cases h:(s[b].toNat:Int)=48/\aL dO (s.data.toList.drop b)>1
    ·exact h
    rw[if_neg h]at d;exact absurd d j
   rw[if_pos g]at d;rw[d];have HN:O ((s[b].toNat:Int)=48/\aL dO (s.data.toList.drop b)>1):=g;clear d j g
   go_enter Tryz.func251,Tryz.ntmps251
   go_wp2_with(first|(go_at_call 254;refine(qR _ _).mono ?_;rintro e f ⟨rfl,rfl⟩)|(go_at_call 256;refine(qQ _ _).mono ?_;rintro e f ⟨rfl,rfl⟩)|(go_at_call 257;refine(nJ _ _).mono ?_;rintro e f ⟨rfl,rfl⟩)|(go_at_call 258;refine(aF5 s b _ k m oM HN.o.2 (mN.2 HN.o.1)).mono ?_;rintro e n ⟨rfl,i⟩));exact⟨rfl,rfl,GT i⟩
  rw[l,p]at d;simp only[Bool.or_true,if_true]at d;have g:12<aL eH (s.data.toList.drop b):=by
   by_cases h:aL eH (s.data.toList.drop b)>12
   ·exact h
   rw[if_neg h]at d;exact absurd d j
  rw[if_pos g]at d;rw[d];clear d j
  go_enter Tryz.func251,Tryz.ntmps251
  go_wp2_with(first|(go_at_call 254;refine(qR _ _).mono ?_;rintro e f ⟨rfl,rfl⟩)|(go_at_call 256;refine(qQ _ _).mono ?_;rintro e f ⟨rfl,rfl⟩)|(go_at_call 257;refine(nJ _ _).mono ?_;rintro e f ⟨rfl,rfl⟩)|(go_at_call 255;refine(aLE s b 2 _ k oM g).mono ?_;rintro e n ⟨rfl,i⟩));exact⟨rfl,rfl,GT i⟩
 rw[l]at d;simp only[Bool.true_or,if_true]at d;have g:12<aL eH (s.data.toList.drop b):=by
  by_cases h:aL eH (s.data.toList.drop b)>12
  ·exact h
  rw[if_neg h]at d;exact absurd d j
 rw[if_pos g]at d;rw[d];clear d j
 go_enter Tryz.func251,Tryz.ntmps251
 go_wp2_with(first|(go_at_call 254;refine(qR _ _).mono ?_;rintro e f ⟨rfl,rfl⟩)|(go_at_call 256;refine(qQ _ _).mono ?_;rintro e f ⟨rfl,rfl⟩)|(go_at_call 257;refine(nJ _ _).mono ?_;rintro e f ⟨rfl,rfl⟩)|(go_at_call 255;refine(aLE s b 1 _ k oM g).mono ?_;rintro e n ⟨rfl,i⟩));exact⟨rfl,rfl,GT i⟩
theorem aSC{k b a:Int}{s:ByteArray}{n d:Nat}{p:Nat}(e:k=b)(g:n=d)(l:List UInt8)(f:l=s.data.toList.drop p):
 Ending.returned (.agg #[.int .i64 k, .int .i64 a, .string (s.extract p (p+n))])=.returned (.agg #[.int .i64 b, .int .i64 a, .string ⟨(l.take d).toArray⟩]):=by
 subst e g f;rw[WO]
theorem aG6(s:ByteArray)(b:Nat)(w:World)(y:s.size<=281474976710656)(D:b<s.size)(G:kP (s.data.toList.drop b)=0):
 Calls Tryz.prog 251 #[.string s, .int .i64 b] w fun e i=>e=.returned (aCQ (qH s.data.toList b))/\Below w.heap.size w i:=by
 have x:=zF s b D
 have d:kP (s.data.toList.drop b)=if iS s[b].toNat||iY s[b].toNat then(if aL eH (s.data.toList.drop b)>12 then 2 else 0)
  else if dO s[b].toNat then(if aL dO (s.data.toList.drop b)>7 then 2 else if(s[b].toNat:Int)=48/\aL dO (s.data.toList.drop b)>1 then 1 else 0)
  else if fB (s.data.toList.drop b)=0 then 1 else 0:=by
  rw[x];exact MT _ _
 (have f:mS (s.data.toList.drop b)=if iS s[b].toNat then 1 else if iY s[b].toNat then 2 else if dO s[b].toNat then 3 else 4:=by rw[x];exact JH _ _);(have g:eG (s.data.toList.drop b)=if iS s[b].toNat||iY s[b].toNat then aL eH (s.data.toList.drop b)else if dO s[b].toNat then aL dO (s.data.toList.drop b)else fB (s.data.toList.drop b):=by rw[x];exact MW _ _);(rw[G]at d;clear x G;have HV:O (∀(k:Int)(n:Nat),k=mS (s.data.toList.drop b)->n=eG (s.data.toList.drop b)->Ending.returned (.agg #[.int .i64 k, .int .i64 b, .string (s.extract b (b+n))])=.returned (aCQ (qH s.data.toList b))):=by intro k n I l;exact aSC I l _ rfl);generalize aCQ (qH s.data.toList b)=V at *;cases r:iS (s[b].toNat:Int)
 ·cases C:iY (s[b].toNat:Int)
  ·cases F:dO (s[b].toNat:Int)
   ·rw[r,C,F]at d f g;simp only[Bool.or_self,Bool.false_eq_true,if_false]at d f g;have l:0<fB (s.data.toList.drop b):=by
     by_cases h:fB (s.data.toList.drop b)=0
     ·rw[if_pos h]at d;exact absurd d dE
     omega
    have m:O (_=_):=HV.o 4 (fB (s.data.toList.drop b)) f.symm g.symm;clear d f g HV
    go_enter Tryz.func251,Tryz.ntmps251
    go_wp2_with(first|(go_at_call 254;refine(qR _ _).mono ?_;rintro e i ⟨rfl,rfl⟩)|(go_at_call 256;refine(qQ _ _).mono ?_;rintro e i ⟨rfl,rfl⟩)|(go_at_call 257;refine(nJ _ _).mono ?_;rintro e i ⟨rfl,rfl⟩)|(go_at_call 259;refine(aQM s b _ y D l).mono ?_;rintro e E ⟨rfl,j⟩;obtain⟨⟨c0,p,q⟩,z,A,B⟩:=FI j));exact dF (v:=.agg #[.int .i64 4, .int .i64 b, .string (s.extract b (b+fB (s.data.toList.drop b)))]) (by simp[results,Tryz.results251,go_sem,c0,p,q]) rfl ⟨m.o,zE j _ _ _⟩
   rw[r,C,F]at d f g;simp only[Bool.or_self,Bool.false_eq_true,if_false,if_true]at d f g;have J:aL dO (s.data.toList.drop b)<=7:=by
    by_cases h:aL dO (s.data.toList.drop b)>7
    ·rw[if_pos h]at d;exact absurd d dE
    omega
   have l:((s[b].toNat:Int)==48)=false\/aL dO (s.data.toList.drop b)<=1:=by
    rw[if_neg oM]at d;by_cases h:(s[b].toNat:Int)=48/\aL dO (s.data.toList.drop b)>1
    ·rw[if_pos h]at d;exact absurd d dE
    by_cases H:(s[b].toNat:Int)=48
    ·exact .inr oM
    exact .inl (fR.2 H)
   have HN:O (((s[b].toNat:Int)==48)=false\/aL dO (s.data.toList.drop b)<=1):=l;have m:O (_=_):=HV.o 3 (aL dO (s.data.toList.drop b)) f.symm g.symm;clear d f g HV l
   go_enter Tryz.func251,Tryz.ntmps251
   go_wp2_with(first|(go_at_call 254;refine(qR _ _).mono ?_;rintro e i ⟨rfl,rfl⟩)|(go_at_call 256;refine(qQ _ _).mono ?_;rintro e i ⟨rfl,rfl⟩)|(go_at_call 257;refine(nJ _ _).mono ?_;rintro e i ⟨rfl,rfl⟩)|(go_at_call 258;refine(aJT s b _ y D J HN.o).mono ?_;rintro e E ⟨rfl,j⟩;obtain⟨⟨c0,p,q⟩,z,A,B⟩:=FI j));exact dF (v:=.agg #[.int .i64 3, .int .i64 b, .string (s.extract b (b+aL dO (s.data.toList.drop b)))]) (by simp[results,Tryz.results251,go_sem,c0,p,q]) rfl ⟨m.o,zE j _ _ _⟩
  rw[r,C]at d f g;simp only[Bool.or_true,Bool.false_eq_true,if_false,if_true]at d f g;have l:aL eH (s.data.toList.drop b)<=12:=by
   by_cases h:aL eH (s.data.toList.drop b)>12
   ·rw[if_pos h]at d;exact absurd d dE
   omega
  have m:O (_=_):=HV.o 2 (aL eH (s.data.toList.drop b)) f.symm g.symm;clear d f g HV
  go_enter Tryz.func251,Tryz.ntmps251
  go_wp2_with(first|(go_at_call 254;refine(qR _ _).mono ?_;rintro e i ⟨rfl,rfl⟩)|(go_at_call 256;refine(qQ _ _).mono ?_;rintro e i ⟨rfl,rfl⟩)|(go_at_call 257;refine(nJ _ _).mono ?_;rintro e i ⟨rfl,rfl⟩)|(go_at_call 255;refine(aHC s b 2 _ y oM l).mono ?_;rintro e E ⟨rfl,j⟩;obtain⟨⟨c0,p,q⟩,z,A,B⟩:=FI j));exact dF (v:=.agg #[.int .i64 2, .int .i64 b, .string (s.extract b (b+aL eH (s.data.toList.drop b)))]) (by simp[results,Tryz.results251,go_sem,c0,p,q]) rfl ⟨m.o,zE j _ _ _⟩
 rw[r]at d f g;simp only[Bool.true_or,if_true]at d f g;have l:aL eH (s.data.toList.drop b)<=12:=by
  by_cases h:aL eH (s.data.toList.drop b)>12
  ·rw[if_pos h]at d;exact absurd d dE
  omega
 have m:O (_=_):=HV.o 1 (aL eH (s.data.toList.drop b)) f.symm g.symm;clear d f g HV
 go_enter Tryz.func251,Tryz.ntmps251
 go_wp2_with(first|(go_at_call 254;refine(qR _ _).mono ?_;rintro e i ⟨rfl,rfl⟩)|(go_at_call 256;refine(qQ _ _).mono ?_;rintro e i ⟨rfl,rfl⟩)|(go_at_call 257;refine(nJ _ _).mono ?_;rintro e i ⟨rfl,rfl⟩)|(go_at_call 255;refine(aHC s b 1 _ y oM l).mono ?_;rintro e E ⟨rfl,j⟩;obtain⟨⟨c0,p,q⟩,z,A,B⟩:=FI j));exact dF (v:=.agg #[.int .i64 1, .int .i64 b, .string (s.extract b (b+aL eH (s.data.toList.drop b)))]) (by simp[results,Tryz.results251,go_sem,c0,p,q]) rfl ⟨m.o,zE j _ _ _⟩
theorem aNZ(s:ByteArray)(k:Nat)(h:k<s.size)(b:(s[k].toNat:Int)=32\/(s[k].toNat:Int)=9\/(s[k].toNat:Int)=10):
 iV false (s.data.toList.drop k)=iV false (s.data.toList.drop (k+1))+1:=by
 rw[zF s k h,iV,if_neg oM,if_pos b]
theorem aQJ(s:ByteArray)(k:Nat)(h:k<s.size)(h1:¬(s[k].toNat:Int)=37)(b:¬((s[k].toNat:Int)=32\/(s[k].toNat:Int)=9\/(s[k].toNat:Int)=10)):
 iV false (s.data.toList.drop k)=0:=by
 rw[zF s k h,iV,if_neg h1,if_neg b]
theorem aSH(b:Bool)(s:ByteArray)(k:Nat)(h:s.size<=k):iV b (s.data.toList.drop k)=0:=by rw[bD (by simpa using h)];cases b<;>rfl
theorem aSI(s:ByteArray)(k:Nat)(h:k<s.size)(h1:(s[k].toNat:Int)=37):
 iV false (s.data.toList.drop k)=aL qX (s.data.toList.drop k)+iV false (s.data.toList.drop (k+aL qX (s.data.toList.drop k)))/\1<=aL qX (s.data.toList.drop k):=by
 (have d:aL qX (s.data.toList.drop k)=aL qX (s.data.toList.drop (k+1))+1:=by rw[zF s k h,aL,if_pos (by rw[qX,h1];rfl)]);refine⟨?_,oM⟩;(have b:iV false (s.data.toList.drop k)=iV true (s.data.toList.drop (k+1))+1:=by rw[zF s k h,iV,if_pos h1]);rw[b,aEV,List.drop_drop,d,show k+(aL qX (s.data.toList.drop (k+1))+1)=k+1+aL qX (s.data.toList.drop (k+1))from by omega];omega
theorem Kz(b:Bool)(s:ByteArray)(a:Nat)(h:a<=s.size):a+iV b (s.data.toList.drop a)<=s.size:=by have d:=QY b (s.data.toList.drop a);(have e:(s.data.toList.drop a).length=s.size-a:=by simp);omega
theorem aG0(s:ByteArray)(b:Nat)(w:World)(G:s.size<=281474976710656)(B:b<=s.size):
 Calls Tryz.prog 250 #[.string s, .int .i64 b] w fun e z=>e=.returned (.int .i64 ((b+iV false (s.data.toList.drop b):Nat):Int))/\z=w:=by
 go_enter Tryz.func250,Tryz.ntmps250
 go_wp2;go_loop [1] (fun i=>∃k:Nat,k<=s.size/\i=.int .i64 k/\b+iV false (s.data.toList.drop b)=k+iV false (s.data.toList.drop k)) (fun i=>s.size-(intOf i).toNat);case atStart=>exact⟨b,B,rfl,rfl⟩
 case round=>
  obtain⟨k,r,rfl,v⟩:=hrel;have HK:O (b+iV false (s.data.toList.drop b)=k+iV false (s.data.toList.drop k)):=v;clear v;by_cases p:k<s.size
  ·by_cases d:(s[k].toNat:Int)=32\/(s[k].toNat:Int)=9\/(s[k].toNat:Int)=10
   ·have f:O (iV false (s.data.toList.drop k)=iV false (s.data.toList.drop (k+1))+1):=aNZ s k p d;(have q:O (b+iV false (s.data.toList.drop b)=(k+1)+iV false (s.data.toList.drop (k+1))):=by have m:=HK.o;have n:=f.o;show _=_;omega);clear f HK;by_cases j:(s[k].toNat:Int)=32
    ·have x:((s[k].toNat:Int)==32)=true:=mN.2 j;clear j d;go_wp2;go_round;(case rel=>exact⟨k+1,oM,gN,q.o⟩);case measure=>exact mI
    have x:((s[k].toNat:Int)==32)=false:=fR.2 j;by_cases l:(s[k].toNat:Int)=9
    ·have y:((s[k].toNat:Int)==9)=true:=mN.2 l;clear j l d;go_wp2;go_round;(case rel=>exact⟨k+1,oM,gN,q.o⟩);case measure=>exact mI
    have y:((s[k].toNat:Int)==9)=false:=fR.2 l;have D:((s[k].toNat:Int)==10)=true:=mN.2 oM;clear j l d;go_wp2;go_round;(case rel=>exact⟨k+1,oM,gN,q.o⟩);case measure=>exact mI
   have x:((s[k].toNat:Int)==32)=false:=fR.2 oM;have y:((s[k].toNat:Int)==9)=false:=fR.2 oM;have D:((s[k].toNat:Int)==10)=false:=fR.2 oM;by_cases g:(s[k].toNat:Int)=37
   ·obtain⟨m,n⟩:=aSI s k p g;have C:=RI qX s k r;(have A:O (b+iV false (s.data.toList.drop b)=(k+aL qX (s.data.toList.drop k))+iV false (s.data.toList.drop (k+aL qX (s.data.toList.drop k)))):=by have F:=HK.o;show _=_;omega);have E:((s[k].toNat:Int)==37)=true:=mN.2 g;clear m HK d g;go_wp2_with(go_at_call 252;refine(MZ 253 qX aQA aM3 s k _ (by unfold maxLen;omega) r).mono ?_;rintro e z ⟨rfl,rfl⟩);go_round;(case rel=>exact⟨k+aL qX (s.data.toList.drop k),C,gN,A.o⟩);case measure=>exact mI
   have f:O (iV false (s.data.toList.drop k)=0):=aQJ s k p g d;have E:((s[k].toNat:Int)==37)=false:=fR.2 g;clear d g;go_wp2;go_ret;exact⟨AH (by have m:=HK.o;have n:=f.o;omega),rfl⟩
  have f:O (iV false (s.data.toList.drop k)=0):=aSH false s k oM;go_wp2;go_ret;exact⟨AH (by have m:=HK.o;have n:=f.o;omega),rfl⟩
theorem aIM(d b:Addr)(w:World):
 CallsD Tryz.prog 249 #[.pointer (some d), .pointer (some b)] .returning w fun e g i=>e=.returned (.tuple #[])/\g=.returning/\i=w:=by
 refine callsD_of_wpS Tryz.func249 rfl fun k j f=>?_;apply wpS_seq;apply wpS_region;simp[wpOpsS,go_sem,recoverD,f,Tryz.ntmps249,Exit.thenS];refine wpS_of_wp ?_;rw[show(#[Value.pointer (some d),Value.pointer (some b)]++((Array.replicate 6 undef).setIfInBounds 1 Value.nilIface).setIfInBounds 0 Value.nilIface)=#[.pointer (some d), .pointer (some b), .nilIface, .nilIface,undef,undef,undef,undef] from rfl];go_wp2;refine⟨rfl, .returning,?_, .tuple #[],?_,rfl,rfl,rfl⟩
 ·rw[<-f]
 simp[results,Tryz.results249]
theorem Cm(d b B:Nat)(r i j:Value)(a c:Int)(g:List PanicEntry)(w:World)
 (n:w.cell? ⟨d,0,none⟩=some r) (C:w.frozen? ⟨d,0,none⟩=false) (l:w.cell? ⟨b,0,none⟩=some i) (m:w.cell? ⟨b,1,none⟩=some j)
 (z:w.frozen? ⟨b,0,none⟩=false) (A:w.frozen? ⟨b,1,none⟩=false) (k:B<=d) (D:d<b):
 CallsD Tryz.prog 249 #[.pointer (some ⟨d,0,none⟩), .pointer (some ⟨b,0,none⟩)] (.panicking ({v:=.iface 289 (.agg #[.int .i64 a, .int .i64 c]),recovered:=false}::g)) w fun e s f=>
  e=.returned (.tuple #[])/\s=.panicking ({v:=.iface 289 (.agg #[.int .i64 a, .int .i64 c]),recovered:=true}::g)/\
  f.cell? ⟨d,0,none⟩=some (.slice none 0 0)/\f.cell? ⟨b,0,none⟩=some (.int .i64 a)/\f.cell? ⟨b,1,none⟩=some (.int .i64 c)/\Below B w f:=by
 have G:∀w:World,(Instr.typeAssert (.iface 289 (.agg #[.int .i64 a, .int .i64 c])) 20 289 false).run Tryz.prog w=.ok (.agg #[.int .i64 a, .int .i64 c]) w:=fun _=>kR;refine callsD_of_wpS Tryz.func249 rfl fun y x q=>?_;apply wpS_seq;apply wpS_region;simp[wpOpsS,go_sem,recoverD,q,Tryz.ntmps249,Exit.thenS];refine wpS_of_wp ?_
 rw[show(#[Value.pointer (some {block:=d,off:=0}),Value.pointer (some {block:=b,off:=0})]++
  ((Array.replicate 6 undef).setIfInBounds 1
   (Value.iface 289 (Value.agg #[Value.int IntKind.i64 a,Value.int IntKind.i64 c]))).setIfInBounds
   0 (Value.iface 289 (Value.agg #[Value.int IntKind.i64 a,Value.int IntKind.i64 c])))=#[Value.pointer (some {block:=d,off:=0}),Value.pointer (some {block:=b,off:=0}),(Value.iface 289 (Value.agg #[Value.int IntKind.i64 a,Value.int IntKind.i64 c])),(Value.iface 289 (Value.agg #[Value.int IntKind.i64 a,Value.int IntKind.i64 c])),undef,undef,undef,undef] from rfl]
 go_wp2;go_region;have E:¬d=b:=oM;have F:¬b=d:=oM;refine⟨rfl,_,rfl, .tuple #[],?_,rfl,rfl,?_,?_,?_,?_⟩
 ·simp[results,Tryz.results249]
 ·simp[go_sem,n]
 ·simp[go_sem,l]
 ·simp[go_sem,m]
 exact((((aH _ _).setCell (p:=⟨d,0,none⟩) k _).setCell (p:=⟨b,0,none⟩) (show B<=b by omega) _).setCell (p:=⟨b,1,none⟩) (show B<=b by omega) _).drew
def uL (t : fD) : List Value := [.int .i64 t.kind, .int .i64 t.at_, .string ⟨t.text.toArray⟩]
def qI (l : List fD) : List Value := l.flatMap uL
theorem SK (l : List fD) (t : fD) : qI (l ++ [t]) = qI l ++ uL t := by simp [qI]
theorem Ck (l : List fD) : (qI l).length = l.length * 3 := by
  induction l with
  | nil => rfl
  | cons t r b => simp only [qI, List.flatMap_cons, List.length_append] at b ⊢; rw [b]; simp [uL]; omega
theorem bI {w w' : World} {base : Nat} {e : TypeId} {size : Nat} {v : Value} {n : Nat} {f : List Value} (h : w.ownsRow base e size v n f) (l : Below w.heap.size w w') : w'.ownsRow base e size v n f := by
  obtain ⟨k, b⟩ := h
  refine ⟨k, ?_⟩
  rcases b with b | ⟨g, i, j, q, m, d, r⟩
  · exact .inl b
  · refine .inr ⟨g, i, j, q, m, ?_, r⟩
    have p : g < w.heap.size := by
      rcases jW g w.heap.size with h | h
      · exact h
      · rw [AO h] at d; cases d
    rw [l.block g p]; exact d
theorem bJ {w : World} {base : Nat} {e : TypeId} {size : Nat} {v : Value} {n : Nat} {j : List Value} (h : w.ownsRow base e size v n j) : ∃ f d, v = .slice f n d := by
  rcases h.2 with ⟨b, i⟩ | ⟨g, d, k, b, _⟩
  · exact ⟨none, 0, by rw [b, i]⟩
  · exact ⟨_, _, b⟩
structure BU (N : Nat) (w wr : World) (v : Value) (acc : List fD) : Prop where
  cl : wr.cell? ⟨N, 0, none⟩ = some v
  own : wr.ownsRow (N + 2) 271 3 v acc.length (qI acc)
  fl : wr.frozen? ⟨N, 0, none⟩ = false
  g0 : wr.cell? ⟨N + 1, 0, none⟩ = some (.int .i64 0)
  g1 : wr.cell? ⟨N + 1, 1, none⟩ = some (.int .i64 0)
  f0 : wr.frozen? ⟨N + 1, 0, none⟩ = false
  f1 : wr.frozen? ⟨N + 1, 1, none⟩ = false
  j : Below N w wr
  size : N + 2 <= wr.heap.size
theorem BU.u {N : Nat} {w wr f : World} {v : Value} {l : List fD} (h : BU N w wr v l) (d : Below wr.heap.size wr f) : BU N w f v l := by
  have n := h.size
  have m : N < wr.heap.size := by omega
  have e : N + 1 < wr.heap.size := by omega
  obtain ⟨g, i⟩ := (⟨fun b o k => d.cell (p := ⟨b, o, none⟩) k, fun b o k => d.frozen (p := ⟨b, o, none⟩) k⟩ : (∀ b o, b < wr.heap.size -> f.cell? ⟨b, o, none⟩ = wr.cell? ⟨b, o, none⟩) /\ (∀ b o, b < wr.heap.size -> f.frozen? ⟨b, o, none⟩ = wr.frozen? ⟨b, o, none⟩))
  exact { cl := by rw [g _ _ m]; exact h.cl
          own := bI h.own d
          fl := by rw [i _ _ m]; exact h.fl
          g0 := by rw [g _ _ e]; exact h.g0
          g1 := by rw [g _ _ e]; exact h.g1
          f0 := by rw [i _ _ e]; exact h.f0
          f1 := by rw [i _ _ e]; exact h.f1
          j := h.j.trans (d.mono (by omega))
          size := by have := d.size; omega }
theorem BU.alloc {N : Nat} {w wr : World} {v : Value} {b : List fD} (h : BU N w wr v b) (o : Obj) : BU N w (wr.alloc o) v b :=
  h.u ((aH _ _).alloc (aE _) _)
theorem BU.grown {N : Nat} {w wr d : World} {v v' : Value} {l acc' : List fD} (h : BU N w wr v l) (hg : wr.grownBy d v.ownBlock)
    (n : d.ownsRow (N + 2) 271 3 v' acc'.length (qI acc')) : BU N w (d.setCell ⟨N, 0, none⟩ v') v' acc' := by
  have q := h.size
  have m : ∀ k, k < N + 2 -> some k ≠ v.ownBlock := fun k b e => by
    have := (h.own.lt k e.symm).1
    omega
  have i : ∀ k, k < N + 2 -> d.heap[k]? = wr.heap[k]? := fun k b => hg.block k (by omega) (m k b)
  have f : ∀ k o, k < N + 2 -> d.cell? ⟨k, o, none⟩ = wr.cell? ⟨k, o, none⟩ := fun k o b => lQ (a := ⟨k, o, none⟩) (i k b)
  have g : ∀ k o, k < N + 2 -> d.frozen? ⟨k, o, none⟩ = wr.frozen? ⟨k, o, none⟩ := fun k o b => World.frozen?_of_block (a := ⟨k, o, none⟩) (i k b)
  have c0 : d.cell? ⟨N, 0, none⟩ = some v := by rw [f _ _ (by omega)]; exact h.cl
  exact { cl := by simp [go_sem, c0]
          own := LN n (by simp) _
          fl := by simp [go_sem, g N 0 (by omega), h.fl]
          g0 := by simp [go_sem, f (N + 1) 0 (by omega), h.g0]
          g1 := by simp [go_sem, f (N + 1) 1 (by omega), h.g1]
          f0 := by simp [go_sem, g (N + 1) 0 (by omega), h.f0]
          f1 := by simp [go_sem, g (N + 1) 1 (by omega), h.f1]
          j := (h.j.grown hg (by omega) (fun k b => by have := (h.own.lt k b).1; omega)).setCell (p := ⟨N, 0, none⟩) (aE _) _
          size := by have := hg.size; simp; omega }
theorem BU.after {N : Nat} {w b d : World} {v : Value} {i : List fD} {o1 o2 : Obj} (h : BU N w b v i) (hg : ((b.alloc o1).alloc o2).grownBy d v.ownBlock) :
    d.cell? ⟨N, 0, none⟩ = some v /\ d.frozen? ⟨N, 0, none⟩ = false /\ (∀ o, d.cell? ⟨b.heap.size, o, none⟩ = ((b.alloc o1).alloc o2).cell? ⟨b.heap.size, o, none⟩) := by
  have f := (h.alloc o1).alloc o2
  have m := h.size
  have n : ((b.alloc o1).alloc o2).heap.size = b.heap.size + 2 := by simp
  have k : some N ≠ v.ownBlock := fun e => by have := (h.own.lt N e.symm).1; omega
  have l : some b.heap.size ≠ v.ownBlock := fun e => by have := (h.own.lt _ e.symm).2; omega
  have g := hg.block N (by omega) k
  have j := hg.block b.heap.size (by omega) l
  refine ⟨?_, ?_, fun o => lQ (a := ⟨b.heap.size, o, none⟩) j⟩
  · rw [lQ (a := ⟨N, 0, none⟩) g]; exact f.cl
  · rw [World.frozen?_of_block (a := ⟨N, 0, none⟩) g]; exact f.fl
theorem aB4 {w : World} {base d : Nat} {e : TypeId} {size : Nat} {v : Value} {n : Nat} {f : List Value} (h : w.ownsRow base e size v n f) (m : d <= base) : w.ownsRow d e size v n f := by
  obtain ⟨k, b⟩ := h
  refine ⟨k, ?_⟩
  rcases b with b | ⟨g, i, j, l, p, r⟩
  · exact .inl b
  · exact .inr ⟨g, i, j, l, by omega, r⟩
theorem BU.start (w : World) : BU w.heap.size w ((w.alloc (.cells #[.slice none 0 0] 272)).alloc (.cells #[.int .i64 0, .int .i64 0] 289)) (.slice none 0 0) [] where
  cl := by simp [go_sem, World.cell?_alloc_past]
  own := eD _ _ _ _
  fl := by simp [go_sem]
  g0 := by simp [go_sem]
  g1 := by simp [go_sem]
  f0 := by simp [go_sem]
  f1 := by simp [go_sem]
  j := ((aH _ _).alloc (aE _) _).alloc (by simp) _
  size := by simp
def VV(L:List UInt8)(w:World)(e:Ending)(w':World):Prop:=
 ∃v,e=.returned (.tuple #[v, .agg #[.int .i64 ((jF L).2.1:Nat), .int .i64 (jF L).2.2]])/\w'.ownsRow w.heap.size 271 3 v (jF L).1.length (qI (jF L).1)/\Below w.heap.size w w'
theorem Ky{w b:World}{v:Value}{i:List fD}(h:BU w.heap.size w b v i)(L:List UInt8)(p:Nat)(c:Int)(d:jF L=([],p,c))(tmps:Array Value)
 (k:tmps[2]?=some (.pointer (some ⟨w.heap.size,0,none⟩))) (l:tmps[3]?=some (.pointer (some ⟨w.heap.size+1,0,none⟩))):
 Leaves Tryz.prog Tryz.f247 tmps (VV L w) [{target:=.fn (.func 249) #[.pointer (some ⟨w.heap.size,0,none⟩), .pointer (some ⟨w.heap.size+1,0,none⟩)],args:=#[]}]
  (.panicking [{v:=.iface 289 (.agg #[.int .i64 p, .int .i64 c]),recovered:=false}]) b:=by
 refine leaves_cons (f:=249) (args:=#[.pointer (some ⟨w.heap.size,0,none⟩), .pointer (some ⟨w.heap.size+1,0,none⟩)]) sI (by simp[go_sem]) ?_;refine(Cm w.heap.size (w.heap.size+1) w.heap.size _ _ _ p c [] b h.cl h.fl h.g0 h.g1 h.f0 h.f1 (aE _) oM).mono ?_;rintro e x g ⟨rfl,rfl,q,r,s,m⟩;(have n:(results Tryz.f247 tmps).run Tryz.prog g=.ok (.tuple #[.slice none 0 0, .agg #[.int .i64 p, .int .i64 c]]) g:=by simp[results,Tryz.results247,go_sem,k,l,q,r,s]);refine⟨_,n, .slice none 0 0,?_,?_,h.j.trans m⟩
 ·rw[d]
 rw[d];exact eD _ _ _ _
theorem aNX{w wr:World}{v:Value}{b:List fD}(h:BU w.heap.size w wr v b)(L:List UInt8)(d:jF L=(b,0,0))(tmps:Array Value)
 (k:tmps[2]?=some (.pointer (some ⟨w.heap.size,0,none⟩))) (l:tmps[3]?=some (.pointer (some ⟨w.heap.size+1,0,none⟩))):
 Leaves Tryz.prog Tryz.f247 tmps (VV L w) [{target:=.fn (.func 249) #[.pointer (some ⟨w.heap.size,0,none⟩), .pointer (some ⟨w.heap.size+1,0,none⟩)],args:=#[]}]
  .returning (((wr.setCell ⟨w.heap.size,0,none⟩ v).setCell ⟨w.heap.size+1,0,none⟩ (.int .i64 0)).setCell ⟨w.heap.size+1,1,none⟩ (.int .i64 0)):=by
 refine leaves_cons (f:=249) (args:=#[.pointer (some ⟨w.heap.size,0,none⟩), .pointer (some ⟨w.heap.size+1,0,none⟩)]) sI (by simp[go_sem]) ?_;refine(aIM _ _ _).mono ?_;rintro e n q ⟨rfl,rfl,rfl⟩;have c0:=h.cl;have g:=h.g0;have i:=h.g1
 have m:(results Tryz.f247 tmps).run Tryz.prog (((wr.setCell ⟨w.heap.size,0,none⟩ v).setCell ⟨w.heap.size+1,0,none⟩ (.int .i64 0)).setCell ⟨w.heap.size+1,1,none⟩ (.int .i64 0))=
  .ok (.tuple #[v, .agg #[.int .i64 0, .int .i64 0]]) (((wr.setCell ⟨w.heap.size,0,none⟩ v).setCell ⟨w.heap.size+1,0,none⟩ (.int .i64 0)).setCell ⟨w.heap.size+1,1,none⟩ (.int .i64 0)):=by
  simp[results,Tryz.results247,go_sem,k,l,c0,g,i]
 refine⟨_,m,v,?_,?_,?_⟩
 ·rw[d];rfl
 ·rw[d];exact aB4 (LN (LN (LN h.own sI _) sI _) sI _) oM
 exact((h.j.setCell (p:=⟨w.heap.size,0,none⟩) (aE _) _).setCell (p:=⟨w.heap.size+1,0,none⟩) (lX _) _).setCell (p:=⟨w.heap.size+1,1,none⟩) (lX _) _
theorem aNY(s:ByteArray)(w:World)(e:5000<s.size):Calls Tryz.prog 247 #[.string s] w (VV s.data.toList w):=by
 have f:∀(d:Fn)(first b:Array Value)(w:World),(Instr.makeFunc d first b).run Tryz.prog w=.ok (.func d first b) w:=fun _ _ _ _=>rfl
 go_enter_defers Tryz.func247,Tryz.ntmps247
 go_wp2_with fail;refine Ky (BU.start w) s.data.toList 0 2 ?_ _ rfl rfl;unfold jF;rw[if_pos (by simpa using e)]
theorem aQN(s:ByteArray)(p n:Nat)(w:World)(d:s.size<=281474976710656)(b:p+n<=s.size):
 Calls Tryz.prog 250 #[.string s, .int .i64 ((p:Int)+(n:Int))] w fun e f=>e=.returned (.int .i64 ((p+n+iV false (s.data.toList.drop (p+n)):Nat):Int))/\f=w:=by
 have h:=aG0 s (p+n) w d b;rw[show((p+n:Nat):Int)=(p:Int)+(n:Int)from by omega]at h;exact h
theorem aOL:(Tryz.prog.info? 271).map (fun i=>(i.zero,i.size,i.bytes))=some (some (.agg #[.int .i64 0, .int .i64 0, .string ⟨#[]⟩]),3,32):=kR
theorem aKE(s:ByteArray)(w:World)(V:s.size<=5000):Calls Tryz.prog 247 #[.string s] w (VV s.data.toList w):=by
 obtain⟨W,C,I,J,K⟩:=iT aOL;have a2:∀(A:Fn)(first q:Array Value)(w:World),(Instr.makeFunc A first q).run Tryz.prog w=.ok (.func A first q) w:=fun _ _ _ _=>rfl;have E:=Kz false s 0 oM;rw[gJ]at E;have G:=BU.start w
 go_enter_defers Tryz.func247,Tryz.ntmps247
 go_wp2_with fail;refine(aG0 s 0 _ oM oM).mono ?_;rintro e r ⟨k,rfl⟩;rw[gJ]at k;subst k;go_wp2_with fail
 go_loopw [4] (fun i wr=>∃(f p:Nat)(g:List fD)(v:Value),p<=s.size/\s.size<=p+f/\g.length<=p/\i=.int .i64 p/\nD s.data.toList f p g=jF s.data.toList/\BU w.heap.size w wr v g)
  (fun i _=>s.size-(intOf i).toNat)
 case atStart=>
  refine⟨s.size,iV false s.data.toList,[], .slice none 0 0,oM,oM,bG _,?_,?_,G⟩
  ·go_num
  unfold jF;rw[if_neg (by simpa using V)];rfl
 case round=>
  obtain⟨f,p,g,v,hp,S,a1,rfl,D,b⟩:=hrel;have n:O (nD s.data.toList f p g=jF s.data.toList):=D;clear D G;obtain⟨M,q,rfl⟩:=bJ b.own;by_cases m:p<s.size
  ·by_cases k:kP (s.data.toList.drop p)=0
   ·go_wp2_with fail;refine(aG6 s p _ oM m k).mono ?_;rintro e r ⟨rfl,x⟩;have l:=b.u x;have hz:=l.size;have c0:∀o,(r.alloc o).cell? ⟨w.heap.size,0,none⟩=some (.slice M g.length q):=fun o=>(l.alloc o).cl;have R:=PO (s.data.toList.drop p);have U:=WD (s.data.toList.drop p) (by rw[zF s p m];simp) k;(have P:(s.data.toList.drop p).length=s.size-p:=by simp);obtain⟨f,rfl⟩:∃N,f=N+1:=⟨f-1,oM⟩
    have HN:O (nD s.data.toList f (p+eG (s.data.toList.drop p)+iV false (s.data.toList.drop (p+eG (s.data.toList.drop p)))) (g++[qH s.data.toList p])=jF s.data.toList):=
     (MK _ _ _ _ (by simpa using m) k).symm.trans n.o
    (have B:(qH s.data.toList p).text.length=eG (s.data.toList.drop p):=by simp only[qH,List.length_take];omega);have F:=Kz false s (p+eG (s.data.toList.drop p)) oM;generalize qH s.data.toList p=T at *;rw[<-B]at HN F R U;clear B n E P;go_wp2_with(at_builtin;refine fX _ rfl (.tmp 21) (.tmp 23) 272 rfl (w.heap.size+2) 271 W _ 3 32 Tryz.underlying272 C I J K rfl dE _ _ _ rfl ((l.alloc _).alloc _).own ⟨r.heap.size+1,0,none⟩ 1 1 (uL T) rfl rfl ?c1 ?c2 ?c3 ?c4 ?c5 ?_)
    case c1=>
     intro j u d
     match j,d with
     |0,d=>simp[uL]at d;subst d;simp[Addr.add,go_sem]
     |1,d=>simp[uL]at d;subst d;simp[Addr.add,go_sem]
     |2,d=>simp[uL]at d;subst d;simp[Addr.add,go_sem]
    (case c2=>intro u H;simp[uL]at H;rcases H with rfl|rfl|rfl<;>rfl);(case c3=>unfold maxLen;omega);(case c4=>omega);(case c5=>simp;omega);intro v' w2 z y _;obtain⟨Y,a0,rfl⟩:=bJ z;obtain⟨k1,k2,L⟩:=l.after y;have X:=L 2;simp[go_sem,World.cell?_alloc_past]at X;have Q:=((l.alloc _).alloc _).grown y (acc':=g++[T]) (by rw[SK,bA];exact z);clear y z L l b c0 C I J K;go_wp2_with fail;refine(aQN s p T.text.length _ oM oM).mono ?_;rintro e w3 ⟨rfl,rfl⟩;go_wp2;go_roundw;(case rel=>exact⟨f,_,g++[T],_,F,oM,by rw[bA];simp;omega,gN,HN.o,Q⟩);case measure=>exact mI
   go_wp2_with fail;refine(aKK s p _ oM m k).mono ?_;rintro e r ⟨rfl,x⟩;go_wp2_with fail;refine Ky (b.u x) s.data.toList p _ ?_ _ rfl rfl;exact n.o.symm.trans (Ad _ _ _ _ (by simpa using m) (by simpa using S) k)
  have c0:=b.cl;have Z:=b.g0;have c2:=b.g1;have fl:=b.fl;have f0:=b.f0;have f1:=b.f1;go_wp2_with fail;exact aNX b s.data.toList (n.o.symm.trans (MJ _ _ _ _ sO)) _ rfl rfl
theorem aQI(s:ByteArray)(w:World):Calls Tryz.prog 247 #[.string s] w (VV s.data.toList w):=by
 by_cases h:5000<s.size
 ·exact aNY s w h
 exact aKE s w oM
theorem Pf{w:World}{base:Nat}{e:TypeId}{size:Nat}{v:Value}{n:Nat}{b:List Value}(h:w.ownsRow base e size v n b)(k:Nat):(w.drewN k).ownsRow base e size v n b:=h
def aKT(L:List UInt8)(w:World)(e:Ending)(w':World):Prop:=
 ∃b d,e=.returned (.tuple #[.slice b (jF L).1.length d, .int .i64 ((jF L).2.1:Nat), .int .i64 (jF L).2.2])/\w'.ownsRow w.heap.size 271 3 (.slice b (jF L).1.length d) (jF L).1.length (qI (jF L).1)/\Below w.heap.size w w'
theorem aO3(s:ByteArray)(w:World):Calls Tryz.prog 245 #[.string s] w (aKT s.data.toList w):=by
 go_enter Tryz.func245,Tryz.ntmps245
 go_wp2_with fail;refine(aQI s _).mono ?_;rintro e i ⟨v,rfl,g,f⟩;obtain⟨b,d,rfl⟩:=bJ g;have k:∀o,(i.alloc o).ownsRow w.heap.size 271 3 (.slice b (jF s.data.toList).1.length d) (jF s.data.toList).1.length (qI (jF s.data.toList).1):=fun o=>g.alloc o;have l:=f.size;have j:∀o,Below w.heap.size w (i.alloc o):=fun o=>f.alloc l o;go_wp2;go_quiet(fail);go_wp2;go_ret3;exact⟨b,d,rfl,Pf (k _) _,below_drewN (j _) _⟩
theorem yD(n a b:Int)(w:World):Calls Tryz.prog 66 #[.int .i64 n, .int .i64 a, .int .i64 b] w fun e d=>e=.returned (.bool (decide (a<=n)&&decide (n<=b)))/\d=w:=by
 by_cases h:a<=n
 ·go_enter Tryz.func66,Tryz.ntmps66
  go_wp2;go_ret;exact⟨by simp[h],rfl⟩
 have f:decide (a<=n)=false:=by simpa using h
 go_enter Tryz.func66,Tryz.ntmps66
 go_wp2;go_ret;exact⟨rfl,rfl⟩
theorem zH(n:Int)(w:World)(h0:0<=n)(h1:n<=255):Calls Tryz.prog 220 #[.int .u8 n] w fun e b=>e=.returned (.bool (iS n))/\b=w:=by
 unfold iS
 go_enter Tryz.func220,Tryz.ntmps220
 go_wp2_with(go_at_call 66;refine(yD _ _ _ _).mono ?_;rintro e b ⟨rfl,rfl⟩);go_ret;exact⟨rfl,rfl⟩
theorem nV(n:Int)(w:World)(h0:0<=n)(h1:n<=255):Calls Tryz.prog 219 #[.int .u8 n] w fun e b=>e=.returned (.bool (dO n))/\b=w:=by
 unfold dO
 go_enter Tryz.func219,Tryz.ntmps219
 go_wp2_with(go_at_call 66;refine(yD _ _ _ _).mono ?_;rintro e b ⟨rfl,rfl⟩);go_ret;exact⟨rfl,rfl⟩
theorem mJ(n:Int)(w:World)(h0:0<=n)(h1:n<=255):Calls Tryz.prog 218 #[.int .u8 n] w fun e b=>e=.returned (.bool (iS n||iY n))/\b=w:=by
 unfold iY;cases h:iS n
 ·go_enter Tryz.func218,Tryz.ntmps218
  go_wp2_with(first|(go_at_call 220;refine(zH _ _ h0 h1).mono ?_;rintro e b ⟨rfl,rfl⟩)|(go_at_call 66;refine(yD _ _ _ _).mono ?_;rintro e b ⟨rfl,rfl⟩));go_ret;exact⟨rfl,rfl⟩
 go_enter Tryz.func218,Tryz.ntmps218
 go_wp2_with(first|(go_at_call 220;refine(zH _ _ h0 h1).mono ?_;rintro e b ⟨rfl,rfl⟩)|(go_at_call 66;refine(yD _ _ _ _).mono ?_;rintro e b ⟨rfl,rfl⟩));go_ret;exact⟨rfl,rfl⟩
theorem JC(x:UInt8):(0:Int)<=(x.toNat:Int)/\(x.toNat:Int)<=255:=by have :=x.toNat_lt;omega
theorem RJ{j k:IntKind}{a b c d:Int}(h:a=b)(e:c=d):Ending.returned (.tuple #[.int j a, .int k c])=.returned (.tuple #[.int j b, .int k d]):=by rw[h,e]
theorem aJ4(s:ByteArray)(b:Nat)(w:World)(C:s.size<=281474976710656)(v:b<s.size)(y:iS s[b].toNat=true):
 Calls Tryz.prog 203 #[.string s, .int .i64 b] w fun e f=>e=.returned (.tuple #[.int .i64 1, .int .i64 (aL eH (s.data.toList.drop b):Nat)])/\f=w:=by
 have j:=JC s[b]
 go_enter Tryz.func203,Tryz.ntmps203
 go_wp2_with(go_at_call 218;refine(mJ _ _ j.1 j.2).mono ?_;rintro e f ⟨rfl,rfl⟩);go_loop [7] (fun i=>∃k:Nat,1<=k/\b+k<=s.size/\i=.int .i64 k/\aL eH (s.data.toList.drop b)=k+aL eH (s.data.toList.drop (b+k))) (fun i=>s.size-(intOf i).toNat);case atStart=>refine⟨1,oM,oM,rfl,?_⟩;have :=nC eH s.data.toList b (by simpa using v) (by unfold eH;rw[show s.data.toList[b]=s[b] from rfl,y];rfl);omega
 case round=>
  obtain⟨k,A,B,rfl,p⟩:=hrel;have HK:O (aL eH (s.data.toList.drop b)=k+aL eH (s.data.toList.drop (b+k))):=p;clear p;by_cases x:b+k<s.size
  ·have d:=JC s[b+k];(have m:b+k<s.data.toList.length:=by simpa using x);cases l:(iS s[b+k].toNat||iY s[b+k].toNat)
   ·cases n:dO s[b+k].toNat
    ·have g:O (aL eH (s.data.toList.drop (b+k))=0):=BX eH s.data.toList (b+k) m (by unfold eH;rw[show s.data.toList[b+k]=s[b+k] from rfl,l,n];rfl);go_wp2_with(first|(go_at_call 218;refine(mJ _ _ d.1 d.2).mono ?_;rintro e f ⟨rfl,rfl⟩)|(go_at_call 219;refine(nV _ _ d.1 d.2).mono ?_;rintro e f ⟨rfl,rfl⟩)|(go_at_call 220;refine(zH _ _ j.1 j.2).mono ?_;rintro e f ⟨rfl,rfl⟩));go_ret2;exact⟨RJ rfl (by have q:=HK.o;have r:=g.o;omega),rfl⟩
    have g:O (aL eH (s.data.toList.drop (b+k))=aL eH (s.data.toList.drop (b+k+1))+1):=nC eH s.data.toList (b+k) m (by unfold eH;rw[show s.data.toList[b+k]=s[b+k] from rfl,l,n];rfl);go_wp2_with(first|(go_at_call 218;refine(mJ _ _ d.1 d.2).mono ?_;rintro e f ⟨rfl,rfl⟩)|(go_at_call 219;refine(nV _ _ d.1 d.2).mono ?_;rintro e f ⟨rfl,rfl⟩));go_round;(case rel=>exact⟨k+1,oM,oM,gN,by rw[HK.o,g.o,show b+(k+1)=b+k+1 from by omega];omega⟩);case measure=>exact mI
   have g:O (aL eH (s.data.toList.drop (b+k))=aL eH (s.data.toList.drop (b+k+1))+1):=nC eH s.data.toList (b+k) m (by unfold eH;rw[show s.data.toList[b+k]=s[b+k] from rfl,l];rfl);go_wp2_with(first|(go_at_call 218;refine(mJ _ _ d.1 d.2).mono ?_;rintro e f ⟨rfl,rfl⟩)|(go_at_call 219;refine(nV _ _ d.1 d.2).mono ?_;rintro e f ⟨rfl,rfl⟩));go_round;(case rel=>exact⟨k+1,oM,oM,gN,by rw[HK.o,g.o,show b+(k+1)=b+k+1 from by omega];omega⟩);case measure=>exact mI
  have g:O (aL eH (s.data.toList.drop (b+k))=0):=AC eH s.data.toList (b+k) sO;(have z:decide ((b:Int)+(k:Int)<(s.size:Int))=false:=by simp;omega);go_wp2_with(go_at_call 220;refine(zH _ _ j.1 j.2).mono ?_;rintro e f ⟨rfl,rfl⟩);go_ret2;exact⟨RJ rfl (by have q:=HK.o;have r:=g.o;omega),rfl⟩
theorem aNU(s:ByteArray)(b:Nat)(w:World)(D:s.size<=281474976710656)(x:b<s.size)(z:iS s[b].toNat=false)(v:iY s[b].toNat=true):
 Calls Tryz.prog 203 #[.string s, .int .i64 b] w fun e f=>e=.returned (.tuple #[.int .i64 2, .int .i64 (aL eH (s.data.toList.drop b):Nat)])/\f=w:=by
 have j:=JC s[b]
 go_enter Tryz.func203,Tryz.ntmps203
 go_wp2_with(go_at_call 218;refine(mJ _ _ j.1 j.2).mono ?_;rintro e f ⟨rfl,rfl⟩);go_loop [7] (fun i=>∃k:Nat,1<=k/\b+k<=s.size/\i=.int .i64 k/\aL eH (s.data.toList.drop b)=k+aL eH (s.data.toList.drop (b+k))) (fun i=>s.size-(intOf i).toNat);case atStart=>refine⟨1,oM,oM,rfl,?_⟩;have :=nC eH s.data.toList b (by simpa using x) (by unfold eH;rw[show s.data.toList[b]=s[b] from rfl,z,v];rfl);omega
 case round=>
  obtain⟨k,B,C,rfl,p⟩:=hrel;have HK:O (aL eH (s.data.toList.drop b)=k+aL eH (s.data.toList.drop (b+k))):=p;clear p;by_cases y:b+k<s.size
  ·have d:=JC s[b+k];(have m:b+k<s.data.toList.length:=by simpa using y);cases l:(iS s[b+k].toNat||iY s[b+k].toNat)
   ·cases n:dO s[b+k].toNat
    ·have g:O (aL eH (s.data.toList.drop (b+k))=0):=BX eH s.data.toList (b+k) m (by unfold eH;rw[show s.data.toList[b+k]=s[b+k] from rfl,l,n];rfl);go_wp2_with(first|(go_at_call 218;refine(mJ _ _ d.1 d.2).mono ?_;rintro e f ⟨rfl,rfl⟩)|(go_at_call 219;refine(nV _ _ d.1 d.2).mono ?_;rintro e f ⟨rfl,rfl⟩)|(go_at_call 220;refine(zH _ _ j.1 j.2).mono ?_;rintro e f ⟨rfl,rfl⟩));go_ret2;exact⟨RJ rfl (by have q:=HK.o;have r:=g.o;omega),rfl⟩
    have g:O (aL eH (s.data.toList.drop (b+k))=aL eH (s.data.toList.drop (b+k+1))+1):=nC eH s.data.toList (b+k) m (by unfold eH;rw[show s.data.toList[b+k]=s[b+k] from rfl,l,n];rfl);go_wp2_with(first|(go_at_call 218;refine(mJ _ _ d.1 d.2).mono ?_;rintro e f ⟨rfl,rfl⟩)|(go_at_call 219;refine(nV _ _ d.1 d.2).mono ?_;rintro e f ⟨rfl,rfl⟩));go_round;(case rel=>exact⟨k+1,oM,oM,gN,by rw[HK.o,g.o,show b+(k+1)=b+k+1 from by omega];omega⟩);case measure=>exact mI
   have g:O (aL eH (s.data.toList.drop (b+k))=aL eH (s.data.toList.drop (b+k+1))+1):=nC eH s.data.toList (b+k) m (by unfold eH;rw[show s.data.toList[b+k]=s[b+k] from rfl,l];rfl);go_wp2_with(first|(go_at_call 218;refine(mJ _ _ d.1 d.2).mono ?_;rintro e f ⟨rfl,rfl⟩)|(go_at_call 219;refine(nV _ _ d.1 d.2).mono ?_;rintro e f ⟨rfl,rfl⟩));go_round;(case rel=>exact⟨k+1,oM,oM,gN,by rw[HK.o,g.o,show b+(k+1)=b+k+1 from by omega];omega⟩);case measure=>exact mI
  have g:O (aL eH (s.data.toList.drop (b+k))=0):=AC eH s.data.toList (b+k) sO;(have A:decide ((b:Int)+(k:Int)<(s.size:Int))=false:=by simp;omega);go_wp2_with(go_at_call 220;refine(zH _ _ j.1 j.2).mono ?_;rintro e f ⟨rfl,rfl⟩);go_ret2;exact⟨RJ rfl (by have q:=HK.o;have r:=g.o;omega),rfl⟩
theorem aB8(s:ByteArray)(b:Nat)(w:World)(C:s.size<=281474976710656)(v:b<s.size)(D:iS s[b].toNat=false)(y:iY s[b].toNat=false)(r:dO s[b].toNat=true):
 Calls Tryz.prog 203 #[.string s, .int .i64 b] w fun e f=>e=.returned (.tuple #[.int .i64 3, .int .i64 (aL dO (s.data.toList.drop b):Nat)])/\f=w:=by
 have g:=JC s[b]
 go_enter Tryz.func203,Tryz.ntmps203
 go_wp2_with(first|(go_at_call 218;refine(mJ _ _ g.1 g.2).mono ?_;rintro e f ⟨rfl,rfl⟩)|(go_at_call 219;refine(nV _ _ g.1 g.2).mono ?_;rintro e f ⟨rfl,rfl⟩));go_loop [7] (fun i=>∃k:Nat,1<=k/\b+k<=s.size/\i=.int .i64 k/\aL dO (s.data.toList.drop b)=k+aL dO (s.data.toList.drop (b+k))) (fun i=>s.size-(intOf i).toNat);case atStart=>refine⟨1,oM,oM,rfl,?_⟩;have :=nC dO s.data.toList b (by simpa using v) r;omega
 case round=>
  obtain⟨k,A,B,rfl,m⟩:=hrel;have HK:O (aL dO (s.data.toList.drop b)=k+aL dO (s.data.toList.drop (b+k))):=m;clear m;by_cases x:b+k<s.size
  ·have j:=JC s[b+k];(have n:b+k<s.data.toList.length:=by simpa using x);cases l:dO s[b+k].toNat
   ·have d:O (aL dO (s.data.toList.drop (b+k))=0):=BX dO s.data.toList (b+k) n l;go_wp2_with(go_at_call 219;refine(nV _ _ j.1 j.2).mono ?_;rintro e f ⟨rfl,rfl⟩);go_ret2;exact⟨RJ rfl (by have p:=HK.o;have q:=d.o;omega),rfl⟩
   have d:O (aL dO (s.data.toList.drop (b+k))=aL dO (s.data.toList.drop (b+k+1))+1):=nC dO s.data.toList (b+k) n l;go_wp2_with(go_at_call 219;refine(nV _ _ j.1 j.2).mono ?_;rintro e f ⟨rfl,rfl⟩);go_round;(case rel=>exact⟨k+1,oM,oM,gN,by rw[HK.o,d.o,show b+(k+1)=b+k+1 from by omega];omega⟩);case measure=>exact mI
  have d:O (aL dO (s.data.toList.drop (b+k))=0):=AC dO s.data.toList (b+k) sO;(have z:decide ((b:Int)+(k:Int)<(s.size:Int))=false:=by simp;omega);go_wp2_with fail;go_ret2;exact⟨RJ rfl (by have p:=HK.o;have q:=d.o;omega),rfl⟩
theorem aNT(s:ByteArray)(b:Nat)(w:World)(p:s.size<=281474976710656)(m:b<s.size)(q:iS s[b].toNat=false)(l:iY s[b].toNat=false)(k:dO s[b].toNat=false)(n:b+1<s.size)
 (g:((s.extract b (b+2)).toList==[58,45])=true\/((s.extract b (b+2)).toList==[60,61])=true\/((s.extract b (b+2)).toList==[33,61])=true):
 Calls Tryz.prog 203 #[.string s, .int .i64 b] w fun e f=>e=.returned (.tuple #[.int .i64 4, .int .i64 2])/\f=w:=by
 have d:=JC s[b];cases i:((s.extract b (b+2)).toList==[58,45])
 ·cases j:((s.extract b (b+2)).toList==[60,61])
  ·have r:((s.extract b (b+2)).toList==[33,61])=true:=by
    rcases g with h|h|h
    ·rw[h]at i;cases i
    ·rw[h]at j;cases j
    exact h
   clear g
   go_enter Tryz.func203,Tryz.ntmps203
   go_wp2_with(first|(go_at_call 218;refine(mJ _ _ d.1 d.2).mono ?_;rintro e f ⟨rfl,rfl⟩)|(go_at_call 219;refine(nV _ _ d.1 d.2).mono ?_;rintro e f ⟨rfl,rfl⟩));go_ret2;exact⟨rfl,rfl⟩
  clear g
  go_enter Tryz.func203,Tryz.ntmps203
  go_wp2_with(first|(go_at_call 218;refine(mJ _ _ d.1 d.2).mono ?_;rintro e f ⟨rfl,rfl⟩)|(go_at_call 219;refine(nV _ _ d.1 d.2).mono ?_;rintro e f ⟨rfl,rfl⟩));go_ret2;exact⟨rfl,rfl⟩
 clear g
 go_enter Tryz.func203,Tryz.ntmps203
 go_wp2_with(first|(go_at_call 218;refine(mJ _ _ d.1 d.2).mono ?_;rintro e f ⟨rfl,rfl⟩)|(go_at_call 219;refine(nV _ _ d.1 d.2).mono ?_;rintro e f ⟨rfl,rfl⟩));go_ret2;exact⟨rfl,rfl⟩
theorem aGZ(c:UInt8)(k:Nat)(b:k<9)(h:((({data:=#[40,41,44,46,60,61,43,45,42]}:ByteArray)[k]'b).toNat:Int)==(c.toNat:Int)):(List.drop k [40,41,44,46,60,61,43,45,42]).contains c=true:=by(have d:({data:=#[40,41,44,46,60,61,43,45,42]}:ByteArray)[k]'b=c:=by have :=mN.1 h;exact UInt8.toNat_inj.1 oM);have e:([40,41,44,46,60,61,43,45,42]:List UInt8)[k]'b=c:=d;rw[yZ [40,41,44,46,60,61,43,45,42] k b,e];simp
theorem Xw(c:UInt8)(k:Nat)(b:k<9)(h:(((({data:=#[40,41,44,46,60,61,43,45,42]}:ByteArray)[k]'b).toNat:Int)==(c.toNat:Int))=false):(List.drop k [40,41,44,46,60,61,43,45,42]).contains c=(List.drop (k+1) [40,41,44,46,60,61,43,45,42]).contains c:=by(have d:¬({data:=#[40,41,44,46,60,61,43,45,42]}:ByteArray)[k]'b=c:=by intro e;have :=fR.1 h;exact this (by rw[e]));have f:¬c=([40,41,44,46,60,61,43,45,42]:List UInt8)[k]'b:=fun e=>d e.symm;rw[yZ [40,41,44,46,60,61,43,45,42] k b,List.contains_cons,fR.2 f,ZE]
theorem aNS(s:ByteArray)(b:Nat)(w:World)(C:s.size<=281474976710656)(A:b<s.size)(D:iS s[b].toNat=false)(z:iY s[b].toNat=false)(y:dO s[b].toNat=false)(q:¬b+1<s.size\/(b+1<s.size/\((s.extract b (b+2)).toList==[58,45])=false/\((s.extract b (b+2)).toList==[60,61])=false/\((s.extract b (b+2)).toList==[33,61])=false))
 (V:Ending) (r:mR s[b]=true->V=.returned (.tuple #[.int .i64 4, .int .i64 1])) (v:mR s[b]=false->V=.returned (.tuple #[.int .i64 0, .int .i64 0])):
 Calls Tryz.prog 203 #[.string s, .int .i64 b] w fun e m=>e=V/\m=w:=by
 have f:=JC s[b];have n:O (mR s[b]=true->V=.returned (.tuple #[.int .i64 4, .int .i64 1])):=r;have p:O (mR s[b]=false->V=.returned (.tuple #[.int .i64 0, .int .i64 0])):=v;clear r v;rcases q with q|⟨B,E,F,G⟩
 ·go_enter Tryz.func203,Tryz.ntmps203
  go_wp2_with(first|(go_at_call 218;refine(mJ _ _ f.1 f.2).mono ?_;rintro e m ⟨rfl,rfl⟩)|(go_at_call 219;refine(nV _ _ f.1 f.2).mono ?_;rintro e m ⟨rfl,rfl⟩));go_loop [10] (fun i=>∃k:Nat,k<=9/\i=.int .i64 k/\mR s[b]=(List.drop k [40,41,44,46,60,61,43,45,42]).contains s[b]) (fun i=>9-(intOf i).toNat);case atStart=>exact⟨0,oM,rfl,rfl⟩
  case round=>
   obtain⟨k,x,rfl,l⟩:=hrel;have HK:O (mR s[b]=(List.drop k [40,41,44,46,60,61,43,45,42]).contains s[b]):=l;clear l;by_cases g:k<9
   ·cases j:((({data:=#[40,41,44,46,60,61,43,45,42]}:ByteArray)[k]'g).toNat:Int)==(s[b].toNat:Int)
    ·have d:O (mR s[b]=(List.drop (k+1) [40,41,44,46,60,61,43,45,42]).contains s[b]):=HK.o.trans (Xw _ k g j);go_wp2;go_round;(case rel=>exact⟨k+1,oM,gN,d.o⟩);case measure=>exact mI
    have d:O (mR s[b]=true):=HK.o.trans (aGZ _ k g j);go_wp2;go_ret2;exact⟨(n.o d.o).symm,rfl⟩
   (have d:O (mR s[b]=false):=by rw[HK.o,bD sO];rfl);go_wp2;go_ret2;exact⟨(p.o d.o).symm,rfl⟩
 go_enter Tryz.func203,Tryz.ntmps203
 go_wp2_with(first|(go_at_call 218;refine(mJ _ _ f.1 f.2).mono ?_;rintro e m ⟨rfl,rfl⟩)|(go_at_call 219;refine(nV _ _ f.1 f.2).mono ?_;rintro e m ⟨rfl,rfl⟩));go_loop [10] (fun i=>∃k:Nat,k<=9/\i=.int .i64 k/\mR s[b]=(List.drop k [40,41,44,46,60,61,43,45,42]).contains s[b]) (fun i=>9-(intOf i).toNat);case atStart=>exact⟨0,oM,rfl,rfl⟩
 case round=>
  obtain⟨k,x,rfl,l⟩:=hrel;have HK:O (mR s[b]=(List.drop k [40,41,44,46,60,61,43,45,42]).contains s[b]):=l;clear l;by_cases g:k<9
  ·cases j:((({data:=#[40,41,44,46,60,61,43,45,42]}:ByteArray)[k]'g).toNat:Int)==(s[b].toNat:Int)
   ·have d:O (mR s[b]=(List.drop (k+1) [40,41,44,46,60,61,43,45,42]).contains s[b]):=HK.o.trans (Xw _ k g j);go_wp2;go_round;(case rel=>exact⟨k+1,oM,gN,d.o⟩);case measure=>exact mI
   have d:O (mR s[b]=true):=HK.o.trans (aGZ _ k g j);go_wp2;go_ret2;exact⟨(n.o d.o).symm,rfl⟩
  (have d:O (mR s[b]=false):=by rw[HK.o,bD sO];rfl);go_wp2;go_ret2;exact⟨(p.o d.o).symm,rfl⟩
theorem aCS(a b:UInt8)(l:List UInt8):[a,b].isPrefixOf l=(l.take 2==[a,b]):=by
 match l with
 |[]=>rfl
 |[x]=>simp[List.isPrefixOf]
 |x::y::r=>
  rw[CC];simp[List.isPrefixOf];constructor
  ·rintro⟨rfl,rfl⟩;exact⟨rfl,rfl⟩
  rintro⟨rfl,rfl⟩;exact⟨rfl,rfl⟩
theorem Bp(s:ByteArray)(a:Nat):(s.extract a (a+2)).toList=(s.data.toList.drop a).take 2:=by rw[Lib.extract_toList,uS]
theorem aJ5(s:ByteArray)(b:Nat)(w:World)(n:s.size<=281474976710656)(g:b<s.size)(p:iS s[b].toNat=false)(m:iY s[b].toNat=false)(l:dO s[b].toNat=false):
 Calls Tryz.prog 203 #[.string s, .int .i64 b] w fun e x=>e=.returned (.tuple #[.int .i64 (if fB (s.data.toList.drop b)=0 then 0 else 4), .int .i64 (fB (s.data.toList.drop b):Nat)])/\x=w:=by
 have q:=zF s b g;(have d:fB (s.data.toList.drop b)=if [58,45].isPrefixOf (s.data.toList.drop b)||[60,61].isPrefixOf (s.data.toList.drop b)||[33,61].isPrefixOf (s.data.toList.drop b)then 2 else if mR s[b] then 1 else 0:=by rw[q];rfl);rw[aCS,aCS,aCS,<-Bp]at d;by_cases f:((s.extract b (b+2)).toList==[58,45])=true\/((s.extract b (b+2)).toList==[60,61])=true\/((s.extract b (b+2)).toList==[33,61])=true
 ·(have v:b+1<s.size:=by(have r:(s.extract b (b+2)).toList.length=2:=by rcases f with h|h|h<;>rw[mN.1 h]<;>rfl);rw[Bp,cW]at r;(have y:(s.data.toList.drop b).length=s.size-b:=by simp);omega);rw[if_pos (by simp only[Bool.or_eq_true];rcases f with h|h|h;exact .inl (.inl h);exact .inl (.inr h);exact .inr h)]at d;rw[d];exact aNT s b w n g p m l v f
 (have i:((s.extract b (b+2)).toList==[58,45])=false:=by simpa using fun h=>f (.inl (mN.2 h)));(have j:((s.extract b (b+2)).toList==[60,61])=false:=by simpa using fun h=>f (.inr (.inl (mN.2 h))));(have k:((s.extract b (b+2)).toList==[33,61])=false:=by simpa using fun h=>f (.inr (.inr (mN.2 h))));rw[i,j,k,Bool.or_self,Bool.or_self,if_neg sI]at d;refine aNS s b w n g p m l ?_ _ ?_ ?_
 ·by_cases h:b+1<s.size
  ·exact .inr ⟨h,i,j,k⟩
  exact .inl h
 ·intro h;rw[h]at d;rw[d];rfl
 intro h;rw[h]at d;rw[d];rfl
def uX(l:List UInt8):Int:=if eG l=0 then 0 else mS l
theorem vJ(s:ByteArray)(b:Nat)(w:World)(j:s.size<=281474976710656)(d:b<s.size):
 Calls Tryz.prog 203 #[.string s, .int .i64 b] w fun e q=>e=.returned (.tuple #[.int .i64 (uX (s.data.toList.drop b)), .int .i64 (eG (s.data.toList.drop b):Nat)])/\q=w:=by
 have l:=zF s b d;(have n:mS (s.data.toList.drop b)=if iS s[b].toNat then 1 else if iY s[b].toNat then 2 else if dO s[b].toNat then 3 else 4:=by rw[l];exact JH _ _);((have p:eG (s.data.toList.drop b)=if iS s[b].toNat||iY s[b].toNat then aL eH (s.data.toList.drop b)else if dO s[b].toNat then aL dO (s.data.toList.drop b)else fB (s.data.toList.drop b):=by rw[l];exact MW _ _);have m:(iS s[b].toNat||iY s[b].toNat)=true->¬aL eH (s.data.toList.drop b)=0:=fun h=>by have :=nC eH s.data.toList b (by simpa using d) (by unfold eH;rw[show s.data.toList[b]=s[b] from rfl,h];rfl);omega);unfold uX;rw[n,p];cases f:iS s[b].toNat
 ·cases i:iY s[b].toNat
  ·cases k:dO s[b].toNat
   ·simp only[Bool.or_self,Bool.false_eq_true,if_false];exact aJ5 s b w j d f i k
   (have g:¬aL dO (s.data.toList.drop b)=0:=by have :=nC dO s.data.toList b (by simpa using d) k;omega);simp only[Bool.or_self,Bool.false_eq_true,if_false,if_true,g];exact aB8 s b w j d f i k
  have g:=m (by rw[f,i];rfl);simp only[Bool.or_true,Bool.false_eq_true,if_false,if_true,g];exact aNU s b w j d f i
 have g:=m (by rw[f];rfl);simp only[Bool.true_or,if_false,if_true,g];exact aJ4 s b w j d f
theorem YZ(c:UInt8)(r:List UInt8):
 (eG (c::r)=0/\kP (c::r)=1)\/
 (1<=eG (c::r)/\(mS (c::r)=1\/mS (c::r)=2)/\12<eG (c::r)/\kP (c::r)=2)\/
 (1<=eG (c::r)/\(mS (c::r)=1\/mS (c::r)=2)/\eG (c::r)<=12/\kP (c::r)=0)\/
 (1<=eG (c::r)/\mS (c::r)=3/\7<eG (c::r)/\kP (c::r)=2)\/
 (1<=eG (c::r)/\mS (c::r)=3/\1<eG (c::r)/\eG (c::r)<=7/\(c.toNat:Int)=48/\kP (c::r)=1)\/
 (1<=eG (c::r)/\mS (c::r)=3/\eG (c::r)<=1/\kP (c::r)=0)\/
 (1<=eG (c::r)/\mS (c::r)=3/\1<eG (c::r)/\eG (c::r)<=7/\¬(c.toNat:Int)=48/\kP (c::r)=0)\/
 (1<=eG (c::r)/\mS (c::r)=4/\kP (c::r)=0):=by
 rw[MW,JH,MT];have j:(iS c.toNat||iY c.toNat)=true->1<=aL eH (c::r):=fun h=>MI (by unfold eH;rw[h];rfl);have m:dO c.toNat=true->1<=aL dO (c::r):=fun h=>MI h;cases f:iS c.toNat
 ·cases k:iY c.toNat
  ·cases l:dO c.toNat
   ·simp only[Bool.or_self,Bool.false_eq_true,if_false];by_cases h:fB (c::r)=0
    ·exact .inl ⟨h,by rw[if_pos h]⟩
    exact .inr (.inr (.inr (.inr (.inr (.inr (.inr ⟨oM,trivial,by rw[if_neg h]⟩))))))
   have e:=m l;simp only[Bool.or_self,Bool.false_eq_true,if_false,if_true];by_cases h:aL dO (c::r)>7
   ·exact .inr (.inr (.inr (.inl ⟨e,trivial,h,by rw[if_pos h]⟩)))
   by_cases b:aL dO (c::r)>1
   ·by_cases d:(c.toNat:Int)=48
    ·exact .inr (.inr (.inr (.inr (.inl ⟨e,trivial,b,oM,d,by rw[if_neg h,if_pos ⟨d,b⟩]⟩))))
    exact .inr (.inr (.inr (.inr (.inr (.inr (.inl ⟨e,trivial,b,oM,d,by rw[if_neg h,if_neg (fun x=>d x.1)]⟩))))))
   exact .inr (.inr (.inr (.inr (.inr (.inl ⟨e,trivial,oM,by rw[if_neg h,if_neg (fun x=>b x.2)]⟩)))))
  have i:=j (by rw[f,k];rfl);simp only[Bool.or_true,Bool.false_eq_true,if_false,if_true];by_cases h:aL eH (c::r)>12
  ·exact .inr (.inl ⟨i, .inr trivial,h,by rw[if_pos h]⟩)
  exact .inr (.inr (.inl ⟨i, .inr trivial,oM,by rw[if_neg h]⟩))
 have g:=j (by rw[f];rfl);simp only[Bool.true_or,if_true];by_cases h:aL eH (c::r)>12
 ·exact .inr (.inl ⟨g, .inl trivial,h,by rw[if_pos h]⟩)
 exact .inr (.inr (.inl ⟨g, .inl trivial,oM,by rw[if_neg h]⟩))
theorem jY{a b:Bool}(h:a=b):Ending.returned (.bool a)=.returned (.bool b):=by rw[h]
def aO6(w:World)(b off:Nat)(t:fD):Prop:=
 w.cell? ⟨b,off,none⟩=some (.int .i64 t.kind)/\w.cell? ⟨b,off+1,none⟩=some (.int .i64 t.at_)/\w.cell? ⟨b,off+2,none⟩=some (.string ⟨t.text.toArray⟩)
def wP(l:List fD)(i:Nat):fD:=l.getD i ⟨0,0,[]⟩
theorem aBO:∀(l:List fD)(i j:Nat),i<l.length->j<3->(qI l)[i*3+j]?=(uL (wP l i))[j]?:=by
 intro l
 induction l with
 |nil=>intro i j h;exact absurd h sI
 |cons t r g=>
  intro i j b d;(have e:qI (t::r)=uL t++qI r:=by simp[qI]);have f:(uL t).length=3:=rfl;rw[e]
  cases i with
  |zero=>rw[EQ,dV,mL oM];rfl
  |succ i=>
   rw[jP oM,f,show(i+1)*3+j-3=i*3+j from by omega,g i j (by simpa using b) d];rfl
def Hp(w:World)(ao:Option Addr)(l:List fD):Prop:=
 l=[]\/∃b d,ao=some ⟨b,d,none⟩/\∀i,i<l.length->aO6 w b (d+i*3) (wP l i)
theorem aKL{w:World}{base n:Nat}{ao:Option Addr}{m:Nat}{l:List fD}(h:w.ownsRow base 271 3 (.slice ao n m) n (qI l)):Hp w ao l:=by
 rcases h.2 with⟨f,p⟩|⟨g,y,z,f,B,A,r⟩
 ·left;have q:=h.1;rw[p,Ck]at q;exact eB oM
 right;(have x:ao=some ⟨g,0,none⟩:=by injection f);subst x;refine⟨g,0,rfl,fun i s=>?_⟩;have d:=h.cells (g:=g) rfl;have e:∀j,j<3->(qI l)[i*3+j]?=(uL (wP l i))[j]?:=fun j v=>aBO l i j s v;(have b:∀k,((⟨g,0,none⟩:Addr).add k)=⟨g,0+k,none⟩:=fun _=>by simp[Addr.add];exact fun h=>h.symm);refine⟨?_,?_,?_⟩
 ·have :=d (i*3+0) _ ((e 0 oM).trans rfl);rw[b]at this;simpa using this
 ·have :=d (i*3+1) _ ((e 1 oM).trans rfl);rw[b]at this;simpa[Nat.add_assoc]using this
 have :=d (i*3+2) _ ((e 2 oM).trans rfl);rw[b]at this;simpa[Nat.add_assoc]using this
def DY(k:Int)(t:List UInt8):Bool:=((jF t).2.2==0)&&(((jF t).1.length:Int)==1)&&((wP (jF t).1 0).kind==k)&&((wP (jF t).1 0).text==t)
def mE(k:Int)(t:List UInt8):Bool:=decide (t≠[]/\t.length<=5000/\kP t=0/\mS t=k/\eG t=t.length)
theorem aQK(c:UInt8)(r:List UInt8)(d:kP (c::r)=0):iV false (c::r)=0:=by
 have h:=YZ c r;have e:¬((c.toNat:Int)=37\/(c.toNat:Int)=32\/(c.toNat:Int)=9\/(c.toNat:Int)=10):=by
  intro b;(have f:iS c.toNat=false:=by unfold iS;rcases b with h|h|h|h<;>rw[h]<;>rfl);(have g:iY c.toNat=false:=by unfold iY;rcases b with h|h|h|h<;>rw[h]<;>rfl);(have i:dO c.toNat=false:=by unfold dO;rcases b with h|h|h|h<;>rw[h]<;>rfl);have j:fB (c::r)=0:=by
   have l:c.toNat=37\/c.toNat=32\/c.toNat=9\/c.toNat=10:=oM;have k:c=37\/c=32\/c=9\/c=10:=by
    rcases l with h|h|h|h
    ·exact .inl (UInt8.toNat_inj.1 h)
    ·exact .inr (.inl (UInt8.toNat_inj.1 h))
    ·exact .inr (.inr (.inl (UInt8.toNat_inj.1 h)))
    exact .inr (.inr (.inr (UInt8.toNat_inj.1 h)))
   rcases k with rfl|rfl|rfl|rfl<;>simp[fB,mR,List.isPrefixOf]
  rw[MT,f,g,i]at d;simp[j]at d
 rw[iV,if_neg (fun h=>e (.inl h)),if_neg (fun h=>e (.inr h))]
theorem aJK(k:Int)(t:List UInt8)(h:mE k t=true):jF t=([{kind:=k,at_:=0,text:=t}],0,0):=by
 have h:=eL h;obtain⟨d,i,b,e,f⟩:=h
 match t,d with
 |c::r,_=>
  unfold jF;rw[if_neg oM,aQK c r b];have g:(c::r).length=r.length+1:=rfl;rw[g,nD,if_neg sI,gJ,if_pos b,MJ _ _ _ _ oM];simp only[List.nil_append,qH,List.drop_zero,e,f];rw[lA];rfl
theorem Ic(k:Int)(t:List UInt8)(h:mE k t=true):DY k t=true:=by unfold DY;rw[aJK k t h];simp[wP]
theorem aGY(L:List UInt8):∀(f p:Nat)(b:List fD),(nD L f p b).2.2=0->∃r,(nD L f p b).1=b++r:=by
 intro f
 induction f with
 |zero=>intro p b _;exact⟨[],by simp[nD]⟩
 |succ f i=>
  intro p b h;rw[nD]at h ⊢;split
  ·exact⟨[],by simp⟩
  rename_i e;rw[if_neg e]at h;split
  ·rename_i d;rw[if_pos d]at h;obtain⟨r,g⟩:=i _ _ h;exact⟨qH L p::r,by rw[g];simp⟩
  rename_i d;rw[if_neg d]at h;exact absurd h d
theorem Jw(k:Int)(t:List UInt8)(h:DY k t=true):mE k t=true:=by
 unfold DY at h;simp only[Bool.and_eq_true,beq_iff_eq]at h;obtain⟨⟨⟨d,j⟩,e⟩,g⟩:=h;have x:t.length<=5000:=by
  by_cases b:5000<t.length
  ·exfalso;rw[jF,if_pos b]at d;exact absurd d dE
  omega
 (have A:jF t=nD t t.length (iV false t) []:=by rw[jF,if_neg oM]);have E:=QY false t;rw[A]at d j e g;generalize D:iV false t=p at *;have i:p<t.length:=by
  rcases jW p t.length with b|b
  ·exact b
  exfalso;rw[MJ _ _ _ _ b]at j;exact absurd j dE
 have l:kP (t.drop p)=0:=by
  by_cases b:kP (t.drop p)=0
  ·exact b
  exfalso;rw[Ad _ _ _ _ i oM b]at d;exact b d
 obtain⟨f,w⟩:∃f,t.length=f+1:=⟨t.length-1,oM⟩;rw[w,MK _ _ _ _ i l]at d e g;obtain⟨r,z⟩:=aGY t _ _ _ d;rw[z]at e g;have n:(qH t p).kind=k:=e;have q:(qH t p).text=t:=g;have s:(t.drop p).take (eG (t.drop p))=t:=q;have m:=congrArg List.length s;rw[cW,tT]at m;have B:p=0:=oM;subst B;rw[gJ]at m l;(have v:mS t=k:=by have :=n;rw[qH,gJ]at this;exact this);have C:=PO t;refine aQ ⟨?_,x,l,v,oM⟩;intro y;rw[y]at i;exact absurd i sI
theorem aPB(k:Int)(t:List UInt8):DY k t=mE k t:=by rw[CC];exact⟨Jw k t,Ic k t⟩
end Go.Proofs.YthenjegmigeieaaGreat
namespace Go.Proofs.YthenjegmigeieaaGreat
structure fL where
 var:List UInt8
 n:Int
structure iX where
 kind:Int
 at_:Int
 op:Int
 name:List UInt8
 p:List fL
structure jN where
 at_:Int
 name:List UInt8
 p:List fL
 x:Int
 body:List iX
def CP(s:List UInt8):Int:=
 if s==[99,111,117,110,116] then 1 else if s==[115,117,109] then 2 else if s==[108,101,97,115,116] then 3 else if s==[109,111,115,116] then 4 else 0
def CR(s:List UInt8):Bool:=(s==[110,111,116])||(CP s != 0)
def oR(s:List UInt8):Bool:=mE 1 s&& !CR s
def dG(n a b:Int):Bool:=decide (a<=n)&&decide (n<=b)
def zC(t:fL):Bool:=if t.var.isEmpty then dG t.n (-9999999) 9999999 else(t.n==0)&&mE 2 t.var
def pP(l:List fL):Bool:=l.all zC
def CQ(f:Int)(b body:Nat):Bool:=(f==0)||(dG f 1 4&&decide (0<b)&&decide (0<body))
def zS(l:iX):Bool:=
 pP l.p&&(if l.kind=1\/l.kind=2 then(l.op==0)&&oR l.name
  else if l.kind=3 then dG l.op 1 4&&l.name.isEmpty&&((l.p.length:Int)==2)
  else if l.kind=4 then dG l.op 5 7&&l.name.isEmpty&&((l.p.length:Int)==3)else false)
def AT(l:List iX):Bool:=l.all zS
def qL(r:jN):Bool:=oR r.name&&pP r.p&&CQ r.x r.p.length r.body.length&&AT r.body
def vS(l:List iX):Bool:=l.any fun x=>decide (3<x.p.length)
def nI(r:jN):Bool:=decide (4<r.body.length)||decide (3<r.p.length)||vS r.body
def jA(l:List jN):Bool:=decide (12<l.length)||l.any nI
def lB(l:List jN):Int:=if jA l then 2 else if l.all qL then 0 else 1
def vE(l:List fL)(i:Nat):fL:=l.getD i ⟨[],0⟩
def AD(l:List iX)(i:Nat):iX:=l.getD i ⟨0,0,0,[],[]⟩
def tL(l:List jN)(i:Nat):jN:=l.getD i ⟨0,[],[],0,[]⟩
theorem EA{α:Type}(p:α->Bool)(l:List α)(d:α)(k:Nat)(h:k<l.length):(l.drop k).all p=(p (l.getD k d)&&(l.drop (k+1)).all p):=by rw[dB h,List.all_cons,aC,aD h];rfl
theorem aE4{α:Type}(p:α->Bool)(l:List α)(d:α)(k:Nat)(h:k<l.length):(l.drop k).any p=(p (l.getD k d)||(l.drop (k+1)).any p):=by rw[dB h,List.any_cons,aC,aD h];rfl
end Go.Proofs.YthenjegmigeieaaGreat
namespace Go.Proofs.YthenjegmigeieaaGreat
structure dL where
 var:Int
 n:Int
structure cI where
 kind:Int
 op:Int
 z:Int
 p:List dL
structure bB where
 z:Int
 p:List dL
 x:Int
 body:List cI
 vars:Int
structure bC where
 g:List Int
 q:List (List UInt8)
 m:List bB
def cA(l:List dL)(i:Nat):dL:=l.getD i ⟨0,0⟩
def cJ(l:List cI)(i:Nat):cI:=l.getD i ⟨0,0,0,[]⟩
def aW(l:List bB)(i:Nat):bB:=l.getD i ⟨0,[],0,[],0⟩
def bM(l:List Int)(i:Nat):Int:=l.getD i 0
def oP(l:List (List UInt8))(i:Nat):List UInt8:=l.getD i []
def aU{α:Type}(f:α->Int):List α->Int
 |[]=>0
 |x::r=>if f x=0 then aU f r else f x
def iD(a b:Int):Int:=if a=0 then b else a
def cP(n:Int):Bool:=dG n (-1000000) 1000000
def kO(b:Int)(t:dL):Int:=
 if dG t.var (-1) (b-1)then(if !cP t.n||(decide (0<=t.var)&&t.n != 0)then 3 else 0)else 5
def eM(b:Int)(l:List dL):Int:=aU (kO b) l
def lG(b:List Int)(k:Int):Bool:=dG k 0 ((b.length:Int)-1)
def dX(b:List Int)(l:cI):Int:=
 if l.kind=1\/l.kind=2 then
  (if l.op≠0 then 3 else if lG b l.z then(if(l.p.length:Int)≠bM b l.z.toNat then 1 else 0)else 5)
 else if l.kind=3 then(if dG l.op 1 4 then(if l.z≠0\/¬l.p.length=2 then 1 else 0)else 3)
 else if l.kind=4 then(if dG l.op 5 7 then(if l.z≠0\/¬l.p.length=3 then 1 else 0)else 3)
 else 7
def fK(b:List Int)(d:Int)(l:cI):Int:=iD (dX b l) (eM d l.p)
def cC(b:List Bool)(t:dL):Bool:=decide (t.var<0)||b.getD t.var.toNat false
def kC(b:List Bool)(t:dL):List Bool:=if 0<=t.var then b.set t.var.toNat true else b
def gY(b:List Bool)(l:List dL):List Bool:=l.foldl kC b
def mC(b:List Bool)(l:cI):List dL:=
 if l.kind=1 then l.p else if l.kind=4/\cC b (cA l.p 0)=true/\cC b (cA l.p 1)=true then l.p.drop 2 else []
def eT(b:List Bool)(l:cI):List Bool:=gY b (mC b l)
def bE(body:List cI)(b:List Bool):List Bool:=body.foldl eT b
def iJ(body:List cI):Nat->List Bool->List Bool
 |0,b=>b
 |n+1,b=>iJ body n (bE body b)
def uC(r:bB):Bool:=(iJ r.body r.body.length (List.replicate r.vars.toNat false)).all id
def dT(b:List Int)(r:bB):Int:=
 if lG b r.z then
  iD (if(r.p.length:Int)≠bM b r.z.toNat then 1 else 0) (
  iD (if dG r.vars 0 8 then 0 else 3) (
  iD (eM r.vars r.p) (
  iD (if dG r.x 0 4 then 0 else 7) (
  iD (if r.x≠0/\(r.p.length=0\/r.body.length=0)then 1 else 0) (
  iD (if 4<r.body.length then 2 else 0) (
  iD (aU (fK b r.vars) r.body) (if uC r then 0 else 4)))))))
 else 5
def jT(d:List Int)(b:List (List UInt8))(i:Nat):Int:=
 iD (if dG (bM d i) 0 3 then 0 else 3) (iD (if oR (oP b i)then 0 else 1) (if(b.take i).contains (oP b i)then 6 else 0))
def dJ(p:bC):Int:=
 if 10<p.g.length\/12<p.m.length then 2
 else if¬p.q.length=p.g.length then 1
 else iD (aU (jT p.g p.q) (List.range p.q.length)) (aU (dT p.g) p.m)
def iL(p:bC)(b:Int)(args:List Int):Int:=
 if lG p.g b then iD (if(args.length:Int)≠bM p.g b.toNat then 1 else 0) (if args.all cP then 0 else 3)else 5
def nP(p:bC)(b:Int)(args:List Int):Int:=iD (dJ p) (iL p b args)
theorem eY(b:Int):iD 0 b=b:=rfl
theorem pD{a:Int}(b:Int)(h:¬a=0):iD a b=a:=by unfold iD;rw[if_neg h]
theorem uP{α:Type}(f:α->Int)(d:α)(l:List α)(k:Nat)(h:k<l.length):aU f (l.drop k)=iD (f (l.getD k d)) (aU f (l.drop (k+1))):=by rw[dB h,aU,iD];simp[List.getD_eq_getElem?_getD,List.getElem?_eq_getElem h]
theorem OZ{b c:List Bool}(h:∀i:Nat,b.getD i false=true->c.getD i false=true)(t:dL)(e:cC b t=true):cC c t=true:=by
 unfold cC at e ⊢;rcases uZ _ _▸e with d|d
 ·simp[d]
 rw[h _ d,BD]
def oW(b c:List Bool):Prop:=b.length=c.length/\∀i:Nat,b.getD i false=true->c.getD i false=true
theorem oW.refl(b:List Bool):oW b b:=⟨rfl,fun _ h=>h⟩
theorem oW.trans{a b c:List Bool}(h:oW a b)(k:oW b c):oW a c:=⟨h.1.trans k.1,fun i d=>k.2 i (h.2 i d)⟩
theorem IY(b:List Bool)(t:dL):oW b (kC b t):=by
 unfold kC;split
 ·refine⟨by simp,fun i d=>?_⟩;rw[aC]at d ⊢;rw[fS];split
  ·rename_i h;subst h;split
   ·rfl
   rename_i e;rw[cZ oM]at d;exact d
  exact d
 exact oW.refl b
theorem DD(l:List dL):∀b:List Bool,oW b (gY b l):=by
 induction l with
 |nil=>exact oW.refl
 |cons t r d=>exact fun b=>(IY b t).trans (d (kC b t))
theorem DE(b:List Bool)(l:cI):oW b (eT b l):=DD _ b
theorem oX(body:List cI):∀b:List Bool,oW b (bE body b):=by
 induction body with
 |nil=>exact oW.refl
 |cons t r d=>exact fun b=>(DE b t).trans (d (eT b t))
def MC(b:List Bool)(l:List dL):Prop:=∀t,t∈l->0<=t.var->t.var.toNat<b.length->b.getD t.var.toNat false=true
theorem MC.le{b c:List Bool}{l:List dL}(h:MC b l)(k:oW b c):MC c l:=fun t ht d e=>k.2 _ (h t ht d (by rw[k.1];exact e))
theorem MD{b:List Bool}{t:dL}(h:0<=t.var->t.var.toNat<b.length->b.getD t.var.toNat false=true):kC b t=b:=by
 unfold kC;split
 ·rename_i e;apply jU;intro i;rw[fS];split
  ·rename_i f;subst f;split
   ·rename_i d;have :=h e d;rw[aC,aD d]at this;rw[aD d];simp at this;rw[this]
   rename_i d;rw[cZ oM]
  rfl
 rfl
theorem Gw(l:List dL):∀{b:List Bool},MC b l->gY b l=b:=by
 induction l with
 |nil=>exact fun _=>rfl
 |cons t r e=>
  intro b h;show gY (kC b t) r=b;rw[MD (h t dC)];exact e fun x d=>h x (bO _ d)
theorem aA5(b:List Bool)(t:dL)(h0:0<=t.var)(d:t.var.toNat<b.length):(kC b t).getD t.var.toNat false=true:=by unfold kC;rw[if_pos h0,aC,List.getElem?_set_self d];rfl
theorem GL(l:List dL):∀b:List Bool,MC (gY b l) l:=by
 induction l with
 |nil=>exact fun _ t ht=>absurd ht sI
 |cons t r k=>
  intro b x d e f;have g:oW (kC b t) (gY (kC b t) r):=DD r _;rcases eQ.mp d with rfl|d
  ·refine g.2 _ (aA5 b x e ?_);have i:=(IY b x).1;have j:=g.1;show x.var.toNat<b.length;rw[i,j];exact f
  exact k (kC b t) x d e f
def gZ(b:List Bool)(l:cI):Bool:=(l.kind==1)||((l.kind==4)&&cC b (cA l.p 0)&&cC b (cA l.p 1))
def PA(l:cI):List dL:=if l.kind=1 then l.p else l.p.drop 2
theorem xZ(b:List Bool)(l:cI):mC b l=if gZ b l then PA l else []:=by
 unfold mC gZ PA;by_cases d:l.kind=1
 ·simp[d]
 by_cases e:l.kind=4
 ·cases f:cC b (cA l.p 0)<;>cases g:cC b (cA l.p 1)<;>simp[e]
 simp[d,e]
theorem PC{b c:List Bool}(h:oW b c){l:cI}(e:gZ b l=true):gZ c l=true:=by
 unfold gZ at e ⊢;rcases uZ _ _▸e with d|d
 ·simp[d]
 simp only[Bool.and_eq_true]at d;simp[d.1.1,OZ h.2 _ d.1.2,OZ h.2 _ d.2]
theorem VU(body:List cI):∀(b:List Bool)(l:cI),l∈body->gZ b l=true->MC (bE body b) (PA l):=by
 induction body with
 |nil=>exact fun _ l d=>absurd d sI
 |cons x r f=>
  intro b l d e;rcases eQ.mp d with rfl|d
  ·refine MC.le ?_ (oX r (eT b l));unfold eT;rw[xZ,if_pos e];exact GL _ _
  exact f (eT b x) l d (PC (DE b x) e)
theorem BT(body:List cI):∀(b:List Bool),(∀l,l∈body->gZ b l=true->MC b (PA l))->bE body b=b:=by
 induction body with
 |nil=>exact fun _ _=>rfl
 |cons x r g=>
  intro b h;have f:eT b x=b:=by
   unfold eT;rw[xZ];split
   ·rename_i e;exact Gw _ (h x dC e)
   rfl
  show bE r (eT b x)=b;rw[f];exact g b fun l d=>h l (bO _ d)
def nQ(body:List cI)(b:List Bool):Nat:=body.countP (gZ b)
theorem aH8{body:List cI}{b c:List Bool}(h:oW b c):nQ body b<=nQ body c:=List.countP_mono_left fun _ _=>PC h
theorem aH7{b c:List Bool}(h:oW b c):∀{body:List cI},nQ body c<=nQ body b->∀l,l∈body->gZ c l=true->gZ b l=true:=by
 intro body
 induction body with
 |nil=>exact fun _ l f=>absurd f sI
 |cons x r m=>
  intro d l f i;have j:nQ r b<=nQ r c:=aH8 h;simp only[nQ,List.countP_cons]at d j;have k:gZ b x=true->gZ c x=true:=PC h;rcases eQ.mp f with rfl|f
  ·cases e:gZ b l with
   |true=>rfl
   |false=>rw[e,i]at d;simp at d;omega
  refine m ?_ l f i;show List.countP (gZ c) r<=List.countP (gZ b) r
  cases e:gZ b x with
  |true=>rw[e,k e]at d;simpa using d
  |false=>
   cases g:gZ c x with
   |true=>rw[e,g]at d;simp at d;omega
   |false=>rw[e,g]at d;simpa using d
theorem PD(body:List cI)(b:List Bool)(h:nQ body (bE body b)<=nQ body b):bE body (bE body b)=bE body b:=
 BT body _ fun l d e=>VU body b l d (aH7 (oX body b) h l d e)
theorem zQ(body:List cI):∀(n:Nat)(b:List Bool),bE body b=b->iJ body n b=b:=by
 intro n
 induction n with
 |zero=>exact fun _ _=>rfl
 |succ n d=>intro b h;rw[iJ,h];exact d b h
theorem Gx(body:List cI):∀(n:Nat)(b:List Bool),body.length<=n+nQ body b->iJ body (n+2) b=iJ body (n+1) b:=by
 intro n
 induction n with
 |zero=>
  intro b h;have e:nQ body (bE body b)<=nQ body b:=bH LM (by simpa using h);exact PD body b e
 |succ n g=>
  intro b h;by_cases f:nQ body (bE body b)<=nQ body b
  ·have d:=PD body b f;show iJ body (n+2) (bE body b)=iJ body (n+1) (bE body b);rw[zQ body _ _ d,zQ body _ _ d]
  exact g (bE body b) oM
theorem KX(body:List cI)(b:List Bool):iJ body (body.length+1) b=iJ body body.length b:=by
 by_cases f:nQ body b=0
 ·(have d:bE body b=b:=BT body b fun l e i=>by have :=List.countP_eq_zero.mp f l e;exact absurd i this);rw[zQ body _ _ d,zQ body _ _ d]
 have e:nQ body b<=body.length:=LM;obtain⟨n,g⟩:∃n,body.length=n+1:=⟨body.length-1,oM⟩;rw[g];exact Gx body n b oM
end Go.Proofs.YthenjegmigeieaaGreat
namespace Go.Proofs.YthenjegmigeieaaGreat
structure aN where
 z:Int
 args:List Int
def gA(a b:Int):Int:=if a<b then -1 else if b<a then 1 else 0
def eS:List Int->List Int->Int
 |[],[]=>0
 |[],_::_=> -1
 |_::_,[]=>1
 |a::x,b::y=>if gA a b=0 then eS x y else gA a b
def eV(f g:aN):Int:=if gA f.z g.z=0 then eS f.args g.args else gA f.z g.z
theorem mU{a b:Int}:gA a b=0↔a=b:=by
 unfold gA;split
 ·constructor
  ·intro h;exact absurd h (by decide)
  intro h;omega
 split
 ·constructor
  ·intro h;exact absurd h (by decide)
  intro h;omega
 constructor
 ·intro _;omega
 intro _;rfl
theorem xQ{a b:Int}:gA a b<0↔a<b:=by
 unfold gA;split
 ·constructor
  ·intro _;assumption
  intro _;decide
 split
 ·constructor
  ·intro h;exact absurd h (by decide)
  intro h;omega
 constructor
 ·intro h;exact absurd h (by decide)
 intro h;omega
theorem yS(a b:Int):gA b a= -gA a b:=by
 unfold gA;by_cases d:a<b
 ·rw[if_pos d,if_neg (by omega),if_pos d];rfl
 by_cases e:b<a
 ·rw[if_pos e,if_neg d,if_pos e]
 rw[if_neg e,if_neg d,if_neg d,if_neg e];rfl
theorem LS(a:Int):gA a a=0:=mU.mpr rfl
theorem vY:∀{x y:List Int},eS x y=0↔x=y:=by
 intro x
 induction x with
 |nil=>
  intro y
  cases y with
  |nil=>simp[eS]
  |cons b y=>simp[eS]
 |cons a x e=>
  intro y
  cases y with
  |nil=>simp[eS]
  |cons b y=>
   simp only[eS];split
   ·rename_i h;rw[mU]at h;rw[e,h];simp
   rename_i h;constructor
   ·intro d;exact absurd d h
   intro d;injection d with d _;exact absurd (mU.mpr d) h
theorem BM:∀(x y:List Int),eS y x= -eS x y:=by
 intro x
 induction x with
 |nil=>
  intro y
  cases y with
  |nil=>rfl
  |cons b y=>rfl
 |cons a x d=>
  intro y
  cases y with
  |nil=>rfl
  |cons b y=>
   simp only[eS];by_cases h:gA a b=0
   ·rw[if_pos h,if_pos (by rw[yS,h];rfl)];exact d y
   rw[if_neg h,if_neg (by rw[yS];omega)];exact yS a b
theorem JO:∀{x y z:List Int},eS x y<0->eS y z<0->eS x z<0:=by
 intro x
 induction x with
 |nil=>
  intro y z e d
  cases y with
  |nil=>exact absurd e (by decide)
  |cons b y=>
   cases z with
   |nil=>exact absurd (show(1:Int)<0 from d) (by decide)
   |cons c z=>show(-1:Int)<0;decide
 |cons a x i=>
  intro y z e d
  cases y with
  |nil=>exact absurd (show(1:Int)<0 from e) (by decide)
  |cons b y=>
   cases z with
   |nil=>exact absurd (show(1:Int)<0 from d) (by decide)
   |cons c z=>
    simp only[eS]at e d ⊢;by_cases g:gA a b=0
    ·rw[if_pos g]at e;rw[mU]at g;subst g;by_cases f:gA a c=0
     ·rw[if_pos f]at d ⊢;exact i e d
     rw[if_neg f]at d ⊢;exact d
    rw[if_neg g,xQ]at e;by_cases f:gA b c=0
    ·rw[mU]at f;subst f;rw[if_neg g,xQ];exact e
    rw[if_neg f,xQ]at d;rw[if_neg (by rw[mU];omega),xQ];omega
theorem pU{f g:aN}:eV f g=0↔f=g:=by
 obtain⟨p,x⟩:=f;obtain⟨q,y⟩:=g;unfold eV;simp only;by_cases h:gA p q=0
 ·rw[if_pos h,vY];rw[mU]at h;subst h;simp
 rw[if_neg h];constructor
 ·intro b;exact absurd b h
 intro b;injection b with b _;exact absurd (mU.mpr b) h
theorem vO(f:aN):eV f f=0:=pU.mpr rfl
theorem DV(f g:aN):eV g f= -eV f g:=by
 unfold eV;by_cases h:gA f.z g.z=0
 ·rw[if_pos h,if_pos (by rw[yS,h];rfl)];exact BM _ _
 rw[if_neg h,if_neg (by rw[yS];omega)];exact yS _ _
theorem sT{f g h:aN}(h1:eV f g<0)(b:eV g h<0):eV f h<0:=by
 obtain⟨p,x⟩:=f;obtain⟨q,y⟩:=g;obtain⟨r,z⟩:=h;unfold eV at h1 b ⊢;simp only at h1 b ⊢;by_cases e:gA p q=0
 ·rw[if_pos e]at h1;rw[mU]at e;subst e;by_cases d:gA p r=0
  ·rw[if_pos d]at b ⊢;exact JO h1 b
  rw[if_neg d]at b ⊢;exact b
 rw[if_neg e,xQ]at h1;by_cases d:gA q r=0
 ·rw[mU]at d;subst d;rw[if_neg e,xQ];exact h1
 rw[if_neg d,xQ]at b;rw[if_neg (by rw[mU];omega),xQ];omega
def zM(f g:aN):Prop:=eV f g<0
theorem zM.trans{f g h:aN}(h1:zM f g)(b:zM g h):zM f h:=sT h1 b
theorem zM.irrefl(f:aN):¬zM f f:=by unfold zM;rw[vO];decide
theorem GD(f g:aN):zM f g\/f=g\/zM g f:=by unfold zM;rw[DV f g,<-pU];omega
def vN(l:List aN):Prop:=l.Pairwise zM
def xP(s l:List aN):Prop:=vN s/\∀x,x∈s↔x∈l
theorem KU:∀{s t:List aN},vN s->vN t->(∀x,x∈s↔x∈t)->s=t:=by
 intro s
 induction s with
 |nil=>
  intro t _ _ h
  cases t with
  |nil=>rfl
  |cons b t=>exact absurd ((h b).mpr (by simp)) (by simp)
 |cons a s l=>
  intro t k ht h
  cases t with
  |nil=>exact absurd ((h a).mp (by simp)) (by simp)
  |cons b t=>
   have g:=lW.mp k;have i:=lW.mp ht;have j:a=b:=by
    rcases eQ.mp ((h a).mp (by simp))with d|d
    ·exact d
    rcases eQ.mp ((h b).mpr (by simp))with f|f
    ·exact f.symm
    exact absurd ((i.1 a d).trans (g.1 b f)) (zM.irrefl b)
   subst j;rw[l g.2 i.2 (fun x=>?_)];constructor
   ·intro e;rcases eQ.mp ((h x).mp (by simp[e]))with d|d
    ·subst d;exact absurd (g.1 x e) (zM.irrefl x)
    exact d
   intro e;rcases eQ.mp ((h x).mpr (by simp[e]))with d|d
   ·subst d;exact absurd (i.1 x e) (zM.irrefl x)
   exact d
def EK(f:aN):List aN->List aN
 |[]=>[f]
 |a::r=>if eV f a<0 then f::a::r else if eV f a=0 then a::r else a::EK f r
theorem Fh(f x:aN):∀(l:List aN),x∈EK f l↔x=f\/x∈l:=by
 intro l
 induction l with
 |nil=>simp[EK]
 |cons a r b=>
  simp only[EK];split
  ·simp
  split
  ·rename_i h;rw[pU]at h;subst h;constructor
   ·intro h;exact .inr h
   rintro(h|h)
   ·simp[h]
   exact h
  rw[eQ,b,eQ];constructor
  ·rintro(h|h|h)
   ·exact .inr (.inl h)
   ·exact .inl h
   exact .inr (.inr h)
  rintro(h|h|h)
  ·exact .inr (.inl h)
  ·exact .inl h
  exact .inr (.inr h)
theorem aL4(f:aN):∀{l:List aN},vN l->vN (EK f l):=by
 intro l
 induction l with
 |nil=>intro _;exact rZ _ _
 |cons a r j=>
  intro h;have g:=lW.mp h;simp only[EK];split
  ·rename_i e;refine lW.mpr ⟨fun x b=>?_,h⟩;rcases eQ.mp b with rfl|b
   ·exact e
   exact zM.trans e (g.1 x b)
  split
  ·exact h
  rename_i e i;refine lW.mpr ⟨fun x b=>?_,j g.2⟩;rcases(Fh f x r).mp b with rfl|b
  ·rcases GD a x with d|d|d
   ·exact d
   ·subst d;exact absurd (vO a) i
   exact absurd d e
  exact g.1 x b
def dR:List aN->List aN
 |[]=>[]
 |a::r=>EK a (dR r)
theorem kV:∀(l:List aN),xP (dR l) l:=by
 intro l
 induction l with
 |nil=>exact⟨List.Pairwise.nil,fun x=>Iff.rfl⟩
 |cons a r b=>
  refine⟨aL4 a b.1,fun x=>?_⟩;show x∈EK a (dR r)↔_;rw[Fh,b.2,eQ]
theorem DU{s l:List aN}(h:xP s l):s=dR l:=KU h.1 (kV l).1 fun x=>(h.2 x).trans ((kV l).2 x).symm
theorem iK{l:List aN}{x:aN}:x∈dR l↔x∈l:=(kV l).2 x
theorem OK{l m:List aN}(h:∀x,x∈l↔x∈m):dR l=dR m:=DU ⟨(kV l).1,fun x=>iK.trans (h x)⟩
def jZ(l:List aN)(f:aN):Bool:=l.any fun x=>eV x f==0
theorem lD{l:List aN}{f:aN}:jZ l f=true↔f∈l:=by
 unfold jZ;rw[kI];constructor
 ·rintro⟨x,d,h⟩;have b:x=f:=pU.mp (by simpa using h);rw[<-b];exact d
 intro h;exact⟨f,h,by simp[vO]⟩
def rA(l m:List aN):List aN:=dR (l.filter fun x=> !jZ m x)
def mO(l m:List aN):List aN:=dR (l++m)
theorem aL5{b:List aN}{f:aN}{k:Nat}(h:vN b)(B:f∉b)(L:k<=b.length)(A:∀x,x∈b.drop k->eV x f>0)(ht:k=0\/∃x,b[k-1]?=some x/\¬eV x f>0):vN (b.take k++f::b.drop k):=by
 have F:b.take k++b.drop k=b:=nL k b;have m:=h;rw[<-F]at m;obtain⟨H,I,J⟩:=uN.mp m;refine uN.mpr ⟨H,lW.mpr ⟨fun x g=>?_,I⟩,fun x g y j=>?_⟩
 ·have :=A x g;show eV f x<0;rw[DV x f];omega
 have G:zM x f:=by
  rcases ht with v|⟨z,l,N⟩
  ·subst v;simp at g
  have s:zM z f:=by
   rcases GD z f with d|d|d
   ·exact d
   ·subst d;exact absurd (iN l) B
   have w:eV f z<0:=d;rw[DV z f]at w;omega
  by_cases q:x=z
  ·rw[q];exact s
  obtain⟨i,C,E⟩:=mH g;(have K:i<k:=by rw[cW]at C;omega);(have D:i<b.length:=by omega);(have n:k-1<b.length:=by omega);(have p:b[i]=x:=by rw[<-E,XP]);(have r:b[k-1]=z:=by rw[aD n]at l;exact Option.some.inj l);have M:¬i=k-1:=fun e=>q (by rw[<-p,<-r];simp only[e]);have :=xL.mp h i (k-1) D n (by omega);rw[p,r]at this;exact this.trans s
 rcases eQ.mp j with rfl|j
 ·exact G
 exact J x g y j
theorem aH2{b:List aN}{f x:aN}{k:Nat}:x∈b.take k++f::b.drop k↔x=f\/x∈b:=by
 have d:b.take k++b.drop k=b:=nL k b;(conv=>rhs;rw[<-d]);simp only[List.mem_append,List.mem_cons];constructor
 ·rintro(h|h|h)
  ·exact .inr (.inl h)
  ·exact .inl h
  exact .inr (.inr h)
 rintro(h|h|h)
 ·exact .inr (.inl h)
 ·exact .inl h
 exact .inr (.inr h)
end Go.Proofs.YthenjegmigeieaaGreat
namespace Go.Proofs.YthenjegmigeieaaGreat
structure bK where
 y:List Int
 w:List Bool
def eJ(x:List Int)(t:dL):Int:=if t.var<0 then t.n else x.getD t.var.toNat 0
def bQ(b:List dL)(x:List Int):List Int:=b.map (eJ x)
def kB(w:bK)(t:dL)(n:Int):Option bK:=
 if cC w.w t=true then(if eJ w.y t=n then some w else none)
 else some ⟨w.y.set t.var.toNat n,w.w.set t.var.toNat true⟩
def fU:bK->List dL->List Int->Option bK
 |w,[],_=>some w
 |w,t::ts,ns=>match kB w t (ns.headD 0)with
  |none=>none
  |some b=>fU b ts ns.tail
def nK(w:bK)(x:List Int):Prop:=∀i:Nat,w.w.getD i false=true->w.y.getD i 0=x.getD i 0
structure jI (m:Nat) (w:bK):Prop where
 n:w.y.length=m
 k:w.w.length=m
def qK(m:Nat)(t:dL):Prop:=t.var<0\/t.var.toNat<m
def gX(m:Nat)(l:List dL):Prop:=∀t,t∈l->qK m t
theorem tJ{α:Type}(l:List α)(i:Nat)(v d:α)(h:i<l.length):(l.set i v).getD i d=v:=by rw[aC,List.getElem?_set_self h];rfl
theorem mZ{α:Type}(l:List α)(i j:Nat)(v d:α)(h:¬i=j):(l.set i v).getD j d=l.getD j d:=by rw[aC,List.getElem?_set_ne h,aC]
theorem mA{w:bK}{x:List Int}(h:nK w x){t:dL}(b:cC w.w t=true):eJ w.y t=eJ x t:=by
 unfold eJ;split
 ·rfl
 rename_i d;refine h _ ?_;unfold cC at b;simpa[d]using b
theorem vP{w:bK}{t:dL}(b:¬cC w.w t=true):0<=t.var/\w.w.getD t.var.toNat false=false:=by unfold cC at b;simp only[Bool.or_eq_true,not_or,decide_eq_true_eq,Bool.not_eq_true]at b;exact⟨oM,b.2⟩
theorem IX{m:Nat}{w w':bK}{t:dL}{n:Int}(b:jI m w)(h:kB w t n=some w'):jI m w':=by
 unfold kB at h;split at h
 ·split at h
  ·injection h with h;subst h;exact b
  cases h
 injection h with h;subst h;exact⟨by simpa using b.n,by simpa using b.k⟩
theorem Gq{w w':bK}{t:dL}{n:Int}(h:kB w t n=some w'):w'.w=kC w.w t:=by
 unfold kB at h;split at h
 ·rename_i b;split at h
  ·injection h with h;subst h;symm;refine MD fun d _=>?_;unfold cC at b;simpa[show¬t.var<0 by omega]using b
  cases h
 rename_i b;injection h with h;subst h;unfold kC;rw[if_pos (vP b).1]
theorem aAZ{m:Nat}{w:bK}{t:dL}{n:Int}{x:List Int}(p:jI m w)(ht:qK m t):(∃j,kB w t n=some j/\nK j x)↔nK w x/\eJ x t=n:=by
 unfold kB;by_cases f:cC w.w t=true
 ·rw[if_pos f];constructor
  ·rintro⟨j,h,b⟩;split at h
   ·rename_i g;injection h with h;subst h;exact⟨b,by rw[<-mA b f];exact g⟩
   cases h
  rintro⟨b,g⟩;refine⟨w,?_,b⟩;rw[if_pos ((mA b f).trans g)]
 rw[if_neg f];obtain⟨s,q⟩:=vP f;(have l:t.var.toNat<m:=by rcases ht with h|h;omega;exact h);(have r:eJ x t=x.getD t.var.toNat 0:=by unfold eJ;rw[if_neg oM]);rw[r];constructor
 ·rintro⟨j,h,b⟩;injection h with h;subst h;refine⟨fun i e=>?_,?_⟩
  ·by_cases d:t.var.toNat=i
   ·subst d;rw[q]at e;cases e
   have :=b i (by show(w.w.set _ true).getD i false=true;rw[mZ _ _ _ _ _ d];exact e);rw[<-this];show _=(w.y.set _ n).getD i 0;rw[mZ _ _ _ _ _ d]
  have :=b t.var.toNat (by show(w.w.set _ true).getD _ false=true;rw[tJ _ _ _ _ (by rw[p.k];exact l)]);rw[<-this];show(w.y.set _ n).getD _ 0=n;rw[tJ _ _ _ _ (by rw[p.n];exact l)]
 rintro⟨b,g⟩;refine⟨_,rfl,fun i e=>?_⟩;by_cases d:t.var.toNat=i
 ·subst d;show(w.y.set _ n).getD _ 0=_;rw[tJ _ _ _ _ (by rw[p.n];exact l),g]
 show(w.y.set _ n).getD i 0=_;rw[mZ _ _ _ _ _ d];refine b i ?_;have :(w.w.set t.var.toNat true).getD i false=true:=e;rwa[mZ _ _ _ _ _ d]at this
theorem tB{m:Nat}:∀{e:List dL}{ns:List Int}{w w':bK},jI m w->fU w e ns=some w'->jI m w'
 |[],_,_,_,d,h=>by unfold fU at h;injection h with h;subst h;exact d
 |t::e,ns,w,w',d,h=>by
  unfold fU at h
  cases b:kB w t (ns.headD 0)with
  |none=>rw[b]at h;cases h
  |some f=>rw[b]at h;exact tB (IX d b) h
theorem BR:∀{d:List dL}{ns:List Int}{w w':bK},fU w d ns=some w'->w'.w=gY w.w d
 |[],_,_,_,h=>by unfold fU at h;injection h with h;subst h;rfl
 |t::d,ns,w,w',h=>by
  unfold fU at h
  cases b:kB w t (ns.headD 0)with
  |none=>rw[b]at h;cases h
  |some e=>
   rw[b]at h;rw[BR h,Gq b];rfl
theorem qG{m:Nat}{x:List Int}:∀{b:List dL}{ns:List Int}{w:bK},jI m w->gX m b->b.length=ns.length->((∃d,fU w b ns=some d/\nK d x)↔nK w x/\bQ b x=ns)
 |[],ns,w,_,_,g=>by
  have :ns=[]:=mB.mp g.symm;subst this;constructor
  ·rintro⟨d,h,e⟩;unfold fU at h;injection h with h;subst h;exact⟨e,rfl⟩
  rintro⟨e,_⟩;exact⟨w,rfl,e⟩
 |t::b,[],_,_,_,g=>by cases g
 |t::b,n::ns,w,hw,hT,g=>by
  have q:=aAZ (n:=n) (x:=x) hw (hT t dC);have r:gX m b:=fun t ht=>hT t (bO _ ht);(have s:b.length=ns.length:=by simpa using g);show(∃d,(match kB w t n with |none=>none|some i=>fU i b ns)=some d/\nK d x)↔_;constructor
  ·rintro⟨d,h,e⟩
   cases f:kB w t n with
   |none=>rw[f]at h;cases h
   |some i=>
    rw[f]at h;obtain⟨j,k⟩:=(qG (IX hw f) r s).mp ⟨d,h,e⟩;obtain⟨y,p⟩:=q.mp ⟨i,f,j⟩;exact⟨y,by show eJ x t::bQ b x=_;rw[p,k]⟩
  rintro⟨e,k⟩;have l:eJ x t::bQ b x=n::ns:=k;injection l with p l;obtain⟨i,f,j⟩:=q.mpr ⟨e,p⟩;obtain⟨d,h,v⟩:=(qG (IX hw f) r s).mpr ⟨j,l⟩;refine⟨d,?_,v⟩;rw[f];exact h
def sY(d a b:Int):Bool:=if d=1 then decide (a<b)else if d=2 then decide (a<=b)else if d=3 then decide (a=b)else decide (a≠b)
def nO(d a b:Int):Int:=if d=5 then a+b else if d=6 then a-b else a*b
def nN(l:cI)(x:List Int):Int:=nO l.op (eJ x (cA l.p 0)) (eJ x (cA l.p 1))
def fF(facts:List aN)(l:cI)(x:List Int):Bool:=
 if l.kind=1 then jZ facts ⟨l.z,bQ l.p x⟩
 else if l.kind=2 then !jZ facts ⟨l.z,bQ l.p x⟩
 else if l.kind=3 then sY l.op (eJ x (cA l.p 0)) (eJ x (cA l.p 1))
 else cP (nN l x)&&decide (nN l x=eJ x (cA l.p 2))
def kF(facts:List aN)(l:cI)(w:bK):List bK:=
 if l.kind=1 then facts.filterMap (fun f=>if f.z=l.z then fU w l.p f.args else none)
 else if l.kind=2 then(if jZ facts ⟨l.z,bQ l.p w.y⟩=true then [] else [w])
 else if l.kind=3 then(if sY l.op (eJ w.y (cA l.p 0)) (eJ w.y (cA l.p 1))=true then [w] else [])
 else match fU w (l.p.drop 2) [nN l w.y]with
  |none=>[]
  |some b=>if cP (nN l w.y)=true then [b] else []
def gH(w:bK)(l:cI):Bool:=
 if l.kind=1 then true
 else if l.kind=4 then cC w.w (cA l.p 0)&&cC w.w (cA l.p 1)
 else l.p.all (cC w.w)
structure Fk (m:Nat) (facts:List aN) (l:cI):Prop where
 t:gX m l.p
 k:l.kind=1\/l.kind=2\/l.kind=3\/l.kind=4
 k3:l.kind=3->l.p.length=2
 k4:l.kind=4->l.p.length=3
 a:l.kind=1->∀f,f∈facts->f.z=l.z->l.p.length=f.args.length
theorem JP{w:bK}{x:List Int}(d:nK w x){b:List dL}(h:b.all (cC w.w)=true):bQ b w.y=bQ b x:=by unfold bQ;refine List.map_congr_left fun t ht=>mA d ?_;exact eX.mp h t ht
theorem mW{l:List dL}{i:Nat}(h:i<l.length):cA l i∈l:=by unfold cA;rw[aC,aD h];exact dY h
theorem GF{l:List dL}(h:l.length=3):l.drop 2=[cA l 2]:=by
 match l,h with
 |[a,b,c],_=>rfl
theorem aL8{m:Nat}{facts:List aN}{l:cI}{w:bK}{x:List Int}(F:jI m w)(q:Fk m facts l)(j:gH w l=true):(∃g,g∈kF facts l w/\nK g x)↔nK w x/\fF facts l x=true:=by
 unfold kF fF;by_cases r:l.kind=1
 ·rw[if_pos r,if_pos r,lD];constructor
  ·rintro⟨g,d,b⟩;obtain⟨f,n,E⟩:=gT.mp d;split at E
   ·rename_i M;obtain⟨z,Q⟩:=(qG F q.t (q.a r f n M)).mp ⟨g,E,b⟩;refine⟨z,?_⟩;rw[Q,<-M];exact n
   cases E
  rintro⟨b,n⟩;obtain⟨g,G,D⟩:=(qG (ns:=bQ l.p x) (x:=x) F q.t (by unfold bQ;simp)).mpr ⟨b,rfl⟩;refine⟨g,gT.mpr ⟨_,n,?_⟩,D⟩;rw[if_pos rfl];exact G
 rw[if_neg r,if_neg r];unfold gH at j;rw[if_neg r]at j;by_cases v:l.kind=2
 ·rw[if_pos v,if_pos v];rw[if_neg oM]at j;constructor
  ·rintro⟨g,d,b⟩;split at d
   ·cases d
   rename_i e;rcases cQ.mp d with rfl;refine⟨b,?_⟩;rw[<-JP b j];simpa using e
  rintro⟨b,e⟩;refine⟨w,?_,b⟩;rw[<-JP b j]at e;rw[if_neg (by simpa using e)];exact cQ.mpr rfl
 rw[if_neg v,if_neg v];by_cases s:l.kind=3
 ·rw[if_pos s,if_pos s];rw[if_neg oM]at j;have A:=eX.mp j;have H:=mW (l:=l.p) (i:=0) (by rw[q.k3 s];omega);have I:=mW (l:=l.p) (i:=1) (by rw[q.k3 s];omega);constructor
  ·rintro⟨g,d,b⟩;split at d
   ·rename_i e;rcases cQ.mp d with rfl;refine⟨b,?_⟩;rw[<-mA b (A _ H),<-mA b (A _ I)];exact e
   cases d
  rintro⟨b,e⟩;refine⟨w,?_,b⟩;rw[<-mA b (A _ H),<-mA b (A _ I)]at e;rw[if_pos e];exact cQ.mpr rfl
 rw[if_neg s,if_neg s];(have J:l.kind=4:=by rcases q.k with h|h|h|h<;>first|exact h|contradiction);rw[if_pos J,eF]at j;(have C:nK w x->nN l w.y=nN l x:=fun b=>by unfold nN;rw[mA b j.1,mA b j.2]);have K:=GF (q.k4 J);have N:gX m (l.p.drop 2):=fun t ht=>q.t t (qA ht);have B:=qG (ns:=[nN l w.y]) (x:=x) F N (by rw[K];rfl);(have P:bQ (l.p.drop 2) x=[eJ x (cA l.p 2)]:=by rw[K];rfl);rw[P]at B;constructor
 ·rintro⟨g,d,b⟩;split at d
  ·cases d
  rename_i S R;split at d
  ·rename_i L;rcases cQ.mp d with rfl;obtain⟨z,n⟩:=B.mp ⟨_,R,b⟩;injection n with n _;refine⟨z,?_⟩;rw[C z]at L n;rw[L,n];simp
  cases d
 rintro⟨b,e⟩;rw[eF,CF]at e;obtain⟨g,G,D⟩:=B.mpr ⟨b,by rw[C b,e.2]⟩;refine⟨g,?_,D⟩;rw[G];show g∈if cP (nN l w.y)=true then [g] else [];rw[if_pos (by rw[C b];exact e.1)];exact cQ.mpr rfl
theorem OS{m:Nat}{facts:List aN}{l:cI}{w w':bK}(b:jI m w)(h:w'∈kF facts l w):jI m w':=by
 unfold kF at h;split at h
 ·obtain⟨f,_,d⟩:=gT.mp h;split at d
  ·exact tB b d
  cases d
 split at h
 ·split at h
  ·cases h
  rcases cQ.mp h with rfl;exact b
 split at h
 ·split at h
  ·rcases cQ.mp h with rfl;exact b
  cases h
 split at h
 ·cases h
 rename_i g e;split at h
 ·rcases cQ.mp h with rfl;exact tB b e
 cases h
theorem aEE{m:Nat}{facts:List aN}{l:cI}{w w':bK}(n:Fk m facts l)(d:gH w l=true)(h:w'∈kF facts l w):w'.w=eT w.w l:=by
 unfold kF at h;unfold eT mC;split at h
 ·rename_i b;rw[if_pos b];obtain⟨f,_,e⟩:=gT.mp h;split at e
  ·exact BR e
  cases e
 rename_i b;rw[if_neg b];split at h
 ·rename_i i;rw[if_neg oM];split at h
  ·cases h
  rcases cQ.mp h with rfl;rfl
 rename_i i;split at h
 ·rename_i j;rw[if_neg oM];split at h
  ·rcases cQ.mp h with rfl;rfl
  cases h
 rename_i j;(have g:l.kind=4:=by rcases n.k with h|h|h|h<;>first|exact h|contradiction);unfold gH at d;rw[if_neg b,if_pos g,eF]at d;rw[if_pos ⟨g,d.1,d.2⟩];split at h
 ·cases h
 rename_i q p;split at h
 ·rcases cQ.mp h with rfl;exact BR p
 cases h
def Fj(a b:bK):Prop:=∀x:List Int,nK a x->nK b x->False
theorem aED{m:Nat}{facts:List aN}{l:cI}{w:bK}(p:jI m w)(d:Fk m facts l)(B:facts.Nodup):(kF facts l w).Pairwise Fj:=by
 unfold kF;split
 ·rename_i j;rw[List.pairwise_filterMap];refine yM ?_ B;intro f g y A z a e b i x s v;split at e
  ·rename_i k;split at i
   ·rename_i n;have q:=((qG p d.t (d.a j f y k)).mp ⟨a,e,s⟩).2;have r:=((qG p d.t (d.a j g A n)).mp ⟨b,i,v⟩).2;apply z;obtain⟨D,C⟩:=f;obtain⟨F,E⟩:=g;dsimp only at *;rw[k,n,<-q,<-r]
   cases i
  cases e
 split
 ·split
  ·exact List.Pairwise.nil
  exact rZ _ _
 split
 ·split
  ·exact rZ _ _
  exact List.Pairwise.nil
 split
 ·exact List.Pairwise.nil
 split
 ·exact rZ _ _
 exact List.Pairwise.nil
end Go.Proofs.YthenjegmigeieaaGreat
